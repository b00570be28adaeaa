import PyProof.Rows.All
import Wide.All
import OpenK.AllK
import Wide.FinOn
import Lean
import PyProof.EqAt
import PyProof.EqKinds
import PyProof.TupleCall
import PyProof.Rows.SumAny
import PyProof.EnumMake
import PyProof.Draws
import PyProof.ZipIter
import PySem.Challenge.RW_weightrooms_k04_what_is_no_box
set_option genSizeOf false
set_option genInjectivity false
set_option bootstrap.genMatcherCode false
noncomputable section
set_option Elab.async false
set_option linter.all false
set_option maxRecDepth 100000
namespace L2
open PySem PySem.Spec PyProof.Rows
abbrev Key := Sum Int Str
noncomputable def xg : Key -> Value -> Bool
 | .inl k, v => Value.isInt k v
 | .inr x, v => Value.isStrOf x v
noncomputable def keyH (w : World) : Key -> Int
 | .inl k => hashInt k
 | .inr x => hashStr w x
theorem bO : ∀ {k : Key} {v : Value}, xg k v = true -> (∃ i t, k = Sum.inl i /\ v = Value.int i t) \/ (∃ x t, k = Sum.inr x /\ v = Value.str x t)
 |
  .inl i, v, h => by
  obtain ⟨t, e⟩ := Value.isInt_shape (k := i) (v := v) h
  exact .inl ⟨i, t, rfl, e⟩
 |
  .inr x, v, h => by
  obtain ⟨t, e⟩ := Value.isStrOf_shape (x := x) (v := v) h
  exact .inr ⟨x, t, rfl, e⟩
theorem B8 (a b : Int) : decide ((Sum.inl a : Key) = Sum.inl b) = (a == b) := by
 by_cases e : a = b
 ·subst e; simp
 ·have h : ¬ (Sum.inl a : Key) = Sum.inl b := fun q => e (Sum.inl.inj q)
  rw [decide_eq_false h]
  exact (beq_eq_false_iff_ne.mpr e).symm
theorem zk (a b : Str) : decide ((Sum.inr a : Key) = Sum.inr b) = decide (a = b) := by
 by_cases e : a = b
 ·subst e; simp
 ·have h : ¬ (Sum.inr a : Key) = Sum.inr b := fun q => e (Sum.inr.inj q)
  rw [decide_eq_false h, decide_eq_false e]
theorem zj (a : Int) (b : Str) : decide ((Sum.inl a : Key) = Sum.inr b) = false := decide_eq_false (fun q => nomatch q)
theorem zc (a : Str) (b : Int) : decide ((Sum.inr a : Key) = Sum.inl b) = false := decide_eq_false (fun q => nomatch q)
noncomputable def mf (prog : Program) (w : World) : PySem.KeyKind prog w Key where
 is := xg
 hash := keyH w
 inj
   := fun v a b ha hb => by
  rcases bO ha with ⟨i, t, rfl, rfl⟩ | ⟨x, t, rfl, rfl⟩
  ·rcases bO hb with ⟨j, u, rfl, e⟩ | ⟨y, u, rfl, e⟩
   ·injection e with e1 _; rw [e1]
   ·exact nomatch e
  ·rcases bO hb with ⟨j, u, rfl, e⟩ | ⟨y, u, rfl, e⟩
   ·exact nomatch e
   ·injection e with e1 _; rw [e1]
 byValue := fun k v h => by
  rcases bO h with ⟨i, t, rfl, rfl⟩ | ⟨x, t, rfl, rfl⟩ <;> rfl
 pyHash := fun hv h => by
  rcases bO hv with ⟨i, t, rfl, rfl⟩ | ⟨x, t, rfl, rfl⟩
  ·exact wpAny_pyHash_int h
  ·exact wpAny_pyHash_str h
 eqBool := fun hu hv h => by
  rcases bO hu with ⟨i, t, rfl, rfl⟩ | ⟨x, t, rfl, rfl⟩
  ·rcases bO hv with ⟨j, u, rfl, rfl⟩ | ⟨y, u, rfl, rfl⟩
   ·rw [B8] at h; exact wpAny_eqBool_int h
   ·rw [zj] at h; exact SeqAt.EqAt.int_str i t y u _ _ _ _ h
  ·rcases bO hv with ⟨j, u, rfl, rfl⟩ | ⟨y, u, rfl, rfl⟩
   ·rw [zc] at h; exact SeqAt.EqAt.str_int x t j u _ _ _ _ h
   ·rw [zk] at h; exact wpAny_eqBool_str h
 «strs» := fun k x t v h => by
  rcases bO h with ⟨i, u, rfl, e⟩ | ⟨y, u, rfl, e⟩
  ·exact nomatch e
  ·injection e with e1 _
   subst e1
   cases v <;> rfl
end L2
namespace L2
open PySem PySem.Spec PyProof.Rows
inductive V where
 | non | bl (b : Bool) | int (i : Int) | str (x : Str) | byt (b : Array UInt8) | flt (b : UInt64) | ref (a : Addr) | ty (n : String)
 deriving DecidableEq
noncomputable def RelV : V -> Value -> Prop
 | .non, u => u = Value.none
 | .bl b, u => u = Value.bool b
 | .int i, u => ∃ t, u = Value.int i t
 | .str x, u => ∃ t, u = Value.str x t
 | .byt b, u => ∃ t, u = Value.bytes b t
 | .flt b, u => ∃ t, u = Value.float b t
 | .ref a, u => u = Value.ref a
 | .ty n, u => u = Value.type n
abbrev Vals : List V -> List Value -> Prop := Paired RelV
theorem Vals.length {xs : List V} {us : List Value} (r : Vals xs us) : xs.length = us.length := Paired.length r
theorem Vals.get {xs : List V} {us : List Value} {i : Nat} {x : V} (r : Vals xs us) (e : xs[i]? = some x) : ∃ u, us[i]? = some u /\ RelV x u := by
 induction r generalizing i with
 | nil => rw [List.getElem?_nil] at e; cases e
 |
  cons r t ih =>
  cases i with
  | zero => cases e; exact ⟨_, rfl, r⟩
  | succ i => exact ih (i := i) e
theorem Vals.set {x : V} {u : Value} (r : RelV x u) {xs : List V} {us : List Value} (i : Nat) (q : Vals xs us) : Vals (xs.set i x) (us.set i u) := by
 induction q generalizing i with
 | nil => exact .nil
 |
  cons q t ih =>
  cases i with
  | zero => exact .cons r t
  | succ i => exact .cons q (ih i)
theorem Vals.append {xs ys : List V} {us ws : List Value} (r : Vals xs us) (s : Vals ys ws) : Vals (xs ++ ys) (us ++ ws) := by
 induction r with
 | nil => exact s
 | cons r t ih => exact .cons r ih
theorem Vals.take {xs : List V} {us : List Value} (n : Nat) (r : Vals xs us) : Vals (xs.take n) (us.take n) := by
 induction r generalizing n with
 | nil => rw [List.take_nil, List.take_nil]; exact .nil
 |
  cons r t ih =>
  cases n with
  | zero => exact .nil
  | succ n => exact .cons r (ih n)
theorem Vals.drop {xs : List V} {us : List Value} (n : Nat) (r : Vals xs us) : Vals (xs.drop n) (us.drop n) := by
 induction r generalizing n with
 | nil => rw [List.drop_nil, List.drop_nil]; exact .nil
 |
  cons r t ih =>
  cases n with
  | zero => exact .cons r t
  | succ n => exact ih n
noncomputable def v5 : Option V -> Option Value -> Prop
 | some v, some u => RelV v u
 | none, none => True
 | _, _ => False
noncomputable def KV {κ : Type} : List (κ × V) -> List (κ × Value) -> Prop := Paired fun (p : κ × V) (q : κ × Value) => p.1 = q.1 /\ RelV p.2 q.2
noncomputable def kV : Key -> V
 | .inl i => .int i
 | .inr x => .str x
inductive HO where
 | lst (xs : List V)
 | tup (xs : List V)
 | dK (kvs : List (Key × V)) | dT (kvs : List (List Key × V))
 | set (S : Int -> Bool) (n : Nat)
 | ins (C dx : Addr) (fs : List (Str × V))
 | own (x : Addr)
 | xd (fs : List (Str × V))
 | met (f x : Addr)
 | rng (lo hi : Int)
 | frz (o : Obj) (u : HO)
 | tbl (ps : Array Value)
 | ext (φ : Heap -> Prop)
abbrev Hp := Addr -> Option HO
noncomputable def upd (H : Hp) (a : Addr) (o : HO) : Hp := fun b => if b = a then some o else H b
theorem cz {H : Hp} {a : Addr} {o : HO} : upd H a o a = some o := by unfold upd; rw [if_pos rfl]
theorem aT {H : Hp} {a b : Addr} {o : HO} (h : b ≠ a) : upd H a o b = H b := by unfold upd; rw [if_neg h]
theorem bN {H : Hp} {a b : Addr} {o : HO} (h : H a = some o) (h' : H b = none) : a ≠ b := by
 intro e; subst e; rw [h] at h'; cases h'
section
variable (P : Program) (w : World)
noncomputable def ObjOk (H : Hp) (h : Heap) (a : Addr) : HO -> Prop
 | .lst xs => xs.length <= sizeLine /\ ∃ (its : List Value) (n : Nat), Vals xs its /\ h.get? a = some { cls := .type "list", data := .seq its.toArray n }
 | .tup xs => xs.length <= sizeLine /\ ∃ its : List Value, Vals xs its /\ IsTup h a its.toArray
 | .dK kvs => kvs.length <= sizeLine /\ (a == sysModules) = false /\ ∃ vs, KV kvs vs /\ h.DictOf (mf P w) a vs
 | .dT kvs => kvs.length <= sizeLine /\ (a == sysModules) = false /\ ∃ xs : List (List Key × Addr × Value),
   Paired (fun (p : List Key × V) (q : List Key × Addr × Value) => p.1 = q.1 /\ H q.2.1 = some (.tup (p.1.map kV)) /\ RelV p.2 q.2.2) kvs xs /\
   ∃ o es ep, h.get? a = some o /\ o.ExactDict /\ o.data = .dict es ep /\ es.toList = xs.map (entryOfKey (tupleKind (mf P w))) /\ (xs.map (·.1)).Nodup
 | .set S n => h.SetOf (intKind P w) a S n
 | .ins C dx fs => H dx = some (.own a) /\ fs.length <= 1000 /\ dx ≠ a /\ h.get? a = some (PySem.W.instObj C dx) /\
   ∃ mA, h.Ns1 dx mA /\ (∀ f, v5 (fs.lookup f) (mA f)) /\ PySem.Within mA (fs.map (·.1))
 | .own _ => ∃ o, h.get? a = some o
 | .xd fs => ∃ mA, h.Ns1 a mA /\ ∀ f, v5 (fs.lookup f) (mA f)
 | .rng lo hi => ∃ t u v, h.get? a = some { cls := .type "range", data := .fields #[.int lo t, .int hi u, .int 1 v] }
 | .frz o u => h.get? a = some o /\ ObjOk H h a u
 | .tbl ps => h.get? a = some { cls := .none, data := .fields ps }
 | .met f x => h.get? a = some (PySem.W.methodObj (.ref f) (.ref x))
 | .ext φ => φ h /\ (∃ o, h.get? a = some o) /\ ∀ h1 h2 : Heap, φ h1 -> (∀ o, h1.get? a = some o -> h2.get? a = some o) -> φ h2
noncomputable def HOk (H : Hp) (h : Heap) : Prop := ∀ a o, H a = some o -> ObjOk P w H h a o
end
section
variable {P : Program} {w : World} {H H' : Hp} {h h' : Heap} {a : Addr} {o : HO}
theorem ObjOk.lt (x : ObjOk P w H h a o) : a < h.objs.size := by
 cases o with
 | lst xs => obtain ⟨_, _, _, _, e⟩ := x; exact Heap.lt_size e
 | tup xs => obtain ⟨_, _, _, p⟩ := x; exact p.lt
 | dK kvs => obtain ⟨_, _, _, _, o, _, _, e, _⟩ := x; exact Heap.lt_size e
 | dT kvs => obtain ⟨_, _, _, _, o, _, _, e, _⟩ := x; exact Heap.lt_size e
 | set S n => obtain ⟨o, _, _, _, e, _⟩ := x; exact Heap.lt_size e
 | ins C dx fs => obtain ⟨_, _, _, e, _⟩ := x; exact Heap.lt_size e
 | own y => obtain ⟨_, e⟩ := x; exact Heap.lt_size e
 | xd fs => obtain ⟨_, ⟨_, _, _, e, _⟩, _⟩ := x; exact Heap.lt_size e
 | rng lo hi => obtain ⟨_, _, _, e⟩ := x; exact Heap.lt_size e
 | frz ob u => obtain ⟨e, _⟩ := x; exact Heap.lt_size e
 | tbl ps => exact Heap.lt_size (show h.get? a = some _ from x)
 | met f y => exact Heap.lt_size (show h.get? a = some _ from x)
 | ext φ => obtain ⟨_, ⟨_, e⟩, _⟩ := x; exact Heap.lt_size e
theorem Paired.mapP {α β : Type} {F G : α -> β -> Prop} {l₁ : List α} {l₂ : List β} (r : Paired F l₁ l₂) (f : ∀ a b, F a b -> G a b) : Paired G l₁ l₂ := by
 induction r with
 | nil => exact .nil
 | cons r t ih => exact .cons (f _ _ r) ih
theorem ObjOk.stay (x : ObjOk P w H h a o) (k : ∀ b u, (b = a \/ H b = some (.own a)) -> h.get? b = some u -> h'.get? b = some u)
  (ho : ∀ b, H b = some (.own a) -> H' b = some (.own a)) (ht : ∀ b xs, H b = some (.tup xs) -> H' b = some (.tup xs)) : ObjOk P w H' h' a o := by
 induction o with
 | lst xs => obtain ⟨z, its, n, r, e⟩ := x; exact ⟨z, its, n, r, k _ _ (.inl rfl) e⟩
 | tup xs => obtain ⟨z, its, r, ob, e, c⟩ := x; exact ⟨z, its, r, ob, k _ _ (.inl rfl) e, c⟩
 | dK kvs => obtain ⟨z, y, vs, r, ob, es, ep, e, c⟩ := x; exact ⟨z, y, vs, r, ob, es, ep, k _ _ (.inl rfl) e, c⟩
 |
  dT kvs =>
  obtain ⟨z, y, xs, r, ob, es, ep, e, c⟩ := x
  exact ⟨z, y, xs, Paired.mapP r fun p q z => ⟨z.1, ht _ _ z.2.1, z.2.2⟩, ob, es, ep, k _ _ (.inl rfl) e, c⟩
 | set S n => obtain ⟨ob, es, ep, t, e, c⟩ := x; exact ⟨ob, es, ep, t, k _ _ (.inl rfl) e, c⟩
 |
  ins C dx fs =>
  obtain ⟨d, z, ne, e, mA, ⟨od, es, ep, e2, c⟩, r⟩ := x
  exact ⟨ho _ d, z, ne, k _ _ (.inl rfl) e, mA, ⟨od, es, ep, k _ _ (.inr d) e2, c⟩, r⟩
 | own y => obtain ⟨ob, e⟩ := x; exact ⟨ob, k _ _ (.inl rfl) e⟩
 | xd fs => obtain ⟨mA, ⟨od, es, ep, e, c⟩, r⟩ := x; exact ⟨mA, ⟨od, es, ep, k _ _ (.inl rfl) e, c⟩, r⟩
 | rng lo hi => obtain ⟨t, u, v, e⟩ := x; exact ⟨t, u, v, k _ _ (.inl rfl) e⟩
 | frz ob u ih => obtain ⟨e, q⟩ := x; exact ⟨k _ _ (.inl rfl) e, ih q⟩
 |
  tbl ps =>
  have e : h.get? a = some { cls := .none, data := .fields ps } := x
  show h'.get? a = some { cls := .none, data := .fields ps }
  exact k a _ (.inl rfl) e
 |
  met f y =>
  have e : h.get? a = some (PySem.W.methodObj (.ref f) (.ref y)) := x
  show h'.get? a = some (PySem.W.methodObj (.ref f) (.ref y))
  exact k a _ (.inl rfl) e
 | ext φ => obtain ⟨p, ⟨o, e⟩, st⟩ := x; exact ⟨st _ _ p fun o q => k _ _ (.inl rfl) q, ⟨o, k _ _ (.inl rfl) e⟩, st⟩
theorem HOk.lt (x : HOk P w H h) (e : H a = some o) : a < h.objs.size := (x a o e).lt
theorem HOk.fresh (x : HOk P w H h) (e : h.objs.size <= a) : H a = none := by
 cases q : H a with
 | none => rfl
 | some u => exact absurd (Nat.lt_of_lt_of_le (x.lt q) e) (Nat.lt_irrefl _)
theorem HOk.kept (x : HOk P w H h) (k : ∀ b u, h.get? b = some u -> h'.get? b = some u) : HOk P w H h' := fun a o e =>
 (x a o e).stay (fun b u _ q => k b u q) (fun _ q => q) fun _ _ q => q
theorem HOk.laid (x : HOk P w H h) (k : ∀ b u, h.get? b = some u -> h'.get? b = some u) (hp : h.objs.size <= a) (new : ObjOk P w (upd H a o) h' a o) : HOk P w (upd H a o) h' := fun b u e => by
 have hn := x.fresh hp
 by_cases hb : b = a
 ·subst hb; rw [cz] at e; cases e; exact new
 ·rw [aT hb] at e
  exact (x b u e).stay (fun c v _ q => k c v q) (fun c q => by rw [aT (bN q hn)]; exact q) fun c xs q => by rw [aT (bN q hn)]; exact q
end
noncomputable def Rd (H : Hp) (a : Addr) (u : HO) : Prop := H a = some u \/ ∃ o, H a = some (.frz o u)
theorem Rd.ok {P : Program} {w : World} {H : Hp} {h : Heap} {a : Addr} {u : HO} (r : Rd H a u) (x : HOk P w H h) : ObjOk P w H h a u := by
 rcases r with r | ⟨o, r⟩
 ·exact x a u r
 ·obtain ⟨_, q⟩ := x a _ r
  exact q
noncomputable def Mut : Option HO -> Prop
 | some (.lst _) => True
 | some (.dK _) => True
 | some (.dT _) => True
 | some (.set _ _) => True
 | some (.ins _ _ _) => True
 | some (.ext _) => True
 | _ => False
section
variable {P : Program} {w : World} {H : Hp} {h h' : Heap} {x e : Addr} {o' : HO}
theorem
    HOk.write (ok : HOk P w H h) (mu : Mut (H x)) (he : e = x \/ H e = some (.own x)) (k : ∀ b u, b ≠ e -> h.get? b = some u -> h'.get? b = some u) (heo : ∃ u, h'.get? e = some u)
  (new : ObjOk P w (upd H x o') h' x o') : HOk P w (upd H x o') h' := fun b u q => by
 have nown : ∀ c y, H c = some (.own y) -> c ≠ x := fun c y r z => by subst z; rw [r] at mu; exact mu
 have ntup : ∀ c xs, H c = some (.tup xs) -> c ≠ x := fun c xs r z => by subst z; rw [r] at mu; exact mu
 by_cases hb : b = x
 ·subst hb; rw [cz] at q; cases q; exact new
 ·rw [aT hb] at q
  by_cases hbe : b = e
  ·have q' : H b = some (.own x) := by
    rcases he with z | z
    ·exact absurd (hbe.trans z) hb
    ·rw [hbe]; exact z
   rw [q] at q'; cases q'
   obtain ⟨v, hv⟩ := heo
   exact ⟨v, by rw [hbe]; exact hv⟩
  ·refine (ok b u q).stay (fun c v hc r => k c v ?_ r) (fun c r => by rw [aT (nown c b r)]; exact r) fun c xs r => by rw [aT (ntup c xs r)]; exact r
   rcases hc with rfl | hc
   ·exact hbe
   ·rintro rfl
    rcases he with z | z
    ·exact nown c b hc z
    ·rw [hc] at z; cases z; exact hb rfl
end
structure Un (fs ex : List Addr) (H H' : Hp) (h h' : Heap) : Prop where
 keep : ∀ b o, h.get? b = some o -> H b = none -> b ∉ fs -> b ∉ ex -> h'.get? b = some o
 slot : ∀ b o, h.get? b = some o -> H b = none -> b ∈ fs -> b ∉ ex -> ∃ sl, h'.get? b = some { o with slots := sl }
 free : ∀ b o, h.get? b = some o -> H b = none -> b ∉ ex -> H' b = none
 there : ∀ b o, h.get? b = some o -> b ∉ ex -> ∃ o', h'.get? b = some o'
 tups : ∀ b xs, H b = some (.tup xs) -> H' b = some (.tup xs)
 frzs : ∀ b o u, H b = some (.frz o u) -> H' b = some (.frz o u)
 tbls : ∀ b ps, H b = some (.tbl ps) -> ∃ more, H' b = some (.tbl (ps ++ more))
section
variable {fs fs' ex ex' : List Addr} {H H1 H2 : Hp} {h h1 h2 h' : Heap} {a x e : Addr} {o : HO}
theorem Un.any (u : Un fs ex H H1 h h1) {b : Addr} {ob : Obj} (q : h.get? b = some ob) (n : H b = none) (hx : b ∉ ex) : ∃ sl, h1.get? b = some { ob with slots := sl } := by
 by_cases hb : b ∈ fs
 ·exact u.slot b ob q n hb hx
 ·exact ⟨ob.slots, u.keep b ob q n hb hx⟩
theorem Un.kept (k : ∀ b u, h.get? b = some u -> h'.get? b = some u) : Un fs ex H H h h' :=
 ⟨fun b ob q _ _ _ => k b ob q, fun b ob q _ _ _ => ⟨ob.slots, k b ob q⟩, fun _ _ _ n _ => n, fun b ob q _ => ⟨ob, k b ob q⟩, fun _ _ q => q, fun _ _ _ q => q, fun _ ps q => ⟨#[], by rw [q]; simp⟩⟩
theorem Un.refl : Un fs ex H H h h := Un.kept fun _ _ q => q
theorem Un.laid (k : ∀ b u, h.get? b = some u -> h'.get? b = some u) (hp : h.objs.size <= a) (hn : H a = none) : Un fs ex H (upd H a o) h h' where
 keep := fun b u q _ _ _ => k b u q
 slot := fun b u q _ _ _ => ⟨u.slots, k b u q⟩
 free := fun b u q n _ => by rw [aT (Nat.ne_of_lt (Nat.lt_of_lt_of_le (Heap.lt_size q) hp))]; exact n
 there := fun b u q _ => ⟨u, k b u q⟩
 tups := fun b xs q => by rw [aT (bN q hn)]; exact q
 frzs := fun b u xs q => by rw [aT (bN q hn)]; exact q
 tbls := fun b ps q => ⟨#[], by rw [aT (bN q hn), q]; simp⟩
theorem Un.write (mu : Mut (H x)) (he : e = x \/ H e = some (.own x)) (k : ∀ b u, b ≠ e -> h.get? b = some u -> h'.get? b = some u) (heo : ∃ u, h'.get? e = some u) : Un fs ex H (upd H x o) h h' := by
 have hx : ∀ b, H b = none -> b ≠ x := fun b n z => by subst z; rw [n] at mu; exact mu
 have hb : ∀ b, H b = none -> b ≠ e := fun b n z => by
  subst z
  rcases he with r | r
  ·exact hx b n r
  ·rw [n] at r; cases r
 have hm : ∀ b u, H b = some u -> ¬ Mut (some u) -> b ≠ x := fun b u q nm z => by subst z; rw [q] at mu; exact nm mu
 refine ⟨fun b u q n _ _ => k b u (hb b n) q, fun b u q n _ _ => ⟨u.slots, k b u (hb b n) q⟩, fun b u q n _ => by rw [aT (hx b n)]; exact n, fun b u q _ => ?_,
  fun b xs q => by rw [aT (hm b _ q fun z => z)]; exact q, fun b u xs q => by rw [aT (hm b _ q fun z => z)]; exact q, fun b ps q => ⟨#[], by rw [aT (hm b _ q fun z => z), q]; simp⟩⟩
 by_cases hbe : b = e
 ·subst hbe; exact heo
 ·exact ⟨u, k b u hbe q⟩
end
noncomputable def trk (h : Heap) (H : Hp) : List Addr := (List.range h.objs.size).filter fun a => (H a).isSome
noncomputable def iN (h : Heap) (H : Hp) : Heap := PySem.W.hideAll h (trk h H)
theorem sx (h : Heap) (H : Hp) : (iN h H).objs.size = h.objs.size := PySem.W.hideAll_size _ _
theorem u9 {h : Heap} {H : Hp} {b : Addr} {o : Obj} (e : h.get? b = some o) (n : H b = none) : (iN h H).get? b = some o :=
 PySem.W.hideAll_get _ e fun hm => by
  have q : (H b).isSome = true := (List.mem_filter.mp hm).2
  rw [n] at q; simp at q
theorem yz {h : Heap} {H : Hp} {b : Addr} {o : Obj} (e : (iN h H).get? b = some o) : h.get? b = some o /\ H b = none := by
 have e' : h.get? b = some o := PySem.W.of_hideAll (trk h H) e
 refine ⟨e', ?_⟩
 cases q : H b with
 | none => rfl
 |
  some x =>
  have hm : b ∈ trk h H := List.mem_filter.mpr ⟨List.mem_range.mpr (Heap.lt_size e'), by simp [q]⟩
  have z : (iN h H).get? b = none := PySem.W.hideAll_none (trk h H) hm
  rw [z] at e; cases e
noncomputable def yL (g h : Heap) (L : Addr) : List (Addr × Obj) := (List.range h.objs.size).filterMap fun a => if a = L \/ (g.get? a).isSome = true then none else (h.get? a).map fun o => (a, o)
noncomputable def gL (g h : Heap) (L d : Addr) : List (Addr × Obj) := (yL g h L).filter fun p => decide (p.1 ≠ d)
end L2
namespace L2
open PySem PySem.Spec PyProof.Rows
structure Mod (K : PySem.W.Frag) (mg : Str -> Option Value) (base : Heap) : Prop where
 kin : K.In base
 glob : base.Ns mainGlobals mg
 blt : ∃ mb, base.Ns builtinsNs mb /\ ∀ x : Str, x ≠ "__name__" -> mb x = bootBuiltins x
 nolimit : base.NoLimit
structure Cx where
 prog : Program
 w : World
 K : PySem.W.Frag
 mg : Str -> Option Value
 base : Heap
 A : Around
 N : List Str
 s₀ : Shared
 H₀ : Hp
 env : Env
 outer : List Env
 stack : List Env
 ex : List Addr
 fn : Str -> Bool
 calm : Bool
 pn : List (Addr × Obj)
 xe : Value -> Shared -> Prop
noncomputable def frs (l : List Env) : List Addr := l.filterMap (·.frame)
abbrev Cx.fs (X : Cx) : List Addr := frs X.outer
noncomputable def Vis (sc : Scope) (x : Str) : Prop := sc.names.lookup x = some .local \/ sc.names.lookup x = some .cell \/ sc.names.lookup x = some .free
noncomputable def Loc (sc : Scope) (x : Str) : Prop := sc.names.lookup x = some .local \/ sc.names.lookup x = some .cell
noncomputable def vj (env : Env) (h : Heap) (m : Str -> Option Value) (x : Str) (u : Value) : Prop :=
 (env.kindOf x = some .local /\ m x = some u) \/ ((env.kindOf x = some .cell \/ env.kindOf x = some .free) /\ ∃ c, env.cells.lookup x = some c /\ h.IsCell c (some u))
structure Cx.Ok (X : Cx) : Prop where
 mod : Mod X.K X.mg X.base
 kind : X.env.scope.kind = .function
 glob : X.env.globals = mainGlobals
 blt : X.env.builtins = builtinsNs
 above : X.s₀.heap.objs.size <= X.env.locals
 inj : ∀ x y c, X.env.cells.lookup x = some c -> X.env.cells.lookup y = some c -> x = y
 has : ∀ x, (X.env.kindOf x = some .cell \/ X.env.kindOf x = some .free) -> ∃ c, X.env.cells.lookup x = some c
 cab : ∀ x c, X.fn x = true -> X.env.cells.lookup x = some c -> X.s₀.heap.objs.size <= c
 hd : X.calm = true -> X.A.handled = none
 frames : X.A.frames = some X.stack
 stk : X.stack = X.outer \/ (X.stack = X.env :: X.outer /\ X.env.frame = some X.env.locals)
 exf : ∀ b ∈ X.ex, b ≠ X.env.locals /\ ∀ x c, X.env.cells.lookup x = some c -> c ≠ b
 bs : ∀ b o, X.base.get? b = some o -> X.s₀.heap.get? b = some o /\ X.H₀ b = none
 bsz : X.base.objs.size <= X.s₀.heap.objs.size
 noex : ∀ b o, X.base.get? b = some o -> b ∉ X.ex
 exfs : ∀ b ∈ X.ex, b ∉ X.fs
 funs : X.s₀.heap.FunFrames X.base X.outer
 frf : ∀ b ∈ X.fs, X.H₀ b = none
structure Inv (X : Cx) (pins : List (Addr × Obj)) (σ : List (Option V)) (H : Hp) (s : Shared) : Prop where
 ok : X.Ok
 os : s.os = X.s₀.os
 bare : AllBare s.gens
 base : Un X.fs X.ex X.H₀ H X.s₀.heap s.heap
 loc : ∃ m, s.heap.Ns X.env.locals m /\ ∀ (i : Nat) (x : Str) (v : V), X.N[i]? = some x -> σ[i]? = some (some v) -> Vis X.env.scope x -> ∃ u, RelV v u /\ vj X.env s.heap m x u
 cell : ∀ x c, X.env.cells.lookup x = some c -> ∃ v, s.heap.IsCell c v
 free : H X.env.locals = none
 freeC : ∀ x c, X.env.cells.lookup x = some c -> H c = none
 pin : ∀ p ∈ X.pn ++ pins, s.heap.get? p.1 = some p.2 /\ H p.1 = none /\ p.1 ≠ X.env.locals /\ p.1 ∉ X.fs /\ ∀ v, p.2.data ≠ .cell v
 hok : HOk X.prog X.w H s.heap
 len : σ.length = X.N.length
section
variable {X : Cx} {pins : List (Addr × Obj)} {σ : List (Option V)} {H H' : Hp} {s : Shared} {h' : Heap}
theorem Cx.Ok.nofr (ok : X.Ok) {b : Addr} {o : Obj} (e : X.base.get? b = some o) : b ∉ X.fs := fun hb => by
 have := (ok.funs.mem hb).1
 rw [e] at this; cases this
theorem Inv.bs (I : Inv X pins σ H s) : ∀ b o, X.base.get? b = some o -> s.heap.get? b = some o /\ H b = none := fun b o e =>
 ⟨I.base.keep b o (I.ok.bs b o e).1 (I.ok.bs b o e).2 (I.ok.nofr e) (I.ok.noex b o e), I.base.free b o (I.ok.bs b o e).1 (I.ok.bs b o e).2 (I.ok.noex b o e)⟩
theorem Inv.bk (I : Inv X pins σ H s) : ∀ b o, X.base.get? b = some o -> s.heap.get? b = some o := fun b o e => (I.bs b o e).1
theorem Inv.mod (I : Inv X pins σ H s) : Mod X.K X.mg X.base := I.ok.mod
theorem Inv.kIn (I : Inv X pins σ H s) : X.K.In s.heap := I.ok.mod.kin.keeps I.bk
theorem Inv.lt (I : Inv X pins σ H s) : X.env.locals < s.heap.objs.size := let ⟨_, hn, _⟩ := I.loc; hn.lt
theorem Inv.sz (I : Inv X pins σ H s) : X.s₀.heap.objs.size <= s.heap.objs.size := Nat.le_trans I.ok.above (Nat.le_of_lt I.lt)
theorem Inv.nofs (I : Inv X pins σ H s) {a : Addr} (h : s.heap.objs.size <= a) : a ∉ X.fs := fun hb => by
 obtain ⟨_, o, ho, _⟩ := I.ok.funs.mem hb
 exact absurd (Nat.lt_of_lt_of_le (Heap.lt_size ho) (Nat.le_trans I.sz h)) (Nat.lt_irrefl _)
theorem Inv.cne (I : Inv X pins σ H s) : ∀ x c, X.env.cells.lookup x = some c -> c ≠ X.env.locals := fun x c e z => by
 obtain ⟨v, o, ho, hd⟩ := I.cell x c e
 obtain ⟨m, ⟨o', es, ep, ho', hd', _⟩, _⟩ := I.loc
 rw [z, ho'] at ho; cases ho; rw [hd'] at hd; cases hd
theorem Inv.funs (I : Inv X pins σ H s) : s.heap.FunFrames X.base X.outer := by
 have all : ∀ (l : List Env), (∀ b ∈ frs l, b ∈ X.fs) -> X.s₀.heap.FunFrames X.base l -> s.heap.FunFrames X.base l := by
  intro l
  induction l with
  | nil => intro _ _; trivial
  |
   cons env r ih =>
   intro hs hl
   obtain ⟨hk, ⟨L, o, hf, hn, ho, hd⟩, hr⟩ := hl
   have hL : L ∈ X.fs := hs L (by unfold frs; rw [List.filterMap_cons, hf]; exact List.mem_cons_self)
   obtain ⟨sl, e⟩ := I.base.slot L o ho (I.ok.frf L hL) hL fun z => I.ok.exfs L z hL
   exact ⟨hk, ⟨L, _, hf, hn, e, hd⟩, ih (fun b hb => hs b (by unfold frs; rw [List.filterMap_cons, hf]; exact List.mem_cons_of_mem _ hb)) hr⟩
 exact all X.outer (fun _ hb => hb) I.ok.funs
theorem Inv.stack (I : Inv X pins σ H s) : s.heap.FunFrames X.base X.stack := by
 rcases I.ok.stk with e | ⟨e, hf⟩
 ·rw [e]; exact I.funs
 ·rw [e]
  obtain ⟨m, hn, _⟩ := I.loc
  refine .cons (by rw [I.ok.kind]; decide) hf hn ?_ I.funs
  exact Heap.get?_none_of_le (Nat.le_trans I.ok.bsz I.ok.above)
theorem Inv.stkSub (I : Inv X pins σ H s) : ∀ b ∈ frs X.stack, b ∈ X.env.locals :: X.fs := fun b hb => by
 rcases I.ok.stk with e | ⟨e, hf⟩
 ·rw [e] at hb; exact List.mem_cons_of_mem _ hb
 ·rw [e] at hb
  unfold frs at hb
  rw [List.filterMap_cons, hf] at hb
  exact hb
theorem Inv.stkFree (I : Inv X pins σ H s) : ∀ b ∈ frs X.stack, H b = none := fun b hb => by
 rcases List.mem_cons.mp (I.stkSub b hb) with e | hb
 ·rw [e]; exact I.free
 ·obtain ⟨_, o, ho, _⟩ := I.ok.funs.mem hb
  exact I.base.free b o ho (I.ok.frf b hb) fun z => I.ok.exfs b z hb
theorem Inv.step {g' : Array GenState} {t' : Nat} {d' : Drawn} {ch : List Addr} (I : Inv X pins σ H s)
  (hch : ∀ b ∈ ch, (b ∈ X.ex \/ X.s₀.heap.objs.size <= b) /\ b ≠ X.env.locals /\ (∀ x c, X.env.cells.lookup x = some c -> c ≠ b) /\ ∀ p ∈ X.pn ++ pins, p.1 ≠ b)
  (keep : ∀ b o, b ≠ X.env.locals -> b ∉ X.fs -> b ∉ ch -> s.heap.get? b = some o -> H b = none -> h'.get? b = some o)
  (slot : ∀ b o, b ≠ X.env.locals -> b ∈ X.fs -> b ∉ ch -> s.heap.get? b = some o -> H b = none -> ∃ sl, h'.get? b = some { o with slots := sl }) (free : ∀ b o, b ∉ ch -> s.heap.get? b = some o -> H b = none -> H' b = none)
  (there : ∀ b o, b ∉ ch -> s.heap.get? b = some o -> ∃ o', h'.get? b = some o')
  (tups : ∀ b xs, H b = some (.tup xs) -> H' b = some (.tup xs)) (frzs : ∀ b o u, H b = some (.frz o u) -> H' b = some (.frz o u)) (tbls : ∀ b ps, H b = some (.tbl ps) -> ∃ more, H' b = some (.tbl (ps ++ more)))
  (ns : ∀ m, s.heap.Ns X.env.locals m -> h'.Ns X.env.locals m) (hok : HOk X.prog X.w H' h') (hg : AllBare g') :
  Inv X pins σ H' { s with heap := h', gens := g', drawn := d', toks := t' } := by
 have neL : ∀ b o, X.s₀.heap.get? b = some o -> b ≠ X.env.locals := fun b o e => Nat.ne_of_lt (Nat.lt_of_lt_of_le (Heap.lt_size e) I.ok.above)
 have neC : ∀ b o, X.s₀.heap.get? b = some o -> b ∉ X.ex -> b ∉ ch := fun b o e hx hb => by
  rcases (hch b hb).1 with z | z
  ·exact hx z
  ·exact absurd (Nat.lt_of_lt_of_le (Heap.lt_size e) z) (Nat.lt_irrefl _)
 have cellK : ∀ x c, X.env.cells.lookup x = some c -> ∀ v, s.heap.IsCell c v -> h'.IsCell c v := fun x c e v ⟨o, ho, hd⟩ => by
  have nch : c ∉ ch := fun z => (hch c z).2.2.1 x c e rfl
  by_cases hc : c ∈ X.fs
  ·obtain ⟨sl, q⟩ := slot c o (I.cne x c e) hc nch ho (I.freeC x c e)
   exact ⟨_, q, hd⟩
  ·exact ⟨o, keep c o (I.cne x c e) hc nch ho (I.freeC x c e), hd⟩
 refine ⟨I.ok, I.os, hg, ⟨fun b o e n hb hx => ?_, fun b o e n hb hx => ?_, fun b o e n hx => ?_, fun b o e hx => ?_, fun b xs e => tups b xs (I.base.tups b xs e), fun b o xs e => frzs b o xs (I.base.frzs b o xs e), fun b ps e => ?_⟩, ?_, fun x c e => ?_, ?_, fun x c e => ?_, fun p hp => ?_, hok, I.len⟩
 ·exact keep b o (neL b o e) hb (neC b o e hx) (I.base.keep b o e n hb hx) (I.base.free b o e n hx)
 ·obtain ⟨sl, e1⟩ := I.base.slot b o e n hb hx
  obtain ⟨sl', e2⟩ := slot b _ (neL b o e) hb (neC b o e hx) e1 (I.base.free b o e n hx)
  exact ⟨sl', e2⟩
 ·obtain ⟨o', e1⟩ := I.base.there b o e hx
  exact free b o' (neC b o e hx) e1 (I.base.free b o e n hx)
 ·obtain ⟨o', e1⟩ := I.base.there b o e hx
  exact there b o' (neC b o e hx) e1
 ·obtain ⟨m1, e1⟩ := I.base.tbls b ps e
  obtain ⟨m2, e2⟩ := tbls b _ e1
  exact ⟨m1 ++ m2, by rw [e2, Array.append_assoc]⟩
 ·obtain ⟨m, hn, hl⟩ := I.loc
  refine ⟨m, ns m hn, fun i x v e1 e2 e3 => ?_⟩
  obtain ⟨u, r, l⟩ := hl i x v e1 e2 e3
  refine ⟨u, r, ?_⟩
  rcases l with l | ⟨k, c, e, z⟩
  ·exact .inl l
  ·exact .inr ⟨k, c, e, cellK x c e _ z⟩
 ·obtain ⟨v, z⟩ := I.cell x c e
  exact ⟨v, cellK x c e v z⟩
 ·obtain ⟨m, ⟨o, _, _, ho, _⟩, _⟩ := I.loc
  exact free _ o (fun z => (hch _ z).2.1 rfl) ho I.free
 ·obtain ⟨v, o, ho, hd⟩ := I.cell x c e
  exact free c o (fun z => (hch c z).2.2.1 x c e rfl) ho (I.freeC x c e)
 ·obtain ⟨e, n, ne, nf, d⟩ := I.pin p hp
  have nch : p.1 ∉ ch := fun z => (hch p.1 z).2.2.2 p hp rfl
  exact ⟨keep p.1 p.2 ne nf nch e n, free p.1 p.2 nch e n, ne, nf, d⟩
theorem Inv.un {t' : Nat} (I : Inv X pins σ H s) (u : Un X.fs [] H H' s.heap h') (hok : HOk X.prog X.w H' h') : Inv X pins σ H' { s with heap := h', toks := t' } := by
 obtain ⟨m, ⟨o, es, ep, ho, r⟩, _⟩ := id I.loc
 obtain ⟨sl, hL⟩ := u.any ho I.free (by simp)
 exact I.step (g' := s.gens) (d' := s.drawn) (ch := []) (fun _ z => nomatch z) (fun b o _ hb _ e n => u.keep b o e n hb (by simp)) (fun b o _ hb _ e n => u.slot b o e n hb (by simp)) (fun b o _ e n => u.free b o e n (by simp)) (fun b o _ e => u.there b o e (by simp)) u.tups u.frzs u.tbls (fun m' hm => by
  obtain ⟨o', es', ep', ho', r'⟩ := hm
  rw [ho] at ho'; cases ho'
  exact ⟨_, es', ep', hL, r'⟩) hok I.bare
theorem Inv.call {g' : Array GenState} {t' : Nat} {d' : Drawn} {ch : List Addr} (I : Inv X pins σ H s) (u : Un (frs X.stack) ch H H' s.heap h') (hok : HOk X.prog X.w H' h') (hg : AllBare g')
  (hch : ∀ b ∈ ch, (b ∈ X.ex \/ X.s₀.heap.objs.size <= b) /\ b ≠ X.env.locals /\ (∀ x c, X.env.cells.lookup x = some c -> c ≠ b) /\ ∀ p ∈ X.pn ++ pins, p.1 ≠ b) :
  Inv X pins σ H' { s with heap := h', gens := g', drawn := d', toks := t' } := by
 obtain ⟨m, ⟨o, es, ep, ho, r⟩, _⟩ := id I.loc
 obtain ⟨sl, hL⟩ := u.any ho I.free fun z => (hch _ z).2.1 rfl
 exact I.step (ch := ch) hch (fun b o hL hb hc e n => u.keep b o e n (fun z => (List.mem_cons.mp (I.stkSub b z)).elim hL hb) hc) (fun b o _ _ hc e n => u.any e n hc) (fun b o hc e n => u.free b o e n hc) (fun b o hc e => u.there b o e hc) u.tups u.frzs u.tbls (fun m' hm => by
  obtain ⟨o', es', ep', ho', r'⟩ := hm
  rw [ho] at ho'; cases ho'
  exact ⟨_, es', ep', hL, r'⟩) hok hg
theorem Inv.turned {t' : Nat} {it : Addr} (I : Inv X pins σ H s) (k : ∀ b o, b ≠ it -> s.heap.get? b = some o -> h'.get? b = some o) (hn : H it = none) (hL : it ≠ X.env.locals)
  (h1 : it ∈ X.ex \/ X.s₀.heap.objs.size <= it) (h2 : ∀ x c, X.env.cells.lookup x = some c -> c ≠ it) (h3 : ∀ p ∈ X.pn ++ pins, p.1 ≠ it) : Inv X pins σ H { s with heap := h', toks := t' } := by
 have nit : ∀ b u, H b = some u -> b ≠ it := fun b u e z => by rw [z, hn] at e; cases e
 refine I.step (g' := s.gens) (d' := s.drawn) (ch := [it]) (fun b hb => ?_) (fun b o _ _ hc e _ => k b o (fun z => hc (by simp [z])) e) (fun b o _ _ hc e _ => ⟨o.slots, k b o (fun z => hc (by simp [z])) e⟩) (fun _ _ _ _ n => n)
  (fun b o hc e => ⟨o, k b o (fun z => hc (by simp [z])) e⟩) (fun _ _ e => e) (fun _ _ _ e => e) (fun b ps e => ⟨#[], by rw [e]; simp⟩) (fun m hm => ?_) (fun b u e => ?_) I.bare
 ·have e : b = it := by simpa using hb
  subst e
  exact ⟨h1, hL, h2, h3⟩
 ·obtain ⟨o, es, ep, ho, r⟩ := hm
  exact ⟨o, es, ep, k _ o (Ne.symm hL) ho, r⟩
 ·refine (I.hok b u e).stay (fun c v hc q => k c v ?_ q) (fun _ q => q) fun _ _ q => q
  rcases hc with z | z
  ·rw [z]; exact nit b u e
  ·exact nit c _ z
theorem Inv.tok (I : Inv X pins σ H s) (t : Nat) : Inv X pins σ H { s with toks := t } := I.un (h' := s.heap) (t' := t) Un.refl I.hok
theorem Inv.kept {t' : Nat} (I : Inv X pins σ H s) (k : ∀ b u, s.heap.get? b = some u -> h'.get? b = some u) : Inv X pins σ H { s with heap := h', toks := t' } := I.un (Un.kept k) (I.hok.kept k)
theorem Inv.laid {a : Addr} {o : HO} {t' : Nat} (I : Inv X pins σ H s) (k : ∀ b u, s.heap.get? b = some u -> h'.get? b = some u) (hp : s.heap.objs.size <= a) (new : ObjOk X.prog X.w (upd H a o) h' a o) :
  Inv X pins σ (upd H a o) { s with heap := h', toks := t' } := I.un (Un.laid k hp (I.hok.fresh hp)) (I.hok.laid k hp new)
theorem Inv.write {x e : Addr} {o : HO} {t' : Nat} (I : Inv X pins σ H s) (mu : Mut (H x)) (he : e = x \/ H e = some (.own x)) (k : ∀ b u, b ≠ e -> s.heap.get? b = some u -> h'.get? b = some u) (heo : ∃ u, h'.get? e = some u)
  (new : ObjOk X.prog X.w (upd H x o) h' x o) : Inv X pins σ (upd H x o) { s with heap := h', toks := t' } := I.un (Un.write mu he k heo) (I.hok.write mu he k heo new)
theorem Inv.pins_of {pins' : List (Addr × Obj)} (I : Inv X pins σ H s) (h : ∀ p ∈ pins', s.heap.get? p.1 = some p.2 /\ H p.1 = none /\ p.1 ≠ X.env.locals /\ p.1 ∉ X.fs /\ ∀ v, p.2.data ≠ .cell v) : Inv X pins' σ H s :=
 ⟨I.ok, I.os, I.bare, I.base, I.loc, I.cell, I.free, I.freeC, fun p hp => (List.mem_append.mp hp).elim (fun z => I.pin p (List.mem_append_left _ z)) (h p), I.hok, I.len⟩
theorem kC {N : List Str} (hN : N.Nodup) {i j : Nat} {x : Str} (a : N[i]? = some x) (b : N[j]? = some x) : i = j := by
 obtain ⟨h1, e1⟩ := List.getElem?_eq_some_iff.mp a
 obtain ⟨h2, e2⟩ := List.getElem?_eq_some_iff.mp b
 exact (List.getElem_inj hN).mp (e1.trans e2.symm)
theorem
    sX {M : Model} {A : Around} {E : Value -> Shared -> Prop} {i : Nat} {x : Str} {v : V} {u : Value} {Q : Unit -> Shared -> Prop} (I : Inv X pins σ H s) (hN : X.N.Nodup) (hi : X.N[i]? = some x) (hx : Loc X.env.scope x) (r : RelV v u)
  (h : ∀ s', Inv X pins (σ.set i (some v)) H s' -> (∃ a, Heap.SameBut a s.heap s'.heap /\ (a = X.env.locals \/ X.env.cells.lookup x = some a)) -> Q () s') (hf : X.fn x = true \/ X.env.scope.names.lookup x = some .local := by first | exact .inl rfl | exact .inr rfl | assumption) : wpAny M A (storeName X.env x u) Q E s := by
 obtain ⟨m, hn, hl⟩ := id I.loc
 have hcls : (X.env.scope.kind == .class || (X.env.scope.kind == .module && X.env.locals != X.env.globals)) = false := by rw [I.ok.kind]; rfl
 have hiσ : i < σ.length := by rw [I.len]; exact (List.getElem?_eq_some_iff.mp hi).1
 have cne := I.cne
 have tracked : ∀ {a : Addr} {h' : Heap}, (∃ o, s.heap.get? a = some o /\ H a = none) -> Heap.SameBut a s.heap h' -> HOk X.prog X.w H h' := fun {a h'} ha hs b ob e => by
  obtain ⟨_, _, hfree⟩ := ha
  refine (I.hok b ob e).stay (fun c w' hc q => (hs.2 c ?_).trans q) (fun _ q => q) fun _ _ q => q
  rintro rfl
  rcases hc with rfl | hc
  ·rw [hfree] at e; cases e
  ·rw [hfree] at hc; cases hc
 rcases hx with hk | hk
 ·refine wpAny_storeName_local hk hn (fun h' hn' hs => ?_) hcls
  obtain ⟨oL, _, _, hoL, _⟩ := id hn
  refine h _ ⟨I.ok, I.os, I.bare, ⟨fun b o e n hb hx => ?_, fun b o e n hb hx => ?_, I.base.free, fun b o e hx => ?_, I.base.tups, I.base.frzs, I.base.tbls⟩, ⟨_, hn', fun j y v' e1 e2 e3 => ?_⟩, fun y c e => ?_, I.free, I.freeC, fun p hp => ?_, tracked ⟨oL, hoL, I.free⟩ hs, by simpa using I.len⟩ ⟨_, hs, .inl rfl⟩
  ·exact (hs.2 b (Nat.ne_of_lt (Nat.lt_of_lt_of_le (Heap.lt_size e) I.ok.above))).trans (I.base.keep b o e n hb hx)
  ·obtain ⟨sl, e1⟩ := I.base.slot b o e n hb hx
   exact ⟨sl, (hs.2 b (Nat.ne_of_lt (Nat.lt_of_lt_of_le (Heap.lt_size e) I.ok.above))).trans e1⟩
  ·obtain ⟨o', e1⟩ := I.base.there b o e hx
   exact ⟨o', (hs.2 b (Nat.ne_of_lt (Nat.lt_of_lt_of_le (Heap.lt_size e) I.ok.above))).trans e1⟩
  ·by_cases hj : j = i
   ·subst hj
    rw [hi] at e1; cases e1
    rw [List.getElem?_set_self hiσ] at e2
    cases e2
    exact ⟨u, r, .inl ⟨hk, by simp⟩⟩
   ·rw [List.getElem?_set_ne (Ne.symm hj)] at e2
    obtain ⟨u', r', q⟩ := hl j y v' e1 e2 e3
    refine ⟨u', r', ?_⟩
    rcases q with ⟨k, e⟩ | ⟨k, c, e, z⟩
    ·refine .inl ⟨k, ?_⟩
     have : y ≠ x := fun e => hj (kC hN e1 (e ▸ hi))
     simp [this, e]
    ·exact .inr ⟨k, c, e, z.sameBut hs (cne y c e)⟩
  ·obtain ⟨w', z⟩ := I.cell y c e
   exact ⟨w', z.sameBut hs (cne y c e)⟩
  ·obtain ⟨e, n, ne, nf, d⟩ := I.pin p hp
   exact ⟨(hs.2 p.1 ne).trans e, n, ne, nf, d⟩
 ·have hfn : X.fn x = true := by
   rcases hf with z | z
   ·exact z
   ·rw [z] at hk; cases hk
  obtain ⟨c, hc⟩ := I.ok.has x (.inl hk)
  obtain ⟨w', z⟩ := I.cell x c hc
  refine wpAny_storeName_cell I.ok.kind hk hc z (fun h' hc' hs => ?_)
  obtain ⟨oc, hoc, hocd⟩ := id z
  refine h { s with heap := h' } ⟨I.ok, I.os, I.bare, ⟨fun b o e n hb hx => ?_, fun b o e n hb hx => ?_, I.base.free, fun b o e hx => ?_, I.base.tups, I.base.frzs, I.base.tbls⟩, ⟨m, hn.sameBut hs (Ne.symm (cne x c hc)), fun j y v' e1 e2 e3 => ?_⟩, fun y c' e => ?_, I.free, I.freeC, fun p hp => ?_, tracked ⟨oc, hoc, I.freeC x c hc⟩ hs, by simpa using I.len⟩ ⟨c, hs, .inr hc⟩
  ·exact (hs.2 b (Nat.ne_of_lt (Nat.lt_of_lt_of_le (Heap.lt_size e) (I.ok.cab x c hfn hc)))).trans (I.base.keep b o e n hb hx)
  ·obtain ⟨sl, e1⟩ := I.base.slot b o e n hb hx
   exact ⟨sl, (hs.2 b (Nat.ne_of_lt (Nat.lt_of_lt_of_le (Heap.lt_size e) (I.ok.cab x c hfn hc)))).trans e1⟩
  ·obtain ⟨o', e1⟩ := I.base.there b o e hx
   exact ⟨o', (hs.2 b (Nat.ne_of_lt (Nat.lt_of_lt_of_le (Heap.lt_size e) (I.ok.cab x c hfn hc)))).trans e1⟩
  ·by_cases hj : j = i
   ·subst hj
    rw [hi] at e1; cases e1
    rw [List.getElem?_set_self hiσ] at e2
    cases e2
    exact ⟨u, r, .inr ⟨.inl hk, c, hc, hc'⟩⟩
   ·rw [List.getElem?_set_ne (Ne.symm hj)] at e2
    obtain ⟨u', r', q⟩ := hl j y v' e1 e2 e3
    refine ⟨u', r', ?_⟩
    rcases q with q | ⟨k, c', e, z'⟩
    ·exact .inl q
    ·refine .inr ⟨k, c', e, z'.sameBut hs ?_⟩
     rintro rfl
     exact hj (kC hN e1 (I.ok.inj _ _ _ e hc ▸ hi))
  ·by_cases hcc : c' = c
   ·subst hcc; exact ⟨_, hc'⟩
   ·obtain ⟨w2, z2⟩ := I.cell y c' e
    exact ⟨w2, z2.sameBut hs hcc⟩
  ·obtain ⟨e, n, ne, nf, d⟩ := I.pin p hp
   refine ⟨(hs.2 p.1 ?_).trans e, n, ne, nf, d⟩
   intro q
   rw [q, hoc] at e
   have q' : oc = p.2 := Option.some.inj e
   exact d w' (by rw [<- q']; exact hocd)
theorem fk {M : Model} {A : Around} {E : Value -> Shared -> Prop} {i : Nat} {x : Str} {v : V} {u : Value} {Q : Unit -> Shared -> Prop} (I : Inv X pins σ H s) (hN : X.N.Nodup) (hi : X.N[i]? = some x) (hx : Loc X.env.scope x) (r : RelV v u)
  (h : ∀ s', Inv X pins (σ.set i (some v)) H s' -> Q () s') (hf : X.fn x = true \/ X.env.scope.names.lookup x = some .local := by first | exact .inl rfl | exact .inr rfl | assumption) : wpAny M A (storeName X.env x u) Q E s :=
 sX I hN hi hx r (fun s' I' _ => h s' I') hf
theorem Inv.call' {s' : Shared} {ch : List Addr} (I : Inv X pins σ H s) (ho : s'.os = s.os) (u : Un (frs X.stack) ch H H' s.heap s'.heap) (hok : HOk X.prog X.w H' s'.heap) (hg : AllBare s'.gens)
  (hch : ∀ b ∈ ch, (b ∈ X.ex \/ X.s₀.heap.objs.size <= b) /\ b ≠ X.env.locals /\ (∀ x c, X.env.cells.lookup x = some c -> c ≠ b) /\ ∀ p ∈ X.pn ++ pins, p.1 ≠ b) : Inv X pins σ H' s' := by
 obtain ⟨h', g', d', t', o'⟩ := s'
 have e : o' = s.os := ho
 subst e
 exact I.call (g' := g') (t' := t') (d' := d') u hok hg hch
end
abbrev XK := Value -> Option Addr -> Hp -> Prop
abbrev St := List (Option V)
abbrev VK := V -> Hp -> Prop
abbrev TE := St -> Hp -> VK -> Prop
abbrev TT := St -> Hp -> (Bool -> Hp -> Prop) -> Prop
abbrev TA := St -> Hp -> (List V -> Hp -> Prop) -> Prop
structure Ends where
 nx : St -> Hp -> Prop
 rt : VK
 bk : St -> Hp -> Prop := fun _ _ => False
 ct : St -> Hp -> Prop := fun _ _ => False
abbrev TS := Ends -> St -> Hp -> Prop
noncomputable def EP (X : Cx) (pins : List (Addr × Obj)) (σ : St) (Q : VK) (u : Value) (s' : Shared) : Prop := ∃ v H', Inv X pins σ H' s' /\ RelV v u /\ Q v H'
noncomputable def TP (X : Cx) (pins : List (Addr × Obj)) (σ : St) (Q : Bool -> Hp -> Prop) (b : Bool) (s' : Shared) : Prop := ∃ H', Inv X pins σ H' s' /\ Q b H'
noncomputable def AP (X : Cx) (pins : List (Addr × Obj)) (σ : St) (Q : List V -> Hp -> Prop) (us : List Value) (s' : Shared) : Prop := ∃ vs H', Inv X pins σ H' s' /\ Vals vs us /\ Q vs H'
noncomputable def SP (X : Cx) (pins : List (Addr × Obj)) (D : Ends) (f : Flow) (s' : Shared) : Prop :=
 match f with
 | .next => ∃ σ' H', Inv X pins σ' H' s' /\ D.nx σ' H'
 | .brk => ∃ σ' H', Inv X pins σ' H' s' /\ D.bk σ' H'
 | .cont => ∃ σ' H', Inv X pins σ' H' s' /\ D.ct σ' H'
 | .ret u => ∃ v σ' H', Inv X pins σ' H' s' /\ RelV v u /\ D.rt v H'
noncomputable def PE (X : Cx) (e : Expr) (t : TE) : Prop :=
 ∀ (pins : List (Addr × Obj)) (s : Shared) (σ : St) (H : Hp) (Q : VK), Inv X pins σ H s -> t σ H Q -> wpAny (model X.prog X.w) X.A (eval e X.env) (EP X pins σ Q) X.xe s
noncomputable def PT (X : Cx) (e : Expr) (t : TT) : Prop :=
 ∀ (pins : List (Addr × Obj)) (s : Shared) (σ : St) (H : Hp) (Q : Bool -> Hp -> Prop), Inv X pins σ H s -> t σ H Q -> wpAny (model X.prog X.w) X.A (isTrue e X.env (eval e X.env)) (TP X pins σ Q) X.xe s
noncomputable def PW (X : Cx) (e : Expr) (t : TT) : Prop :=
 ∀ (whole : Sem Value) (pins : List (Addr × Obj)) (s : Shared) (σ : St) (H : Hp) (Q : Bool -> Hp -> Prop), Inv X pins σ H s -> t σ H Q -> wpAny (model X.prog X.w) X.A (isTrue e X.env whole) (TP X pins σ Q) X.xe s
theorem PW.pt {X : Cx} {e : Expr} {t : TT} (h : PW X e t) : PT X e t := h _
noncomputable def PA (X : Cx) (es : List Expr) (t : TA) : Prop :=
 ∀ (pos : Pos) (pins : List (Addr × Obj)) (s : Shared) (σ : St) (H : Hp) (Q : List V -> Hp -> Prop), Inv X pins σ H s -> t σ H Q -> wpAny (model X.prog X.w) X.A (spliced (backTo pos (starEach es X.env))) (AP X pins σ Q) X.xe s
noncomputable def PS (X : Cx) (st : Stmt) (t : TS) : Prop :=
 ∀ (pins : List (Addr × Obj)) (s : Shared) (σ : St) (H : Hp) (D : Ends), Inv X pins σ H s -> t D σ H -> wpAny (model X.prog X.w) X.A (exec st X.env) (SP X pins D) X.xe s
noncomputable def PSs (X : Cx) (st : List Stmt) (t : TS) : Prop :=
 ∀ (pins : List (Addr × Obj)) (s : Shared) (σ : St) (H : Hp) (D : Ends), Inv X pins σ H s -> t D σ H -> wpAny (model X.prog X.w) X.A (execs st X.env) (SP X pins D) X.xe s
theorem thn {α : Type} {t : Sem α} {Q Q' : α -> Shared -> Prop} {M : Model} {A : Around} {E : Value -> Shared -> Prop} {s : Shared} (h : wpAny M A t Q E s) (hQ : ∀ a s, Q a s -> Q' a s) : wpAny M A t Q' E s := wpAny_mono h hQ fun _ _ x => x
end L2
namespace L2
open PySem PySem.Spec PyProof.Rows
section
variable {X : Cx}
noncomputable def tVar (i : Nat) : TE := fun σ H Q => ∃ v, σ[i]? = some (some v) /\ Q v H
noncomputable def tC (v : V) : TE := fun _ H Q => Q v H
theorem zX {i : Nat} {x : Str} {pos : Pos} (hN : X.N[i]? = some x) (hv : Vis X.env.scope x) (hd : (x == ("__debug__" : Str)) = false := by decide) (hcd : (x == ("__classdict__" : Str)) = false := by decide) : PE X (.Name x pos) (tVar i) := by
 intro pins s σ H Q I h
 obtain ⟨v, e, h⟩ := h
 obtain ⟨m, hn, hl⟩ := I.loc
 obtain ⟨u, r, l⟩ := hl i x v hN e hv
 have fin : EP X pins σ Q u s := ⟨v, H, I, r, h⟩
 rcases l with ⟨hk, hm⟩ | ⟨hk, c, hc, hcell⟩
 ·exact wpAny_Name (wpAny_loadName_local I.ok.kind hk hn hm fin) hd
 ·rcases hk with hk | hk
  ·exact wpAny_Name (wpAny_loadName_cell I.ok.kind hk hc hcell fin) hd
  ·exact wpAny_Name (wpAny_loadName_free I.ok.kind hk hc hcell fin hcd) hd
theorem Cp {i j pos} : PE X (.Constant (.int i) j pos) (tC (.int i)) := fun _ _ _ H _ I h => wpAny_Constant_int ⟨.int i, H, I.tok _, ⟨_, rfl⟩, h⟩
theorem D2 {b j pos} : PE X (.Constant (.bool b) j pos) (tC (.bl b)) := fun _ _ _ H _ I h => Constant_bool ⟨.bl b, H, I, rfl, h⟩
theorem Cf {j pos} : PE X (.Constant .none j pos) (tC .non) := fun _ _ _ H _ I h => Constant_none ⟨.non, H, I, rfl, h⟩
theorem Cm {x j pos} : PE X (.Constant (.str x) j pos) (tC (.str x)) := fun _ _ _ H _ I h => Calls.Constant_str ⟨.str x, H, I.tok _, ⟨_, rfl⟩, h⟩
noncomputable def Gl (X : Cx) (x : Str) : Prop := X.env.kindOf x = some .globalImplicit
theorem mz {E : Value -> Shared -> Prop} {pins : List (Addr × Obj)} {s : Shared} {σ : St} {H : Hp} {x : Str} {u : Value} {pos : Pos} {Q : Value -> Shared -> Prop} (I : Inv X pins σ H s) (hg : Gl X x) (hm : X.mg x = some u) (h : Q u s)
  (hd : (x == ("__debug__" : Str)) = false := by decide) : wpAny (model X.prog X.w) X.A (eval (.Name x pos) X.env) Q E s :=
 Calls.Name_function_global I.ok.kind hg (Calls.loadGlobal_global (by rw [I.ok.glob]; exact I.mod.glob.keeps I.bk) hm h) hd
theorem kQ {E : Value -> Shared -> Prop} {pins : List (Addr × Obj)} {s : Shared} {σ : St} {H : Hp} {x : Str} {u : Value} {pos : Pos} {Q : Value -> Shared -> Prop} (I : Inv X pins σ H s) (hg : Gl X x) (hm : X.mg x = none) (hv : bootBuiltins x = some u) (h : Q u s)
  (hn : x ≠ "__name__" := by decide) (hd : (x == ("__debug__" : Str)) = false := by decide) : wpAny (model X.prog X.w) X.A (eval (.Name x pos) X.env) Q E s := by
 obtain ⟨mb, h1, h2⟩ := I.mod.blt
 exact Calls.Name_function_global I.ok.kind hg (Calls.loadGlobal_builtin (by rw [I.ok.glob]; exact I.mod.glob.keeps I.bk) hm (by rw [I.ok.blt]; exact h1.keeps I.bk) ((h2 x hn).trans hv) h) hd
theorem qz {x : Str} {v : V} {u : Value} {pos : Pos} (hg : Gl X x) (hm : X.mg x = some u) (r : RelV v u) (hd : (x == ("__debug__" : Str)) = false := by decide) : PE X (.Name x pos) (tC v) :=
 fun _ _ _ H _ I h => mz I hg hm ⟨v, H, I, r, h⟩ hd
theorem xG {x : Str} {v : V} {u : Value} {pos : Pos} (hg : Gl X x) (hm : X.mg x = none) (hv : bootBuiltins x = some u) (r : RelV v u) (hn : x ≠ "__name__" := by decide) (hd : (x == ("__debug__" : Str)) = false := by decide) : PE X (.Name x pos) (tC v) :=
 fun _ _ _ H _ I h => kQ I hg hm hv ⟨v, H, I, r, h⟩ hn hd
variable {a b : Expr} {ta tb : TE} {pos : Pos}
noncomputable def tB (t : TE) : TT := fun σ H Q => t σ H fun x H1 => ∃ c, x = .bl c /\ Q c H1
theorem BD {e : Expr} {t : TE} (h : PE X e t) (he : ∀ whole, isTrue e X.env whole = (do let v <- whole; standAt e.pos; holding [v] (truthy v)) := by intro _; rfl) : PT X e (tB t) := by
 intro pins s σ H Q I hw
 refine isTrue_plain (thn (h pins s σ H _ I hw) fun v s1 ⟨x, H1, I1, r1, q1⟩ => ?_) (he _)
 obtain ⟨d, rfl, q⟩ := q1
 cases r1
 exact wpAny_truthy_bool ⟨H1, I1, q⟩
variable {tA tB' : TT} {gL : List Expr}
noncomputable def tAnd (t u : TT) : TT := fun σ H Q => t σ H fun c H1 => if c = true then u σ H1 Q else Q false H1
noncomputable def tOr (t u : TT) : TT := fun σ H Q => t σ H fun c H1 => if c = true then Q true H1 else u σ H1 Q
noncomputable def tNot (t : TT) : TT := fun σ H Q => t σ H fun c H1 => Q (!c) H1
theorem yE (ha : PT X a tA) : PW X (.BoolOp .And [a] pos) tA := by
 intro wh pins s σ H Q I h
 refine isTrue_and (thn (ha pins s σ H Q I h) fun c s1 e => ?_)
 cases c with
 | true => exact isTrue_and_nil e
 | false => exact e
theorem y9 (ha : PT X a tA) : PW X (.BoolOp .Or [a] pos) tA := by
 intro wh pins s σ H Q I h
 refine isTrue_or (thn (ha pins s σ H Q I h) fun c s1 e => ?_)
 cases c with
 | false => exact isTrue_or_nil e
 | true => exact e
theorem Bw (ha : PT X a tA) (hb : PW X (.BoolOp .And (b :: gL) pos) tB') : PW X (.BoolOp .And (a :: b :: gL) pos) (tAnd tA tB') := by
 intro wh pins s σ H Q I h
 refine isTrue_and (thn (ha pins s σ H _ I h) fun c s1 ⟨H1, I1, q1⟩ => ?_)
 cases c with
 | true => exact hb wh pins s1 σ H1 Q I1 q1
 | false => exact ⟨H1, I1, q1⟩
theorem CS (ha : PT X a tA) (hb : PW X (.BoolOp .Or (b :: gL) pos) tB') : PW X (.BoolOp .Or (a :: b :: gL) pos) (tOr tA tB') := by
 intro wh pins s σ H Q I h
 refine isTrue_or (thn (ha pins s σ H _ I h) fun c s1 ⟨H1, I1, q1⟩ => ?_)
 cases c with
 | true => exact ⟨H1, I1, q1⟩
 | false => exact hb wh pins s1 σ H1 Q I1 q1
theorem Cr (ha : PT X a tA) : PT X (.UnaryOp .Not a pos) (tNot tA) := by
 intro pins s σ H Q I h
 exact isTrue_not (ha pins s σ H (fun c H1 => Q (!c) H1) I h)
noncomputable def C0 (ta tb : TE) : TE := fun σ H Q => ta σ H fun x H1 => ∃ c, x = .bl c /\ if c = true then tb σ H1 Q else Q (.bl false) H1
noncomputable def Eu (ta : TE) : TE := fun σ H Q => ta σ H fun x H1 => ∃ c, x = .bl c /\ Q (.bl (!c)) H1
theorem zx {op} {t : TE} (h : PE X a t) : PE X (.BoolOp op [a] pos) t := fun pins s σ H Q I hw => BoolOp_one (h pins s σ H Q I hw)
theorem Bc (ha : PE X a ta) (hb : PE X (.BoolOp .And (b :: gL) pos) tb) : PE X (.BoolOp .And (a :: b :: gL) pos) (C0 ta tb) := by
 intro pins s σ H Q I h
 refine BoolOp_and (thn (ha pins s σ H _ I h) fun v s1 ⟨x, H1, I1, r1, q1⟩ => ?_)
 obtain ⟨c, rfl, q1⟩ := q1
 cases r1
 refine wpAny_truthy_bool ?_
 cases c with
 | true => exact hb pins s1 σ H1 Q I1 q1
 | false => exact ⟨.bl false, H1, I1, rfl, q1⟩
theorem zI (ha : PE X a ta) : PE X (.UnaryOp .Not a pos) (Eu ta) := by
 intro pins s σ H Q I h
 refine UnaryOp_ (thn (ha pins s σ H _ I h) fun v s1 ⟨x, H1, I1, r1, q1⟩ => ?_)
 obtain ⟨c, rfl, q1⟩ := q1
 cases r1
 exact not_of (wpAny_truthy_bool ⟨.bl (!c), H1, I1, rfl, q1⟩)
noncomputable def tIf (t : TT) (ta tb : TE) : TE := fun σ H Q => t σ H fun c H1 => if c = true then ta σ H1 Q else tb σ H1 Q
theorem v7 {c : Expr} (hc : PT X c tA) (ha : PE X a ta) (hb : PE X b tb) : PE X (.IfExp c a b pos) (tIf tA ta tb) := by
 intro pins s σ H Q I h
 refine wpAny_IfExp (thn (hc pins s σ H _ I h) fun d s1 ⟨H1, I1, q1⟩ => ?_)
 cases d with
 | true => exact ha pins s1 σ H1 Q I1 q1
 | false => exact hb pins s1 σ H1 Q I1 q1
end
end L2
namespace L2
open PySem PySem.Spec PyProof.Rows
noncomputable def SqL (K : PySem.W.Frag) (H : Hp) (a : Addr) (xs : List V) : Prop :=
 Rd H a (.lst xs) \/
  ∃ (o : Obj) (its : Array Value) (n : Nat), K.lookup a = some o /\ o.cls = .type "list" /\ o.dict = none /\ o.data = .seq its n /\ its.size <= sizeLine /\ Vals xs its.toList
noncomputable def SqT (K : PySem.W.Frag) (H : Hp) (a : Addr) (xs : List V) : Prop :=
 Rd H a (.tup xs) \/
  ∃ (o : Obj) (its : Array Value) (n : Nat), K.lookup a = some o /\ o.cls = .type "tuple" /\ o.data = .seq its n /\ its.size <= sizeLine /\ Vals xs its.toList
noncomputable def absV : Value -> Option V
 | .none => some .non
 | .bool b => some (.bl b)
 | .int i _ => some (.int i)
 | .str x _ => some (.str x)
 | .bytes b _ => some (.byt b)
 | .float b _ => some (.flt b)
 | .ref a => some (.ref a)
 | .type n => some (.ty n)
 | _ => none
theorem RelV.abs {x : V} {u : Value} (r : RelV x u) : absV u = some x := by
 cases x with
 | non => cases r; rfl
 | bl _ => cases r; rfl
 | int _ => obtain ⟨t, rfl⟩ := r; rfl
 | str _ => obtain ⟨t, rfl⟩ := r; rfl
 | byt _ => obtain ⟨t, rfl⟩ := r; rfl
 | flt _ => obtain ⟨t, rfl⟩ := r; rfl
 | ref _ => cases r; rfl
 | ty _ => cases r; rfl
theorem RelV.inj {x y : V} {u : Value} (r : RelV x u) (q : RelV y u) : x = y := Option.some.inj (r.abs.symm.trans q.abs)
theorem Vals.inj {xs ys : List V} {us : List Value} (r : Vals xs us) (q : Vals ys us) : xs = ys := by
 induction r generalizing ys with
 | nil => cases q; rfl
 |
  cons r t ih =>
  cases q with
  | cons q t' => rw [r.inj q, ih t']
section
variable {X : Cx} {pins : List (Addr × Obj)} {σ : St} {H : Hp} {s : Shared} {a : Addr} {xs ys : List V}
theorem SqL.of {K : PySem.W.Frag} (h : H a = some (.lst xs)) : SqL K H a xs := .inl (.inl h)
theorem SqT.of {K : PySem.W.Frag} (h : H a = some (.tup xs)) : SqT K H a xs := .inl (.inl h)
theorem Inv.list (I : Inv X pins σ H s) (h : SqL X.K H a xs) : ∃ its : List Value, Vals xs its /\ PlainL s.heap a its.toArray /\ xs.length <= sizeLine := by
 rcases h with h | ⟨o, its, n, hk, hc, hd, hs, hz, r⟩
 ·obtain ⟨z, its, n, r, e⟩ := h.ok I.hok
  exact ⟨its, r, ⟨_, n, e, rfl, rfl, rfl⟩, z⟩
 ·refine ⟨its.toList, r, ⟨o, n, I.kIn a o hk, hc, hd, by simpa using hs⟩, ?_⟩
  have e := r.length
  simp only [Array.length_toList] at e
  omega
theorem Inv.tuple (I : Inv X pins σ H s) (h : SqT X.K H a xs) : ∃ its : List Value, Vals xs its /\ IsTup s.heap a its.toArray /\ xs.length <= sizeLine := by
 rcases h with h | ⟨o, its, n, hk, hc, hs, hz, r⟩
 ·obtain ⟨z, its, r, p⟩ := h.ok I.hok
  exact ⟨its, r, p, z⟩
 ·refine ⟨its.toList, r, ⟨o, I.kIn a o hk, hc, n, by simpa using hs⟩, ?_⟩
  have e := r.length
  simp only [Array.length_toList] at e
  omega
theorem Inv.list_inj (I : Inv X pins σ H s) (h : SqL X.K H a xs) (h' : SqL X.K H a ys) : xs = ys := by
 obtain ⟨its, r, ⟨o, n, e, _, _, d⟩, _⟩ := I.list h
 obtain ⟨its', r', ⟨o', n', e', _, _, d'⟩, _⟩ := I.list h'
 rw [e] at e'; cases e'
 rw [d] at d'
 injection d' with d1 _
 have : its = its' := by simpa using congrArg Array.toList d1
 subst this
 exact r.inj r'
theorem Inv.tuple_inj (I : Inv X pins σ H s) (h : SqT X.K H a xs) (h' : SqT X.K H a ys) : xs = ys := by
 obtain ⟨its, r, ⟨o, e, _, n, d⟩, _⟩ := I.tuple h
 obtain ⟨its', r', ⟨o', e', _, n', d'⟩, _⟩ := I.tuple h'
 rw [e] at e'; cases e'
 rw [d] at d'
 injection d' with d1 _
 have : its = its' := by simpa using congrArg Array.toList d1
 subst this
 exact r.inj r'
end
section
variable {X : Cx} {pins : List (Addr × Obj)} {σ : St} {H : Hp} {s : Shared} {E : Value -> Shared -> Prop}
end
section
variable {X : Cx} {st : Stmt} {gL : List Stmt} {t u : TS} {e : Expr} {te : TE} {pos : Pos}
noncomputable def CZ : TS := fun D σ H => D.nx σ H
noncomputable def tSeq (t u : TS) : TS := fun D σ H => t { D with nx := u D } σ H
theorem yk : PSs X [] CZ := fun _ _ σ H _ I h => wpAny_execs_nil ⟨σ, H, I, h⟩
theorem u6 (h1 : PS X st t) (h2 : PSs X gL u) : PSs X (st :: gL) (tSeq t u) := by
 intro pins s σ H D I h
 refine wpAny_execs_cons (thn (h1 pins s σ H { D with nx := u D } I h) fun f s1 q => ?_)
 cases f with
 |
  next =>
  obtain ⟨σ', H', I', q⟩ := q
  exact h2 pins s1 σ' H' D I' q
 | ret v => exact q
 | brk => exact q
 | cont => exact q
theorem xy (h1 : PS X st t) : PSs X [st] t := by
 intro pins s σ H D I h
 refine wpAny_execs_cons (thn (h1 pins s σ H D I h) fun f s1 q => ?_)
 cases f with
 | next => exact wpAny_execs_nil q
 | ret v => exact q
 | brk => exact q
 | cont => exact q
theorem Inv.quiet {pins : List (Addr × Obj)} {σ : St} {H : Hp} {s : Shared} (I : Inv X pins σ H s) : interactive X.env = false := by simp [interactive, I.ok.kind]
noncomputable def Ey (te : TE) : TS := fun D σ H => te σ H fun _ H1 => D.nx σ H1
theorem x9 (he : PE X e te) (hs : swapsWith e none pos.line X.env = pure false := by rfl) : PS X (.Expr e pos) (Ey te) := by
 intro pins s σ H D I h
 exact wpAny_Expr_any (thn (he pins s σ H _ I h) fun v s1 ⟨x, H1, I1, r1, q1⟩ => ⟨σ, H1, I1, q1⟩) I.quiet hs
noncomputable def tRet (te : TE) : TS := fun D σ H => te σ H D.rt
theorem AY (he : PE X e te) : PS X (.Return (some e) pos) (tRet te) := by
 intro pins s σ H D I h
 exact wpAny_Return_some (thn (he pins s σ H _ I h) fun v s1 ⟨x, H1, I1, r1, q1⟩ => ⟨x, σ, H1, I1, r1, q1⟩)
noncomputable def tIfS (c : TT) (t u : TS) : TS := fun D σ H => c σ H fun b H1 => if b = true then t D σ H1 else u D σ H1
theorem DN {c : Expr} {a b : List Stmt} {tc : TT} (hc : PT X c tc) (ha : PSs X a t) (hb : PSs X b u) : PS X (.If c a b pos) (tIfS tc t u) := by
 intro pins s σ H D I h
 refine wpAny_If (thn (hc pins s σ H _ I h) fun d s1 ⟨H1, I1, q1⟩ => ?_)
 cases d with
 | true => exact ha pins s1 σ H1 D I1 q1
 | false => exact hb pins s1 σ H1 D I1 q1
end
abbrev TG := V -> St -> Hp -> (St -> Hp -> Prop) -> Prop
abbrev TGs := List V -> St -> Hp -> (St -> Hp -> Prop) -> Prop
noncomputable def PG (X : Cx) (target : Expr) (t : TG) : Prop :=
 ∀
  (pins : List (Addr × Obj)) (s : Shared) (σ : St) (H : Hp) (v : V) (u : Value) (Q : St -> Hp -> Prop), Inv X pins σ H s -> RelV v u -> t v σ H Q ->
  wpAny (model X.prog X.w) X.A (assign target X.env u) (fun _ s' => ∃ σ' H', Inv X pins σ' H' s' /\ Q σ' H') X.xe s
noncomputable def PGs (X : Cx) (ts : List Expr) (t : TGs) : Prop :=
 ∀
  (pins : List (Addr × Obj)) (s : Shared) (σ : St) (H : Hp) (vs : List V) (us : List Value) (Q : St -> Hp -> Prop), Inv X pins σ H s -> Vals vs us -> t vs σ H Q ->
  wpAny (model X.prog X.w) X.A (assignInOrder ((assignEach ts X.env).map (·.2)) us) (fun _ s' => ∃ σ' H', Inv X pins σ' H' s' /\ Q σ' H') X.xe s
abbrev mj := V -> V -> V -> Hp -> (Hp -> Prop) -> Prop
noncomputable def so (X : Cx) (t : mj) : Prop :=
 ∀
  (pins : List (Addr × Obj)) (s : Shared) (σ : St) (H : Hp) (o i v : V) (ov iv u : Value) (Q : Hp -> Prop), Inv X pins σ H s -> RelV o ov -> RelV i iv -> RelV v u -> t o i v H Q ->
  wpAny (model X.prog X.w) X.A (setItem ov iv u) (fun _ s' => ∃ H', Inv X pins σ H' s' /\ Q H') X.xe s
abbrev TIp := V -> V -> Hp -> VK -> Prop
noncomputable def PIp (X : Cx) (op : Operator) (t : TIp) : Prop :=
 ∀
  (pins : List (Addr × Obj)) (s : Shared) (σ : St) (H : Hp) (x y : V) (v u : Value) (Q : VK), Inv X pins σ H s -> RelV x v -> RelV y u -> t x y H Q ->
  wpAny (model X.prog X.w) X.A (inplaceOp op v u) (EP X pins σ Q) X.xe s
section
variable {X : Cx} {pos : Pos}
noncomputable def wH (i : Nat) : TG := fun v σ H Q => Q (σ.set i (some v)) H
theorem xq {i : Nat} {x : Str} (hN : X.N.Nodup) (hi : X.N[i]? = some x) (hx : Loc X.env.scope x) (hf : X.fn x = true \/ X.env.scope.names.lookup x = some .local := by first | exact .inl rfl | exact .inr rfl | assumption) : PG X (.Name x pos) (wH i) := by
 intro pins s σ H v u Q I r h
 exact wpAny_assign_Name (fk I hN hi hx r (fun s' I' => ⟨_, H, I', h⟩) hf)
noncomputable def gNil : TGs := fun vs σ H Q => vs = [] /\ Q σ H
noncomputable def CP (t : TG) (u : TGs) : TGs := fun vs σ H Q => ∃ v r, vs = v :: r /\ t v σ H fun σ' H' => u r σ' H' Q
theorem yR : PGs X [] gNil := by
 intro pins s σ H vs us Q I r h
 obtain ⟨e, h⟩ := h
 subst e
 cases r
 exact assignInOrder_nil ⟨σ, H, I, h⟩
theorem vw {e : Expr} {es : List Expr} {t : TG} {u : TGs} (h1 : PG X e t) (h2 : PGs X es u)
  (hs : (assignEach (e :: es) X.env).map (·.2) = assign e X.env :: (assignEach es X.env).map (·.2) := by rfl) : PGs X (e :: es) (CP t u) := by
 intro pins s σ H vs us Q I r h
 obtain ⟨v, vr, e1, h⟩ := h
 subst e1
 cases r with
 |
  cons r rr =>
  rw [hs]
  refine assignInOrder_cons (thn (h1 pins s σ H _ _ _ I r h) fun _ s1 ⟨σ1, H1, I1, q1⟩ => ?_)
  exact h2 pins s1 σ1 H1 _ _ Q I1 rr q1
noncomputable def gTup (K : PySem.W.Frag) (n : Nat) (t : TGs) : TG := fun v σ H Q => ∃ a xs, v = .ref a /\ SqT K H a xs /\ xs.length = n /\ t xs σ H Q
theorem zD {es : List Expr} {k : Nat} {t : TGs} {n : Nat} (hc : X.calm = true) (h : PGs X es t)
  (hn : (assignEach es X.env).length = n := by rfl) (hst : (assignEach es X.env).findIdx? (·.1) = none := by rfl) : PG X (.Tuple es k pos) (gTup X.K n t) := by
 intro pins s σ H v u Q I r hw
 obtain ⟨a, xs, e1, hq, hl, hw⟩ := hw
 subst e1
 cases r
 obtain ⟨its, rv, ht, hz⟩ := I.tuple hq
 refine assign_Tuple_tuple (I.ok.hd hc) ht (by simp [hn, <- hl, rv.length]) hst fun h' hx => ?_
 have I1 : Inv X pins σ H { s with heap := h' } := I.kept (t' := s.toks) fun b o e => hx b o (Nat.ne_of_lt (Heap.lt_size e)) e
 exact h pins _ σ H xs _ Q I1 (by simpa using rv) hw
noncomputable def gSub (to ti : TE) (t : mj) : TG := fun v σ H Q => to σ H fun o H1 => ti σ H1 fun i H2 => t o i v H2 fun H3 => Q σ H3
theorem Bo {o i : Expr} {to ti : TE} {t : mj} (ho : PE X o to) (hi : PE X i ti) (hs : so X t)
  (ha : ∀ v, assign (.Subscript o i pos) X.env v = (do
   let ov <- holding [v] (eval o X.env)
   let iv <- holding [v, ov] (eval i X.env)
   standAt pos
   holding [v, ov, iv] (setItem ov iv v)
   release [v, ov, iv] []) := by intro _; rfl) : PG X (.Subscript o i pos) (gSub to ti t) := by
 intro pins s σ H v u Q I r h
 rw [ha]
 refine wpAny_bind (wpAny_holding (thn (ho pins s σ H _ I h) fun ov s1 ⟨x, H1, I1, r1, q1⟩ => ?_))
 refine wpAny_bind (wpAny_holding (thn (hi pins s1 σ H1 _ I1 q1) fun iv s2 ⟨y, H2, I2, r2, q2⟩ => ?_))
 refine wpAny_bind (wpAny_standAt (wpAny_bind (wpAny_holding (thn (hs pins s2 σ H2 x y v ov iv u _ I2 r1 r2 r q2) fun _ s3 ⟨H3, I3, q3⟩ => ?_))))
 exact wpAny_release ⟨σ, H3, I3, q3⟩
noncomputable def tAsg (te : TE) (g : TG) : TS := fun D σ H => te σ H fun x H1 => g x σ H1 D.nx
theorem Bd {tg e : Expr} {te : TE} {g : TG} (he : PE X e te) (hg : PG X tg g) (hs : swapsWithSole [tg] e pos.line X.env = pure false := by rfl) (hw : swappedStores [tg] e X.env = pure none := by rfl)
  (h1 : (assignEach [tg] X.env).map (·.2) = [assign tg X.env] := by rfl) : PS X (.Assign [tg] e pos) (tAsg te g) := by
 intro pins s σ H D I h
 refine wpAny_Assign_stores (thn (he pins s σ H _ I h) fun v s1 ⟨x, H1, I1, r1, q1⟩ => ?_) hs hw
 rw [h1]
 exact thn (hg pins s1 σ H1 x v _ I1 r1 q1) fun _ s2 q => q
theorem zo {i : Nat} {x : Str} {e : Expr} {te : TE} {pos' : Pos} (hN : X.N.Nodup) (hi : X.N[i]? = some x) (hx : Loc X.env.scope x) (he : PE X e te) (hs : swapsWith e (some (.Name x pos')) pos.line X.env = pure false := by rfl) (hf : X.fn x = true \/ X.env.scope.names.lookup x = some .local := by first | exact .inl rfl | exact .inr rfl | assumption) :
  PS X (.Assign [.Name x pos'] e pos) (tAsg te (wH i)) := by
 intro pins s σ H D I h
 refine wpAny_Assign_Name (thn (he pins s σ H _ I h) fun v s1 ⟨y, H1, I1, r1, q1⟩ => ?_) hs
 exact fk I1 hN hi hx r1 (fun s2 I2 => ⟨_, H1, I2, q1⟩) hf
noncomputable def tPar (i j : Nat) (ta : TA) : TS := fun D σ H => ta σ H fun vs H1 => ∃ v w, vs = [v, w] /\ D.nx ((σ.set i (some v)).set j (some w)) H1
theorem
    BG {i j : Nat} {x y : Str} {a b : Expr} {ta : TA} {px py pt : Pos} {kt k2 pt2} (hc : X.calm = true) (hN : X.N.Nodup) (hi : X.N[i]? = some x) (hj : X.N[j]? = some y) (hij : i ≠ j)
  (hx : X.env.scope.names.lookup x = some .local) (hy : X.env.scope.names.lookup y = some .local) (ha : PA X [a, b] ta)
  (hw : swappedStores [.Tuple [.Name x px, .Name y py] kt pt] (.Tuple [a, b] k2 pt2) X.env = pure (some [x, y]))
  (hs : swapsWithSole [.Tuple [.Name x px, .Name y py] kt pt] (.Tuple [a, b] k2 pt2) pos.line X.env = pure false := by rfl) :
  PS X (.Assign [.Tuple [.Name x px, .Name y py] kt pt] (.Tuple [a, b] k2 pt2) pos) (tPar i j ta) := by
 intro pins s σ H D I h
 rw [exec_Assign_arm]
 refine wpAny_bind (wpAny_standAt ?_)
 rw [hs]
 refine wpAny_bind (wpAny_pure ?_)
 rw [if_neg (by decide)]
 refine wpAny_bind (Tuple_ (thn (ha _ pins s σ H _ I h) fun us s1 ⟨vs, H1, I1, r1, q1⟩ => ?_))
 obtain ⟨v, w, e1, q1⟩ := q1
 subst e1
 obtain ⟨u1, u2, rfl, rv, rw'⟩ : ∃ u1 u2, us = [u1, u2] /\ RelV v u1 /\ RelV w u2 := by
  cases r1 with
  |
   cons p q =>
   cases q with
   |
    cons p' q' =>
    cases q'
    exact ⟨_, _, rfl, p, p'⟩
 refine wpAny_newObj_type ?_ (by show 2 <= sizeLine; decide)
 have I2 : Inv X pins σ H1 { s1 with heap := s1.heap.push { cls := .type "tuple", data := .seq [u1, u2].toArray } } := I1.kept (t' := s1.toks) fun b o e => Heap.get?_push_of_some _ e
 rw [hw]
 refine wpAny_bind (wpAny_pure ?_)
 show wpAny (model X.prog X.w) X.A (do rule "assign.swapped-stores"; let items <- unpackItems (.ref s1.heap.objs.size) 2 none; assignInOrder [fun v => bindName X.env y v, fun v => bindName X.env x v] items.reverse; pure Flow.next) _ _ _
 refine wpAny_bind (wpAny_rule (wpAny_bind (unpackItems_tuple (items := #[u1, u2]) (I.ok.hd hc) (IsTup.new s1.heap _) fun h' hx' => ?_)))
 have I3 := I2.kept (h' := h') (t' := s1.toks) fun b o e => hx' b o (Nat.ne_of_lt (Heap.lt_size e)) e
 show wpAny _ _ (assignInOrder [fun v => bindName X.env y v, fun v => bindName X.env x v] [u2, u1] >>= fun _ => pure Flow.next) _ _ _
 refine wpAny_bind (assignInOrder_cons (wpAny_bindName (fk I3 hN hj (.inl hy) rw' (fun s2 I4 => ?_) (.inr hy))))
 refine assignInOrder_cons (wpAny_bindName (fk I4 hN hi (.inl hx) rv (fun s3 I5 => assignInOrder_nil (wpAny_pure ?_)) (.inr hx)))
 rw [List.set_comm _ _ (Ne.symm hij)] at I5
 exact ⟨_, H1, I5, q1⟩
noncomputable def tAug (i : Nat) (te : TE) (ti : TIp) : TS := fun D σ H => ∃ x, σ[i]? = some (some x) /\ te σ H fun y H1 => ti x y H1 fun z H2 => D.nx (σ.set i (some z)) H2
theorem
    AL {i : Nat} {x : Str} {e : Expr} {te : TE} {op : Operator} {ti : TIp} {pos' : Pos} (hN : X.N.Nodup) (hi : X.N[i]? = some x) (hx : Loc X.env.scope x) (he : PE X e te) (ho : PIp X op ti) (hf : X.fn x = true \/ X.env.scope.names.lookup x = some .local := by first | exact .inl rfl | exact .inr rfl | assumption) :
  PS X (.AugAssign (.Name x pos') op e pos) (tAug i te ti) := by
 intro pins s σ H D I h
 obtain ⟨v, e1, h⟩ := h
 obtain ⟨m, hn, hl⟩ := I.loc
 have vis : Vis X.env.scope x := by rcases hx with k | k; exact .inl k; exact .inr (.inl k)
 obtain ⟨u, r, l⟩ := hl i x v hi e1 vis
 refine wpAny_AugAssign_Name ?_
 have go : wpAny (model X.prog X.w) X.A (eval e X.env) (fun w s₂ => wpAny (model X.prog X.w) X.A (inplaceOp op u w) (fun r s₃ => wpAny (model X.prog X.w) X.A (storeName X.env x r) (fun _ => SP X pins D .next) X.xe s₃) X.xe s₂) X.xe s := by
  refine thn (he pins s σ H _ I h) fun w s1 ⟨y, H1, I1, r1, q1⟩ => ?_
  refine thn (ho pins s1 σ H1 v y u w _ I1 r r1 q1) fun z s2 ⟨zv, H2, I2, r2, q2⟩ => ?_
  exact fk I2 hN hi hx r2 (fun s3 I3 => ⟨_, H2, I3, q2⟩) hf
 rcases l with ⟨hk, hm⟩ | ⟨hk, c, hc, hcell⟩
 ·exact wpAny_loadName_local I.ok.kind hk hn hm go
 ·rcases hk with hk | hk
  ·exact wpAny_loadName_cell I.ok.kind hk hc hcell go
  ·rcases hx with k | k
   ·have : X.env.scope.names.lookup x = some .free := hk
    rw [k] at this; cases this
   ·have : X.env.scope.names.lookup x = some .free := hk
    rw [k] at this; cases this
noncomputable def ipI (f : Int -> Int -> Int) : TIp := fun x y H Q => ∃ i j, x = .int i /\ y = .int j /\ Q (.int (f i j)) H
theorem Bn : PIp X .Add (ipI fun i j => i + j) := by
 intro pins s σ H x y v u Q I r1 r2 h
 obtain ⟨i, j, e1, e2, q⟩ := h
 subst e1; subst e2
 obtain ⟨t, rfl⟩ := r1
 obtain ⟨t', rfl⟩ := r2
 exact iadd_int ⟨.int _, H, I.tok _, ⟨_, rfl⟩, q⟩
end
section
variable {X : Cx} {pos : Pos}
noncomputable def B6 (c : TT) (tb : TS) : TS := fun D σ H => ∃ W : Nat -> St -> Hp -> Prop, (∃ m, W m σ H) /\ ∀ m σ H, W m σ H ->
 c σ H fun b H1 => if b = true then ∃ N : St -> Hp -> Prop, (∀ σ' H', N σ' H' -> ∃ m', m' < m /\ W m' σ' H') /\ tb { D with nx := N, ct := N, bk := D.nx } σ H1 else D.nx σ H1
theorem uO {c : Expr} {body : List Stmt} {tc : TT} {tb : TS} (hp : PassesOwn (model X.prog X.w) X.A X.env X.xe) (hc : PT X c tc) (hb : PSs X body tb) : PS X (.While c body [] pos) (B6 tc tb) := by
 intro pins s σ H D I h
 obtain ⟨W, ⟨m0, w0⟩, turn⟩ := h
 refine wpAny_While (codeAny_whileLoop (fun n s' => ∃ σ' H', Inv X pins σ' H' s' /\ W n σ' H') ?_ m0 ⟨σ, H, I, w0⟩)
 rintro n s1 ⟨σ1, H1, I1, w1⟩
 refine wpAny_passesOwn hp (thn (hc pins s1 σ1 H1 _ I1 (turn n σ1 H1 w1)) fun b s2 ⟨H2, I2, q2⟩ => ?_)
 cases b with
 |
  true =>
  obtain ⟨N, hN, q2⟩ := q2
  rw [if_pos rfl]
  refine wpAny_passesOwn hp (thn (hb pins s2 σ1 H2 _ I2 q2) fun f s3 q3 => ?_)
  cases f with
  |
   next =>
   obtain ⟨σ3, H3, I3, n3⟩ := q3
   obtain ⟨m', hm, w3⟩ := hN σ3 H3 n3
   exact ⟨m', hm, σ3, H3, I3, w3⟩
  |
   cont =>
   obtain ⟨σ3, H3, I3, n3⟩ := q3
   obtain ⟨m', hm, w3⟩ := hN σ3 H3 n3
   exact ⟨m', hm, σ3, H3, I3, w3⟩
  | brk => exact q3
  | ret v => exact q3
 |
  false =>
  rw [if_neg Bool.false_ne_true]
  exact wpAny_execs_nil ⟨σ1, H2, I2, q2⟩
end
structure It where
 go : Nat -> Hp -> Prop
 yld : Nat -> Hp -> V -> Hp -> Prop
 stop : Nat -> Hp -> Prop
noncomputable def kv (X : Cx) (pins : List (Addr × Obj)) (H : Hp) (b : Addr) : Prop :=
 H b = none /\ b ≠ X.env.locals /\ b ∉ X.fs /\ (b ∈ X.ex \/ X.s₀.heap.objs.size <= b) /\ (∀ x c, X.env.cells.lookup x = some c -> c ≠ b) /\ ∀ p ∈ X.pn ++ pins, p.1 ≠ b
theorem Inv.fpOk {X : Cx} {pins : List (Addr × Obj)} {σ : St} {H H' : Hp} {s : Shared} {b : Addr} (I : Inv X pins σ H s) (hb : s.heap.objs.size <= b) (hn : H' b = none) : kv X pins H' b := by
 refine ⟨hn, Nat.ne_of_gt (Nat.lt_of_lt_of_le I.lt hb), I.nofs hb, .inr (Nat.le_trans I.sz hb), fun x c e z => ?_, fun p hp z => ?_⟩
 ·obtain ⟨v, q⟩ := I.cell x c e
  exact absurd (Nat.lt_of_lt_of_le q.lt (by rw [z]; exact hb)) (Nat.lt_irrefl _)
 ·exact absurd (Nat.lt_of_lt_of_le (Heap.lt_size (I.pin p hp).1) (by rw [z]; exact hb)) (Nat.lt_irrefl _)
structure Turn (P : Program) (w : World) (K : PySem.W.Frag) (tg : Expr) (J : It) (fp : List Addr) (it : Addr) (tn : Nat -> Heap -> Prop) : Prop where
 mem : it ∈ fp
 obj : ∀ i h, tn i h -> ∀ b ∈ fp, ∃ o, h.get? b = some o /\ ∀ v, o.data ≠ .cell v
 keep : ∀ i h h', tn i h -> (∀ b ∈ fp, ∀ o, h.get? b = some o -> h'.get? b = some o) -> tn i h'
 item : ∀ (X : Cx), X.prog = P -> X.w = w -> X.K = K -> X.calm = true -> ∀ (i : Nat) (pins : List (Addr × Obj)) (s : Shared) (σ : St) (H : Hp) (E : Value -> Shared -> Prop), Inv X pins σ H s -> (∀ b ∈ fp, kv X pins H b) -> tn i s.heap -> J.go i H ->
  wpAny (model P w) X.A (pyNext (.ref it)) (fun r s1 => ∃ u, r = some u /\
   wpAny (model P w) X.A (letOwnedTupleGo tg (.ref it) u) (fun _ s2 => ∃ x H', Inv X pins σ H' s2 /\ RelV x u /\ J.yld i H x H' /\ tn (i + 1) s2.heap /\ ∀ b ∈ fp, H' b = none) E s1) E s
 done : ∀ (X : Cx), X.prog = P -> X.w = w -> X.K = K -> X.calm = true -> ∀ (i : Nat) (pins : List (Addr × Obj)) (s : Shared) (σ : St) (H : Hp) (E : Value -> Shared -> Prop), Inv X pins σ H s -> (∀ b ∈ fp, kv X pins H b) -> tn i s.heap -> J.stop i H ->
  wpAny (model P w) X.A (pyNext (.ref it)) (fun r s1 => r = none /\ Inv X pins σ H s1) E s
 self : ∀ (A : Around) (i : Nat) (s : Shared) (Q : Value -> Shared -> Prop) (E : Value -> Shared -> Prop), tn i s.heap -> Q (.ref it) s -> wpAny (model P w) A (pyIter (.ref it)) Q E s
abbrev TI := St -> Hp -> (It -> Hp -> Prop) -> Prop
noncomputable def PIE (X : Cx) (pins : List (Addr × Obj)) (σ : St) (tg : Expr) (R : It -> Hp -> Prop) (itv : Value) (s2 : Shared) : Prop :=
 ∃ (it : Addr) (fp : List Addr) (tn : Nat -> Heap -> Prop) (J : It) (H' : Hp), itv = .ref it /\ Inv X pins σ H' s2 /\ Turn X.prog X.w X.K tg J fp it tn /\ tn 0 s2.heap /\ (∀ b ∈ fp, kv X pins H' b) /\ R J H'
noncomputable def PI (X : Cx) (tg iter : Expr) (wi : TI) : Prop :=
 ∀
  (pins : List (Addr × Obj)) (s : Shared) (σ : St) (H : Hp) (R : It -> Hp -> Prop), Inv X pins σ H s -> wi σ H R ->
  wpAny (model X.prog X.w) X.A (eval iter X.env) (fun v s1 => wpAny (model X.prog X.w) X.A (pyIter v) (PIE X pins σ tg R) X.xe s1) X.xe s
theorem qQ {M : Model} {A : Around} {E : Value -> Shared -> Prop} {s : Shared} {tg : Expr} {it : Addr} {u : Value} {o : Obj} {n : String} {vs : Array Value} {Q : Unit -> Shared -> Prop} (ho : s.heap.get? it = some o) (hc : o.cls = .type n) (hd : o.data = .fields vs)
  (hn : ["enumerate", "zip", "dict_itemiterator", "dict_reverseitemiterator", "odict_iterator", "itertools.zip_longest", "itertools.pairwise"].contains n = false) (hQ : Q () s) : wpAny M A (letOwnedTupleGo tg (.ref it) u) Q E s := by
 unfold letOwnedTupleGo
 cases tg
      <;> first
  | exact wpAny_pure hQ
  | (cases u <;> first
    | exact wpAny_pure hQ
    | (
      refine wpAny_bind (wpAny_load ho ?_)
      rw [hc, hd]
      show wpAny M A (if (["enumerate", "zip", "dict_itemiterator", "dict_reverseitemiterator", "odict_iterator", "itertools.zip_longest", "itertools.pairwise"].contains n && vs[0]? == some (rawInt _)) = true then _ else _) Q E s
      rw [if_neg (by intro h; rw [hn, Bool.false_and] at h; cases h)]
      exact wpAny_pure hQ))
noncomputable def Itl (K : PySem.W.Frag) (a : Addr) : It :=
 ⟨fun i H => ∃ xs x, SqL K H a xs /\ xs[i]? = some x, fun i H x H' => H' = H /\ ∀ xs, SqL K H a xs -> xs[i]? = some x, fun i H => ∃ xs, SqL K H a xs /\ xs.length <= i⟩
noncomputable def Itt (K : PySem.W.Frag) (a : Addr) : It :=
 ⟨fun i H => ∃ xs x, SqT K H a xs /\ xs[i]? = some x, fun i H x H' => H' = H /\ ∀ xs, SqT K H a xs -> xs[i]? = some x, fun i H => ∃ xs, SqT K H a xs /\ xs.length <= i⟩
noncomputable def Itr (lo : Int) (n : Nat) : It := ⟨fun i _ => i < n, fun i H x H' => H' = H /\ x = .int (lo + i), fun i _ => n <= i⟩
theorem sP {P : Program} {w : World} {K : PySem.W.Frag} {tg : Expr} (a it : Addr) : Turn P w K tg (Itl K a) [it] it (fun i h => h.IsListIter it a i) where
 mem := by simp
 obj := fun i h st b hb => by
  have e : b = it := by simpa using hb
  subst e
  obtain ⟨o, e, c, d⟩ := st
  exact ⟨o, e, fun v z => by rw [d] at z; cases z⟩
 keep := fun i h h' st k => st.at fun o e => k it (by simp) o e
 item := by
  intro X hP hw hK hc i pins s σ H E I hf st hg
  subst hP hw hK
  obtain ⟨xs, x, hq, hx⟩ := hg
  obtain ⟨its, rv, p, hz⟩ := I.list hq
  obtain ⟨u, hu, ru⟩ := rv.get hx
  obtain ⟨f0, f1, f2, f3, f4, f5⟩ := hf it (by simp)
  refine wpAny_pyNext_list_item st p.isList (x := u) (by simpa using hu) fun h' st' sb => ?_
  have I1 : Inv X pins σ H { s with heap := h' } := I.turned (t' := s.toks) (fun b o hb e => (sb.2 b hb).trans e) f0 f1 f3 f4 f5
  obtain ⟨o, e, c, d⟩ := id st'
  exact ⟨u, rfl, qQ (s := { s with heap := h' }) e c d (by decide) ⟨x, H, I1, ru, ⟨rfl, fun ys hy => by rw [I.list_inj hy hq]; exact hx⟩, st', fun b hb => (hf b hb).1⟩⟩
 done := by
  intro X hP hw hK hc i pins s σ H E I hf st hg
  subst hP hw hK
  obtain ⟨xs, hq, hx⟩ := hg
  obtain ⟨its, rv, p, hz⟩ := I.list hq
  obtain ⟨f0, f1, f2, f3, f4, f5⟩ := hf it (by simp)
  have hl := rv.length
  exact wpAny_pyNext_list_end (I.ok.hd hc) st p.isList (by simp; omega) fun h' eb => ⟨rfl, I.turned (t' := s.toks) (fun b o hb e => eb b o hb e) f0 f1 f3 f4 f5⟩
 self := fun _ _ _ _ _ st h => wpAny_pyIter_listiter st h
theorem qF {P : Program} {w : World} {K : PySem.W.Frag} {tg : Expr} (a it : Addr) : Turn P w K tg (Itt K a) [it] it (fun i h => h.IsTupleIter it a i) where
 mem := by simp
 obj := fun i h st b hb => by
  have e : b = it := by simpa using hb
  subst e
  obtain ⟨o, e, c, d⟩ := st
  exact ⟨o, e, fun v z => by rw [d] at z; cases z⟩
 keep := fun i h h' st k => st.at fun o e => k it (by simp) o e
 item := by
  intro X hP hw hK hc i pins s σ H E I hf st hg
  subst hP hw hK
  obtain ⟨xs, x, hq, hx⟩ := hg
  obtain ⟨its, rv, p, hz⟩ := I.tuple hq
  obtain ⟨u, hu, ru⟩ := rv.get hx
  obtain ⟨f0, f1, f2, f3, f4, f5⟩ := hf it (by simp)
  refine wpAny_pyNext_tuple_item st (show s.heap.IsTuple a its.toArray from p) (x := u) (by simpa using hu) fun h' st' sb => ?_
  have I1 : Inv X pins σ H { s with heap := h' } := I.turned (t' := s.toks) (fun b o hb e => (sb.2 b hb).trans e) f0 f1 f3 f4 f5
  obtain ⟨o, e, c, d⟩ := id st'
  exact ⟨u, rfl, qQ (s := { s with heap := h' }) e c d (by decide) ⟨x, H, I1, ru, ⟨rfl, fun ys hy => by rw [I.tuple_inj hy hq]; exact hx⟩, st', fun b hb => (hf b hb).1⟩⟩
 done := by
  intro X hP hw hK hc i pins s σ H E I hf st hg
  subst hP hw hK
  obtain ⟨xs, hq, hx⟩ := hg
  obtain ⟨its, rv, p, hz⟩ := I.tuple hq
  obtain ⟨f0, f1, f2, f3, f4, f5⟩ := hf it (by simp)
  have hl := rv.length
  exact wpAny_pyNext_tuple_end (I.ok.hd hc) st (show s.heap.IsTuple a its.toArray from p) (by simp; omega) fun h' eb => ⟨rfl, I.turned (t' := s.toks) (fun b o hb e => eb b o hb e) f0 f1 f3 f4 f5⟩
 self := fun _ _ _ _ _ st h => wpAny_pyIter_tupleiter st h
theorem rk {P : Program} {w : World} {K : PySem.W.Frag} {tg : Expr} (it : Addr) (lo : Int) (n : Nat) : Turn P w K tg (Itr lo n) [it] it (fun i h => IsRangeIter h it (lo + (i : Nat) * 1) ((n : Int) - (i : Nat)) 1) where
 mem := by simp
 obj
   := fun i h st b hb => by
  have e : b = it := by simpa using hb
  subst e
  exact ⟨_, st, fun v z => by
   have z' : Data.fields _ = Data.cell v := z
   cases z'⟩
 keep := fun i h h' st k => k it (by simp) _ st
 item := by
  intro X hP hw hK hc i pins s σ H E I hf st hg
  subst hP hw hK
  obtain ⟨f0, f1, f2, f3, f4, f5⟩ := hf it (by simp)
  have W := Walks.range (prog := X.prog) (w := X.w) (I.ok.hd hc) it lo 1 n
  refine W.item i s _ _ hg st fun v h' tk hv st' kk => ?_
  obtain ⟨t, rfl⟩ := hv
  have I1 : Inv X pins σ H { s with heap := h', toks := tk } := I.turned (fun b o hb e => kk b o (by simpa using hb) e) f0 f1 f3 f4 f5
  refine ⟨_, rfl, qQ (s := { s with heap := h', toks := tk }) (n := "range_iterator") st' rfl rfl (by decide) ⟨.int (lo + i), H, I1, ⟨t, ?_⟩, ⟨rfl, rfl⟩, st', fun b hb => (hf b hb).1⟩⟩
  rw [Int.mul_one]
 done := by
  intro X hP hw hK hc i pins s σ H E I hf st hg
  subst hP hw hK
  obtain ⟨f0, f1, f2, f3, f4, f5⟩ := hf it (by simp)
  exact wpAny_pyNext_range_end (I.ok.hd hc) st (by have : n <= i := hg; omega) fun h' eb => ⟨rfl, I.turned (t' := s.toks) (fun b o hb e => eb b o hb e) f0 f1 f3 f4 f5⟩
 self := fun _ _ _ _ _ st h => wpAny_pyIter_rangeiter st h
end L2
namespace L2
open PySem PySem.Spec PyProof.Rows
section
variable {X : Cx} {tg : Expr}
theorem vt {pins : List (Addr × Obj)} {σ : St} {H : Hp} {s : Shared} {R : It -> Hp -> Prop} {E : Value -> Shared -> Prop} {lo hi : Int} {t u v : Tok} {tk : Nat} (I : Inv X pins σ H s) (h1 : -(2 ^ 62) <= lo) (h2 : lo < 2 ^ 62) (h3 : -(2 ^ 62) <= hi) (h4 : hi < 2 ^ 62)
  (q : R (Itr lo (hi - lo).toNat) H) : wpAny (model X.prog X.w) X.A (pyIter (.ref s.heap.objs.size)) (PIE X pins σ tg R) E { s with heap := s.heap.push { cls := .type "range", data := .fields #[.int lo t, .int hi u, .int 1 v] }, toks := tk } := by
 refine wpAny_pyIter_range (IsRange.new ..) (small_one h1 h2 h3 h4) ?_
 have I1 : Inv X pins σ H { s with heap := s.heap.push { cls := .type "range", data := .fields #[.int lo t, .int hi u, .int 1 v] }, toks := tk } := I.kept fun b o e => Heap.get?_push_of_some _ e
 refine ⟨(s.heap.push { cls := .type "range", data := .fields #[.int lo t, .int hi u, .int 1 v] }).objs.size, [(s.heap.push { cls := .type "range", data := .fields #[.int lo t, .int hi u, .int 1 v] }).objs.size], _, _, H, rfl,
  I1.kept (t' := tk) fun b o e => Heap.get?_push_of_some _ e, rk _ lo (hi - lo).toNat, ?_, fun b hb => ?_, q⟩
 ·have e1 : lo + ((0 : Nat) : Int) * 1 = lo := by simp
  have e2 : (((hi - lo).toNat : Nat) : Int) - ((0 : Nat) : Int) = Builtin.Range.rangeSize lo hi 1 := by rw [rangeSize_one]; split <;> omega
  show IsRangeIter _ _ (lo + ((0 : Nat) : Int) * 1) ((((hi - lo).toNat : Nat) : Int) - ((0 : Nat) : Int)) 1
  rw [e1, e2]
  exact Heap.get?_push_size _ rfl
 ·have e : b = (s.heap.push { cls := .type "range", data := .fields #[.int lo t, .int hi u, .int 1 v] }).objs.size := by simpa using hb
  subst e
  exact I1.fpOk (Nat.le_refl _) (I1.hok.fresh (Nat.le_refl _))
noncomputable def Dj (ta : TA) : TI := fun σ H R => ta σ H fun vs H1 => ∃ j : Int, vs = [.int j] /\ -(2 ^ 62) <= j /\ j < 2 ^ 62 /\ R (Itr 0 j.toNat) H1
theorem uh {a : Expr} {ta : TA} {p pos : Pos} (hg : Gl X "range") (hm : X.mg "range" = none) (ha : PA X [a] ta) (hs : starEach [a] X.env = [(false, eval a X.env)] := by rfl) : PI X tg (.Call (.Name "range" p) [a] [] pos) (Dj ta) := by
 intro pins s σ H R I h
 refine Call_ (kQ I hg hm boot_range (PyProof.Rows.callWith_type1 (thn (ha pos pins s σ H _ I h) fun us s1 ⟨vs, H1, I1, r1, q1⟩ => ?_) hs rfl))
 obtain ⟨j, e, q1, q2, q⟩ := q1
 subst e
 cases r1 with
 |
  cons r rr =>
  cases rr
  obtain ⟨t, rfl⟩ := r
  exact call_range_1 (vt I1 (by omega) (by omega) q1 q2 (by simpa using q))
noncomputable def tFor (wi : TI) (g : TG) (tb : TS) : TS := fun D σ H => wi σ H fun J H1 => ∃ W : Nat -> Nat -> St -> Hp -> Prop, (∃ m, W 0 m σ H1) /\ ∀ i m σ H, W i m σ H ->
 (J.stop i H /\ D.nx σ H) \/ (J.go i H /\ ∃ N : St -> Hp -> Prop, (∀ σ' H', N σ' H' -> ∃ m', m' < m /\ W (i + 1) m' σ' H') /\ ∀ x H', J.yld i H x H' -> g x σ H' fun σ2 H2 => tb { D with nx := N, ct := N, bk := D.nx } σ2 H2)
noncomputable def jq (fp : List Addr) (h : Heap) : List (Addr × Obj) := fp.filterMap fun b => (h.get? b).map fun o => (b, o)
theorem gi {fp : List Addr} {h : Heap} {b : Addr} {o : Obj} (hb : b ∈ fp) (e : h.get? b = some o) : (b, o) ∈ jq fp h := List.mem_filterMap.mpr ⟨b, hb, by rw [e]; rfl⟩
theorem tS {fp : List Addr} {h : Heap} {p : Addr × Obj} (hp : p ∈ jq fp h) : p.1 ∈ fp /\ h.get? p.1 = some p.2 := by
 obtain ⟨b, hb, e⟩ := List.mem_filterMap.mp hp
 cases q : h.get? b with
 | none => rw [q] at e; cases e
 |
  some o =>
  rw [q] at e
  have e' : (b, o) = p := Option.some.inj e
  subst e'
  exact ⟨hb, q⟩
theorem Inv.pinned {pins : List (Addr × Obj)} {σ : St} {H : Hp} {s : Shared} {fp : List Addr} (I : Inv X pins σ H s) (hf : ∀ b ∈ fp, kv X pins H b) (ho : ∀ b ∈ fp, ∃ o, s.heap.get? b = some o /\ ∀ v, o.data ≠ .cell v) : Inv X (pins ++ jq fp s.heap) σ H s :=
 I.pins_of fun p hp => (List.mem_append.mp hp).elim (fun z => I.pin p (List.mem_append_right _ z)) fun z => by
  obtain ⟨hb, e⟩ := tS z
  obtain ⟨f0, f1, f2, _⟩ := hf p.1 hb
  obtain ⟨o, e', d⟩ := ho p.1 hb
  rw [e] at e'; cases e'
  exact ⟨e, f0, f1, f2, d⟩
theorem Inv.unpinned {pins pl : List (Addr × Obj)} {σ : St} {H : Hp} {s : Shared} (I : Inv X (pins ++ pl) σ H s) : Inv X pins σ H s := I.pins_of fun p hp => I.pin p (List.mem_append_right _ (List.mem_append_left _ hp))
theorem Bf {iter : Expr} {body : List Stmt} {wi : TI} {g : TG} {tb : TS} {pos : Pos} (hp : PassesOwn (model X.prog X.w) X.A X.env X.xe) (hc : X.calm = true) (hi : PI X tg iter wi) (hg : PG X tg g) (hb : PSs X body tb)
  (hs : ∀ x, foldedSetIterable iter X.env x = pure x := by intro _; rfl) : PS X (.For tg iter body [] pos) (tFor wi g tb) := by
 intro pins s σ H D I h
 refine wpAny_For (thn (hi pins s σ H _ I h) fun v s1 h1 => thn h1 fun itv s2 h2 => ?_) hs
 obtain ⟨it, fp, tn, J, H2, e, I2, T, st2, f2, W, ⟨m0, w0⟩, turn⟩ := h2
 subst e
 have stat : ∀ {H' : Hp}, (∀ b ∈ fp, H' b = none) -> ∀ b ∈ fp, kv X pins H' b := fun hn b hb => ⟨hn b hb, (f2 b hb).2⟩
 refine codeAny_forLoop_any (fun n s' => ∃ i σ' H', Inv X pins σ' H' s' /\ tn i s'.heap /\ (∀ b ∈ fp, H' b = none) /\ W i n σ' H') ?_ m0 ⟨0, σ, H2, I2, st2, fun b hb => (f2 b hb).1, w0⟩
 rintro n s3 ⟨i, σ3, H3, I3, st3, fr3, w3⟩
 rcases turn i n σ3 H3 w3 with ⟨stop, qn⟩ | ⟨go, N, hN, step⟩
 ·refine wpAny_passesOwn hp (thn (T.done X rfl rfl rfl hc i pins s3 σ3 H3 X.xe I3 (stat fr3) st3 stop) fun r s4 ⟨hr, I4⟩ => ?_)
  subst hr
  exact wpAny_execs_nil ⟨σ3, H3, I4, qn⟩
 ·refine wpAny_passesOwn hp (thn (T.item X rfl rfl rfl hc i pins s3 σ3 H3 X.xe I3 (stat fr3) st3 go) fun r s4 ⟨u, hr, h4⟩ => ?_)
  subst hr
  refine wpAny_passesOwn hp (thn h4 fun _ s5 ⟨x, H5, I5, r5, y5, st5, fr5⟩ => ?_)
  have I5' := I5.pinned (stat fr5) (T.obj _ _ st5)
  refine wpAny_passesOwn hp (thn (hg _ s5 σ3 H5 x u _ I5' r5 (step x H5 y5)) fun _ s6 ⟨σ6, H6, I6, q6⟩ => ?_)
  refine wpAny_passesOwn hp (thn (hb _ s6 σ6 H6 _ I6 q6) fun f s7 q7 => ?_)
  have again : ∀ {σ7 : St} {H7 : Hp}, Inv X (pins ++ jq fp s5.heap) σ7 H7 s7 -> N σ7 H7 -> ∃ m, m < n /\ ∃ i σ' H', Inv X pins σ' H' s7 /\ tn i s7.heap /\ (∀ b ∈ fp, H' b = none) /\ W i m σ' H' := fun {σ7 H7} I7 n7 => by
   obtain ⟨m', hm, w7⟩ := hN σ7 H7 n7
   refine ⟨m', hm, i + 1, σ7, H7, I7.unpinned, T.keep _ _ _ st5 fun b hb o e => (I7.pin (b, o) (List.mem_append_right _ (List.mem_append_right _ (gi hb e)))).1, fun b hb => ?_, w7⟩
   obtain ⟨o, e, d⟩ := T.obj _ _ st5 b hb
   exact (I7.pin (b, o) (List.mem_append_right _ (List.mem_append_right _ (gi hb e)))).2.1
  cases f with
  | next => obtain ⟨σ7, H7, I7, n7⟩ := q7; exact again I7 n7
  | cont => obtain ⟨σ7, H7, I7, n7⟩ := q7; exact again I7 n7
  | brk => obtain ⟨σ7, H7, I7, q7⟩ := q7; exact ⟨σ7, H7, I7.unpinned, q7⟩
  | ret v => obtain ⟨x7, σ7, H7, I7, r7, q7⟩ := q7; exact ⟨x7, σ7, H7, I7.unpinned, r7, q7⟩
end
end L2
namespace L2
open PySem PySem.Spec PyProof.Rows
abbrev R2 := V -> V -> Hp -> VK -> Prop
noncomputable def OpR (X : Cx) (f : Value -> Value -> Sem Value) (r : R2) : Prop :=
 ∀
  (pins : List (Addr × Obj)) (s : Shared) (σ : St) (H : Hp) (x y : V) (v u : Value) (Q : VK), Inv X pins σ H s -> RelV x v -> RelV y u -> r x y H Q ->
  wpAny (model X.prog X.w) X.A (f v u) (EP X pins σ Q) X.xe s
noncomputable def UnR (X : Cx) (f : Value -> Sem Value) (r : V -> Hp -> VK -> Prop) : Prop :=
 ∀
  (pins : List (Addr × Obj)) (s : Shared) (σ : St) (H : Hp) (x : V) (v : Value) (Q : VK), Inv X pins σ H s -> RelV x v -> r x H Q ->
  wpAny (model X.prog X.w) X.A (f v) (EP X pins σ Q) X.xe s
noncomputable def CallR (X : Cx) (f : Value) (r : List V -> Hp -> VK -> Prop) : Prop :=
 ∀
  (pins : List (Addr × Obj)) (s : Shared) (σ : St) (H : Hp) (xs : List V) (us : List Value) (Q : VK), Inv X pins σ H s -> Vals xs us -> r xs H Q ->
  wpAny (model X.prog X.w) X.A (call f us) (EP X pins σ Q) X.xe s
noncomputable def TruR (X : Cx) (r : V -> Hp -> (Bool -> Hp -> Prop) -> Prop) : Prop :=
 ∀
  (pins : List (Addr × Obj)) (s : Shared) (σ : St) (H : Hp) (x : V) (v : Value) (Q : Bool -> Hp -> Prop), Inv X pins σ H s -> RelV x v -> r x H Q ->
  wpAny (model X.prog X.w) X.A (truthy v) (TP X pins σ Q) X.xe s
noncomputable def tOp (r : R2) (ta tb : TE) : TE := fun σ H Q => ta σ H fun x H1 => tb σ H1 fun y H2 => r x y H2 Q
noncomputable def tUn (r : V -> Hp -> VK -> Prop) (ta : TE) : TE := fun σ H Q => ta σ H fun x H1 => r x H1 Q
noncomputable def rI (C : Int -> Int -> Prop) (g : Int -> Int -> V) : R2 := fun x y H Q => ∃ i j, x = .int i /\ y = .int j /\ C i j /\ Q (g i j) H
noncomputable def rI0 (g : Int -> Int -> V) : R2 := fun x y H Q => ∃ i j, x = .int i /\ y = .int j /\ Q (g i j) H
noncomputable def rU (g : Int -> V) : V -> Hp -> VK -> Prop := fun x H Q => ∃ i, x = .int i /\ Q (g i) H
section
variable {X : Cx} {a b c : Expr} {ta tb tc : TE} {pos : Pos}
theorem wm (ha : PE X a ta) (hb : PE X b tb) {pins : List (Addr × Obj)} {s : Shared} {σ : St} {H : Hp} {R : V -> V -> Hp -> Prop} (I : Inv X pins σ H s)
  (h : ta σ H fun x H1 => tb σ H1 fun y H2 => R x y H2) {Q : Value -> Shared -> Prop} {f : Value -> Value -> Sem Value}
  (hf : ∀ v u s2 x y H2, Inv X pins σ H2 s2 -> RelV x v -> RelV y u -> R x y H2 -> wpAny (model X.prog X.w) X.A (f v u) Q X.xe s2) :
  wpAny (model X.prog X.w) X.A (eval a X.env) (fun v s₁ => wpAny (model X.prog X.w) X.A (eval b X.env) (fun u s₂ => wpAny (model X.prog X.w) X.A (f v u) Q X.xe s₂) X.xe s₁) X.xe s := by
 refine thn (ha pins s σ H _ I h) fun v s1 ⟨x, H1, I1, r1, q1⟩ => ?_
 refine thn (hb pins s1 σ H1 _ I1 q1) fun u s2 ⟨y, H2, I2, r2, q2⟩ => ?_
 exact hf v u s2 x y H2 I2 r1 r2 q2
theorem CK {op : Operator} {r : R2} (ho : OpR X (binaryOp op) r) (ha : PE X a ta) (hb : PE X b tb) : PE X (.BinOp a op b pos) (tOp r ta tb) := by
 intro pins s σ H Q I h
 exact wpAny_BinOp (wm ha hb I h fun v u s2 x y H2 I2 rx ry q => ho pins s2 σ H2 x y v u Q I2 rx ry q)
theorem Du {op : UnaryOp} {r : V -> Hp -> VK -> Prop} (ho : UnR X (unaryOp op) r) (ha : PE X a ta) : PE X (.UnaryOp op a pos) (tUn r ta) := by
 intro pins s σ H Q I h
 exact UnaryOp_ (thn (ha pins s σ H _ I h) fun v s1 ⟨x, H1, I1, r1, q1⟩ => ho pins s1 σ H1 x v Q I1 r1 q1)
theorem opI {f : Value -> Value -> Sem Value} {C : Int -> Int -> Prop} {g : Int -> Int -> Int}
  (rule : ∀ (i j : Int) (t u : Tok) (s : Shared) (Q : Value -> Shared -> Prop) (E : Value -> Shared -> Prop), C i j -> Q (.int (g i j) s.toks) { s with toks := s.toks + 1 } -> wpAny (model X.prog X.w) X.A (f (.int i t) (.int j u)) Q E s) :
  OpR X f (rI C fun i j => .int (g i j)) := by
 intro pins s σ H x y v u Q I rx ry h
 obtain ⟨i, j, rfl, rfl, hc, q⟩ := h
 obtain ⟨t, rfl⟩ := rx
 obtain ⟨t', rfl⟩ := ry
 exact rule i j t t' s _ _ hc ⟨.int (g i j), H, I.tok _, ⟨_, rfl⟩, q⟩
theorem opI0 {f : Value -> Value -> Sem Value} {g : Int -> Int -> Int}
  (rule : ∀ (i j : Int) (t u : Tok) (s : Shared) (Q : Value -> Shared -> Prop) (E : Value -> Shared -> Prop), Q (.int (g i j) s.toks) { s with toks := s.toks + 1 } -> wpAny (model X.prog X.w) X.A (f (.int i t) (.int j u)) Q E s) :
  OpR X f (rI0 fun i j => .int (g i j)) := by
 intro pins s σ H x y v u Q I rx ry h
 obtain ⟨i, j, rfl, rfl, q⟩ := h
 obtain ⟨t, rfl⟩ := rx
 obtain ⟨t', rfl⟩ := ry
 exact rule i j t t' s _ _ ⟨.int (g i j), H, I.tok _, ⟨_, rfl⟩, q⟩
theorem wC {f : Value -> Value -> Sem Value} {g : Int -> Int -> Bool}
  (rule : ∀ (i j : Int) (t u : Tok) (s : Shared) (Q : Value -> Shared -> Prop) (E : Value -> Shared -> Prop), Q (.bool (g i j)) s -> wpAny (model X.prog X.w) X.A (f (.int i t) (.int j u)) Q E s) :
  OpR X f (rI0 fun i j => .bl (g i j)) := by
 intro pins s σ H x y v u Q I rx ry h
 obtain ⟨i, j, rfl, rfl, q⟩ := h
 obtain ⟨t, rfl⟩ := rx
 obtain ⟨t', rfl⟩ := ry
 exact rule i j t t' s _ _ ⟨.bl (g i j), H, I, rfl, q⟩
noncomputable def lV (i j : Int) : Prop := 0 <= j /\ j <= 1000000 /\ i.natAbs < 2 ^ 64
noncomputable def CMul (i j : Int) : Prop := (-(2 ^ 64) < i /\ i < 2 ^ 64) \/ (-(2 ^ 64) < j /\ j < 2 ^ 64)
theorem CMul.ok {i j : Int} (h : CMul i j) : IntMulOk i j := by
 rcases h with ⟨h1, h2⟩ | ⟨h1, h2⟩
 ·exact .of_left (intBits_le_64 h1 h2)
 ·exact .of_right (intBits_le_64 h1 h2)
theorem AQ : OpR X (binaryOp .Add) (rI0 fun i j => .int (i + j)) := opI0 fun _ _ _ _ _ _ _ q => add_int q
theorem cF : OpR X (binaryOp .Sub) (rI0 fun i j => .int (i - j)) := opI0 fun _ _ _ _ _ _ _ q => sub_int q
theorem Bb : OpR X (binaryOp .Mult) (rI CMul fun i j => .int (i * j)) := opI fun _ _ _ _ _ _ _ hc q => mul_int q hc.ok
theorem c7 : OpR X (binaryOp .Mod) (rI (fun _ j => j ≠ 0) fun i j => .int (i.fmod j)) := opI fun _ _ _ _ _ _ _ hc q => mod_int' hc q
theorem jB : OpR X (binaryOp .Pow) (rI lV fun i j => .int (i ^ j.toNat)) := opI fun _ _ _ _ _ _ _ hc q => pow_int_small hc.1 hc.2.1 hc.2.2 q
theorem unI {f : Value -> Sem Value} {g : Int -> Int}
  (rule : ∀ (i : Int) (t : Tok) (s : Shared) (Q : Value -> Shared -> Prop) (E : Value -> Shared -> Prop), Q (.int (g i) s.toks) { s with toks := s.toks + 1 } -> wpAny (model X.prog X.w) X.A (f (.int i t)) Q E s) :
  UnR X f (rU fun i => .int (g i)) := by
 intro pins s σ H x v Q I rx h
 obtain ⟨i, rfl, q⟩ := h
 obtain ⟨t, rfl⟩ := rx
 exact rule i t s _ _ ⟨.int (g i), H, I.tok _, ⟨_, rfl⟩, q⟩
theorem Ar : UnR X (unaryOp .USub) (rU fun i => .int (-i)) := unI fun _ _ _ _ _ q => neg_int q
end
section
variable {X : Cx} {a b c : Expr} {ta tb tc : TE} {pos : Pos}
theorem tK {pins : List (Addr × Obj)} {σ : St} {H : Hp} {s : Shared} {Q : VK} {k k' : Bool} (I : Inv X pins σ H s) (q : Q (.bl k) H) (e : k = k') : EP X pins σ Q (.bool k') s := by
 subst e
 exact ⟨.bl k, H, I, rfl, q⟩
theorem nz : OpR X (compareOp .Lt) (rI0 fun i j => .bl (decide (i < j))) := wC fun _ _ _ _ _ _ _ q => lt_int q
theorem gU : OpR X (compareOp .Gt) (rI0 fun i j => .bl (decide (j < i))) := wC fun _ _ _ _ _ _ _ q => gt_int q
theorem rH : OpR X (compareOp .GtE) (rI0 fun i j => .bl (decide (j <= i))) := wC fun _ _ _ _ _ _ _ q => ge_int q
theorem OpR.or {f : Value -> Value -> Sem Value} {r r' : R2} (h : OpR X f r) (h' : OpR X f r') : OpR X f (fun x y H Q => r x y H Q \/ r' x y H Q) := by
 intro pins s σ H x y v u Q I rx ry q
 rcases q with q | q
 ·exact h pins s σ H x y v u Q I rx ry q
 ·exact h' pins s σ H x y v u Q I rx ry q
theorem aK (b : Expr) {op : CmpOp} (h : op ≠ .In := by decide) (h2 : op ≠ .NotIn := by decide) : behindInMarks op b = false := by
 have e1 : (op == CmpOp.In) = false := by cases op <;> first | rfl | exact absurd rfl h
 have e2 : (op == CmpOp.NotIn) = false := by cases op <;> first | rfl | exact absurd rfl h2
 cases b <;> simp [behindInMarks, e1, e2]
theorem x3 {op : CmpOp} {r : R2} (ho : OpR X (compareOp op) r) (ha : PE X a ta) (hb : PE X b tb) (hm : behindInMarks op b = false) : PE X (.Compare a [op] [b] pos) (tOp r ta tb) := by
 intro pins s σ H Q I h
 exact wpAny_Compare1 (wm ha hb I h fun v u s2 x y H2 I2 rx ry q => ho pins s2 σ H2 x y v u Q I2 rx ry q) hm
noncomputable def Cy (t : TE) : TT := fun σ H Q => t σ H fun x H' => ∃ k, x = .bl k /\ Q k H'
theorem yJ {op : CmpOp} {r : R2} (ho : OpR X (compareOp op) r) (ha : PE X a ta) (hb : PE X b tb) (hm : behindInMarks op b = false) : PT X (.Compare a [op] [b] pos) (Cy (tOp r ta tb)) := by
 intro pins s σ H Q I h
 refine wpAny_isTrue_Compare1 (thn (ha pins s σ H _ I h) fun v s1 ⟨x, H1, I1, r1, q1⟩ => thn (hb pins s1 σ H1 _ I1 q1) fun u s2 ⟨y, H2, I2, r2, q2⟩ =>
  thn (ho pins s2 σ H2 x y v u _ I2 r1 r2 q2) fun c s3 ⟨z, H3, I3, r3, k, e, q3⟩ => ?_) hm
 subst e
 cases r3
 exact wpAny_truthy_bool ⟨H3, I3, q3⟩
noncomputable def wz (K : PySem.W.Frag) (x : V) (H : Hp) (k : Bool) : Prop :=
 match x with
 | .non => k = false
 | .bl b => k = b
 | .int i => k = (i != 0)
 | .str y => y.length <= sizeLine /\ k = ((y.length : Int) != 0)
 | .byt y => y.size <= sizeLine /\ k = ((y.size : Int) != 0)
 | .ref p => (∃ xs, SqL K H p xs /\ k = !xs.isEmpty) \/ (∃ xs, SqT K H p xs /\ k = !xs.isEmpty) \/ ∃ kvs, H p = some (.dK kvs) /\ k = !kvs.isEmpty
 | _ => False
theorem qJ {κ : Type} {kvs : List (κ × V)} {vs : List (κ × Value)} (r : KV kvs vs) : (!vs.isEmpty) = !kvs.isEmpty := by
 cases r <;> rfl
theorem kT {xs : List V} {its : List Value} (r : Vals xs its) : (!its.toArray.isEmpty) = !xs.isEmpty := by
 cases r <;> simp
theorem iA : (sizeLine : Nat) < 2 ^ 63 := by rw [sizeLine_eq]; decide
theorem BC : TruR X (fun x H Q => ∃ k, wz X.K x H k /\ Q k H) := by
 intro pins s σ H x v Q I rx h
 obtain ⟨k, e, q⟩ := h
 have hl := iA
 have hs : sizeLine = 16777216 := sizeLine_eq
 cases x with
 |
  non =>
  cases rx
  have e' : k = false := e
  subst e'
  exact truthy_none ⟨H, I, q⟩
 |
  bl b =>
  cases rx
  have e' : k = b := e
  subst e'
  exact wpAny_truthy_bool ⟨H, I, q⟩
 |
  int i =>
  obtain ⟨t, rfl⟩ := rx
  have e' : k = (i != 0) := e
  subst e'
  exact PySem.P.truthy_int ⟨H, I, q⟩
 |
  str y =>
  obtain ⟨t, rfl⟩ := rx
  obtain ⟨hy, e'⟩ : y.length <= sizeLine /\ k = ((y.length : Int) != 0) := e
  subst e'
  exact PySem.P.truthy_str (by omega) ⟨H, I.tok _, q⟩
 |
  byt y =>
  obtain ⟨t, rfl⟩ := rx
  obtain ⟨hy, e'⟩ : y.size <= sizeLine /\ k = ((y.size : Int) != 0) := e
  subst e'
  exact PySem.W.truthy_bytes (by omega) ⟨H, I.tok _, q⟩
 |
  ref p =>
  cases rx
  have e' : (∃ xs, SqL X.K H p xs /\ k = !xs.isEmpty) \/ (∃ xs, SqT X.K H p xs /\ k = !xs.isEmpty) \/ ∃ kvs, H p = some (.dK kvs) /\ k = !kvs.isEmpty := e
  rcases e' with ⟨xs, hx, e'⟩ | ⟨xs, hx, e'⟩ | ⟨kvs, hx, e'⟩
  ·subst e'
   obtain ⟨its, r, pl, hz⟩ := I.list hx
   have hlen := r.length
   exact wpAny_truthy_list pl.isList (by simp only [List.size_toArray]; omega) ⟨H, I.tok _, by rw [kT r]; exact q⟩
  ·subst e'
   obtain ⟨its, r, pl, hz⟩ := I.tuple hx
   have hlen := r.length
   exact truthy_tuple pl (by simp only [List.size_toArray]; omega) ⟨H, I.tok _, by rw [kT r]; exact q⟩
  ·subst e'
   obtain ⟨hz, hS, vs, r, m⟩ : kvs.length <= sizeLine /\ (p == sysModules) = false /\ ∃ vs, KV kvs vs /\ s.heap.DictOf (mf X.prog X.w) p vs := I.hok p _ hx
   have hlen : kvs.length = vs.length := Paired.length r
   exact wpAny_truthy_dict hS m (by omega) ⟨H, I.tok _, by rw [qJ r]; exact q⟩
 | _ => exact (show False from e).elim
theorem v8 (ha : PE X a ta) (he : ∀ whole, isTrue a X.env whole = (do let v <- whole; standAt a.pos; holding [v] (truthy v))) :
  PT X a (fun σ H Q => ta σ H fun x H' => ∃ k, wz X.K x H' k /\ Q k H') := by
 intro pins s σ H Q I h
 exact isTrue_plain (thn (ha pins s σ H _ I h) fun v s1 ⟨x, H1, I1, r1, q1⟩ => BC pins s1 σ H1 x v Q I1 r1 q1) (he _)
theorem jh {x : V} {us : List Value} (r : Vals [x] us) : ∃ u, us = [u] /\ RelV x u := by
 cases r with
 | cons r1 r2 => cases r2; exact ⟨_, rfl, r1⟩
theorem nL {x y : V} {us : List Value} (r : Vals [x, y] us) : ∃ u w', us = [u, w'] /\ RelV x u /\ RelV y w' := by
 cases r with
 |
  cons r1 r2 =>
  cases r2 with
  | cons r3 r4 => cases r4; exact ⟨_, _, rfl, r1, r3⟩
theorem cV : CallR X (.builtin "abs") (fun xs H Q => ∃ i, xs = [.int i] /\ Q (.int (if i < 0 then -i else i)) H) := by
 intro pins s σ H xs us Q I r h
 obtain ⟨i, rfl, q⟩ := h
 obtain ⟨u, rfl, t, rfl⟩ := jh r
 exact call_abs_int fun u tk => ⟨.int (if i < 0 then -i else i), H, I.tok _, ⟨_, rfl⟩, q⟩
theorem ju (hc : X.calm = true) : CallR X (.builtin "max") (fun xs H Q => ∃ i j, xs = [.int i, .int j] /\ Q (.int (if j > i then j else i)) H) := by
 intro pins s σ H xs us Q I r h
 obtain ⟨i, j, rfl, q⟩ := h
 obtain ⟨u, w', rfl, ⟨t, rfl⟩, ⟨t', rfl⟩⟩ := nL r
 refine max_two_ints (I.ok.hd hc) fun h' tk k => ⟨_, H, I.kept k, ?_, q⟩
 by_cases hj : j > i
 ·rw [if_pos hj, if_pos hj]; exact ⟨_, rfl⟩
 ·rw [if_neg hj, if_neg hj]; exact ⟨_, rfl⟩
theorem tW (hc : X.calm = true) : CallR X (.builtin "min") (fun xs H Q => ∃ i j, xs = [.int i, .int j] /\ Q (.int (if j < i then j else i)) H) := by
 intro pins s σ H xs us Q I r h
 obtain ⟨i, j, rfl, q⟩ := h
 obtain ⟨u, w', rfl, ⟨t, rfl⟩, ⟨t', rfl⟩⟩ := nL r
 refine min_two_ints (I.ok.hd hc) fun h' tk k => ⟨_, H, I.kept k, ?_, q⟩
 by_cases hj : j < i
 ·rw [if_pos hj, if_pos hj]; exact ⟨_, rfl⟩
 ·rw [if_neg hj, if_neg hj]; exact ⟨_, rfl⟩
end
end L2
namespace L2
open PySem PySem.Spec PyProof.Rows
structure ObjM (h : Heap) (x dx C : Addr) (mA : Str -> Option Value) : Prop where
 obj : h.get? x = some (PySem.W.instObj C dx)
 ns : h.Ns1 dx mA
 ne : dx ≠ x
theorem tj {h : Heap} {dx : Addr} {mA : Str -> Option Value} (n : h.Ns1 dx mA) : ∃ od, h.get? dx = some od /\ ∀ name, PySem.W.lookIn name od = some (mA name) := by
 obtain ⟨o, es, ep, ho, hd, hk, _, hm⟩ := n
 refine ⟨o, ho, fun name => ?_⟩
 have e := hm name
 unfold nsFind findBy at e
 rw [<- Array.find?_toList] at e
 unfold PySem.W.lookIn
 rw [hd]
 dsimp only
 split
 ·rename_i y q
  rw [q] at e
  exact congrArg some e
 ·rename_i q
  rw [q] at e
  have a : es.toList.any (·.refKey) = false := by
   rw [List.any_eq_false]
   intro y hy
   obtain ⟨z, t, hkey⟩ := hk y (Array.mem_toList_iff.mp hy)
   simp [DictEntry.refKey, hkey]
  have a' : ¬ es.toList.any (·.refKey) = true := by rw [a]; exact Bool.false_ne_true
  rw [if_neg a']
  exact congrArg some e
theorem ObjM.look {h : Heap} {x dx C : Addr} {mA : Str -> Option Value} (I : ObjM h x dx C mA) : ∃ od, PySem.W.InstAt h x (PySem.W.instObj C dx) C (some od) /\ ∀ name, PySem.W.lookIn name od = some (mA name) :=
 let ⟨od, ho, hl⟩ := tj I.ns
 ⟨od, ⟨I.obj, rfl, rfl, ho⟩, hl⟩
section
variable {prog : Program} {w : World} {A : Around} {E : Value -> Shared -> Prop} {s : Shared} {K : PySem.W.Frag} {x dx C f : Addr} {mA : Str -> Option Value} {name : Str} {v : Value}
end
section
variable {P : Program} {w : World} {H H' : Hp} {h h' : Heap} {a C dx : Addr} {fs fs' : List (Str × V)}
theorem xI (hok : HOk P w H h) (e : H a = some (.ins C dx fs)) : ∃ mA, ObjM h a dx C mA /\ (∀ f, v5 (fs.lookup f) (mA f)) /\ PySem.Within mA (fs.map (·.1)) /\ fs.length <= 1000 /\ H dx = some (.own a) := by
 obtain ⟨d, z, ne, ob, mA, n, r, q⟩ := (show ObjOk P w H h a (.ins C dx fs) from hok a _ e)
 exact ⟨mA, ⟨ob, n, ne⟩, r, q, z, d⟩
end
structure Cls (K : PySem.W.Frag) (C : Addr) : Prop where
 pg : PySem.W.plainGet K C Str.empty = true
 hd : PySem.W.hasDictIn K C = true
 po : PySem.W.plainOver K C = true
 sa : PySem.W.findIn K (.ref C) "__setattr__" = some (some (.builtin "object.__setattr__"))
theorem Cls.get {K : PySem.W.Frag} {C : Addr} (c : Cls K C) (f : Str) : PySem.W.plainGet K C f = true := c.pg
structure Con (K : PySem.W.Frag) (C : Addr) (f : Str) (v : V) (u : Value) : Prop where
 at_ : PySem.W.findIn K (.ref C) f = some (some u)
 rel : RelV v u
 get : PySem.W.specialIn K u "__get__" = some none
 cp : PySem.W.copiedNames.contains f = false
structure Meth (K : PySem.W.Frag) (C : Addr) (m : Str) (f : Addr) : Prop where
 at_ : PySem.W.findIn K (.ref C) m = some (some (.ref f))
 fn : PySem.W.isFn K (.ref f) = true
 kp : PySem.W.keepIn K (.ref f) = true
section
variable {X : Cx} {pins : List (Addr × Obj)} {σ : St} {H : Hp} {s : Shared} {a C dx : Addr} {fs : List (Str × V)} {f : Str} {v : V} {A : Around} {E : Value -> Shared -> Prop}
end
section
variable {X : Cx} {o e value : Expr} {f : Str} {pos pos' tpos : Pos} {ta tv : TE}
end
section
variable {X : Cx} {pins : List (Addr × Obj)} {σ : St} {H : Hp} {s : Shared} {A : Around} {E : Value -> Shared -> Prop} {Q : Value -> Shared -> Prop} {c : Value} {b : Bool}
inductive TyOf (K : PySem.W.Frag) (H : Hp) : V -> Value -> Prop where
 | non : TyOf K H .non (.type "NoneType")
 | bl (x : Bool) : TyOf K H (.bl x) (.type "bool")
 | int (i : Int) : TyOf K H (.int i) (.type "int")
 | str (x : Str) : TyOf K H (.str x) (.type "str")
 | flt (x : UInt64) : TyOf K H (.flt x) (.type "float")
 | lst {a : Addr} {xs : List V} (e : H a = some (.lst xs)) : TyOf K H (.ref a) (.type "list")
 | frz {a : Addr} {o : Obj} {xs : List V} (e : H a = some (.frz o (.lst xs))) : TyOf K H (.ref a) (.type "list")
 | tup {a : Addr} {xs : List V} (e : H a = some (.tup xs)) : TyOf K H (.ref a) (.type "tuple")
 | dK {a : Addr} {kvs : List (Key × V)} (e : H a = some (.dK kvs)) : TyOf K H (.ref a) (.type "dict")
 | dT {a : Addr} {kvs : List (List Key × V)} (e : H a = some (.dT kvs)) : TyOf K H (.ref a) (.type "dict")
 | ins {a C dx : Addr} {fs : List (Str × V)} (e : H a = some (.ins C dx fs)) (cl : Cls K C) (ha : PySem.W.findIn K (.ref C) "__class__" = some (some (.builtin "object.__class__")))
   (hn : PySem.W.specialIn K (.builtin "object.__class__") "__get__" = some (some (.builtin "getset_descriptor.__get__"))) (htk : PySem.W.takesIn K (.builtin "object.__class__") = some true)
   (hm : PySem.W.mroIn K C (.type "object") = some true) : TyOf K H (.ref a) (.ref C)
end
end L2
namespace L2
open PySem PySem.Spec PyProof.Rows
structure Room (k : Nat) (A : Around) : Prop where
 hd : A.handled = none
 dp : A.depth + 3 * k + 5 < recursionLimit
 un : A.units + 16 * k + 200 < cLine
theorem Room.mono {j k : Nat} {A : Around} (r : Room k A) (h : j <= k) : Room j A := ⟨r.hd, by have := r.dp; omega, by have := r.un; omega⟩
theorem Room.deeper {k : Nat} {A : Around} (r : Room (k + 1) A) (env : Env) : Room k (A.deeper env) :=
 ⟨r.hd, by have := r.dp; show A.depth + 1 + 3 * k + 5 < _; omega, by have := r.un; show A.units + 3 + 16 * k + 200 < _; omega⟩
theorem Room.depth {k : Nat} {A : Around} (r : Room k A) : A.depth < recursionLimit := by have := r.dp; omega
theorem Room.units {k : Nat} {A : Around} (r : Room k A) : A.units + 64 < cLine := by have := r.un; omega
noncomputable def tNil : TA := fun _ H Q => Q [] H
noncomputable def DU (ta : TE) (tr : TA) : TA := fun σ H Q => ta σ H fun x H1 => tr σ H1 fun xs H2 => Q (x :: xs) H2
section
variable {X : Cx} {e : Expr} {es : List Expr} {te : TE} {t : TA} {pos : Pos}
theorem Ab : PA X [] tNil := fun _ _ _ _ H Q I h => Calls.spliced_nil ⟨[], H, I, .nil, h⟩
theorem yq (ha : PE X e te) (hr : PA X es t) (hs : starEach (e :: es) X.env = (false, eval e X.env) :: starEach es X.env := by rfl) : PA X (e :: es) (DU te t) := by
 intro pos pins s σ H Q I h
 rw [hs]
 show wpAny _ _ (spliced ((false, eval e X.env) :: backTo pos (starEach es X.env))) _ _ s
 refine Calls.spliced_cons (thn (ha pins s σ H _ I h) fun u s1 ⟨x, H1, I1, r1, q1⟩ => ?_)
 exact thn (hr pos pins s1 σ H1 _ I1 q1) fun us s2 ⟨xs, H2, I2, r2, q2⟩ => ⟨x :: xs, H2, I2, .cons r1 r2, q2⟩
noncomputable def tTup (t : TA) : TE := fun σ H Q => t σ H fun xs H1 => xs.length <= sizeLine /\ ∀ p, H1 p = none -> Q (.ref p) (upd H1 p (.tup xs))
noncomputable def tLst (t : TA) : TE := fun σ H Q => t σ H fun xs H1 => xs.length <= sizeLine /\ ∀ p, H1 p = none -> Q (.ref p) (upd H1 p (.lst xs))
theorem AM {x1} (h : PA X es t) : PE X (.Tuple es x1 pos) (tTup t) := by
 intro pins s σ H Q I hq
 refine wpAny_Tuple_spliced (thn (h pos pins s σ H _ I hq) fun us s1 ⟨xs, H1, I1, r, z, q⟩ => ⟨by rw [<- r.length]; exact z, ?_⟩)
 have hf : H1 s1.heap.objs.size = none := I1.hok.fresh (Nat.le_refl _)
 refine ⟨.ref s1.heap.objs.size, upd H1 s1.heap.objs.size (.tup xs), I1.laid (t' := s1.toks) (fun b u e => Heap.get?_push_of_some _ e) (Nat.le_refl _) ?_, rfl, q _ hf⟩
 exact ⟨z, us, r, ⟨_, Heap.get?_push_size _ rfl, rfl, _, rfl⟩⟩
theorem yZ (h : PA X es t) : PE X (.List es pos) (tLst t) := by
 intro pins s σ H Q I hq
 refine wpAny_List_spliced (thn (h pos pins s σ H _ I hq) fun us s1 ⟨xs, H1, I1, r, z, q⟩ => ⟨by rw [<- r.length]; exact z, ?_⟩)
 have hf : H1 s1.heap.objs.size = none := I1.hok.fresh (Nat.le_refl _)
 refine ⟨.ref s1.heap.objs.size, upd H1 s1.heap.objs.size (.lst xs), I1.laid (t' := s1.toks) (fun b u e => Heap.get?_push_of_some _ e) (Nat.le_refl _) ?_, rfl, q _ hf⟩
 exact ⟨z, us, 0, r, Heap.get?_push_size _ rfl⟩
end
abbrev Sp := List V -> Hp -> VK -> XK -> Prop
abbrev CXT := List Env -> Hp -> Shared -> XK -> Value -> Shared -> Prop
structure Env0 (P : Program) (w : World) (K : PySem.W.Frag) (mg : Str -> Option Value) (base : Heap) (A : Around) (outer : List Env) (s : Shared) (H : Hp) : Prop where
 frames : A.frames = some outer
 mod : Mod K mg base
 bs : ∀ b o, base.get? b = some o -> s.heap.get? b = some o /\ H b = none
 bsz : base.objs.size <= s.heap.objs.size
 funs : s.heap.FunFrames base outer
 frf : ∀ b ∈ frs outer, H b = none
 hok : HOk P w H s.heap
 bare : AllBare s.gens
noncomputable def CE (outer : List Env) (P : Program) (w : World) (H : Hp) (s : Shared) (Q : VK) (u : Value) (s' : Shared) : Prop :=
 ∃ v H', s'.os = s.os /\ AllBare s'.gens /\ Un (frs outer) [] H H' s.heap s'.heap /\ HOk P w H' s'.heap /\ RelV v u /\ Q v H'
noncomputable def CR (CX : CXT) (outer : List Env) (P : Program) (w : World) (H : Hp) (s : Shared) (Q : VK) (E : XK) (r : Result) (s' : Shared) : Prop :=
 match r with
 | .ok (.ret u) => CE outer P w H s Q u s'
 | .ok _ => False
 | .error e => CX outer H s E e s'
structure FnOk (P : Program) (w : World) (K : PySem.W.Frag) (mg : Str -> Option Value) (base : Heap) (CX : CXT) (k : Nat) (f : Addr) (fd : FuncData) (ps : List Str) (sp : Sp) : Prop where
 len : ∀ vs H Q E, sp vs H Q E -> vs.length = ps.length
 run : ∀ (A : Around) (outer : List Env) (s : Shared) (H : Hp) (args : Args) (us : List Value) (vs : List V) (Q : VK) (E : XK), Room k A -> Env0 P w K mg base A outer s H -> BindsTo s fd args (ps.zip us) -> Vals vs us -> sp vs H Q E ->
  codeAny (model P w) A (.call (.ref f) args) (CR CX outer P w H s Q E) s
theorem FnOk.imp {P : Program} {w : World} {K : PySem.W.Frag} {mg : Str -> Option Value} {base : Heap} {CX : CXT} {k : Nat} {f : Addr} {fd : FuncData} {ps : List Str} {sp sp' : Sp} (F : FnOk P w K mg base CX k f fd ps sp)
  (h : ∀ vs H Q E, sp' vs H Q E -> sp vs H Q E) : FnOk P w K mg base CX k f fd ps sp' :=
 ⟨fun vs H Q E q => F.len vs H Q E (h _ _ _ _ q), fun A outer s H args us vs Q E hr he hb hv hs => F.run A outer s H args us vs Q E hr he hb hv (h _ _ _ _ hs)⟩
section
variable {X : Cx} {pins : List (Addr × Obj)} {σ : St} {H : Hp} {s s' : Shared}
theorem Inv.env0 (I : Inv X pins σ H s) : Env0 X.prog X.w X.K X.mg X.base X.A X.stack s H :=
 ⟨I.ok.frames, I.ok.mod, I.bs, Nat.le_trans I.ok.bsz I.sz, I.stack, I.stkFree, I.hok, I.bare⟩
theorem Inv.after {Q : VK} {u : Value} (I : Inv X pins σ H s) (h : CE X.stack X.prog X.w H s Q u s') : EP X pins σ Q u s' := by
 obtain ⟨v, H', os, bare, un, hok, r, q⟩ := h
 obtain ⟨hh, g, d, t, os'⟩ := s'
 obtain rfl : os' = s.os := os
 exact ⟨v, H', I.call (h' := hh) (g' := g) (d' := d) (t' := t) (ch := []) un hok bare (fun b z => absurd z (by simp)), r, q⟩
end
noncomputable def Binds (K : PySem.W.Frag) (fd : FuncData) (ps : List Str) (ds : List Value) : Prop :=
 ∀ (s : Shared) (us : List Value), K.In s.heap -> (us ++ ds).length = ps.length -> BindsTo s fd ⟨us, []⟩ (ps.zip (us ++ ds))
theorem Binds.all {K : PySem.W.Frag} {fd : FuncData} {ps : List Str} (h : ∀ us : List Value, us.length = ps.length -> bindArgs fd ⟨us, []⟩ = pure (ps.zip us)) : Binds K fd ps [] := fun s us _ hl => by
 rw [List.append_nil] at hl ⊢
 exact .of_eq (h us hl)
noncomputable def oA (CX : CXT) (X : Cx) (E : XK) : Prop := ∀ (pins : List (Addr × Obj)) (σ : St) (H : Hp) (s : Shared) (e : Value) (s' : Shared), Inv X pins σ H s -> CX X.stack H s E e s' -> X.xe e s'
section
variable {X : Cx} {CX : CXT} {k : Nat} {f C : Addr} {fd : FuncData} {ps : List Str} {sp : Sp} {dvs : List V} {ds : List Value} {E : XK} {x m : Str} {p pos apos : Pos} {e o : Expr} {es : List Expr} {ta : TE} {t : TA}
structure Mk (K : PySem.W.Frag) (C f : Addr) : Prop where
 makes : PySem.W.makesIn K C = true
 init : PySem.W.findIn K (.ref C) "__init__" = some (some (.ref f))
 fn : PySem.W.isFn K (.ref f) = true
 kp : PySem.W.keepIn K (.ref C) = true
end
section
variable {X : Cx} {CX : CXT} {k : Nat} {f C : Addr} {fd : FuncData} {ps ks : List Str} {sp : Sp} {E : XK} {x m : Str} {p pos apos kpos : Pos} {e o : Expr} {es : List Expr} {kws : List Keyword} {te ta : TE} {t tk : TA} {nm : Option Str}
structure KBinds (K : PySem.W.Frag) (fd : FuncData) (ps ks : List Str) (g : List Value -> List Value -> List Value) (gV : List V -> List V -> List V) : Prop where
 to : ∀ (s : Shared) (us ws : List Value), K.In s.heap -> (g us ws).length = ps.length -> BindsTo s fd ⟨us, ks.zip ws⟩ (ps.zip (g us ws))
 rel : ∀ {vs : List V} {us : List Value} {zs : List V} {ws : List Value}, Vals vs us -> Vals zs ws -> Vals (gV vs zs) (g us ws)
variable {g : List Value -> List Value -> List Value} {gV : List V -> List V -> List V}
end
structure FnScope (N P : List Str) (sc : Scope) : Prop where
 kind : sc.kind = .function
 co : sc.isCoroutine = false
 gen : sc.isGenerator = false
 nd : N.Nodup
 pre : N.take P.length = P
 par : ∀ x ∈ P, sc.names.lookup x = some .local \/ sc.names.lookup x = some .cell
 nofree : ∀ y ∈ sc.names, y.2 ≠ .free
theorem mR {kindOf : Str -> Option NameKind} {x : Str} : ∀ {binds : List (Str × Value)} {m : Str -> Option Value}, (∀ v, (x, v) ∉ binds) -> bindL kindOf binds m x = m x
 | [], _, _ => rfl
 |
  (n, v) :: r, m, h => by
  unfold bindL
  rw [mR fun w hw => h w (List.mem_cons_of_mem _ hw)]
  split
  ·have : x ≠ n := by rintro rfl; exact h v List.mem_cons_self
   simp [this]
  ·rfl
theorem m8 {kindOf : Str -> Option NameKind} {x : Str} : ∀ {binds : List (Str × Value)} {m : Str -> Option Value}, (∀ v, (x, v) ∉ binds) -> bindC kindOf binds m x = m x
 | [], _, _ => rfl
 |
  (n, v) :: r, m, h => by
  unfold bindC
  rw [m8 fun w hw => h w (List.mem_cons_of_mem _ hw)]
  split
  ·rfl
  ·have : x ≠ n := by rintro rfl; exact h v List.mem_cons_self
   simp [this]
theorem mX {kindOf : Str -> Option NameKind} {x : Str} {v : Value} : ∀ {P : List Str} {vs : List Value} {i : Nat} {m : Str -> Option Value}, P.Nodup -> P[i]? = some x -> vs[i]? = some v -> kindOf x = some .local ->
  bindL kindOf (P.zip vs) m x = some v
 | [], _, _, _, _, h, _, _ => by simp at h
 | _ :: _, [], _, _, _, _, h, _ => by simp at h
 |
  p :: P, w :: vs, 0, m, nd, h1, h2, hk => by
  simp at h1 h2; subst h1; subst h2
  show bindL kindOf ((p, w) :: P.zip vs) m p = _
  unfold bindL
  rw [mR fun v hv => (List.nodup_cons.mp nd).1 (List.of_mem_zip hv).1, if_pos hk]
  simp
 |
  p :: P, w :: vs, i + 1, m, nd, h1, h2, hk => by
  show bindL kindOf ((p, w) :: P.zip vs) m x = _
  unfold bindL
  exact mX (i := i) (List.nodup_cons.mp nd).2 (by simpa using h1) (by simpa using h2) hk
theorem mW {kindOf : Str -> Option NameKind} {x : Str} {v : Value} : ∀ {P : List Str} {vs : List Value} {i : Nat} {m : Str -> Option Value}, P.Nodup -> P[i]? = some x -> vs[i]? = some v -> kindOf x ≠ some .local ->
  bindC kindOf (P.zip vs) m x = some v
 | [], _, _, _, _, h, _, _ => by simp at h
 | _ :: _, [], _, _, _, _, h, _ => by simp at h
 |
  p :: P, w :: vs, 0, m, nd, h1, h2, hk => by
  simp at h1 h2; subst h1; subst h2
  show bindC kindOf ((p, w) :: P.zip vs) m p = _
  unfold bindC
  rw [m8 fun v hv => (List.nodup_cons.mp nd).1 (List.of_mem_zip hv).1, if_neg hk]
  simp
 |
  p :: P, w :: vs, i + 1, m, nd, h1, h2, hk => by
  show bindC kindOf ((p, w) :: P.zip vs) m x = _
  unfold bindC
  exact mW (i := i) (List.nodup_cons.mp nd).2 (by simpa using h1) (by simpa using h2) hk
noncomputable def ez (N : List Str) (vs : List V) : St := vs.map some ++ List.replicate (N.length - vs.length) none
noncomputable def d8 (CX : CXT) (P : Program) (w : World) (K : PySem.W.Frag) (mg : Str -> Option Value) (base : Heap) (N : List Str) (qual : Str) (scope : Scope) (f : Addr) (cd : Value) (A : Around) (outer : List Env) (s : Shared) (H : Hp) (E : XK) : Cx where
 prog := P
 w := w
 K := K
 mg := mg
 base := base
 A := A.deeper (envOfC qual scope s.heap.objs.size f cd)
 N := N
 s₀ := s
 H₀ := H
 env := envOfC qual scope s.heap.objs.size f cd
 outer := outer
 stack := envOfC qual scope s.heap.objs.size f cd :: outer
 ex := []
 calm := true
 fn := fun _ => true
 pn := []
 xe := fun e s' => wpAny (model P w) (A.deeper (envOfC qual scope s.heap.objs.size f cd)) (leaving (envOfC qual scope s.heap.objs.size f cd) e) (fun _ s'' => CX outer H s E e s'') (fun e' s'' => CX outer H s E e' s'') s'
theorem nS {sc : Scope} {n : Nat} {x : Str} (h : sc.names.lookup x = some .cell) : ∃ c, (cellsFrom n sc.names []).lookup x = some c := by
 have q := PySem.W.cellsFrom_some sc.names n [] (.inl h)
 exact Option.isSome_iff_exists.mp q
theorem
    tL {CX : CXT} {P : Program} {w : World} {K : PySem.W.Frag} {mg : Str -> Option Value} {base : Heap} {N ps : List Str} {qual : Str} {scope : Scope} {f : Addr} {cd : Value} {A : Around} {outer : List Env} {s s1 : Shared} {H : Hp} {E : XK} {us : List Value} {vs : List V}
  (S : FnScope N ps scope) (hd : A.handled = none) (e0 : Env0 P w K mg base A outer s H) (hl : vs.length = ps.length) (r : Vals vs us)
  (x : InCallC s s.heap.objs.size (bindL (envOfC qual scope s.heap.objs.size f cd).kindOf (ps.zip us) fun _ => none) (cellsFrom (s.heap.objs.size + 1) scope.names []) (bindC (envOfC qual scope s.heap.objs.size f cd).kindOf (ps.zip us) fun _ => none) s1) :
  Inv (d8 CX P w K mg base N qual scope f cd A outer s H E) [] (ez N vs) H s1 := by
 have hpl : ps.length <= N.length := by have := congrArg List.length S.pre; rw [List.length_take] at this; omega
 obtain ⟨h1, tk, rfl, hk⟩ := x.done
 have noA : ∀ b : Addr, b ∉ (d8 CX P w K mg base N qual scope f cd A outer s H E).ex := fun b z => absurd (show b ∈ ([] : List Addr) from z) (by simp)
 refine ⟨⟨e0.mod, S.kind, rfl, rfl, Nat.le_refl _, fun y z c h1 h2 => ?_, fun y hy => ?_, fun y c _ h => ?_, fun _ => hd, Around.frames_deeper e0.frames, .inr ⟨rfl, rfl⟩, fun b z => absurd z (noA b), e0.bs, e0.bsz, fun b _ _ => noA b, fun b z => absurd z (noA b), e0.funs, e0.frf⟩,
  rfl, e0.bare, Un.kept hk, ⟨_, x.toInCall.ns, fun i y v h1 h2 h3 => ?_⟩, fun y c h => ⟨_, x.cell y c h⟩, e0.hok.fresh (Nat.le_refl _), fun y c h => ?_, fun p hp => absurd (show p ∈ ([] : List (Addr × Obj)) from hp) (by simp), e0.hok.kept hk, ?_⟩
 ·exact name_of_addr x.apart (PySem.mem_of_lookup h1) (PySem.mem_of_lookup h2)
 ·have hy : scope.names.lookup y = some .cell \/ scope.names.lookup y = some .free := hy
  rcases hy with hy | hy
  ·exact nS hy
  ·exact absurd rfl (S.nofree _ (PySem.mem_of_lookup hy))
 ·exact Nat.le_of_lt (x.above y c (PySem.mem_of_lookup h))
 ·have hi : i < vs.length := by
   unfold ez at h2
   by_cases hi : i < vs.length
   ·exact hi
   ·rw [List.getElem?_append_right (by simpa using hi)] at h2
    rw [List.getElem?_replicate] at h2
    split at h2 <;> cases h2
  have ha : vs[i]? = some v := by
   unfold ez at h2
   rw [List.getElem?_append_left (by simpa using hi), List.getElem?_map] at h2
   cases e : vs[i]? with
   | none => rw [e] at h2; cases h2
   | some a => rw [e] at h2; cases h2; rfl
  obtain ⟨u, hu, rv⟩ := r.get ha
  have hp : ps[i]? = some y := by
   rw [<- S.pre, List.getElem?_take_of_lt (by omega)]; exact h1
  have ndP : ps.Nodup := by rw [<- S.pre]; exact S.nd.sublist (List.take_sublist _ _)
  refine ⟨u, rv, ?_⟩
  rcases S.par y (List.mem_of_getElem? hp) with k | k
  ·exact .inl ⟨k, mX ndP hp hu k⟩
  ·obtain ⟨c, e⟩ := nS (n := s.heap.objs.size + 1) k
   refine .inr ⟨.inl k, c, e, ?_⟩
   have q := x.cell y c e
   rw [mW ndP hp hu (by show scope.names.lookup y ≠ _; rw [k]; decide)] at q
   exact q
 ·exact e0.hok.fresh (Nat.le_of_lt (x.above y c (PySem.mem_of_lookup h)))
 ·unfold ez
  show _ = N.length
  rw [List.length_append, List.length_map, List.length_replicate]
  omega
theorem Ew {CX : CXT} {P : Program} {w : World} {K : PySem.W.Frag} {mg : Str -> Option Value} {base : Heap} {k : Nat} {f : Addr} {name qual : Str} {params : Arguments} {body : List Stmt} {scope : Scope} {dV kV doc pm cdv ct oc : Value} {an od : Option Addr}
  {osl : Array (Option Value)} {N ps : List Str} {sp : Sp} (lk : K.lookup f = some ⟨oc, od, .func (PySem.W.fnOf name qual params body scope dV kV doc pm an cdv ct), osl⟩) (hcd : PySem.W.codeIn K cdv qual = true) (S : FnScope N ps scope)
  (len : ∀ vs H Q E, sp vs H Q E -> vs.length = ps.length)
  (hbody : ∀ (A : Around) (outer : List Env) (s : Shared) (H : Hp) (vs : List V) (Q : VK) (E : XK), Room k (A.deeper (envOfC qual scope s.heap.objs.size f cdv)) -> sp vs H Q E ->
   ∃ t, PSs (d8 CX P w K mg base N qual scope f cdv A outer s H E) body t /\ t { nx := fun _ H' => Q .non H', rt := Q } (ez N vs) H) :
  FnOk P w K mg base CX (k + 1) f (PySem.W.fnOf name qual params body scope dV kV doc pm an cdv ct) ps sp := by
 refine ⟨len, fun A outer s H args us vs Q E hr e0 hb r hsp => ?_⟩
 have hl := len _ _ _ _ hsp
 have KX : K.In s.heap := e0.mod.kin.keeps fun b o e => (e0.bs b o e).1
 have lim : s.heap.NoLimit := e0.mod.nolimit.keeps fun b o e => (e0.bs b o e).1
 have hkind : ∀ y ∈ ps.zip us, scope.names.lookup y.1 = some .local \/ (scope.names.lookup y.1 = some .cell /\ ((cellsFrom (s.heap.objs.size + 1) scope.names []).lookup y.1).isSome = true) := fun ⟨n, v⟩ hy => by
  rcases S.par n (List.of_mem_zip hy).1 with q | q
  ·exact .inl q
  ·exact .inr ⟨q, PySem.W.cellsFrom_some _ _ _ (.inl q)⟩
 refine codeAny_call_function hr.depth (KX _ _ lk) rfl S.co S.gen rfl (PySem.W.codeRec_of KX hcd) (hb _ _ _ _ ?_)
 refine wpAny_newFunctionEnv_cells S.kind hkind fun env he s1 x => ?_
 subst he
 refine ⟨lim.keeps x.toInCall.keep, codeAny_func ?_⟩
 obtain ⟨t, ht, hq⟩ := hbody A outer s H vs Q E (hr.deeper _) hsp
 have I : Inv (d8 CX P w K mg base N qual scope f cdv A outer s H E) [] (ez N vs) H s1 := tL S hr.hd e0 hl r x
 refine wpAny_mono (ht [] s1 (ez N vs) H _ I hq) (fun fl s' hs => ?_) fun e s' hs => hs
 have fin : ∀ {σ' : St} {H' : Hp} {v : V} {u : Value}, Inv (d8 CX P w K mg base N qual scope f cdv A outer s H E) [] σ' H' s' -> RelV v u -> Q v H' -> CE outer P w H s Q u s' :=
  fun {σ' H' v u} J rv q => ⟨v, H', J.os, J.bare, J.base, J.hok, rv, q⟩
 cases fl with
 |
  ret u =>
  obtain ⟨v, σ', H', J, rv, q⟩ := hs
  exact fin J rv q
 |
  next =>
  obtain ⟨σ', H', J, q⟩ := hs
  exact fin (v := V.non) (u := Value.none) J rfl q
 |
  brk =>
  obtain ⟨_, _, _, q⟩ := hs
  exact False.elim q
 |
  cont =>
  obtain ⟨_, _, _, q⟩ := hs
  exact False.elim q
end L2
namespace L2
open PySem PySem.Spec PyProof.Rows
section
variable {X : Cx} {x : Str} {p pos : Pos} {e : Expr} {es : List Expr} {t : TA} {id T : String} {r : List V -> Hp -> VK -> Prop}
noncomputable def tCB (r : List V -> Hp -> VK -> Prop) (t : TA) : TE := fun σ H Q => t σ H fun vs H1 => r vs H1 Q
theorem wa (hc : CallR X (.builtin id) r) (hg : Gl X x) (hm : X.mg x = none) (hv : bootBuiltins x = some (.builtin id)) (ha : PA X (e :: es) t) (hn : x ≠ "__name__" := by decide) (hdb : (x == ("__debug__" : Str)) = false := by decide)
  (he : starEach (e :: es) X.env = (false, eval e X.env) :: starEach es X.env := by rfl) (hpl : (backTo pos (starEach es X.env)).any (·.1) = false := by rfl) : PE X (.Call (.Name x p) (e :: es) [] pos) (tCB r t) := by
 intro pins s σ H Q I h
 refine wpAny_Call_Name_kw (kQ I hg hm hv ?_ hn hdb)
 exact PyProof.Rows.callWith_builtin1 (thn (ha pos pins s σ H _ I h) fun us s1 ⟨vs, H1, I1, r1, q1⟩ => hc pins s1 σ H1 vs us Q I1 r1 q1) he hpl
theorem sG (hc : CallR X (.type T) r) (hg : Gl X x) (hm : X.mg x = none) (hv : bootBuiltins x = some (.type T)) (ha : PA X (e :: es) t) (hn : x ≠ "__name__" := by decide) (hdb : (x == ("__debug__" : Str)) = false := by decide)
  (he : starEach (e :: es) X.env = (false, eval e X.env) :: starEach es X.env := by rfl) (hpl : (backTo pos (starEach es X.env)).any (·.1) = false := by rfl) : PE X (.Call (.Name x p) (e :: es) [] pos) (tCB r t) := by
 intro pins s σ H Q I h
 refine wpAny_Call_Name_kw (kQ I hg hm hv ?_ hn hdb)
 exact PyProof.Rows.callWith_type1 (thn (ha pos pins s σ H _ I h) fun us s1 ⟨vs, H1, I1, r1, q1⟩ => hc pins s1 σ H1 vs us Q I1 r1 q1) he hpl
end
end L2
namespace HT
open PySem PyProof.Rows
section
open PySem.SeqAt
open PySem.AutoSeq1 (wpAny_loadPart')
open PySem.MeetsSeq PySem.MeetsSeq2 PySem.MeetsSeq3
end
section
variable {prog : Program} {w : World} {A : Around} {E : Value -> Shared -> Prop} {s : Shared}
theorem cat_tup {t b : Addr} {vs ws : List Value} {Q : Value -> Shared -> Prop} (ht : IsTup s.heap t vs.toArray) (hb : IsTup s.heap b ws.toArray) (hv : vs ≠ [])
  (h1 : ws = [] -> Q (.ref t) s) (h2 : ws ≠ [] -> Q (.ref s.heap.objs.size) { s with heap := s.heap.push { cls := .type "tuple", data := .seq (vs ++ ws).toArray } })
  (hsz : vs.length + ws.length <= sizeLine) : wpAny (model prog w) A (binaryOp .Add (.ref t) (.ref b)) Q E s := by
 obtain ⟨⟨cls, dd, data, sl⟩, ho, hc, n, hd⟩ := id ht
 obtain ⟨⟨cls2, dd2, data2, sl2⟩, ho2, hc2, n2, hd2⟩ := id hb
 simp only at hc hd hc2 hd2
 subst hc hd hc2 hd2
 have e : vs.toArray ++ ws.toArray = (vs ++ ws).toArray := by simp
 by_cases hw : ws = []
 ·exact concat_meets ⟨_, ho, rfl⟩ ⟨_, ho2, rfl⟩ noFill_tuple_add seq_tuple_add PySem.F.slot_tuple_add PySem.F.entry_tuple_add (PySem.F.args_tuple_add_2 _ _)
   (tuple_addW1 t b vs.toArray ws.toArray n n2 dd dd2 sl sl2 (by simpa using hv) (by simp [hw])) ⟨ho, ho2, h1 hw⟩
 ·refine concat_meets ⟨_, ho, rfl⟩ ⟨_, ho2, rfl⟩ noFill_tuple_add seq_tuple_add PySem.F.slot_tuple_add PySem.F.entry_tuple_add (PySem.F.args_tuple_add_2 _ _)
   (tuple_addW2 t b vs.toArray ws.toArray n n2 dd dd2 sl sl2 (by simpa using hv) (by simpa using hw) (by rw [List.size_toArray, List.size_toArray]; exact hsz)) ⟨ho, ho2, ?_⟩
  rw [e]
  exact h2 hw
noncomputable def sIx (n d : Nat) : Option Int -> Nat
 | none => d
 | some v => if v < 0 then (v + (n : Int)).toNat else min v.toNat n
theorem AN (n d : Nat) (hd : d <= n) (o : Option Int) : sIx n d o <= n := by
 cases o with
 | none => exact hd
 |
  some v =>
  show (if v < 0 then (v + (n : Int)).toNat else min v.toNat n) <= n
  by_cases hv : v < 0
  ·rw [if_pos hv]; omega
  ·rw [if_neg hv]; exact Nat.min_le_right _ _
theorem p7 (v : Int) (n d : Nat) : (if v < 0 then max (v + (n : Int)) 0 else min v (n : Int)) = ((sIx n d (some v) : Nat) : Int) := by
 show (if v < 0 then max (v + (n : Int)) 0 else min v (n : Int)) = (((if v < 0 then (v + (n : Int)).toNat else min v.toNat n) : Nat) : Int)
 by_cases hv : v < 0
 ·simp only [if_pos hv]; omega
 ·simp only [if_neg hv]; omega
theorem qU (lo hi : Option Int) (n : Nat) : Builtin.Slice.sliceAdjust lo hi 1 (n : Int) = (((sIx n 0 lo : Nat) : Int), ((sIx n n hi : Nat) : Int)) := by
 have h1 : ¬ ((1 : Int) < 0) := by omega
 unfold Builtin.Slice.sliceAdjust
 simp only [h1, if_false]
 refine Prod.ext ?_ ?_
 ·cases lo with
  | none => rfl
  | some v => exact p7 v n 0
 ·cases hi with
  | none => rfl
  | some v => exact p7 v n n
theorem qE (i j : Nat) : Builtin.Slice.slicePlaces (i : Int) (j : Int) 1 = j - i := by
 unfold Builtin.Slice.slicePlaces
 have h1 : (1 : Int) > 0 := by omega
 simp only [h1, if_true, Int.ediv_one]
 split <;> omega
theorem lN {v : Value} {o : Option Int} {Q : Option Int -> Shared -> Prop} (p : IsPart v o) (h : Q o s) : wpAny (model prog w) A (Builtin.Slice.slicePartIndex v) Q E s := by
 cases p with
 | none => exact slicePart_none h
 | int i t => exact slicePart_int h
theorem kB {sl : Addr} {vl vu : Value} {lo hi : Option Int} {n : Nat} {Q : Int × Int × Nat -> Shared -> Prop} (hs : s.heap.IsSliceOf sl vl vu .none) (pl : IsPart vl lo) (pu : IsPart vu hi)
  (h : Q (((sIx n 0 lo : Nat) : Int), 1, sIx n n hi - sIx n 0 lo) s) : wpAny (model prog w) A (Builtin.Slice.sliceApplied (.ref sl) (pure (n : Int))) Q E s := by
 obtain ⟨os, hos, hcs, hds⟩ := id hs
 unfold Builtin.Slice.sliceApplied Builtin.Slice.sliceFields
 refine wpAny_bind (wpAny_bind (wpAny_field hos hds (x := vl) rfl (wpAny_bind (wpAny_field hos hds (x := vu) rfl (wpAny_bind (wpAny_field hos hds (x := .none) rfl (wpAny_pure ?_)))))))
 refine wpAny_bind (slicePart_none ?_)
 show wpAny _ _ (if ((1 : Int) == 0) = true then _ else _) _ _ s
 rw [if_neg (by decide)]
 refine wpAny_bind (lN pl (wpAny_bind (lN pu (wpAny_bind (wpAny_pure ?_)))))
 show wpAny _ _ (match Builtin.Slice.sliceAdjust lo hi 1 (n : Int) with | (lo, hi) => pure (lo, (1 : Int), Builtin.Slice.slicePlaces lo hi 1)) _ _ s
 rw [qU lo hi n]
 show wpAny _ _ (pure (((sIx n 0 lo : Nat) : Int), (1 : Int), Builtin.Slice.slicePlaces ((sIx n 0 lo : Nat) : Int) ((sIx n n hi : Nat) : Int) 1)) _ _ s
 rw [qE]
 exact wpAny_pure h
theorem vG (xs : Array Value) (i k : Nat) : ((List.range k).filterMap fun (m : Nat) => xs[((i : Int) + (m : Int) * 1).toNat]?).toArray = ((xs.toList.drop i).take k).toArray := by
 have e : (fun (m : Nat) => xs[((i : Int) + (m : Int) * 1).toNat]?) = fun m => xs[i + m]? := by
  funext m
  have : ((i : Int) + (m : Int) * 1).toNat = i + m := by omega
  rw [this]
 rw [e]
 have := pick_run xs i k
 rw [List.filterMap_map] at this
 have e2 : ((fun x => xs[x]?) ∘ fun x => i + x) = fun m => xs[i + m]? := rfl
 rw [e2] at this
 rw [this]
theorem getItem_tuple_cut {t sl : Addr} {items : Array Value} {vl vu : Value} {lo hi : Option Int} {Q : Value -> Shared -> Prop} (ht : IsTup s.heap t items) (hs : s.heap.IsSliceOf sl vl vu .none) (pl : IsPart vl lo) (pu : IsPart vu hi)
  (hw : ¬ (sIx items.size 0 lo = 0 /\ sIx items.size items.size hi = items.size))
  (h : Q (.ref s.heap.objs.size) { s with heap := s.heap.push { cls := .type "tuple", data := .seq ((items.toList.drop (sIx items.size 0 lo)).take (sIx items.size items.size hi - sIx items.size 0 lo)).toArray } })
  (hsz : items.size <= sizeLine) : wpAny (model prog w) A (getItem (.ref t) (.ref sl)) Q E s := by
 have htake : sizeOk (.seq ((items.toList.drop (sIx items.size 0 lo)).take (sIx items.size items.size hi - sIx items.size 0 lo)).toArray) := by
  show ((items.toList.drop (sIx items.size 0 lo)).take (sIx items.size items.size hi - sIx items.size 0 lo)).toArray.size <= sizeLine
  rw [List.size_toArray, List.length_take, List.length_drop, Array.length_toList]
  omega
 have hj : sIx items.size items.size hi <= items.size := AN _ _ (Nat.le_refl _) hi
 obtain ⟨os, hos, hcs, hds⟩ := id hs
 have hTs : s.TypeIs (.ref sl) "slice" := ⟨os, hos, hcs⟩
 unfold getItem
 try with_reducible refine wpAny_holding ?_
 first | refine wpAny_bind (wpAny_pure ?_) | skip
 refine wpAny_bind (wpAny_sequenceKey ht.typeIs (by decide) ?_)
 refine wpAny_bind (wpAny_callSpecial?_slot (name := Str.ofString "__getitem__") ht.typeIs PyProof.Rows.slot_tuple_getitem
  (wpAny_call_entry PyProof.Rows.slot_tuple_getitem ht.typeIs entry_tuple_getitem ?_ (args_tuple_getitem _ _)))
 show wpAny _ _ (Builtin.Tuple.tupleItemsOf (.ref t) >>= _) _ _ s
 refine wpAny_bind (tupleItemsOf_ ht ?_)
 refine wpAny_bind (wpAny_typeOf hTs ?_)
 rw [if_pos (by decide)]
 refine wpAny_bind (kB hs pl pu ?_)
 have hno : ¬ ((((sIx items.size 0 lo : Nat) : Int) == 0 && (1 : Int) == 1 && (sIx items.size items.size hi - sIx items.size 0 lo) == items.size) = true) := by
  intro q
  rw [Bool.and_eq_true, Bool.and_eq_true] at q
  have q1 : ((sIx items.size 0 lo : Nat) : Int) = 0 := eq_of_beq q.1.1
  have q2 : sIx items.size items.size hi - sIx items.size 0 lo = items.size := eq_of_beq q.2
  exact hw ⟨by omega, by omega⟩
 show wpAny _ _ (if (((sIx items.size 0 lo : Nat) : Int) == 0 && (1 : Int) == 1 && (sIx items.size items.size hi - sIx items.size 0 lo) == items.size) = true then _ else _) _ _ s
 rw [if_neg hno, vG]
 first
  | exact wpAny_bind (m := Builtin.Tuple.tupleExact _) (wpAny_newObj_type (wpAny_pure ⟨_, rfl, wpAny_pure h⟩) htake)
  | exact wpAny_bind (m := Builtin.Tuple.tupleExact _) (wpAny_newObj_type (wpAny_bind (wpAny_pure (wpAny_pure ⟨_, rfl, wpAny_pure h⟩))) htake)
  | exact wpAny_bind (wpAny_bind (m := Builtin.Tuple.tupleExact _) (wpAny_newObj_type (wpAny_pure (wpAny_pure ⟨_, rfl, wpAny_pure h⟩)) htake))
  | exact wpAny_bind (wpAny_bind (m := Builtin.Tuple.tupleExact _) (wpAny_newObj_type (wpAny_pure ⟨_, rfl, wpAny_pure h⟩) htake))
end
end HT
namespace L2
open PySem PySem.Spec PyProof.Rows
abbrev TO := St -> Hp -> (Option Int -> Hp -> Prop) -> Prop
noncomputable def PO (X : Cx) (e : Option Expr) (t : TO) : Prop :=
 ∀
  (pins : List (Addr × Obj)) (s : Shared) (σ : St) (H : Hp) (Q : Option Int -> Hp -> Prop), Inv X pins σ H s -> t σ H Q ->
  wpAny (model X.prog X.w) X.A (evalPart e X.env) (fun u s' => ∃ o H', Inv X pins σ H' s' /\ IsPart u o /\ Q o H') X.xe s
noncomputable def yN : TO := fun _ H Q => Q none H
noncomputable def CU (t : TE) : TO := fun σ H Q => t σ H fun x H1 => ∃ i, x = .int i /\ Q (some i) H1
section
variable {X : Cx} {e : Expr} {te : TE} {lo hi : Option Expr} {tl th : TO} {pos p2 : Pos}
theorem xE : PO X none yN := by
 intro pins s σ H Q I h
 rw [evalPart_none]
 exact wpAny_pure ⟨none, H, I, .none, h⟩
theorem xZ (h : PE X e te) : PO X (some e) (CU te) := by
 intro pins s σ H Q I hw
 rw [evalPart_some]
 refine thn (h pins s σ H _ I hw) fun u s1 ⟨x, H1, I1, r1, q1⟩ => ?_
 obtain ⟨i, rfl, q⟩ := q1
 obtain ⟨t, rfl⟩ := r1
 exact ⟨some i, H1, I1, .int i t, q⟩
noncomputable def SlR (X : Cx) (r : V -> Option Int -> Option Int -> Hp -> VK -> Prop) : Prop :=
 ∀
  (pins : List (Addr × Obj)) (s : Shared) (σ : St) (H : Hp) (x : V) (v vl vu : Value) (lo hi : Option Int) (sl : Addr) (Q : VK), Inv X pins σ H s -> RelV x v -> s.heap.IsSliceOf sl vl vu .none -> IsPart vl lo -> IsPart vu hi -> r x lo hi H Q ->
  ∃ T id, typeLookup (.type T) "__getitem__" = pure (some (.builtin id)) /\ s.TypeIs v T /\ wpAny (model X.prog X.w) X.A (getItem v (.ref sl)) (EP X pins σ Q) X.xe s
theorem SlR.or {r r' : V -> Option Int -> Option Int -> Hp -> VK -> Prop} (h : SlR X r) (h' : SlR X r') : SlR X (fun x lo hi H Q => r x lo hi H Q \/ r' x lo hi H Q) := by
 intro pins s σ H x v vl vu lo hi sl Q I rx hs pl pu q
 rcases q with q | q
 ·exact h pins s σ H x v vl vu lo hi sl Q I rx hs pl pu q
 ·exact h' pins s σ H x v vl vu lo hi sl Q I rx hs pl pu q
noncomputable def tSl (r : V -> Option Int -> Option Int -> Hp -> VK -> Prop) (te : TE) (tl th : TO) : TE := fun σ H Q => te σ H fun x H1 => tl σ H1 fun l H2 => th σ H2 fun u H3 => r x l u H3 Q
theorem wk {r : V -> Option Int -> Option Int -> Hp -> VK -> Prop} (hr : SlR X r) (he : PE X e te) (hl : PO X lo tl) (hu : PO X hi th) : PE X (.Subscript e (.Slice lo hi none p2) pos) (tSl r te tl th) := by
 intro pins s σ H Q I h
 refine Subscript_ (thn (he pins s σ H _ I h) fun v s1 ⟨x, H1, I1, r1, q1⟩ => ?_)
 refine wpAny_Slice (thn (hl pins s1 σ H1 _ I1 q1) fun vl s2 ⟨l, H2, I2, pl, q2⟩ => thn (hu pins s2 σ H2 _ I2 q2) fun vu s3 ⟨u, H3, I3, pu, q3⟩ => ?_)
 rw [evalPart_none]
 refine wpAny_pure ?_
 have I4 : Inv X pins σ H3 { s3 with heap := s3.heap.push { cls := .type "slice", data := .fields #[vl, vu, .none] } } := I3.kept (t' := s3.toks) fun b ob q => Heap.get?_push_of_some _ q
 obtain ⟨T, id, hT, ht, hg⟩ := hr pins { s3 with heap := s3.heap.push { cls := .type "slice", data := .fields #[vl, vu, .none] } } σ H3 x v vl vu l u s3.heap.objs.size Q I4 r1 (Heap.IsSliceOf.new ..) pl pu q3
 show wpAny (model X.prog X.w) X.A (subscriptTail e (.Slice lo hi none p2) v (.ref s3.heap.objs.size)) (EP X pins σ Q) X.xe { s3 with heap := s3.heap.push { cls := .type "slice", data := .fields #[vl, vu, .none] } }
 exact tail_any (ops := [.ref s3.heap.objs.size, v]) ht hT hg (by with_unfolding_all rfl)
noncomputable def jC (xs : List V) (lo hi : Option Int) : List V := (xs.drop (HT.sIx xs.length 0 lo)).take (HT.sIx xs.length xs.length hi - HT.sIx xs.length 0 lo)
theorem ka (xs : List V) (lo hi : Option Int) : (jC xs lo hi).length <= xs.length := by
 unfold jC
 rw [List.length_take, List.length_drop]
 omega
noncomputable def rSlT (K : PySem.W.Frag) : V -> Option Int -> Option Int -> Hp -> VK -> Prop := fun x lo hi H Q => ∃ a xs, x = .ref a /\ SqT K H a xs /\
 ¬ (HT.sIx xs.length 0 lo = 0 /\ HT.sIx xs.length xs.length hi = xs.length) /\ ∀ p, H p = none -> Q (.ref p) (upd H p (.tup (jC xs lo hi)))
theorem Az : SlR X (rSlT X.K) := by
 intro pins s σ H x v vl vu lo hi sl Q I rx hs pl pu h
 obtain ⟨a, xs, rfl, hx, hw, q⟩ := h
 cases rx
 obtain ⟨its, r, ht, hz⟩ := I.tuple hx
 have hlen : its.toArray.size = xs.length := by rw [List.size_toArray]; exact r.length.symm
 refine ⟨"tuple", _, PyProof.Rows.slot_tuple_getitem.lookup, ht.typeIs, ?_⟩
 refine HT.getItem_tuple_cut ht hs pl pu (by rw [hlen]; exact hw) ?_ (by rw [hlen]; exact hz)
 rw [hlen]
 refine ⟨.ref s.heap.objs.size, _, I.laid (t' := s.toks) (o := .tup (jC xs lo hi)) (fun b ob q => Heap.get?_push_of_some _ q) (Nat.le_refl _) ?_, rfl, q _ (I.hok.fresh (Nat.le_refl _))⟩
 exact ⟨Nat.le_trans (ka xs lo hi) hz, _, (r.drop (HT.sIx xs.length 0 lo)).take (HT.sIx xs.length xs.length hi - HT.sIx xs.length 0 lo), IsTup.new _ _⟩
noncomputable def jK (K : PySem.W.Frag) : R2 := fun x y H Q => ∃ a b xs ys, x = .ref a /\ y = .ref b /\ SqT K H a xs /\ SqT K H b ys /\ xs ≠ [] /\ xs.length + ys.length <= sizeLine /\
 (ys = [] -> Q (.ref a) H) /\ (ys ≠ [] -> ∀ p, H p = none -> Q (.ref p) (upd H p (.tup (xs ++ ys))))
theorem Vals.nil_iff {xs : List V} {us : List Value} (r : Vals xs us) : us = [] ↔ xs = [] := by
 cases r with
 | nil => simp
 | cons _ _ => simp
theorem yi : OpR X (binaryOp .Add) (jK X.K) := by
 intro pins s σ H x y v u Q I rx ry h
 obtain ⟨a, b, xs, ys, rfl, rfl, ha, hb, hx, hz, q1, q2⟩ := h
 cases rx
 cases ry
 obtain ⟨its, r1, p1, _⟩ := I.tuple ha
 obtain ⟨its2, r2, p2, _⟩ := I.tuple hb
 refine HT.cat_tup p1 p2 (fun z => hx (r1.nil_iff.mp z)) (fun z => ⟨.ref a, H, I, rfl, q1 (r2.nil_iff.mp z)⟩) (fun z => ?_) (by rw [<- r1.length, <- r2.length]; exact hz)
 refine ⟨.ref s.heap.objs.size, _, I.laid (t' := s.toks) (o := .tup (xs ++ ys)) (fun b ob q => Heap.get?_push_of_some _ q) (Nat.le_refl _) ?_, rfl, q2 (fun w => z (r2.nil_iff.mpr w)) _ (I.hok.fresh (Nat.le_refl _))⟩
 exact ⟨by rw [List.length_append]; exact hz, _, r1.append r2, IsTup.new _ _⟩
end
end L2
namespace L2
open PySem PySem.Spec PyProof.Rows
noncomputable def ixN (n : Nat) (i : Int) : Option Nat := if 0 <= i then (if i < n then some i.toNat else none) else if -(n : Int) <= i then some (i + n).toNat else none
noncomputable def atI {α : Type} (xs : List α) (i : Int) : Option α := (ixN xs.length i).bind fun j => xs[j]?
theorem qB {n : Nat} {i : Int} {j : Nat} (h : ixN n i = some j) : seqIndex? i n = some j /\ j < n /\ -(n : Int) <= i /\ i < n := by
 unfold ixN at h
 by_cases h0 : 0 <= i
 ·rw [if_pos h0] at h
  by_cases h1 : i < n
  ·rw [if_pos h1] at h
   have e : i.toNat = j := Option.some.inj h
   exact ⟨by rw [seqIndex_of h0 h1, e], by omega, by omega, h1⟩
  ·rw [if_neg h1] at h; cases h
 ·rw [if_neg h0] at h
  by_cases h1 : -(n : Int) <= i
  ·rw [if_pos h1] at h
   have e : (i + n).toNat = j := Option.some.inj h
   exact ⟨by rw [seqIndex_neg (by omega) h1, e], by omega, h1, by omega⟩
  ·rw [if_neg h1] at h; cases h
theorem qf {α : Type} {xs : List α} {i : Int} {v : α} (h : atI xs i = some v) : ∃ j, seqIndex? i xs.length = some j /\ xs[j]? = some v /\ j < xs.length /\ -(xs.length : Int) <= i /\ i < xs.length := by
 unfold atI at h
 cases e : ixN xs.length i with
 | none => rw [e] at h; cases h
 |
  some j =>
  rw [e] at h
  obtain ⟨h1, h2, h3, h4⟩ := qB e
  exact ⟨j, h1, h, h2, h3, h4⟩
noncomputable def mn (b : Expr) : Prop := ∀ o i, subscripted b false o i = operate [o, i] (getItem o i)
noncomputable def IxR (X : Cx) (r : R2) : Prop :=
 ∀
  (value slice : Expr) (pins : List (Addr × Obj)) (s : Shared) (σ : St) (H : Hp) (x y : V) (v u : Value) (Q : VK), Inv X pins σ H s -> RelV x v -> RelV y u -> r x y H Q ->
  subscripted slice false v u = operate [v, u] (getItem v u) -> wpAny (model X.prog X.w) X.A (subscriptTail value slice v u) (EP X pins σ Q) X.xe s
noncomputable def MtR (X : Cx) (id : String) (r : V -> List V -> Hp -> VK -> Prop) : Prop :=
 ∀
  (pins : List (Addr × Obj)) (s : Shared) (σ : St) (H : Hp) (x : V) (xs : List V) (v : Value) (us : List Value) (Q : VK), Inv X pins σ H s -> RelV x v -> Vals xs us -> r x xs H Q ->
  wpAny (model X.prog X.w) X.A (call (.builtin id) (v :: us)) (EP X pins σ Q) X.xe s
section
variable {X : Cx} {a b : Expr} {ta tb : TE} {pos : Pos}
theorem IxR.or {r r' : R2} (h : IxR X r) (h' : IxR X r') : IxR X (fun x y H Q => r x y H Q \/ r' x y H Q) := by
 intro value slice pins s σ H x y v u Q I rx ry q hs
 rcases q with q | q
 ·exact h value slice pins s σ H x y v u Q I rx ry q hs
 ·exact h' value slice pins s σ H x y v u Q I rx ry q hs
theorem Dv {r : R2} (hr : IxR X r) (ha : PE X a ta) (hb : PE X b tb) (hs : mn b) : PE X (.Subscript a b pos) (tOp r ta tb) := by
 intro pins s σ H Q I h
 exact Subscript_ (wm ha hb I h fun v u s2 x y H2 I2 rx ry q => hr a b pins s2 σ H2 x y v u Q I2 rx ry q (hs _ _))
noncomputable def qI (K : PySem.W.Frag) : R2 := fun x y H Q => ∃ p xs i v, x = .ref p /\ y = .int i /\ SqL K H p xs /\ atI xs i = some v /\ Q v H
noncomputable def qG (K : PySem.W.Frag) : R2 := fun x y H Q => ∃ p xs i v, x = .ref p /\ y = .int i /\ SqT K H p xs /\ atI xs i = some v /\ Q v H
theorem xt : IxR X (qI X.K) := by
 intro value slice pins s σ H x y v u Q I rx ry h hs
 obtain ⟨p, xs, i, z, rfl, rfl, hq, he, q⟩ := h
 cases rx
 obtain ⟨t, rfl⟩ := ry
 obtain ⟨its, r, pl, hz⟩ := I.list hq
 obtain ⟨j, h1, h2, h3, h4, h5⟩ := qf he
 obtain ⟨w, ew, rw'⟩ := r.get h2
 have hl := r.length
 have hn := iA
 have fin : EP X pins σ Q w s := ⟨z, H, I, rw', q⟩
 by_cases h0 : 0 <= i
 ·have hj : i.toNat = j := by
   rw [seqIndex_of h0 h5] at h1
   exact Option.some.inj h1
  exact item_listR pl.isList h0 (by omega) (by rw [hj]; simpa using ew) fin hs
 ·have hj : (i + (its.toArray.size : Int)).toNat = j := by
   rw [seqIndex_neg (by omega) h4] at h1
   rw [List.size_toArray, <- hl]
   exact Option.some.inj h1
  exact subscriptTail_builtinR (x := w) pl.isList.typeIs slot_list_getitem.lookup
   (wpAny_getItem_list_neg (Q := fun r s' => r = w /\ EP X pins σ Q r s') pl.isList (by omega) (by rw [List.size_toArray] <;> omega) (by omega) (by rw [hj]; simpa using ew) ⟨rfl, fin⟩) hs
theorem BQ : IxR X (qG X.K) := by
 intro value slice pins s σ H x y v u Q I rx ry h hs
 obtain ⟨p, xs, i, z, rfl, rfl, hq, he, q⟩ := h
 cases rx
 obtain ⟨t, rfl⟩ := ry
 obtain ⟨its, r, pl, hz⟩ := I.tuple hq
 obtain ⟨j, h1, h2, h3, h4, h5⟩ := qf he
 obtain ⟨w, ew, rw'⟩ := r.get h2
 have hl := r.length
 have hn := iA
 have fin : EP X pins σ Q w s := ⟨z, H, I, rw', q⟩
 exact subscriptTail_builtinR (x := w) pl.typeIs slot_tuple_getitem.lookup
  (getItem_tuple (j := j) (Q := fun r s' => r = w /\ EP X pins σ Q r s') pl (by omega) (by omega) (by rw [List.size_toArray, <- hl]; exact h1) (by simpa using ew) ⟨rfl, fin⟩) hs
theorem rl (its : List Value) (n j : Nat) (u : Value) : Obj.mapSeq (·.setIfInBounds j u) { cls := .type "list", data := .seq its.toArray n } = { cls := .type "list", data := .seq (its.set j u).toArray n } := by
 simp [Obj.mapSeq]
theorem Inv.lst {pins : List (Addr × Obj)} {σ : St} {H : Hp} {s : Shared} {p : Addr} {xs : List V} (I : Inv X pins σ H s) (h : H p = some (.lst xs)) :
  ∃ (its : List Value) (n : Nat), Vals xs its /\ s.heap.get? p = some { cls := .type "list", data := .seq its.toArray n } /\ xs.length <= sizeLine := by
 obtain ⟨z, its, n, r, e⟩ := I.hok p _ h
 exact ⟨its, n, r, e, z⟩
theorem Inv.lstUpd {pins : List (Addr × Obj)} {σ : St} {H : Hp} {s : Shared} {p : Addr} {xs ys : List V} {its its' : List Value} {n n' : Nat} {f : Obj -> Obj} (I : Inv X pins σ H s) (h : H p = some (.lst xs))
  (ho : s.heap.get? p = some { cls := .type "list", data := .seq its.toArray n }) (hf : f { cls := .type "list", data := .seq its.toArray n } = { cls := .type "list", data := .seq its'.toArray n' }) (r : Vals ys its') (hz : ys.length <= sizeLine) (t : Nat) :
  Inv X pins σ (upd H p (.lst ys)) { s with heap := s.heap.update p f, toks := t } := by
 have e : (s.heap.update p f).get? p = some { cls := .type "list", data := .seq its'.toArray n' } := by
  rw [Heap.get?_update_self f ho (by rw [hf] <;> rfl), hf]
 refine I.write (x := p) (e := p) (by rw [h]; trivial) (.inl rfl) (fun b u hb q => (Heap.get?_update_other _ _ (Ne.symm hb)).trans q) ⟨_, e⟩ ?_
 exact ⟨hz, its', n', r, e⟩
noncomputable def rm : V -> V -> V -> Hp -> (Hp -> Prop) -> Prop := fun o i v H Q => ∃ p xs k j, o = .ref p /\ i = .int k /\ H p = some (.lst xs) /\ ixN xs.length k = some j /\ Q (upd H p (.lst (xs.set j v)))
theorem o6 : so X rm := by
 intro pins s σ H o i v ov iv u Q I ro ri rv h
 obtain ⟨p, xs, k, j, rfl, rfl, hp, hj, q⟩ := h
 cases ro
 obtain ⟨t, rfl⟩ := ri
 obtain ⟨its, n, r, ho, hz⟩ := I.lst hp
 obtain ⟨h1, h2, h3, h4⟩ := qB hj
 have hl := r.length
 have hn := iA
 have I' : Inv X pins σ (upd H p (.lst (xs.set j v))) { s with heap := s.heap.update p (Obj.mapSeq (·.setIfInBounds j u)) } :=
  I.lstUpd hp ho (rl its n j u) (r.set rv j) (by rw [List.length_set]; exact hz) s.toks
 by_cases h0 : 0 <= k
 ·have hk : k.toNat = j := by
   rw [seqIndex_of h0 h4] at h1
   exact Option.some.inj h1
  exact PySem.W.ki_setAt ho h0 (by omega) (by rw [List.size_toArray, <- hl]; exact h4) (by rw [hk]; exact ⟨_, I', q⟩)
 ·have hk : (k + (its.toArray.size : Int)).toNat = j := by
   rw [seqIndex_neg (by omega) h3] at h1
   rw [List.size_toArray, <- hl]
   exact Option.some.inj h1
  exact PySem.W.ki_setBack ho (by omega) (by rw [List.size_toArray, <- hl]; exact h3) (by omega) (by rw [hk]; exact ⟨_, I', q⟩)
theorem om (lo hi : Option Int) (n : Nat) : (sliceBounds lo hi none n).1 = ((HT.sIx n 0 lo : Nat) : Int) /\ (sliceBounds lo hi none n).2.1 = ((HT.sIx n n hi : Nat) : Int) /\ (sliceBounds lo hi none n).2.2 = 1 := by
 refine ⟨?_, ?_, rfl⟩
 ·cases lo with
  | none => simp [sliceBounds, HT.sIx]
  |
   some i =>
   simp only [sliceBounds, HT.sIx, Option.getD_none, show (1 : Int) > 0 by decide, if_true]
   by_cases h : i < 0
   ·simp only [h, if_true] <;> omega
   ·simp only [h, if_false] <;> omega
 ·cases hi with
  | none => simp [sliceBounds, HT.sIx]
  |
   some i =>
   simp only [sliceBounds, HT.sIx, Option.getD_none, show (1 : Int) > 0 by decide, if_true]
   by_cases h : i < 0
   ·simp only [h, if_true] <;> omega
   ·simp only [h, if_false] <;> omega
theorem nu (its : List Value) (lo hi : Option Int) : slicePick its.toArray lo hi none = ((its.drop (HT.sIx its.length 0 lo)).take (HT.sIx its.length its.length hi - HT.sIx its.length 0 lo)).toArray := by
 obtain ⟨h1, h2, h3⟩ := om lo hi its.toArray.size
 unfold slicePick
 rw [h1, h2, h3]
 simp only [sliceRange_one, pick_run, List.size_toArray] <;> rfl
noncomputable def rSlL (K : PySem.W.Frag) : V -> Option Int -> Option Int -> Hp -> VK -> Prop := fun x lo hi H Q => ∃ a xs, x = .ref a /\ SqL K H a xs /\ ∀ p, H p = none -> Q (.ref p) (upd H p (.lst (jC xs lo hi)))
theorem yG : SlR X (rSlL X.K) := by
 intro pins s σ H x v vl vu lo hi sl Q I rx hs pl pu h
 obtain ⟨a, xs, rfl, hx, q⟩ := h
 cases rx
 obtain ⟨its, r, ht, hz⟩ := I.list hx
 have hlen := r.length
 refine ⟨"list", _, slot_list_getitem.lookup, ht.isList.typeIs, ?_⟩
 refine wpAny_getItem_list_slice ht.isList hs pl pu .none (by simp) ?_ (by rw [List.size_toArray] <;> omega)
 rw [nu, <- hlen]
 refine ⟨.ref s.heap.objs.size, _, I.laid (t' := s.toks) (o := .lst (jC xs lo hi)) (fun b ob q => Heap.get?_push_of_some _ q) (Nat.le_refl _) ?_, rfl, q _ (I.hok.fresh (Nat.le_refl _))⟩
 exact ⟨Nat.le_trans (ka xs lo hi) hz, _, 0, (r.drop (HT.sIx xs.length 0 lo)).take (HT.sIx xs.length xs.length hi - HT.sIx xs.length 0 lo), Heap.get?_push_size _ rfl⟩
noncomputable def bu : V -> Bool
 | .non => true
 | .bl _ => true
 | .int _ => true
 | .str _ => true
 | _ => false
noncomputable def eqV : V -> V -> Bool
 | .non, .non => true
 | .bl a, .bl b => a == b
 | .bl a, .int b => (if a then 1 else 0) == b
 | .int a, .bl b => a == (if b then 1 else 0)
 | .int a, .int b => a == b
 | .str a, .str b => a == b
 | _, _ => false
theorem Cq {A : Around} {s : Shared} {y x : V} {u v : Value} (ry : RelV y u) (rx : RelV x v) (fy : bu y = true) (fx : bu x = true) : SeqAt.EqAt A s u v (eqV y x) := by
 cases y with
 |
  non =>
  cases ry
  cases x with
  | non => cases rx; exact SeqAt.EqAt.same _
  | bl b => cases rx; exact SeqAt.EqAt.none_bool b
  | int b => obtain ⟨t, rfl⟩ := rx; exact SeqAt.EqAt.none_int b t
  | str b => obtain ⟨t, rfl⟩ := rx; exact SeqAt.EqAt.none_str b t
  | _ => exact absurd (show false = true from fx) Bool.false_ne_true
 |
  bl a =>
  cases ry
  cases x with
  | non => cases rx; exact SeqAt.EqAt.bool_none a
  | bl b => cases rx; exact SeqAt.EqAt.bool_bool a b
  | int b => obtain ⟨t, rfl⟩ := rx; exact SeqAt.EqAt.bool_int a b t
  | str b => obtain ⟨t, rfl⟩ := rx; exact SeqAt.EqAt.bool_str a b t
  | _ => exact absurd (show false = true from fx) Bool.false_ne_true
 |
  int a =>
  obtain ⟨t', rfl⟩ := ry
  cases x with
  | non => cases rx; exact SeqAt.EqAt.int_none a t'
  | bl b => cases rx; exact SeqAt.EqAt.int_bool a t' b
  | int b => obtain ⟨t, rfl⟩ := rx; exact SeqAt.EqAt.int_int a t' b t
  | str b => obtain ⟨t, rfl⟩ := rx; exact SeqAt.EqAt.int_str a t' b t
  | _ => exact absurd (show false = true from fx) Bool.false_ne_true
 |
  str a =>
  obtain ⟨t', rfl⟩ := ry
  cases x with
  | non => cases rx; exact SeqAt.EqAt.str_none a t'
  | bl b => cases rx; exact SeqAt.EqAt.str_bool a t' b
  | int b => obtain ⟨t, rfl⟩ := rx; exact SeqAt.EqAt.str_int a t' b t
  | str b => obtain ⟨t, rfl⟩ := rx; exact SeqAt.EqAt.str_str a t' b t
  | _ => exact absurd (show false = true from fx) Bool.false_ne_true
 | _ => exact absurd (show false = true from fy) Bool.false_ne_true
noncomputable def eqU (x : V) (u : Value) : Bool := match u with
 | .none => eqV .non x
 | .bool b => eqV (.bl b) x
 | .int i _ => eqV (.int i) x
 | .str z _ => eqV (.str z) x
 | _ => false
theorem tV {x y : V} {u : Value} (r : RelV y u) (f : bu y = true) : eqU x u = eqV y x := by
 cases y with
 | non => cases r; rfl
 | bl b => cases r; rfl
 | int i => obtain ⟨t, rfl⟩ := r; rfl
 | str z => obtain ⟨t, rfl⟩ := r; rfl
 | _ => exact absurd (show false = true from f) Bool.false_ne_true
theorem mq {x : V} : ∀ {xs : List V} {us : List Value}, Vals xs us -> xs.all bu = true -> us.any (eqU x) = xs.any fun y => eqV y x
 | _, _, .nil, _ => rfl
 |
  y :: xs, u :: us, .cons r t, f => by
  rw [List.all_cons, Bool.and_eq_true] at f
  rw [List.any_cons, List.any_cons, tV r f.1, mq t f.2]
theorem kg {A : Around} {s : Shared} {x : V} {v : Value} (rx : RelV x v) (fx : bu x = true) : ∀ {xs : List V} {us : List Value}, Vals xs us -> xs.all bu = true -> ∀ u ∈ us, SeqAt.EqAt A s u v (eqU x u)
 | _, _, .nil, _ => fun u hu => by cases hu
 |
  y :: xs, u :: us, .cons r t, f => fun u' hu => by
  rw [List.all_cons, Bool.and_eq_true] at f
  rcases List.mem_cons.mp hu with rfl | hu
  ·rw [tV r f.1]; exact Cq r rx f.1 fx
  ·exact kg rx fx t f.2 u' hu
noncomputable def inV (x : V) (xs : List V) : Bool := xs.any fun y => eqV y x
noncomputable def rIn (K : PySem.W.Frag) (neg : Bool) : R2 := fun x y H Q => ∃ p xs, y = .ref p /\ (SqL K H p xs \/ SqT K H p xs) /\ bu x = true /\ xs.all bu = true /\ Q (.bl (if neg then !inV x xs else inV x xs)) H
theorem tU : OpR X (compareOp .In) (rIn X.K false) := by
 intro pins s σ H x y v u Q I rx ry h
 obtain ⟨p, xs, rfl, hq, fx, fs, q⟩ := h
 cases ry
 rcases hq with hq | hq
 ·obtain ⟨its, r, pl, hz⟩ := I.list hq
  refine SeqAt.in_listAt (eqU x) pl.isList (fun w hw => kg rx fx r fs w (by simpa using hw)) ⟨.bl _, H, I, rfl, ?_⟩
  rw [show its.toArray.any (eqU x) = its.any (eqU x) by simp, mq r fs]
  exact q
 ·obtain ⟨its, r, pl, hz⟩ := I.tuple hq
  refine SeqAt.in_tupleAt (eqU x) pl (fun w hw => kg rx fx r fs w (by simpa using hw)) ⟨.bl _, H, I, rfl, ?_⟩
  rw [show its.toArray.any (eqU x) = its.any (eqU x) by simp, mq r fs]
  exact q
theorem nU : CallR X (.builtin "len") (fun xs H Q => ∃ p ys, xs = [.ref p] /\ (SqL X.K H p ys \/ SqT X.K H p ys) /\ Q (.int ys.length) H) := by
 intro pins s σ H xs us Q I r h
 obtain ⟨p, ys, rfl, hq, q⟩ := h
 obtain ⟨u, rfl, rx⟩ := jh r
 cases rx
 have hn := iA
 rcases hq with hq | hq
 ·obtain ⟨its, r', pl, hz⟩ := I.list hq
  have hlen := r'.length
  exact Calls.call_len_list pl.isList (by simp only [List.size_toArray] <;> omega) ⟨.int ys.length, H, I.tok _, ⟨s.toks + 1, by rw [List.size_toArray, hlen]⟩, q⟩
 ·obtain ⟨its, r', pl, hz⟩ := I.tuple hq
  have hlen := r'.length
  exact len_tuple pl (by simp only [List.size_toArray] <;> omega) ⟨.int ys.length, H, I.tok _, ⟨s.toks + 1, by rw [List.size_toArray, hlen]⟩, q⟩
theorem pe : CallR X (.builtin "len") (fun xs H Q => ∃ z, xs = [.str z] /\ z.length <= sizeLine /\ Q (.int z.length) H) := by
 intro pins s σ H xs us Q I r h
 obtain ⟨z, rfl, hz, q⟩ := h
 obtain ⟨u, rfl, t, rfl⟩ := jh r
 have hn := iA
 exact len_str (by omega) ⟨.int z.length, H, I.tok _, ⟨_, rfl⟩, q⟩
theorem CallR.or {f : Value} {r r' : List V -> Hp -> VK -> Prop} (h : CallR X f r) (h' : CallR X f r') : CallR X f (fun xs H Q => r xs H Q \/ r' xs H Q) := by
 intro pins s σ H xs us Q I rs q
 rcases q with q | q
 ·exact h pins s σ H xs us Q I rs q
 ·exact h' pins s σ H xs us Q I rs q
theorem ox : CallR X (.type "list") (fun xs H Q => ∃ p ys, xs = [.ref p] /\ (SqL X.K H p ys \/ SqT X.K H p ys) /\ ∀ l, H l = none -> Q (.ref l) (upd H l (.lst ys))) := by
 intro pins s σ H xs us Q I r h
 obtain ⟨p, ys, rfl, hq, q⟩ := h
 obtain ⟨u, rfl, rx⟩ := jh r
 cases rx
 have fin : ∀ (its : List Value), Vals ys its -> ys.length <= sizeLine -> ∀ (h' : Heap) (c' : Nat), (∀ b o', s.heap.get? b = some o' -> h'.get? b = some o') ->
   h'.get? s.heap.objs.size = some { cls := .type "list", dict := none, data := .seq its.toArray c', slots := #[] } -> EP X pins σ Q (.ref s.heap.objs.size) { s with heap := h' } := fun its r' hz h' c' kp e =>
  ⟨.ref s.heap.objs.size, _, I.laid (t' := s.toks) kp (Nat.le_refl _) (show ObjOk X.prog X.w _ h' _ (.lst ys) from ⟨hz, its, c', r', e⟩), rfl, q _ (I.hok.fresh (Nat.le_refl _))⟩
 rcases hq with hq | hq
 ·obtain ⟨its, r', pl, hz⟩ := I.list hq
  have hlen := r'.length
  obtain ⟨o, ho, hc, n, hd⟩ := pl.isList
  exact call_list_seq p (.inl rfl) ho hc hd (fun h' c' kp e => fin its r' hz h' c' kp e) (by simp only [List.size_toArray] <;> omega)
 ·obtain ⟨its, r', pl, hz⟩ := I.tuple hq
  have hlen := r'.length
  obtain ⟨o, ho, hc, n, hd⟩ := pl
  exact call_list_seq p (.inr rfl) ho hc hd (fun h' c' kp e => fin its r' hz h' c' kp e) (by simp only [List.size_toArray] <;> omega)
theorem nc : CallR X (.type "tuple") (fun xs H Q => ∃ p ys, xs = [.ref p] /\ ((SqL X.K H p ys /\ ∀ l, H l = none -> Q (.ref l) (upd H l (.tup ys))) \/ (SqT X.K H p ys /\ Q (.ref p) H))) := by
 intro pins s σ H xs us Q I r h
 obtain ⟨p, ys, rfl, h⟩ := h
 obtain ⟨u, rfl, rx⟩ := jh r
 cases rx
 rcases h with ⟨hq, q⟩ | ⟨hq, q⟩
 ·obtain ⟨its, r', pl, hz⟩ := I.list hq
  have hlen := r'.length
  refine call_tuple_list pl.isList (fun h' kp => ?_) (by simp only [List.size_toArray] <;> omega)
  have I1 : Inv X pins σ H { s with heap := h' } := I.kept (t' := s.toks) kp
  have I2 : Inv X pins σ (upd H h'.objs.size (.tup ys)) { s with heap := h'.push { cls := .type "tuple", data := .seq its.toArray } } :=
   I1.laid (t' := s.toks) (fun b o e => Heap.get?_push_of_some _ e) (Nat.le_refl _) (show ObjOk X.prog X.w _ _ _ (.tup ys) from ⟨hz, its, r', IsTup.new _ _⟩)
  exact ⟨.ref h'.objs.size, _, I2, rfl, q _ (I1.hok.fresh (Nat.le_refl _))⟩
 ·obtain ⟨its, r', pl, hz⟩ := I.tuple hq
  exact call_tuple_same pl ⟨.ref p, H, I, rfl, q⟩
noncomputable def tyV (K : PySem.W.Frag) (T : String) (x : V) (H : Hp) : Prop := match x with
 | .str _ => T = "str"
 | .int _ => T = "int"
 | .ref p => (T = "list" /\ ∃ xs, SqL K H p xs) \/ (T = "tuple" /\ ∃ o, K.lookup p = some o /\ o.cls = .type "tuple" /\ o.dict = none) \/
   (T = "dict" /\ ((∃ kvs, H p = some (.dK kvs)) \/ ∃ kvs, H p = some (.dT kvs))) \/ (T = "set" /\ ∃ S n, H p = some (.set S n))
 | _ => False
theorem
    zO {pins : List (Addr × Obj)} {σ : St} {H : Hp} {s : Shared} {T : String} {x : V} {v : Value} (I : Inv X pins σ H s) (r : RelV x v) (ty : tyV X.K T x H) :
  s.TypeIs v T /\ ∀ a, v = .ref a -> ∃ ob, s.heap.get? a = some ob /\ ob.dict = none := by
 cases x with
 |
  str z =>
  obtain ⟨t, rfl⟩ := r
  cases (show T = "str" from ty)
  exact ⟨typeIs_str s z t, fun _ e => nomatch e⟩
 |
  int i =>
  obtain ⟨t, rfl⟩ := r
  cases (show T = "int" from ty)
  exact ⟨typeIs_int s i t, fun _ e => nomatch e⟩
 |
  ref p =>
  cases r
  rcases ty with ⟨rfl, xs, hq⟩ | ⟨rfl, o, hk, hc, hd⟩ | ⟨rfl, hk⟩ | ⟨rfl, S, n, hk⟩
  ·obtain ⟨its, _, pl, _⟩ := I.list hq
   refine ⟨pl.isList.typeIs, fun a e => ?_⟩
   cases e
   obtain ⟨o, n, e, c, hd, _⟩ := pl
   exact ⟨o, e, hd⟩
  ·refine ⟨⟨o, I.kIn p o hk, hc⟩, fun a e => ?_⟩
   cases e
   exact ⟨o, I.kIn _ o hk, hd⟩
  ·have z : ∃ o, s.heap.get? p = some o /\ o.ExactDict := by
    rcases hk with ⟨kvs, hk⟩ | ⟨kvs, hk⟩
    ·obtain ⟨_, _, _, _, o, _, _, e, ex, _⟩ := I.hok p _ hk
     exact ⟨o, e, ex⟩
    ·obtain ⟨_, _, _, _, o, _, _, e, ex, _⟩ := I.hok p _ hk
     exact ⟨o, e, ex⟩
   obtain ⟨o, e, ex⟩ := z
   refine ⟨⟨o, e, ex.1⟩, fun a e2 => ?_⟩
   cases e2
   exact ⟨o, e, ex.2.1⟩
  ·obtain ⟨o, _, _, _, e, ex, _⟩ := I.hok p _ hk
   refine ⟨⟨o, e, ex.1⟩, fun a e2 => ?_⟩
   cases e2
   exact ⟨o, e, ex.2.1⟩
 | _ => exact False.elim ty
noncomputable def tBM (K : PySem.W.Frag) (T : String) (r : V -> List V -> Hp -> VK -> Prop) (to : TE) (t : TA) : TE := fun σ H Q => to σ H fun x H1 => tyV K T x H1 /\ t σ H1 fun xs H2 => r x xs H2 Q
variable {o e : Expr} {es : List Expr} {to : TE} {t : TA} {name : Str} {apos cpos : Pos} {T id : String} {r : V -> List V -> Hp -> VK -> Prop}
theorem Ed (pa : PlainAttrs T) (slot : Slot T name id) (hty : typeOf (.builtin id) = pure (.type "method_descriptor")) (hm : MtR X id r) (ho : PE X o to) (ha : PA X (e :: es) t)
  (hbase : attributeBase o name X.env (eval o X.env) = eval o X.env := by rfl)
  (hfew : ((backTo cpos (starEach (e :: es) X.env)).all (fun x => !x.1) && (backToKw cpos (keywordEach [] X.env)).all (fun x => x.1.isSome)
   && decide ((e :: es).length + ([] : List Keyword).length + (if ([] : List Keyword).isEmpty then 0 else 1) < 30)) = true := by rfl)
  (hline : (apos.endLine == cpos.line) = true := by rfl) (hs : starEach (e :: es) X.env = (false, eval e X.env) :: starEach es X.env := by rfl) (hplain : (backTo cpos (starEach es X.env)).any (·.1) = false := by rfl) :
  PE X (.Call (.Attribute o name apos) (e :: es) [] cpos) (tBM X.K T r to t) := by
 intro pins s σ H Q I h
 refine wpAny_Call_method_late hbase hfew hline rfl (thn (ho pins s σ H _ I h) fun v s1 ⟨x, H1, I1, r1, ty, q1⟩ => ?_)
 obtain ⟨h1, h2⟩ := zO I1 r1 ty
 refine ⟨T, id, pa, slot, hty, h1, h2, ?_⟩
 have hA := ha cpos pins s1 σ H1 _ I1 q1
 rw [hs] at hA ⊢
 refine Calls.callWith_builtin (by show (false || (backTo cpos (starEach es X.env)).any (·.1)) = false; rw [hplain] <;> rfl) (Calls.evalArgs_plain ?_)
 exact thn hA fun us s2 ⟨vs, H2, I2, r2, q2⟩ => hm pins s2 σ H2 x vs v us Q I2 r1 r2 q2
end
end L2
namespace L2
open PySem PySem.Spec PyProof.Rows
noncomputable def MtM (X : Cx) (id : String) (r : V -> List V -> Hp -> VK -> Prop) : Prop :=
 ∀
  (pins : List (Addr × Obj)) (s : Shared) (σ : St) (H : Hp) (x : V) (xs : List V) (v : Value) (us : List Value) (Q : VK), Inv X pins σ H s -> RelV x v -> Vals xs us -> r x xs H Q ->
  wpAny (model X.prog X.w) X.A (call (.builtin id) (v :: us)) (EP X pins σ Q) X.xe s
theorem Vals.one {x : V} {us : List Value} (r : Vals [x] us) : ∃ u, us = [u] /\ RelV x u := by
 cases r with
 | cons r t => cases t; exact ⟨_, rfl, r⟩
section
variable {X : Cx} {pins : List (Addr × Obj)} {σ : St} {H : Hp} {s : Shared} {l b : Addr} {xs ys zs : List V}
theorem Inv.lset {its its' : List Value} {n : Nat} {f : Array Value -> Array Value} {t' : Nat} (I : Inv X pins σ H s) (hH : H l = some (.lst xs))
  (e : s.heap.get? l = some { cls := .type "list", data := .seq its.toArray n }) (hf : f its.toArray = its'.toArray) (hv : Vals ys its') (hz : ys.length <= sizeLine) :
  Inv X pins σ (upd H l (.lst ys)) { s with heap := s.heap.update l (Obj.mapSeq f), toks := t' } := by
 have q := PySem.IsL.update e f
 rw [hf] at q
 refine I.write (x := l) (e := l) (by rw [hH]; exact trivial) (.inl rfl) (fun b' u hb hu => (Heap.get?_update_other s.heap (Obj.mapSeq f) (Ne.symm hb)).trans hu) ⟨_, q⟩ ?_
 exact ⟨hz, its', _, hv, q⟩
theorem Inv.lnew {its : List Value} {t' : Nat} (I : Inv X pins σ H s) (hv : Vals ys its) (hz : ys.length <= sizeLine) :
  Inv X pins σ (upd H s.heap.objs.size (.lst ys)) { s with heap := s.heap.push { cls := .type "list", data := .seq its.toArray }, toks := t' } :=
 I.laid (fun _ _ q => Heap.get?_push_of_some _ q) (Nat.le_refl _) ⟨hz, its, 0, hv, Heap.get?_push_size _ rfl⟩
theorem Inv.fresh (I : Inv X pins σ H s) : H s.heap.objs.size = none := I.hok.fresh (Nat.le_refl _)
theorem Inv.lstM (I : Inv X pins σ H s) (hH : H l = some (.lst xs)) : xs.length <= sizeLine /\ ∃ (its : List Value) (n : Nat), Vals xs its /\ xs.length = its.length /\ s.heap.get? l = some { cls := .type "list", data := .seq its.toArray n } := by
 obtain ⟨z, its, n, r, e⟩ := I.hok l _ hH
 exact ⟨z, its, n, r, r.length, e⟩
end
section
variable {X : Cx}
noncomputable def mK : V -> List V -> Hp -> VK -> Prop := fun x vs H Q => ∃ l xs y, x = .ref l /\ vs = [y] /\ H l = some (.lst xs) /\ xs.length < sizeLine /\ Q .non (upd H l (.lst (xs ++ [y])))
theorem uc : MtM X "list.append" mK := by
 intro pins s σ H x vs v us Q I rx rv h
 obtain ⟨l, xs, y, rfl, rfl, hH, hz, q⟩ := h
 cases rx
 obtain ⟨u, rfl, ru⟩ := rv.one
 obtain ⟨z, its, n, r, hl, e⟩ := I.lstM hH
 refine call_meets F.slot_list_append ⟨_, e, rfl⟩ F.entry_list_append (F.args_list_append_2 _ _) (PySem.list_append l its.toArray n u (by rw [List.size_toArray]; omega)) ⟨e, ?_⟩
 refine ⟨.non, _, I.lset (its' := its ++ [u]) hH e (by simp) (r.append (.cons ru .nil)) ?_, rfl, q⟩
 rw [List.length_append, List.length_singleton]
 omega
noncomputable def mw : R2 := fun x y H Q => ∃ l b xs zs, x = .ref l /\ y = .ref b /\ H l = some (.lst xs) /\ H b = some (.lst zs) /\ xs.length + zs.length <= sizeLine /\ ∀ p, H p = none -> Q (.ref p) (upd H p (.lst (xs ++ zs)))
theorem Aj : OpR X (binaryOp .Add) mw := by
 intro pins s σ H x y v u Q I rx ry h
 obtain ⟨l, b, xs, zs, rfl, rfl, hH, hB, hz, q⟩ := h
 cases rx
 cases ry
 obtain ⟨z, its, n, r, hl, e⟩ := I.lstM hH
 obtain ⟨z2, its2, n2, r2, hl2, e2⟩ := I.lstM hB
 refine PySem.P.add_list e e2 ?_ (by rw [List.size_toArray, List.size_toArray]; omega)
 have ea : its.toArray ++ its2.toArray = (its ++ its2).toArray := by simp
 rw [ea]
 exact ⟨.ref _, _, I.lnew (t' := s.toks) (r.append r2) (by rw [List.length_append]; omega), rfl, q _ I.fresh⟩
end
section
variable {prog : Program} {w : World} {A : Around} {E : Value -> Shared -> Prop} {s : Shared}
set_option maxRecDepth 100000 in
end
section
variable {X : Cx}
end
end L2
namespace Att
open PySem PySem.W PySem.Calls PyProof.Rows
theorem lK {P : Params} {h : Heap} : ∀ (ns : List Int) (vs : List Value), WellAll P h vs (ns.map WData.int) -> IntsAre vs ns := by
 intro ns
 induction ns with
 |
  nil =>
  intro vs w
  rw [List.map_nil] at w
  cases w
  exact .nil
 |
  cons n ns ih =>
  intro vs w
  rw [List.map_cons] at w
  cases w with
  |
   cons a b =>
   cases a
   exact .cons _ _ (ih _ b)
theorem um {l : OpenLaw} {n : Nat} (hn : l.most = some n) {P : Params} {h : Heap} {args : List WData} {vals : List Value}
  (hpre : l.row.toRowW.claim.pre args = true) (hwl : WellAll P h vals args) :
  ∃ a vs ns, vals = [Value.ref a] /\ args = [WData.list (ns.map WData.int)] /\ h.get? a = some { cls := .type "list", data := .seq vs.toArray } /\ IntsAre vs ns /\ ns.length <= n := by
 have hsh : WShape.hasAll [] args [.list .int] = true := (pre_splitW hpre).1
 have hc : l.pre.holds [] { args := args } = true := (pre_splitW hpre).2
 obtain ⟨d, r, rfl, h1, h2⟩ := hasAllW_cons hsh
 obtain rfl := hasAllW_nil h2
 obtain ⟨xs, rfl, h3⟩ := hasW_list h1
 obtain ⟨ns, rfl⟩ := items_int h3
 have hlen : ns.length <= n := by
  unfold OpenLaw.pre at hc
  have h4 : (WTm.not (.lt (.lit (.int (n : Int))) (.len (.arg 0)))).holds [] { args := [.list (ns.map .int)] } = true := by
   have h4 := (holds_andW hc).1
   rw [hn] at h4
   exact h4
  have h5 := condW_of h4 (w_not (w_lt w_lit (w_len_list (w_arg rfl))))
  rw [List.length_map] at h5
  refine Nat.le_of_not_lt fun q => ?_
  have q' : (n : Int) < ((ns.length : Nat) : Int) := by omega
  first
   | (rw [decide_eq_true q'] at h5; exact absurd h5 (by decide))
   | (simp at h5; omega)
 cases hwl with
 |
  cons w1 w2 =>
  cases w2
  cases w1 with
  | list ho hall => exact ⟨_, _, ns, rfl, rfl, ho, lK ns _ hall, hlen⟩
theorem uq (l : OpenLaw) (args : List WData) : l.row.toRowW.claim.post args (.bool true) args = true :=
 postW_of (r := l.row.toRowW) (X := (true == true))
  (show WShape.has [] (.bool true) .bool = true by first | rfl | decide | simp [WShape.has, WShape.arms, WShape.armsAll])
  (show (WTm.eq .res (.lit (.bool true))).value [] { args := args, res := some (.bool true), after := args } = some (.bool (true == true)) from w_eq_bool (w_res rfl) w_lit) rfl
theorem attach_call {l : OpenLaw} {n : Nat} {q : Program} {loose : List Str} {XP : (Str -> Option Value) -> Heap -> Prop} {YP : World -> Heap -> Prop} {d : DefRec}
  (hn : l.most = some n) (hdf : d.params.defaults = [])
  (call : ∀ (w : World) (s₀ s₁ : Shared) (mg mb : Str -> Option Value) (fa : Addr) (o : Obj) (pm cd doc : Value) (a : Addr) (vs : List Value) (ns : List Int),
   Ground q loose [] XP w s₀ mg mb s₁.heap -> YP w s₁.heap ->
   s₁.heap.get? fa = some o -> o.data = .func (docDef d.name d.params d.body d.scope pm cd doc) -> s₁.heap.CodeRec cd d.name -> mg d.name = some (.ref fa) ->
   s₁.heap.get? a = some { cls := .type "list", data := .seq vs.toArray } -> IntsAre vs ns -> ns.length <= n -> s₁.gens = #[] ->
   codeAny (model l.prog w) callerA (.call (.ref fa) ⟨[.ref a], []⟩) (fun r s' => r = .ok (.ret (.bool true)) /\ OldK s₁.heap s'.heap /\ s'.os = s₁.os /\ AllBare s'.gens) s₁) :
  WalkO q loose XP YP l.row.toRowW d [] (fun f vs => PySem.call f vs) := by
 intro w s₀ s₁ mg mb G Y fa o pm cd doc dV kV ho hd hcd hD hmg hg args vals as hpre hlay hrd hwl hlo
 obtain rfl : dV = .none := Dflts.none hD hdf
 obtain rfl : kV = .none := Dflts.noKw hD
 obtain ⟨a, vs, ns, rfl, rfl, hobj, hints, hlen⟩ := um hn hpre hwl
 refine enter_call (codeAny_mono (call w s₀ s₁ mg mb fa o pm cd doc a vs ns G Y ho (fd_plain hd) hcd hmg hobj hints hlen hg) fun r s' hq => ?_)
 obtain ⟨rfl, h2, h3, h4⟩ := hq
 exact ⟨.inl ⟨.bool true, .bool true, [], rfl, fun _ => rfl, .bool true, uq l _, fun _ => ⟨List.Pairwise.nil, fun _ hm => (nomatch hm)⟩⟩, h2, h3, h4⟩
section
variable {prog : Program} {w : World} {A : Around} {E : Value -> Shared -> Prop} {s : Shared} {K : Frag}
noncomputable def ledger (h : Heap) (L d : Addr) : List (Addr × Obj) := (List.range h.objs.size).filterMap fun a => if a = L \/ a = d then none else (h.get? a).map fun o => (a, o)
end
end Att
namespace L2
open PySem PySem.Spec PyProof.Rows
theorem m6 : ∀ {vs : List Value} {ns : List Int}, IntsAre vs ns -> Vals (ns.map V.int) vs
 | _, _, .nil => .nil
 | _, _, .cons n t h => .cons ⟨t, rfl⟩ (m6 h)
noncomputable def mB (H : Hp) : Prop := ∀ b, H b = none \/ ∃ o xs, H b = some (.frz o (.lst xs))
theorem
    uD {P : Program} {w : World} {K : PySem.W.Frag} {mg mb : Str -> Option Value} {CX : CXT} {k : Nat} {fa a : Addr} {fd : FuncData} {x : Str} {sp : Sp} {s₁ : Shared} {vs : List Value} {ns : List Int}
  (KX : K.In s₁.heap) (hns : s₁.heap.Ns mainGlobals mg) (hb : s₁.heap.Ns builtinsNs mb) (hbb : ∀ x : Str, x ≠ "__name__" -> mb x = bootBuiltins x) (hlim : s₁.heap.NoLimit) (hg : s₁.gens = #[])
  (ha : s₁.heap.get? a = some { cls := .type "list", data := .seq vs.toArray }) (hi : IntsAre vs ns) (hl : ns.length <= sizeLine) (hr : Room k callerA)
  (F : ∀ base : Heap, K.In base -> base.Ns mainGlobals mg -> FnOk P w K mg base CX k fa fd [x] sp) (hbind : ∀ (s : Shared) (u : Value), BindsTo s fd ⟨[u], []⟩ [(x, u)])
  (hsp : ∀ H : Hp, mB H -> SqL K H a (ns.map V.int) -> sp [.ref a] H (fun v _ => v = .bl true) fun _ _ _ => False)
  (hCX : ∀ H e s', CX [] H s₁ (fun _ _ _ => False) e s' -> False) :
  codeAny (model P w) callerA (.call (.ref fa) ⟨[.ref a], []⟩) (fun r s' => r = .ok (.ret (.bool true)) /\ OldK s₁.heap s'.heap /\ s'.os = s₁.os /\ AllBare s'.gens) s₁ := by
 have rv := m6 hi
 have lenV := hi.length
 have core
      : ∀ H : Hp, mB H -> SqL K H a (ns.map V.int) -> HOk P w H s₁.heap -> (∀ b, H b ≠ none -> b = a) -> (H a ≠ none -> K.lookup a = none) ->
   codeAny (model P w) callerA (.call (.ref fa) ⟨[.ref a], []⟩) (fun r s' => r = .ok (.ret (.bool true)) /\ OldK s₁.heap s'.heap /\ s'.os = s₁.os /\ AllBare s'.gens) s₁ := by
  intro H hO hS hok hA hK
  have base_of : ∀ {b : Addr} {o : Obj}, s₁.heap.get? b = some o -> H b = none -> (iN s₁.heap H).get? b = some o := fun e n => u9 e n
  have noA : ∀ {b : Addr} {o : Obj} {es : Array DictEntry} {ep : Nat}, s₁.heap.get? b = some o -> o.data = .dict es ep -> H b = none := fun {b o es ep} e d => by
   cases q : H b with
   | none => rfl
   |
    some u =>
    have e' : b = a := hA b (by rw [q]; simp)
    subst e'
    rw [ha] at e; cases e
    have d' : Data.seq vs.toArray _ = Data.dict es ep := d
    cases d'
  have nsK : ∀ {b : Addr} {m : Str -> Option Value}, s₁.heap.Ns b m -> (iN s₁.heap H).Ns b m := fun {b m} ⟨o, es, ep, e, d, r⟩ => ⟨o, es, ep, base_of e (noA e d), d, r⟩
  have hKb : K.In (iN s₁.heap H) := fun b o e => base_of (KX b o e) (by
   cases q : H b with
   | none => rfl
   |
    some u =>
    have e' : b = a := hA b (by rw [q]; simp)
    subst e'
    rw [hK (by rw [q]; simp)] at e; cases e)
  have hM : Mod K mg (iN s₁.heap H) := ⟨hKb, nsK hns, ⟨mb, nsK hb, hbb⟩, let ⟨mc, h1, h2⟩ := hlim; ⟨mc, nsK h1, h2⟩⟩
  have e0 : Env0 P w K mg (iN s₁.heap H) callerA [] s₁ H := ⟨rfl, hM, fun b o e => yz e, Nat.le_of_eq (sx _ _), trivial, fun b hb => absurd (show b ∈ ([] : List Addr) from hb) (by simp), hok, .of_eq hg⟩
  refine codeAny_mono ((F _ hKb (nsK hns)).run callerA [] s₁ H ⟨[.ref a], []⟩ [.ref a] [.ref a] _ _ hr e0 (hbind s₁ (.ref a)) (.cons rfl .nil) (hsp H hO hS)) fun r s' h => ?_
  cases r with
  | error e => exact (hCX H e s' h).elim
  |
   ok fl =>
   cases fl with
   | next => exact False.elim h
   | brk => exact False.elim h
   | cont => exact False.elim h
   |
    ret u =>
    obtain ⟨v, H', os, bare, un, hok', r', q⟩ := h
    have q' : v = .bl true := q
    subst q'
    obtain rfl : u = Value.bool true := r'
    refine ⟨rfl, OldK.of_keep fun b o e => ?_, os, bare⟩
    cases q : H b with
    | none => exact un.keep b o e q (by intro z; exact absurd (show b ∈ ([] : List Addr) from z) (by simp)) (by simp)
    |
     some u =>
     rcases hO b with z | ⟨ob, xs, z⟩
     ·rw [q] at z; cases z
     ·have z2 := un.frzs b ob _ z
      obtain ⟨e1, _⟩ := hok b _ z
      obtain ⟨e2, _⟩ := hok' b _ z2
      rw [e] at e1; cases e1
      exact e2
 cases hk : K.lookup a with
 |
  some o =>
  have e := KX a o hk
  rw [ha] at e
  cases e
  refine core (fun _ => none) (fun _ => .inl rfl) (.inr ⟨_, vs.toArray, _, hk, rfl, rfl, rfl, by rw [List.size_toArray, lenV]; exact hl, by simpa using rv⟩) (fun b u z => by have z' : (none : Option HO) = some u := z; cases z') (fun b z => absurd rfl z) fun z => absurd rfl z
 |
  none =>
  refine core (fun b => if b = a then some (.frz { cls := .type "list", data := .seq vs.toArray } (.lst (ns.map V.int))) else none) (fun b => ?_) (.inl (.inr ⟨{ cls := .type "list", data := .seq vs.toArray }, if_pos rfl⟩)) (fun b u z => ?_) (fun b z => ?_) fun _ => hk
  ·by_cases hb : b = a
   ·exact .inr ⟨_, _, if_pos hb⟩
   ·exact .inl (if_neg hb)
  ·by_cases hb : b = a
   ·have z' := (if_pos hb).symm.trans z
    cases z'
    subst hb
    exact ⟨ha, by rw [List.length_map]; exact hl, vs, _, rv, ha⟩
   ·have z' := (if_neg hb).symm.trans z
    cases z'
  ·by_cases hb : b = a
   ·exact hb
   ·exact absurd (if_neg hb) z
end L2
namespace L2
open PySem PySem.Spec PyProof.Rows
abbrev KOf {K : PySem.W.Frag} {h : Heap} (_ : K.In h) : PySem.W.Frag := K
theorem
    walk_of {l : PySem.W.OpenLaw} {n k : Nat} {q : Program} {loose : List Str} {XP : (Str -> Option Value) -> Heap -> Prop} {YP : World -> Heap -> Prop} {d : DefRec} {K : Params -> PySem.W.Frag} {CX : World -> CXT} {sp : World -> Sp} {x : Str}
  (hn : l.most = some n) (hn2 : n <= sizeLine) (hdf : d.params.defaults = []) (hr : Room k callerA)
  (hY : ∀ (w : World) (h : Heap), YP w h -> (K w.params).In h)
  (F : ∀ (w : World) (mg : Str -> Option Value) (fa : Addr) (h : Heap), (K w.params).In h -> h.Ns mainGlobals mg -> mg d.name = some (.ref fa) ->
   ∃
    fd : FuncData, (∀ (s : Shared) (u : Value), BindsTo s fd ⟨[u], []⟩ [(x, u)]) /\
    ∀ base : Heap, (K w.params).In base -> base.Ns mainGlobals mg -> FnOk l.prog w (K w.params) mg base (CX w) k fa fd [x] (sp w))
  (hsp : ∀ (w : World) (H : Hp) (a : Addr) (ns : List Int), ns.length <= n -> mB H -> SqL (K w.params) H a (ns.map V.int) -> sp w [.ref a] H (fun v _ => v = .bl true) fun _ _ _ => False)
  (hCX : ∀ (w : World) (H : Hp) (s : Shared) (e : Value) (s' : Shared), CX w [] H s (fun _ _ _ => False) e s' -> False) :
  PySem.W.WalkO q loose XP YP l.row.toRowW d [] (fun f vs => PySem.call f vs) := by
 refine Att.attach_call hn hdf fun w s₀ s₁ mg mb fa o pm cd doc a vs ns G Y ho hd hcd hmg hobj hints hlen hg => ?_
 have KX := hY w _ Y
 obtain ⟨fd, hb, hF⟩ := F w mg fa _ KX G.T.g hmg
 exact uD KX G.T.g G.T.b G.T.builtins G.T.nolimit hg hobj hints (Nat.le_trans hlen hn2) hr hF hb (fun H hO hS => hsp w H a ns hlen hO hS) fun H e s' => hCX w H s₁ e s'
end L2
namespace L2
open PySem PySem.Spec PyProof.Rows
noncomputable def dG (s : Stmt) : Arguments := match s with
 | .FunctionDef _ a _ _ _ _ _ _ _ _ => a
 | _ => { posonlyargs := [], args := [], vararg := none, kwonlyargs := [], kw_defaults := [], kwarg := none, defaults := [] }
noncomputable def cm (s : Stmt) : List Stmt := match s with
 | .FunctionDef _ _ b _ _ _ _ _ _ _ => b
 | _ => []
noncomputable def ax (s : Stmt) : Scope := match s with
 | .FunctionDef _ _ _ _ _ _ sc _ _ _ => sc
 | _ => { kind := .function, names := [], isGenerator := false, isCoroutine := false }
abbrev E0 : XK := fun _ _ _ => False
structure Fun (K : PySem.W.Frag) (x qual : Str) (st : Stmt) (f : Addr) (fd : FuncData) : Prop where
 ex : ∃ (oc : Value) (od : Option Addr) (kV doc pm : Value) (an : Option Addr) (cdv ct : Value) (osl : Array (Option Value)),
  fd = PySem.W.fnOf x qual (dG st) (cm st) (ax st) .none kV doc pm an cdv ct /\ K.lookup f = some ⟨oc, od, .func fd, osl⟩ /\ PySem.W.codeIn K cdv qual = true
 kp : PySem.W.keepIn K (.ref f) = true
section
variable {P : Program} {w : World} {K : PySem.W.Frag} {mg : Str -> Option Value} {base : Heap}
theorem Fun.binds {x qual : Str} {st : Stmt} {f : Addr} {fd : FuncData} {ps : List Str} (F : Fun K x qual st f fd)
  (h : ∀ (kV doc pm : Value) (an : Option Addr) (cdv ct : Value) (us : List Value), us.length = ps.length -> bindArgs (PySem.W.fnOf x qual (dG st) (cm st) (ax st) .none kV doc pm an cdv ct) ⟨us, []⟩ = pure (ps.zip us)) : Binds K fd ps [] := by
 obtain ⟨oc, od, kV, doc, pm, an, cdv, ct, osl, rfl, lk, hcd⟩ := F.ex
 exact .all (h kV doc pm an cdv ct)
theorem BX {x qual : Str} {st : Stmt} {f : Addr} {oc : Value} {od an : Option Addr} {osl : Array (Option Value)} {kV doc pm cdv ct : Value} (l : K.lookup f = some ⟨oc, od, .func (PySem.W.fnOf x qual (dG st) (cm st) (ax st) .none kV doc pm an cdv ct), osl⟩)
  (c : PySem.W.codeIn K cdv qual = true) (k : PySem.W.keepIn K (.ref f) = true) : Fun K x qual st f (PySem.W.fnOf x qual (dG st) (cm st) (ax st) .none kV doc pm an cdv ct) := ⟨⟨oc, od, kV, doc, pm, an, cdv, ct, osl, rfl, l, c⟩, k⟩
end
section
variable {X : Cx}
end
end L2
set_option Elab.async false
set_option linter.all false
set_option maxRecDepth 100000
namespace L2
open PySem PySem.Spec PyProof.Rows
section
variable {X : Cx} {pins : List (Addr × Obj)} {σ : St} {H : Hp} {s : Shared}
theorem Inv.track {a : Addr} {o : HO} (I : Inv X pins σ H s) (hn : H a = none) (h0 : X.s₀.heap.get? a = none) (hL : a ≠ X.env.locals) (hc : ∀ x c, X.env.cells.lookup x = some c -> c ≠ a)
  (hp : ∀ p ∈ X.pn ++ pins, p.1 ≠ a) (new : ObjOk X.prog X.w (upd H a o) s.heap a o) : Inv X pins σ (upd H a o) s := by
 have ne : ∀ b u, H b = some u -> b ≠ a := fun b u e z => by rw [z, hn] at e; cases e
 have ne0 : ∀ b u, X.s₀.heap.get? b = some u -> b ≠ a := fun b u e z => by rw [z, h0] at e; cases e
 refine ⟨I.ok, I.os, I.bare, ⟨I.base.keep, I.base.slot, fun b u e n hx => ?_, I.base.there, fun b xs e => ?_, fun b u xs e => ?_, fun b ps e => ?_⟩, I.loc, I.cell, ?_, fun x c e => ?_, fun p hp' => ?_, fun b u e => ?_, I.len⟩
 ·rw [aT (ne0 b u e)]; exact I.base.free b u e n hx
 ·have q := I.base.tups b xs e
  rw [aT (ne _ _ q)]; exact q
 ·have q := I.base.frzs b u xs e
  rw [aT (ne _ _ q)]; exact q
 ·obtain ⟨m, q⟩ := I.base.tbls b ps e
  exact ⟨m, by rw [aT (ne _ _ q)]; exact q⟩
 ·rw [aT (Ne.symm hL)]; exact I.free
 ·rw [aT (hc x c e)]; exact I.freeC x c e
 ·obtain ⟨e, n, r⟩ := I.pin p hp'
  exact ⟨e, by rw [aT (hp p hp')]; exact n, r⟩
 ·by_cases hb : b = a
  ·subst hb; rw [cz] at e; cases e; exact new
  ·rw [aT hb] at e
   exact (I.hok b u e).stay (fun c v _ q => q) (fun c q => by rw [aT (ne _ _ q)]; exact q) fun c xs q => by rw [aT (ne _ _ q)]; exact q
end
theorem
    ji {env : Env} : ∀ {names : List (Str × NameKind)} (cs : List (Str × Addr)), (∀ x ∈ names, x.2 = .free -> ∃ c, env.cells.lookup x.1 = some c) -> (∀ x c, cs.lookup x = some c -> env.cells.lookup x = some c) ->
  ∃
   cl, (forIn names cs fun (x : Str × NameKind) (r : List (Str × Addr)) => if (x.2 == NameKind.free) = true then do let a <- cellOf env x.1; pure (ForInStep.yield ((x.1, a) :: r)) else pure (ForInStep.yield r) : Sem (List (Str × Addr))) = pure cl /\
   (∀ x c, cl.lookup x = some c -> env.cells.lookup x = some c) /\ (∀ x c, cs.lookup x = some c -> ∃ c', cl.lookup x = some c') /\ ∀ x ∈ names, x.2 = .free -> ∃ c, cl.lookup x.1 = some c
 | [], cs, _, h => ⟨cs, by simp, h, fun x c e => ⟨c, e⟩, fun _ hx => nomatch hx⟩
 |
  (n, k) :: r, cs, hf, h => by
  rw [List.forIn_cons]
  by_cases hk : k = .free
  ·subst hk
   obtain ⟨c, hc⟩ := hf (n, .free) List.mem_cons_self rfl
   have hcell : cellOf env n = pure c := by unfold cellOf; rw [hc]
   have h' : ∀ x d, ((n, c) :: cs).lookup x = some d -> env.cells.lookup x = some d := fun x d e => by
    rw [List.lookup_cons] at e
    cases q : x == n with
    | true => rw [q] at e; cases e; rw [beq_iff_eq.mp q]; exact hc
    | false => rw [q] at e; exact h x d e
   obtain ⟨cl, e1, e2, e3, e4⟩ := ji (env := env) (names := r) ((n, c) :: cs) (fun x hx => hf x (List.mem_cons_of_mem _ hx)) h'
   have top : ∃ c', cl.lookup n = some c' := e3 n c (by rw [List.lookup_cons]; simp)
   refine ⟨cl, ?_, e2, fun x d e => ?_, fun x hx hfr => ?_⟩
   ·simp only [beq_self_eq_true, if_true, hcell]
    exact e1
   ·by_cases q : x = n
    ·rw [q]; exact top
    ·exact e3 x d (by rw [List.lookup_cons, (beq_eq_false_iff_ne.mpr q : (x == n) = false)]; exact e)
   ·rcases List.mem_cons.mp hx with rfl | hx
    ·exact top
    ·exact e4 x hx hfr
  ·have hb : (k == NameKind.free) = false := by simpa using hk
   obtain ⟨cl, e1, e2, e3, e4⟩ := ji (env := env) (names := r) cs (fun x hx => hf x (List.mem_cons_of_mem _ hx)) h
   refine ⟨cl, ?_, e2, e3, fun x hx hfr => ?_⟩
   ·simp only [hb, Bool.false_eq_true, if_false]
    exact e1
   ·rcases List.mem_cons.mp hx with rfl | hx
    ·exact absurd hfr hk
    ·exact e4 x hx hfr
theorem nv {env : Env} {scope : Scope} (hf : ∀ x ∈ scope.names, x.2 = .free -> ∃ c, env.cells.lookup x.1 = some c) :
  ∃ cl, closureFor scope env = pure cl /\ (∀ x c, cl.lookup x = some c -> env.cells.lookup x = some c) /\ ∀ x ∈ scope.names, x.2 = .free -> ∃ c, cl.lookup x.1 = some c := by
 obtain ⟨cl, e1, e2, _, e4⟩ := ji (env := env) (names := scope.names) [] hf (fun x c e => by simp at e)
 refine ⟨cl, ?_, e2, e4⟩
 unfold closureFor
 simp only [e1]
 rfl
noncomputable def dk (X : Cx) (N : List Str) (scope : Scope) (cl : List (Str × Addr)) (C : Addr) (s₂ : Shared) (H : Hp) (fp : List Addr) : Cx :=
 { X with N := N, s₀ := s₂, H₀ := H, env := compEnvC scope cl C X.env, outer := X.stack, stack := X.stack, ex := fp, fn := fun _ => false, pn := [], xe := fun _ _ => False }
noncomputable def fu (sub : List (Option Nat)) (σ : St) : St := sub.map fun o => o.bind fun i => (σ[i]?).bind id
noncomputable def LcW (J : It) (sub : List (Option Nat)) (g : TG) (tc : TT) (te : TE) (σ : St) (H1 : Hp) (Q : VK) : Prop := ∃ W : Nat -> Nat -> List V -> St -> Hp -> Prop, (∃ m, W 0 m [] (fu sub σ) H1) /\ ∀ i m ys σ H, W i m ys σ H ->
 (J.stop i H /\ ys.length <= sizeLine /\ ∀ D, H D = none -> Q (.ref D) (upd H D (.lst ys))) \/
 (J.go i H /\ ys.length < sizeLine /\ ∃ Nx : List V -> St -> Hp -> Prop, (∀ ys' σ' H', Nx ys' σ' H' -> ∃ m', m' < m /\ W (i + 1) m' ys' σ' H') /\
  ∀ x H', J.yld i H x H' -> g x σ H' fun σ2 H2 => tc σ2 H2 fun b H3 => if b = true then te σ2 H3 fun y H4 => Nx (ys ++ [y]) σ2 H4 else Nx ys σ2 H3)
noncomputable def rN (wi : TI) (sub : List (Option Nat)) (g : TG) (tc : TT) (te : TE) : TE := fun σ H Q => wi σ H fun J H1 => LcW J sub g tc te σ H1 Q
abbrev tYes : TT := fun _ H Q => Q true H
section
variable {prog : Program} {w : World} {A : Around} {R : Result -> Shared -> Prop} {s : Shared}
theorem oo {elt target iter : Expr} {ifs : List Expr} {scope : Scope} {pos : Pos} {it acc : Value} {env : Env} (I : Nat -> Shared -> Prop)
  (turn
     : ∀ n s, I n s -> wpAny (model prog w) A (pyNext it) (fun r s₁ => match r with
   | none => R (.ok .next) s₁
   | some v => wpAny (model prog w) A (letOwnedTupleGo target it v) (fun _ s₁' => wpAny (model prog w) A (assign target env v) (fun _ s₂ =>
     wpAny (model prog w) A (forIn ifs true fun c r => if r = true then do let ok <- isTrue c env (eval c env); pure (ForInStep.yield ok) else pure (ForInStep.yield r))
      (fun ok s₃ => if ok = true then wpAny (model prog w) A (eval elt env) (fun x s₄ => wpAny (model prog w) A (call (.builtin "list.append") [acc, x]) (fun _ s₅ => ∃ m, m < n /\ I m s₅) (fun _ _ => False) s₄) (fun _ _ => False) s₃
       else ∃ m, m < n /\ I m s₃) (fun _ _ => False) s₂) (fun _ _ => False) s₁') (fun _ _ => False) s₁) (fun _ _ => False) s)
  (n : Nat) (h : I n s) :
  codeAny (model prog w) A (.compLoop (.ListComp elt [⟨target, iter, ifs, 0⟩] scope pos) 0 it acc env) R s := by
 refine codeAny_loop rfl I (fun n s hI => ?_) n h
 show wpAny _ _ ((compTurn (.ListComp elt [⟨target, iter, ifs, 0⟩] scope pos) 0 it acc env).onRaise (fun x => do noteFrame x env; theTreesLotGoes x)) _ _ s
 refine wpAny_noted ?_
 rw [compTurn_list]
 refine wpAny_mono (E := fun _ _ => False) ?_ (fun _ _ q => q) fun _ _ q => q.elim
 refine wpAny_bind (wpAny_standAt (wpAny_bind (wpAny_mono (turn n s hI) (fun r s₁ h₁ => ?_) fun _ _ h' => h')))
 cases r with
 | none => exact wpAny_pure h₁
 |
  some v =>
  refine wpAny_bind (wpAny_mono h₁ (fun _ s₁' h₁' => ?_) fun _ _ h' => h')
  refine wpAny_bind (wpAny_mono h₁' (fun _ s₂ h₂ => ?_) fun _ _ h' => h')
  refine wpAny_bind (wpAny_mono h₂ (fun ok s₃ h₃ => ?_) fun _ _ h' => h')
  cases ok with
  |
   true =>
   simp only [if_true] at h₃ ⊢
   refine wpAny_bind (wpAny_bind (wpAny_mono h₃ (fun x s₄ h₄ => ?_) fun _ _ h' => h'))
   refine wpAny_bind (wpAny_mono h₄ (fun _ s₅ h₅ => ?_) fun _ _ h' => h')
   exact wpAny_pure (wpAny_pure ⟨rfl, h₅⟩)
  |
   false =>
   simp only [Bool.false_eq_true, if_false] at h₃ ⊢
   first
    | exact wpAny_bind (wpAny_pure (wpAny_pure ⟨rfl, h₃⟩))
    | exact wpAny_pure ⟨rfl, h₃⟩
end
section
variable {X : Cx}
noncomputable def PTs (X : Cx) (ifs : List Expr) (t : TT) : Prop :=
 ∀
  (pins : List (Addr × Obj)) (s : Shared) (σ : St) (H : Hp) (Q : Bool -> Hp -> Prop), Inv X pins σ H s -> t σ H Q ->
  wpAny (model X.prog X.w) X.A (forIn ifs true fun c r => if r = true then do let ok <- isTrue c X.env (eval c X.env); pure (ForInStep.yield ok) else pure (ForInStep.yield r)) (TP X pins σ Q) X.xe s
theorem yT : PTs X [] (fun _ H Q => Q true H) := fun pins s σ H Q I h => by
 rw [List.forIn_nil]
 exact wpAny_pure ⟨H, I, h⟩
theorem
    zt {elt iter tg : Expr} {ifs : List Expr} {scope : Scope} {pos : Pos} {wi : TI} {g : TG} {tc : TT} {te : TE} {N : List Str} {sub : List (Option Nat)}
  (hc : X.calm = true) (hi : PI X tg iter wi)
  (hk : scope.kind = .function) (hnc : ∀ x ∈ scope.names, x.2 ≠ .cell) (hnames : ∀ x ∈ scope.names, x.2 = .local -> scope.names.lookup x.1 = some .local)
  (hfr : ∀ x ∈ scope.names, x.2 = .free -> X.env.kindOf x.1 = some .cell \/ X.env.kindOf x.1 = some .free)
  (hsl : sub.length = N.length) (hsub : ∀ (j i : Nat) (x : Str), sub[j]? = some (some i) -> N[j]? = some x -> X.N[i]? = some x /\ scope.names.lookup x = some .free)
  (hg : ∀ cl C s₂ H fp, PG (dk X N scope cl C s₂ H fp) tg g) (ht : ∀ cl C s₂ H fp, PTs (dk X N scope cl C s₂ H fp) ifs tc) (he : ∀ cl C s₂ H fp, PE (dk X N scope cl C s₂ H fp) elt te)
  (hs : ∀ x, foldedSetIterable iter X.env x = pure x := by intro _; rfl) :
  PE X (.ListComp elt [⟨tg, iter, ifs, 0⟩] scope pos) (rN wi sub g tc te) := by
 intro pins s σ H Q I h
 obtain ⟨cl, hclos, hcl, hclf⟩ := nv (env := X.env) (scope := scope) fun x hx hf => I.ok.has x.1 (hfr x hx hf)
 rw [eval_ListComp]
 refine wpAny_comprehension_free (use := none) rfl hs hclos hk hnames ?_
 show wpAny _ _ (eval iter X.env) _ _ _
 refine thn (hi pins s σ H _ I h) fun v s1 h1 => thn h1 fun itv s2 h2 => ?_
 obtain ⟨it, fp, tn, J, H2, e, I2, T, st2, f2, W, ⟨m0, w0⟩, turn⟩ := h2
 subst e
 refine wpAny_newObj_type (wpAny_newFunctionEnv hnc (by intro y hy; simp at hy) (fun h₁ hns₁ hsb₁ => ?_) hk)
 dsimp only at hns₁ hsb₁ ⊢
 generalize hH2 : s2.heap.push { cls := .type "list", dict := none, data := .seq ([] : List Value).toArray } = G2 at hns₁ hsb₁ ⊢
 have hC : G2.objs.size = s2.heap.objs.size + 1 := by rw [<- hH2, Heap.size_push]
 have hDC : s2.heap.objs.size ≠ G2.objs.size := by omega
 have below : ∀ b, b < s2.heap.objs.size -> b ≠ G2.objs.size /\ b ≠ s2.heap.objs.size := fun b hb => ⟨by omega, by omega⟩
 have old : ∀ b o, s2.heap.get? b = some o -> h₁.get? b = some o := fun b o e => hsb₁.extBut b o (below b (Heap.lt_size e)).1 (Heap.get?_push_of_some _ (hH2 ▸ Heap.get?_push_of_some _ e))
 have hD₁ : h₁.get? s2.heap.objs.size = some { cls := .type "list", dict := none, data := .seq ([] : List Value).toArray } := hsb₁.extBut _ _ hDC (Heap.get?_push_of_some _ (hH2 ▸ Heap.get?_push_size _ rfl))
 have fresh : ∀ a, s2.heap.objs.size <= a -> s2.heap.get? a = none := fun a ha => Heap.get?_none_of_le ha
 have cellOld : ∀ x c, cl.lookup x = some c -> c < s2.heap.objs.size := fun x c e => by
  obtain ⟨v, z⟩ := I2.cell x c (hcl x c e)
  exact z.lt
 have fpOld : ∀ b ∈ fp, b < s2.heap.objs.size := fun b hb => by
  obtain ⟨o, e, _⟩ := T.obj _ _ st2 b hb
  exact Heap.lt_size e
 let Y : Cx := dk X N scope cl G2.objs.size s2 H2 fp
 have okY : Y.Ok
         := by
  refine ⟨I2.ok.mod, ?_, I2.ok.glob, I2.ok.blt, ?_, fun x y c e1 e2 => I2.ok.inj x y c (hcl x c e1) (hcl y c e2), fun x hx => ?_, fun x c hfn _ => absurd hfn Bool.false_ne_true, I2.ok.hd, I2.ok.frames, .inl rfl,
   fun b hb => ⟨?_, fun x c e z => ?_⟩, I2.bs, Nat.le_trans I2.ok.bsz I2.sz, fun b o e hb => ?_, fun b hb hf => ?_, I2.stack, I2.stkFree⟩
  ·show (relabel scope X.env).kind = .function
   exact hk
  ·show s2.heap.objs.size <= G2.objs.size
   omega
  ·have hx' : (
         relabel scope X.env).names.lookup x = some .cell \/ (relabel scope X.env).names.lookup x = some .free := hx
   have : ∃ k,
         (x, k) ∈ scope.names /\ k = .free := by
    have gen : ∀ (names : List (Str × NameKind)), (∀ y ∈ names, y.2 ≠ .cell) -> ∀ kk, (kk = NameKind.cell \/ kk = NameKind.free) -> (names.map fun (n, k) => if (k == NameKind.free && X.env.scope.kind == .function && X.env.kindOf n == some .cell) then (n, NameKind.cell) else (n, k)).lookup x = some kk -> ∃ k, (x, k) ∈ names /\ k = .free := by
     intro names
     induction names with
     | nil => intro _ kk _ e; simp at e
     |
      cons y r ih =>
      intro hn kk hkk e
      obtain ⟨n, k⟩ := y
      rw [List.map_cons, List.lookup_cons] at e
      by_cases hkf : k = .free
      ·subst hkf
       by_cases hxn : x = n
       ·exact ⟨.free, by rw [hxn]; exact List.mem_cons_self, rfl⟩
       ·have hb : (x == (if (NameKind.free == NameKind.free && X.env.scope.kind == .function && X.env.kindOf n == some .cell) = true then (n, NameKind.cell) else (n, NameKind.free)).1) = false := by
         split <;> exact beq_eq_false_iff_ne.mpr hxn
        rw [hb] at e
        obtain ⟨k', m, q⟩ := ih (fun z hz => hn z (List.mem_cons_of_mem _ hz)) kk hkk e
        exact ⟨k', List.mem_cons_of_mem _ m, q⟩
      ·have hb0 : (k == NameKind.free && X.env.scope.kind == .function && X.env.kindOf n == some .cell) = false := by
        have : (k == NameKind.free) = false := by simpa using hkf
        rw [this]; rfl
       rw [hb0] at e
       simp only [Bool.false_eq_true, if_false] at e
       cases q : x == n with
       |
        true =>
        rw [q] at e
        have e' : k = kk := Option.some.inj e
        subst e'
        rcases hkk with z | z
        ·exact absurd z (hn (n, k) List.mem_cons_self)
        ·exact absurd z hkf
       |
        false =>
        rw [q] at e
        obtain ⟨k', m, q⟩ := ih (fun z hz => hn z (List.mem_cons_of_mem _ hz)) kk hkk e
        exact ⟨k', List.mem_cons_of_mem _ m, q⟩
    rcases hx' with z | z
    ·exact gen scope.names hnc _ (.inl rfl) z
    ·exact gen scope.names hnc _ (.inr rfl) z
   obtain ⟨k, m, q⟩ := this
   exact hclf (x, k) m q
  ·show b ≠ G2.objs.size
   exact (below b (fpOld b hb)).1
  ·exact (f2 b hb).2.2.2.2.1 x c (hcl x c e) z
  ·rcases (f2 b hb).2.2.2.1 with z | z
   ·exact I2.ok.noex b o e z
   ·exact absurd (Nat.lt_of_lt_of_le (Heap.lt_size e) (Nat.le_trans I2.ok.bsz z)) (Nat.lt_irrefl _)
  ·have hf' : b ∈ frs X.stack := hf
   rcases List.mem_cons.mp (I2.stkSub b hf') with z | z
   ·exact (f2 b hb).2.1 z
   ·exact (f2 b hb).2.2.1 z
 have startLoc
        : ∃ m, h₁.Ns G2.objs.size m /\ ∀ (i : Nat) (x : Str) (v : V), N[i]? = some x -> (fu sub σ)[i]? = some (some v) -> Vis (relabel scope X.env) x -> ∃ u, RelV v u /\ vj Y.env h₁ m x u := by
  refine ⟨_, hns₁, fun j x v e1 e2 e3 => ?_⟩
  unfold fu at e2
  rw [List.getElem?_map] at e2
  cases q : sub[j]? with
  | none => rw [q] at e2; cases e2
  |
   some o =>
   rw [q] at e2
   cases o with
   | none => cases e2
   |
    some i =>
    obtain ⟨hNi, hfree⟩ := hsub j i x q e1
    have e2' : (σ[i]?).bind id = some v := Option.some.inj e2
    have e2'' : σ[i]? = some (some v) := by
     cases z : σ[i]? with
     | none => rw [z] at e2'; cases e2'
     | some y => rw [z] at e2'; rw [show y = some v from e2']
    obtain ⟨m2, hn2, hl2⟩ := I2.loc
    have hkx := hfr (x, .free) (PySem.mem_of_lookup hfree) rfl
    obtain ⟨u, r, l⟩ := hl2 i x v hNi e2'' (by rcases hkx with z | z; exact .inr (.inl z); exact .inr (.inr z))
    refine ⟨u, r, .inr ⟨?_, ?_⟩⟩
    ·rcases e3
          with z | z | z
     ·exfalso
      have gen : ∀ (names : List (Str × NameKind)), names.lookup x = some .free -> (names.map fun (n, k) => if (k == NameKind.free && X.env.scope.kind == .function && X.env.kindOf n == some .cell) then (n, NameKind.cell) else (n, k)).lookup x = some .local -> False := by
       intro names
       induction names with
       | nil => intro e _; simp at e
       |
        cons y r ih =>
        intro e1 e2
        obtain ⟨n, k⟩ := y
        rw [List.lookup_cons] at e1
        rw [List.map_cons, List.lookup_cons] at e2
        by_cases hxn : x = n
        ·have hb1 : (x == n) = true := beq_iff_eq.mpr hxn
         rw [hb1] at e1
         have : k = .free := Option.some.inj e1
         subst this
         split at e2
         ·rename_i hq
          split at e2 <;> cases e2
         ·rename_i hq
          split at hq <;> (rw [hb1] at hq; cases hq)
        ·have hb1 : (x == n) = false := beq_eq_false_iff_ne.mpr hxn
         rw [hb1] at e1
         refine ih e1 ?_
         split at e2
         ·rename_i hq
          split at hq <;> (rw [hb1] at hq; cases hq)
         ·exact e2
      exact gen scope.names hfree z
     ·exact .inl z
     ·exact .inr z
    ·obtain ⟨c, hc'⟩ := hclf (x, .free) (PySem.mem_of_lookup hfree) rfl
     refine ⟨c, hc', ?_⟩
     rcases l with ⟨k, _⟩ | ⟨_, c2, ec2, z⟩
     ·rcases hkx with z | z <;> (rw [k] at z; cases z)
     ·have := hcl x c hc'
      rw [ec2] at this
      cases this
      obtain ⟨oc, hoc, hd⟩ := z
      exact ⟨oc, old _ _ hoc, hd⟩
 have pinD : ∀ {σ' : St} {H' : Hp} {s' : Shared} {pl : List (Addr × Obj)} {o : Obj}, Inv Y pl σ' H' s' -> s'.heap.get? s2.heap.objs.size = some o -> (∀ v, o.data ≠ .cell v) -> H' s2.heap.objs.size = none -> Inv Y [(s2.heap.objs.size, o)] σ' H' s' := fun {σ' H' s' pl o} IY e d n =>
  IY.pins_of fun p hp => by
   have e' : p = (s2.heap.objs.size, o) := by simpa using hp
   subst e'
   refine ⟨e, n, ?_, ?_, d⟩
   ·show s2.heap.objs.size ≠ G2.objs.size
    omega
   ·intro hf
    have hf' : s2.heap.objs.size ∈ frs X.stack := hf
    obtain ⟨_, o', ho', _⟩ := I2.stack.mem hf'
    exact absurd (Heap.lt_size ho') (Nat.lt_irrefl _)
 have fpY : ∀ {H' : Hp} {pl : List (Addr × Obj)}, (∀ b ∈ fp, H' b = none) -> (∀ p ∈ pl, p.1 ∉ fp) -> ∀ b ∈ fp, kv Y pl H' b := fun {H' pl} hn hp b hb => by
  refine ⟨hn b hb, ?_, ?_, .inl hb, fun x c e => ?_, fun p hp' => ?_⟩
  ·exact (okY.exf b hb).1
  ·exact okY.exfs b hb
  ·exact (okY.exf b hb).2 x c e
  ·intro z
   have hp'' : p ∈ pl := by simpa [Y, dk] using hp'
   exact hp p hp'' (by rw [z]; exact hb)
 have hDfp : s2.heap.objs.size ∉ fp := fun z => Nat.lt_irrefl _ (fpOld _ z)
 have loop
      : ∀ s₃ : Shared, s₃ = { s2 with heap := h₁, toks := s2.toks + ([] : List (Str × Value)).length } ->
   codeAny (model X.prog X.w) X.A (.compLoop (.ListComp elt [⟨tg, iter, ifs, 0⟩] scope pos) 0 (.ref it) (.ref s2.heap.objs.size) (compEnvC scope cl G2.objs.size X.env))
    (compPost (model X.prog X.w) X.A X.xe none (EP X pins σ Q) (.ref s2.heap.objs.size) G2.objs.size) s₃ := by
  rintro s₃ rfl
  have IY0 : Inv Y [(s2.heap.objs.size, { cls := .type "list", dict := none, data := .seq ([] : List Value).toArray })] (fu sub σ) H2 { s2 with heap := h₁, toks := s2.toks + ([] : List (Str × Value)).length } := by
   have J0 : Inv Y [] (fu sub σ) H2 { s2 with heap := h₁, toks := s2.toks + ([] : List (Str × Value)).length } := by
    refine ⟨okY, rfl, I2.bare, Un.kept old, startLoc, fun x c e => ?_, I2.hok.fresh (by show s2.heap.objs.size <= G2.objs.size; omega), fun x c e => I2.freeC x c (hcl x c e), fun p hp => absurd (show p ∈ ([] : List (Addr × Obj)) from hp) (by simp), I2.hok.kept old, ?_⟩
    ·obtain ⟨v, oc, hoc, hd⟩ := I2.cell x c (hcl x c e)
     exact ⟨v, oc, old _ _ hoc, hd⟩
    ·show (fu sub σ).length = N.length
     unfold fu
     rw [List.length_map]; exact hsl
   exact pinD J0 hD₁ (fun v z => by cases z) I2.fresh
  refine oo (fun n s' => ∃ (i : Nat) (ys : List V) (its : List Value) (k : Nat) (σ' : St) (H' : Hp), Inv Y [(s2.heap.objs.size, { cls := .type "list", dict := none, data := .seq its.toArray k })] σ' H' s' /\ Vals ys its /\ tn i s'.heap /\ (∀ b ∈ fp, H' b = none) /\ W i n ys σ' H') ?_ m0
   ⟨0, [], [], 0, fu sub σ, H2, IY0, .nil, T.keep _ _ _ st2 (fun b hb o e => old b o e), fun b hb => (f2 b hb).1, w0⟩
  rintro n s3 ⟨i, ys, its, k, σ3, H3, I3, rv, st3, fr3, w3⟩
  have npl : ∀ (o : Obj), ∀ p ∈ [(s2.heap.objs.size, o)], p.1 ∉ fp := fun o p hp => by
   have e' : p = (s2.heap.objs.size, o) := by simpa using hp
   subst e'
   exact hDfp
  rcases turn i n ys σ3 H3 w3 with ⟨stop, hz, qn⟩ | ⟨go, hz, Nx, hNx, step⟩
  ·refine wpAny_mono (T.done Y rfl rfl rfl hc i _ s3 σ3 H3 (fun _ _ => False) I3 (fpY fr3 (npl _)) st3 stop) (fun r s4 ⟨hr, I4⟩ => ?_) fun _ _ z => z
   subst hr
   obtain ⟨m4, hn4, _⟩ := I4.loc
   refine ⟨m4, hn4, fun h' hs' => ?_⟩
   have hCfree : H3 G2.objs.size = none := I4.free
   have hD4 := I4.pin (s2.heap.objs.size, { cls := .type "list", dict := none, data := .seq its.toArray k }) (List.mem_append_right _ List.mem_cons_self)
   have un4 : Un (frs X.stack) fp H2 H3 s2.heap s4.heap := I4.base
   have up : ∀ b o, b ≠ G2.objs.size -> s4.heap.get? b = some o -> h'.get? b = some o := fun b o hb e => hs'.extBut b o hb e
   have ne2 : ∀ b o, s2.heap.get? b = some o -> b ≠ G2.objs.size := fun b o e => (below b (Heap.lt_size e)).1
   have un5 : Un (frs X.stack) fp H2 H3 s2.heap h' := by
    refine ⟨fun b o e n hb hx => up b o (ne2 b o e) (un4.keep b o e n hb hx), fun b o e n hb hx => ?_, un4.free, fun b o e hx => ?_, un4.tups, un4.frzs, un4.tbls⟩
    ·obtain ⟨sl, q⟩ := un4.slot b o e n hb hx
     exact ⟨sl, up b _ (ne2 b o e) q⟩
    ·obtain ⟨o', q⟩ := un4.there b o e hx
     exact ⟨o', up b _ (ne2 b o e) q⟩
   have hok5 : HOk X.prog X.w H3 h' := fun b u e => (I4.hok b u e).stay (fun c v hcc q => up c v (fun z => by
    rcases hcc with zz | zz
    ·rw [zz] at z; rw [z, hCfree] at e; cases e
    ·rw [z, hCfree] at zz; cases zz) q) (fun _ q => q) fun _ _ q => q
   have I5 : Inv X pins σ H3 { s4 with heap := h' } := I2.call' (s' := { s4 with heap := h' }) (ch := fp) I4.os un5 hok5 I4.bare fun b hb => by
    obtain ⟨_, g1, _, g3, g4, g5⟩ := f2 b hb
    exact ⟨g3, g1, g4, g5⟩
   have hDfree : H3 s2.heap.objs.size = none := hD4.2.1
   have sz0 : X.s₀.heap.objs.size <= s2.heap.objs.size := I2.sz
   refine ⟨.ref s2.heap.objs.size, _, I5.track (o := .lst ys) hDfree (Heap.get?_none_of_le sz0) (Nat.ne_of_gt I2.lt) (fun x c e z => ?_) (fun p hp z => ?_) ?_, rfl, qn _ hDfree⟩
   ·obtain ⟨v, q⟩ := I2.cell x c e
    exact absurd q.lt (by rw [z]; exact Nat.lt_irrefl _)
   ·exact absurd (Heap.lt_size (I2.pin p hp).1) (by rw [z]; exact Nat.lt_irrefl _)
   ·exact ⟨hz, its, k, rv, up _ _ hDC hD4.1⟩
  ·refine wpAny_mono (T.item Y rfl rfl rfl hc i _ s3 σ3 H3 (fun _ _ => False) I3 (fpY fr3 (npl _)) st3 go) (fun r s4 ⟨u, hr, h4⟩ => ?_) fun _ _ z => z
   subst hr
   refine wpAny_mono h4 (fun _ s5 ⟨x, H5, I5, r5, y5, st5, fr5⟩ => ?_) fun _ _ z => z
   have I5' := I5.pinned (fpY fr5 (npl _)) (T.obj _ _ st5)
   refine wpAny_mono (hg cl G2.objs.size s2 H2 fp _ s5 σ3 H5 x u _ I5' r5 (step x H5 y5)) (fun _ s6 ⟨σ6, H6, I6, q6⟩ => ?_) fun _ _ z => z
   refine wpAny_mono (ht cl G2.objs.size s2 H2 fp _ s6 σ6 H6 _ I6 q6) (fun ok s7 ⟨H7, I7, q7⟩ => ?_) fun _ _ z => z
   have back : ∀ {σ' : St} {H' : Hp} {s' : Shared}, Inv Y ([(s2.heap.objs.size, { cls := .type "list", dict := none, data := .seq its.toArray k })] ++ jq fp s5.heap) σ' H' s' -> tn (i + 1) s'.heap /\ ∀ b ∈ fp, H' b = none := fun {σ' H' s'} IB => by
    refine ⟨T.keep _ _ _ st5 fun b hb o e => (IB.pin (b, o) (List.mem_append_right _ (List.mem_append_right _ (gi hb e)))).1, fun b hb => ?_⟩
    obtain ⟨o, e, d⟩ := T.obj _ _ st5 b hb
    exact (IB.pin (b, o) (List.mem_append_right _ (List.mem_append_right _ (gi hb e)))).2.1
   cases ok with
   |
    false =>
    rw [if_neg Bool.false_ne_true] at q7
    obtain ⟨m', hm, w7⟩ := hNx _ _ _ q7
    rw [if_neg Bool.false_ne_true]
    obtain ⟨t7, f7⟩ := back I7
    exact ⟨m', hm, i + 1, ys, its, k, σ6, H7, I7.unpinned, rv, t7, f7, w7⟩
   |
    true =>
    rw [if_pos rfl] at q7
    rw [if_pos rfl]
    refine wpAny_mono (he cl G2.objs.size s2 H2 fp _ s7 σ6 H7 _ I7 q7) (fun y s8 ⟨yv, H8, I8, r8, q8⟩ => ?_) fun _ _ z => z
    obtain ⟨m', hm, w8⟩ := hNx _ _ _ q8
    obtain ⟨t8, f8⟩ := back I8
    have I9 := I8.unpinned
    have hD9 := I9.pin (s2.heap.objs.size, { cls := .type "list", dict := none, data := .seq its.toArray k }) (List.mem_append_right _ List.mem_cons_self)
    have e9 : s8.heap.get? s2.heap.objs.size = some { cls := .type "list", dict := none, data := .seq its.toArray k } := hD9.1
    have hlen := rv.length
    refine call_meets F.slot_list_append ⟨_, e9, rfl⟩ F.entry_list_append (F.args_list_append_2 _ _) (PySem.list_append _ its.toArray k y (by rw [List.size_toArray]; omega)) ⟨e9, ?_⟩
    have q9 := PySem.IsL.update e9 (fun xs => xs.push y)
    have ea : its.toArray.push y = (its ++ [y]).toArray := by simp
    rw [ea] at q9
    have k9 : ∀ b o, b ≠ s2.heap.objs.size -> s8.heap.get? b = some o -> (s8.heap.update s2.heap.objs.size (Obj.mapSeq fun xs => xs.push y)).get? b = some o := fun b o hb e => (Heap.get?_update_other _ _ (Ne.symm hb)).trans e
    have I10 : Inv Y [] σ6 H8 { s8 with heap := s8.heap.update s2.heap.objs.size (Obj.mapSeq fun xs => xs.push y) } :=
     (I9.pins_of (pins' := []) (fun p hp => nomatch hp)).turned (t' := s8.toks) k9 hD9.2.1 hD9.2.2.1 (.inr (Nat.le_refl _)) (fun x c e z => absurd (cellOld x c e) (by rw [z]; exact Nat.lt_irrefl _))
      (fun p hp => absurd (show p ∈ ([] : List (Addr × Obj)) from hp) (by simp))
    refine ⟨m', hm, i + 1, ys ++ [yv], its ++ [y], _, σ6, H8, pinD I10 q9 (fun v z => by cases z) hD9.2.1, rv.append (.cons r8 .nil), ?_, f8, w8⟩
    exact T.keep _ _ _ t8 fun b hb o e => k9 b o (fun z => hDfp (by rw [<- z]; exact hb)) e
 exact codeAny_compStart_list (loop _ rfl) (T.self _ 0 _ _ _ (T.keep _ _ _ st2 fun b hb o e => old b o e) (loop _ rfl))
noncomputable def kR (M : List Str) (names : List (Str × NameKind)) (sub : List (Option Nat)) (N : List Str) : Bool := (sub.zip N).all fun p => match p.1 with
 | none => true
 | some i => M[i]? == some p.2 && names.lookup p.2 == some .free
theorem uK {M : List Str} {names : List (Str × NameKind)} {sub : List (Option Nat)} {N : List Str} (h : kR M names sub N = true) (j i : Nat) (x : Str) (h1 : sub[j]? = some (some i)) (h2 : N[j]? = some x) :
  M[i]? = some x /\ names.lookup x = some .free := by
 unfold kR at h
 rw [List.all_eq_true] at h
 have hm : (some i, x) ∈ sub.zip N := by
  refine List.mem_of_getElem? (i := j) ?_
  rw [List.getElem?_zip_eq_some]
  exact ⟨h1, h2⟩
 have q := h _ hm
 simp only [Bool.and_eq_true, beq_iff_eq] at q
 exact q
noncomputable def oy (kn names : List (Str × NameKind)) : Bool := names.all fun x => x.2 != .free || kn.lookup x.1 == some .cell || kn.lookup x.1 == some .free
theorem xN {kn names : List (Str × NameKind)} (h : oy kn names = true) : ∀ x ∈ names, x.2 = .free -> kn.lookup x.1 = some .cell \/ kn.lookup x.1 = some .free := fun x hx hf => by
 unfold oy at h
 rw [List.all_eq_true] at h
 have q := h x hx
 rw [hf] at q
 simpa using q
theorem Ee {elt iter tg : Expr} {scope : Scope} {pos : Pos} {wi : TI} {g : TG} {te : TE} (M : List Str) (kn : List (Str × NameKind)) (N : List Str) (sub : List (Option Nat))
  (hc : X.calm = true) (hi : PI X tg iter wi)
  (hg : ∀ cl C s₂ H fp, PG (dk X N scope cl C s₂ H fp) tg g) (he : ∀ cl C s₂ H fp, PE (dk X N scope cl C s₂ H fp) elt te)
  (hM : X.N = M := by rfl) (hkn : X.env.scope.names = kn := by rfl) (hsub : kR M scope.names sub N = true := by decide +kernel)
  (hk : scope.kind = .function := by rfl) (hnc : ∀ x ∈ scope.names, x.2 ≠ .cell := by decide +kernel) (hnames : ∀ x ∈ scope.names, x.2 = .local -> scope.names.lookup x.1 = some .local := by decide +kernel)
  (hfr : oy kn scope.names = true := by decide +kernel)
  (hsl : sub.length = N.length := by rfl) (hs : ∀ x, foldedSetIterable iter X.env x = pure x := by intro _; rfl) :
  PE X (.ListComp elt [⟨tg, iter, [], 0⟩] scope pos) (rN wi sub g tYes te) :=
 zt hc hi hk hnc hnames (by subst hkn; exact xN hfr) hsl (by subst hM; exact uK hsub) hg (fun cl C s₂ H fp => yT) he hs
end
end L2
set_option Elab.async false
set_option linter.all false
set_option maxRecDepth 100000
namespace L2
open PySem PySem.Spec PyProof.Rows PySem.W PySem.Builtin PySem.Builtin.ObjectAttr PySem.Builtin.Getset_descriptor
structure XCls (K : PySem.W.Frag) (C : Addr) : Prop where
 cls : (clsIn K C).isSome = true
 ga : findIn K (.ref C) "__getattribute__" = some (some (.builtin "BaseException.__getattribute__"))
 gt : findIn K (.ref C) "__getattr__" = some none
 at_ : findIn K (.ref C) "__class__" = some (some (.builtin "object.__class__"))
 gs : specialIn K (.builtin "object.__class__") "__get__" = some (some (.builtin "getset_descriptor.__get__"))
 tk : takesIn K (.builtin "object.__class__") = some true
 mo : mroIn K C (.type "object") = some true
 mb : mroIn K C (.type "BaseException") = some true
section
variable {prog : Program} {w : World} {A : Around} {E : Value -> Shared -> Prop} {K : PySem.W.Frag} {x C : Addr} {o : Obj}
theorem gA {M : Model} {h : Heap} (hx : h.get? x = some o) (hc : o.cls = .ref C) : Looks M h (typeOf (.ref x)) (.ref C) := hc ▸ (Looks.ld hx).andThen .now
theorem uE {M : Model} {h : Heap} (X : K.In h) (T : XCls K C) : Looks M h (find (.ref x) (.ref C) "__class__") (.bind (.builtin "getset_descriptor.__get__") (.builtin "object.__class__")) := by
 have L1 := looks_findIn (M := M) X T.at_
 have L2 : Looks M h (getOf (some (.builtin "object.__class__"))) (some (.builtin "getset_descriptor.__get__")) := looks_specialIn X T.gs
 have L3 := looks_takesIn (M := M) X T.tk
 refine L1.andThen (L2.andThen ?_)
 exact (show Looks M h (dataDescriptor? (some (.builtin "object.__class__")) (some (.builtin "getset_descriptor.__get__"))) (some (.builtin "getset_descriptor.__get__", .builtin "object.__class__")) from L3.andThen .now).andThen (Looks.tag .now)
theorem nh {s : Shared} {tp : Value} {R : Result -> Shared -> Prop} (X : K.In s.heap) (hx : s.heap.get? x = some o) (hc : o.cls = .ref C) (T : XCls K C)
  (h : R (.ok (.ret (.ref C))) s) : codeAny (model prog w) A (.call (.builtin "getset_descriptor.__get__") ⟨[.builtin "object.__class__", .ref x, tp], []⟩) R s := by
 obtain ⟨hh, g, dr, t, os⟩ := s
 have L0 := gA (M := model prog w) hx hc
 have L1 := looks_mroIn (M := model prog w) X T.mo
 refine codeAny_call_builtin KF.slot_gs.plain KF.entry_gs (KF.slot_gs.check _ _ _ _ _ _ _ _ KF.type_class (KF.args_gs _ _ _) ?_)
 unfold Builtin.«getset_descriptor.__get__» descrGet
 rw [dga_obj]
 refine wpAny_bind (wpAny_pure ?_)
 unfold descrGetter descrCheckInstance descrNameAndClass isInstance
 simp only [KF.owner_class]
 repeat lk
 refine ⟨Code.quiet_builtin _ (by decide +kernel), codeAny_builtin KF.entry_class ?_⟩
 unfold Builtin.«object.__class__» shownTypeOf
 repeat lk
 exact h
theorem tP {M : Model} {nameV : Value} {s : Shared} {Q : Unit -> Shared -> Prop} (X : K.In s.heap) (hx : s.heap.get? x = some o) (hc : o.cls = .ref C) (T : XCls K C) (hq : Q () s) :
  wpAny M A (checkBuiltinCall "BaseException.__getattribute__" ⟨[.ref x, nameV], []⟩) Q E s := by
 obtain ⟨h, g, dr, t, os⟩ := s
 have hk : builtinKind "BaseException.__getattribute__" = some .slot := by decide +kernel
 have hsplit : splitId "BaseException.__getattribute__" = some ("BaseException", "__getattribute__") := by decide +kernel
 have ha := PySem.F.args_bexc_ga (.ref x) nameV
 have L0 := gA (M := M) hx hc
 have LM := looks_mroIn (M := M) X T.mb
 have LI : Looks M h (isInstance (.ref x) (.type "BaseException")) true := L0.andThen LM
 simp only [checkBuiltinCall, hk, hsplit]
 refine wpAny_bind ?_
 refine LI.at ?_
 repeat (first | wp_step)
 all_goals exact hq
theorem zh {s : Shared} {Q : Option Value -> Shared -> Prop} (X : K.In s.heap) (hx : s.heap.get? x = some o) (hc : o.cls = .ref C) (T : XCls K C) (h : Q (some (.ref C)) { s with toks := s.toks + 1 }) :
  wpAny (model prog w) A (getAttr? (.ref x) "__class__") Q E s := by
 obtain ⟨hh, g, d, t, os⟩ := s
 have L0 := gA (M := model prog w) hx hc
 have L1 := looks_findIn (M := model prog w) X T.ga
 have L2 := looks_findIn (M := model prog w) X T.gt
 have LF := uE (M := model prog w) (x := x) X T
 have f3 := PySem.F.excAttr_ValueError.ga.bind (.ref x)
 have hx2 : (Value.builtin "BaseException.__getattribute__" == Value.builtin "object.__getattribute__") = false := by decide +kernel
 unfold getAttr? getAttrBy? getAttrBy
 refine wpAny_bind (wpAny_mkText (wpAny_bind (wpAny_attempt (wpAny_holding (wpAny_bind (L0.at (wpAny_bind (L1.at ?_))))))))
 dsimp only
 rw [if_neg (by rw [hx2]; simp)]
 unfold getAttrByItsOwn hookBefore
 rw [if_pos (show onTheHeap (Value.ref C) = true from rfl)]
 refine wpAny_bind (L2.at ?_)
 unfold callGetattribute
 refine wpAny_bind (wpAny_attempt (wpAny_holding ?_))
 rw [if_neg (by simp)]
 unfold boundAndCalled
 refine wpAny_bind (wpAny_of_eq f3 ?_)
 refine wpAny_call (codeAny_call_builtin PySem.F.excAttr_ValueError.ga.plain PySem.F.entry_bexc_ga (tP X hx hc T ?_))
 unfold Builtin.«object.__getattribute__»
 repeat (first | (refine wpAny_bind (L0.at ?_)) | (refine wpAny_bind (LF.at ?_)) | wp_step)
 refine nh (s := ⟨hh, g, d, t + 1, os⟩) X hx hc T ?_
 repeat (first | exact h | wp_step)
noncomputable def jx (x : Addr) (C : Addr) (h : Heap) : Prop := ∃ o vs, h.get? x = some o /\ o.cls = .ref C /\ o.data = .fields vs
theorem wo (T : XCls K C) : KitX K (.ref x) (.ref C) (jx x C) where
 ty := fun M h _ ⟨o, _, hx, hc, _⟩ => gA hx hc
 it := fun M h X _ => by
  obtain ⟨cd, hcd⟩ := Option.isSome_iff_exists.mp T.cls
  unfold clsIn at hcd
  split at hcd
  ·rename_i c' d' cd' sl' ho
   intro A' Q' E' s' k q
   unfold isType loadHead
   exact wpAny_bind (wpAny_loadPart (k _ _ (X _ _ ho)) (wpAny_pure q))
  ·cases hcd
 ne := fun h tp dd its n sl X htp => by
  obtain ⟨cd, hcd⟩ := Option.isSome_iff_exists.mp T.cls
  refine Bool.eq_false_iff.mpr fun q => ?_
  have e : C = tp := Value.ref.inj (beq_iff_eq.mp q)
  subst e
  unfold clsIn at hcd
  split at hcd
  ·rename_i c' d' cd' sl' ho
   have z := (X _ _ ho).symm.trans htp
   cases z
  ·cases hcd
 ca := fun X ⟨o, _, hx, hc, _⟩ k => zh X hx hc T k
end
inductive TyX (K : PySem.W.Frag) (H : Hp) : V -> Value -> Prop where
 | of {x : V} {t : Value} (h : TyOf K H x t) : TyX K H x t
 | exc {a C : Addr} (e : H a = some (.ext (jx a C))) (T : XCls K C) : TyX K H (.ref a) (.ref C)
 | sqT {a : Addr} {xs : List V} (h : SqT K H a xs) : TyX K H (.ref a) (.type "tuple")
 | sqL {a : Addr} {xs : List V} (h : SqL K H a xs) : TyX K H (.ref a) (.type "list")
section
variable {X : Cx} {pins : List (Addr × Obj)} {σ : St} {H : Hp} {s : Shared} {A : Around} {E : Value -> Shared -> Prop} {Q : Value -> Shared -> Prop} {c : Value} {b : Bool}
theorem qx {x : V} {u t : Value} (I : Inv X pins σ H s) (rx : RelV x u) (ty : TyX X.K H x t) : ∃ Hh : Heap -> Prop, KitX X.K u t Hh /\ Hh s.heap /\ u ≠ .builtin "__main__.__loader__#opaque" := by
 cases ty with
 |
  exc ea T =>
  cases (show u = Value.ref _ from rx)
  exact ⟨_, wo T, (I.hok _ _ ea).1, fun z => nomatch z⟩
 |
  sqT h =>
  cases (show u = Value.ref _ from rx)
  obtain ⟨its, rv, ⟨o, e, c, _⟩, _⟩ := I.tuple h
  exact ⟨_, kitx_tuple, ⟨o, e, c⟩, fun z => nomatch z⟩
 |
  sqL h =>
  cases (show u = Value.ref _ from rx)
  obtain ⟨its, rv, ⟨o, n, e, c, _⟩, _⟩ := I.list h
  exact ⟨_, kitx_list, ⟨o, e, c⟩, fun z => nomatch z⟩
 |
  of ty =>
  cases ty with
  | non => cases (show u = Value.none from rx); exact ⟨_, kitx_none, True.intro, fun z => nomatch z⟩
  | bl y => cases (show u = Value.bool y from rx); exact ⟨_, kitx_bool, True.intro, fun z => nomatch z⟩
  | int i => obtain ⟨t, q⟩ := (show ∃ t, u = Value.int i t from rx); cases q; exact ⟨_, kitx_int, True.intro, fun z => nomatch z⟩
  | str y => obtain ⟨t, q⟩ := (show ∃ t, u = Value.str y t from rx); cases q; exact ⟨_, kitx_str, True.intro, fun z => nomatch z⟩
  | flt y => obtain ⟨t, q⟩ := (show ∃ t, u = Value.float y t from rx); cases q; exact ⟨_, kitx_float, True.intro, fun z => nomatch z⟩
  |
   @lst a xs ea =>
   cases (show u = Value.ref a from rx)
   obtain ⟨_, _, n, _, h1⟩ := (show ObjOk X.prog X.w H s.heap a (.lst xs) from I.hok a _ ea)
   exact ⟨_, kitx_list, ⟨_, h1, rfl⟩, fun z => nomatch z⟩
  |
   @frz a ob xs ea =>
   cases (show u = Value.ref a from rx)
   obtain ⟨_, _, _, n, _, h1⟩ := (show ObjOk X.prog X.w H s.heap a (.frz ob (.lst xs)) from I.hok a _ ea)
   exact ⟨_, kitx_list, ⟨_, h1, rfl⟩, fun z => nomatch z⟩
  |
   @tup a xs ea =>
   cases (show u = Value.ref a from rx)
   obtain ⟨_, _, _, p⟩ := (show ObjOk X.prog X.w H s.heap a (.tup xs) from I.hok a _ ea)
   obtain ⟨o, h1, h2, _⟩ := p
   exact ⟨_, kitx_tuple, ⟨o, h1, h2⟩, fun z => nomatch z⟩
  |
   @dK a kvs ea =>
   cases (show u = Value.ref a from rx)
   obtain ⟨_, _, vs, _, p⟩ := (show ObjOk X.prog X.w H s.heap a (.dK kvs) from I.hok a _ ea)
   obtain ⟨o, es, ep, h1, h2, _⟩ := p
   exact ⟨_, kitx_dict, ⟨o, h1, h2.1⟩, fun z => nomatch z⟩
  |
   @dT a kvs ea =>
   cases (show u = Value.ref a from rx)
   obtain ⟨_, _, xs, _, o, es, ep, h1, h2, _⟩ := (show ObjOk X.prog X.w H s.heap a (.dT kvs) from I.hok a _ ea)
   exact ⟨_, kitx_dict, ⟨o, h1, h2.1⟩, fun z => nomatch z⟩
  |
   @ins a C dx fs ea cl ha hn htk hm =>
   cases (show u = Value.ref a from rx)
   obtain ⟨mA, O, _⟩ := xI I.hok ea
   obtain ⟨od, J, _⟩ := O.look
   exact ⟨_, kitx_own (cl.get _) cl.hd ha hn htk hm, J, fun z => nomatch z⟩
end
section
variable {X : Cx}
noncomputable def eB : V -> Option Value
 | .ref C => some (.ref C)
 | .ty T => some (.type T)
 | _ => none
theorem oO {c : V} {u v : Value} (h : eB c = some v) (r : RelV c u) : u = v := by
 cases c with
 | ref C => cases r; exact Option.some.inj h
 | ty T => cases r; exact Option.some.inj h
 | _ => cases h
theorem
    m7 : ∀ {cs : List V} {us vs : List Value}, cs.mapM eB = some vs -> Vals cs us -> us = vs
 |
  [], _, vs, h, .nil => by
  have h' : some ([] : List Value) = some vs := h
  exact Option.some.inj h'
 |
  c :: cs, _, vs, h, .cons r rr => by
  rw [List.mapM_cons] at h
  cases q : eB c with
  | none => rw [q] at h; cases h
  |
   some v =>
   rw [q] at h
   cases q2 : cs.mapM eB with
   | none => rw [q2] at h; cases h
   |
    some vs' =>
    rw [q2] at h
    have h' : some (v :: vs') = some vs := h
    cases h'
    rw [oO q r, m7 q2 rr]
theorem vU : CallR X (.builtin "isinstance") (fun xs H Q => ∃ x c t v b, xs = [x, c] /\ TyX X.K H x t /\ eB c = some v /\ kitOne X.K t v = some b /\ Q (.bl b) H) := by
 intro pins s σ H xs us Q I r h
 obtain ⟨x, c, t, v, b, rfl, ty, hc, hk, q⟩ := h
 obtain ⟨u, w', rfl, rx, rc⟩ := nL r
 obtain rfl := oO hc rc
 obtain ⟨Hh, Z, p, hne⟩ := qx I rx ty
 exact kia_one Z I.kIn p hk hne fun tk => ⟨.bl b, H, I.tok _, rfl, q⟩
end
end L2
set_option Elab.async false
set_option linter.all false
set_option maxRecDepth 100000
namespace L2
open PySem PySem.Spec PyProof.Rows
theorem ObjOk.there {P : Program} {w : World} {H : Hp} {h : Heap} {a : Addr} {o : HO} (x : ObjOk P w H h a o) : ∃ u, h.get? a = some u := by
 cases o with
 | lst xs => obtain ⟨_, _, _, _, e⟩ := x; exact ⟨_, e⟩
 | tup xs => obtain ⟨_, _, _, ob, e, _⟩ := x; exact ⟨_, e⟩
 | dK kvs => obtain ⟨_, _, _, _, o, _, _, e, _⟩ := x; exact ⟨_, e⟩
 | dT kvs => obtain ⟨_, _, _, _, o, _, _, e, _⟩ := x; exact ⟨_, e⟩
 | set S n => obtain ⟨o, _, _, _, e, _⟩ := x; exact ⟨_, e⟩
 | ins C dx fs => obtain ⟨_, _, _, e, _⟩ := x; exact ⟨_, e⟩
 | own y => exact x
 | xd fs => obtain ⟨_, ⟨_, _, _, e, _⟩, _⟩ := x; exact ⟨_, e⟩
 | rng lo hi => obtain ⟨_, _, _, e⟩ := x; exact ⟨_, e⟩
 | frz ob u => obtain ⟨e, _⟩ := x; exact ⟨_, e⟩
 | tbl ps => exact ⟨_, show h.get? a = some _ from x⟩
 | met f y => exact ⟨_, show h.get? a = some _ from x⟩
 | ext φ => obtain ⟨_, e, _⟩ := x; exact e
structure Fly (P : Program) (w : World) (outer : List Env) (H : Hp) (h₀ : Heap) (H' : Hp) (ea : Addr) (cls : Value) (h : Heap) (B : Heap) (t : Addr) : Prop where
 un : Un (frs outer) [] H H' h₀ h
 hok : HOk P w H' h
 fl : Heap.FlyingW B outer ea cls (.ref t) h
 old : ∀ b o, h₀.get? b = some o -> b ∉ frs outer -> ∃ o', B.get? b = some o'
 trk : ∀ b o, H' b = some o -> ∃ o', B.get? b = some o'
noncomputable def CX1 (P : Program) (w : World) : CXT := fun outer H s E e s' => ∃ (ea t : Addr) (cls : Value) (H' : Hp) (B : Heap), e = .ref ea /\ s'.os = s.os /\ AllBare s'.gens /\ Fly P w outer H s.heap H' ea cls s'.heap B t /\ E cls none H'
theorem nZ {env : Env} {outer : List Env} {L : Addr} (h : env.frame = some L) : frs (env :: outer) = L :: frs outer := by
 unfold frs
 rw [List.filterMap_cons, h]
section
variable {P : Program} {w : World} {outer : List Env} {H H' : Hp} {h₀ h h' B : Heap} {ea t L : Addr} {cls : Value}
theorem Fly.step {outer' : List Env} (F : Fly P w outer H h₀ H' ea cls h B t) (fl' : Heap.FlyingW B outer' ea cls (.ref t) h') (up : h.UpToSlots h') :
  Un (frs outer) [] H H' h₀ h' /\ HOk P w H' h' := by
 have st := F.fl.1
 have same : ∀ b o, (∃ o', B.get? b = some o') -> h.get? b = some o -> h'.get? b = some o := fun b o ⟨o', e⟩ q => by
  have z := st b o' e
  rw [q] at z; cases z
  exact fl'.1 b _ e
 have frame : ∀ b o, b ∈ frs outer -> h.get? b = some o -> ∃ sl, h'.get? b = some { o with slots := sl } := fun b o hb q => by
  obtain ⟨_, o', ho', hd⟩ := F.fl.2.2.1.mem hb
  rw [q] at ho'; cases ho'
  exact up b o q hd
 refine ⟨⟨fun b o e n hb hx => same b o (F.old b o e hb) (F.un.keep b o e n hb hx), fun b o e n hb hx => ?_, F.un.free, fun b o e hx => ?_, F.un.tups, F.un.frzs, F.un.tbls⟩, fun a o e => ?_⟩
 ·obtain ⟨sl, q⟩ := F.un.slot b o e n hb hx
  obtain ⟨sl', q'⟩ := frame b _ hb q
  exact ⟨sl', q'⟩
 ·obtain ⟨o', q⟩ := F.un.there b o e hx
  by_cases hb : b ∈ frs outer
  ·obtain ⟨sl, q'⟩ := frame b _ hb q
   exact ⟨_, q'⟩
  ·exact ⟨o', same b o' (F.old b o e hb) q⟩
 ·refine (F.hok a o e).stay (fun b u hb q => same b u ?_ q) (fun _ q => q) fun _ _ q => q
  rcases hb with z | z
  ·rw [z]; exact F.trk a o e
  ·exact F.trk b _ z
end
structure Cx.Top (X : Cx) : Prop where
 ex : X.ex = []
 stk : X.stack = X.env :: X.outer
 fr : X.env.frame = some X.env.locals
section
variable {X : Cx} {pins : List (Addr × Obj)} {σ : St} {H : Hp} {s s' : Shared} {E : XK} {e : Value}
theorem tG {A : Around} {E' : Value -> Shared -> Prop} (T : X.Top) (hA : A.frames = some X.stack) (I : Inv X pins σ H s) (h : CX1 X.prog X.w X.stack H s E e s') :
  wpAny (model X.prog X.w) A (leaving X.env e) (fun _ s'' => CX1 X.prog X.w X.outer X.H₀ X.s₀ E e s'') E' s' := by
 obtain ⟨ea, t, cls, H', B, rfl, os, bare, F, q⟩ := h
 have F0 := F
 rw [T.stk] at F
 have hf := nZ (outer := X.outer) T.fr
 refine wpAny_leaves_onW (by rw [hA, T.stk]) T.fr F.fl fun h'' fl'' up => ?_
 obtain ⟨un2, hok2⟩ := F.step fl'' up
 have exn : ∀ b, b ∉ X.ex := fun b z => by rw [T.ex] at z; cases z
 have neL : ∀ b o, X.s₀.heap.get? b = some o -> b ≠ X.env.locals := fun b o e => Nat.ne_of_lt (Nat.lt_of_lt_of_le (Heap.lt_size e) I.ok.above)
 have notin : ∀ b o, X.s₀.heap.get? b = some o -> b ∉ frs X.outer -> b ∉ frs (X.env :: X.outer) := fun b o e hb z => by
  rw [hf] at z
  rcases List.mem_cons.mp z with z | z
  ·exact neL b o e z
  ·exact hb z
 refine ⟨ea, t, cls, H', B, rfl, os.trans I.os, bare, ⟨⟨fun b o e n hb hx => ?_, fun b o e n hb hx => ?_, fun b o e n hx => ?_, fun b o e hx => ?_, fun b xs e => un2.tups b xs (I.base.tups b xs e), fun b o xs e => un2.frzs b o xs (I.base.frzs b o xs e), fun b ps e => ?_⟩, hok2, fl'', fun b o e hb => ?_, F.trk⟩, q⟩
 ·exact un2.keep b o (I.base.keep b o e n hb (exn b)) (I.base.free b o e n (exn b)) (notin b o e hb) (by simp)
 ·obtain ⟨sl, e1⟩ := I.base.slot b o e n hb (exn b)
  obtain ⟨sl', e2⟩ := un2.slot b _ e1 (I.base.free b o e n (exn b)) (by rw [hf]; exact List.mem_cons_of_mem _ hb) (by simp)
  exact ⟨sl', e2⟩
 ·obtain ⟨o', e1⟩ := I.base.there b o e (exn b)
  exact un2.free b o' e1 (I.base.free b o e n (exn b)) (by simp)
 ·obtain ⟨o', e1⟩ := I.base.there b o e (exn b)
  exact un2.there b o' e1 (by simp)
 ·obtain ⟨m1, e1⟩ := I.base.tbls b ps e
  obtain ⟨m2, e2⟩ := un2.tbls b _ e1
  exact ⟨m1 ++ m2, by rw [e2, Array.append_assoc]⟩
 ·obtain ⟨o', e1⟩ := I.base.there b o e (exn b)
  exact F.old b o' e1 (notin b o e hb)
theorem wj {A : Around} {E' : Value -> Shared -> Prop} {h' : Heap} {ea : Addr} {cls : Value} {args : List Value} (T : X.Top) (hA : A.frames = some X.stack) (I : Inv X pins σ H s) (hx : Heap.MadeExcOf s.heap h' ea cls args) (q : E cls none H) :
  wpAny (model X.prog X.w) A (leaving X.env (.ref ea)) (fun _ s'' => CX1 X.prog X.w X.outer X.H₀ X.s₀ E (.ref ea) s'') E' { s with heap := h' } := by
 have hf := nZ (outer := X.outer) T.fr
 have stk := I.stack
 rw [T.stk] at stk
 have hin : ∀ env ∈ (X.env :: X.outer), ∀ b, env.frame = some b -> b ∈ frs (X.env :: X.outer) := fun env he b hb => List.mem_filterMap.mpr ⟨env, he, hb⟩
 refine wpAny_leaves_madeW (base := PySem.W.hideAll s.heap (frs (X.env :: X.outer))) (h := s.heap) (by rw [hA, T.stk]) T.fr (fun b o q => PySem.W.of_hideAll _ q) (PySem.W.funFrames_hide stk hin) hx fun h'' t fl tup tn up => ?_
 have inB : ∀ b o, s.heap.get? b = some o -> b ∉ frs (X.env :: X.outer) -> (PySem.W.hideAll s.heap (frs (X.env :: X.outer))).get? b = some o := fun b o e hb => PySem.W.hideAll_get _ e hb
 have free : ∀ b ∈ frs (X.env :: X.outer), H b = none := fun b hb => I.stkFree b (by rw [T.stk]; exact hb)
 have up2 : s.heap.UpToSlots h'' := (Heap.UpToSlots.of_keeps hx.keeps).trans up
 have exn : ∀ b, b ∉ X.ex := fun b z => by rw [T.ex] at z; cases z
 have neL : ∀ b o, X.s₀.heap.get? b = some o -> b ≠ X.env.locals := fun b o e => Nat.ne_of_lt (Nat.lt_of_lt_of_le (Heap.lt_size e) I.ok.above)
 have notin : ∀ b o, X.s₀.heap.get? b = some o -> b ∉ frs X.outer -> b ∉ frs (X.env :: X.outer) := fun b o e hb z => by
  rw [hf] at z
  rcases List.mem_cons.mp z with z | z
  ·exact neL b o e z
  ·exact hb z
 have trk : ∀ b o, H b = some o -> ∃ o', (PySem.W.hideAll s.heap (frs (X.env :: X.outer))).get? b = some o' := fun b o e => by
  obtain ⟨u, hu⟩ := (I.hok b o e).there
  exact ⟨u, inB b u hu fun z => by rw [free b z] at e; cases e⟩
 refine ⟨ea, t, cls, H, _, rfl, I.os, I.bare, ⟨⟨fun b o e n hb hx => ?_, fun b o e n hb hx => ?_, fun b o e n hx => ?_, fun b o e hx => ?_, I.base.tups, I.base.frzs, I.base.tbls⟩, fun a o e => ?_, fl, fun b o e hb => ?_, trk⟩, q⟩
 ·exact fl.1 b o (inB b o (I.base.keep b o e n hb (exn b)) (notin b o e hb))
 ·obtain ⟨sl, e1⟩ := I.base.slot b o e n hb (exn b)
  obtain ⟨_, o', ho', hd⟩ := I.ok.funs.mem hb
  rw [e] at ho'; cases ho'
  obtain ⟨sl', e2⟩ := up2 b _ e1 hd
  exact ⟨sl', e2⟩
 ·exact I.base.free b o e n (exn b)
 ·obtain ⟨o', e1⟩ := I.base.there b o e (exn b)
  by_cases hb : b ∈ frs X.outer
  ·obtain ⟨_, o2, ho2, hd⟩ := I.funs.mem hb
   rw [e1] at ho2; cases ho2
   obtain ⟨sl', e2⟩ := up2 b _ e1 hd
   exact ⟨_, e2⟩
  ·exact ⟨o', fl.1 b o' (inB b o' e1 (notin b o e hb))⟩
 ·refine (I.hok a o e).stay (fun b u hb q => ?_) (fun _ q => q) fun _ _ q => q
  refine fl.1 b u (inB b u q fun z => ?_)
  rcases hb with y | y
  ·rw [y] at z; rw [free a z] at e; cases e
  ·rw [free b z] at y; cases y
 ·obtain ⟨o', e1⟩ := I.base.there b o e (exn b)
  exact ⟨o', inB b o' e1 (notin b o e hb)⟩
theorem iO {h6 : Heap} {ea t : Addr} {C : Addr} {H' : Hp} {B : Heap} {g' : Shared} (T : X.Top) (I : Inv X pins σ H s) (F : Fly X.prog X.w X.stack H s.heap H' ea (.ref C) s'.heap B t) (os : s'.os = s.os) (bare : AllBare s'.gens)
  (fl6 : Heap.FlyingW B X.stack ea (.ref C) (.ref t) h6) (up : s'.heap.UpToSlots h6) :
  H' ea = none /\ Inv X pins σ (upd H' ea (.ext (jx ea C))) { s' with heap := h6 } := by
 obtain ⟨un2, hok2⟩ := F.step fl6 up
 obtain ⟨oe, vs, he, hc, hd, _⟩ := fl6.first
 have hB : B.get? ea = none := fl6.2.1
 have hn : H' ea = none := by
  cases q : H' ea with
  | none => rfl
  |
   some o =>
   obtain ⟨o', z⟩ := F.trk ea o q
   rw [hB] at z; cases z
 have hnf : ea ∉ frs X.stack := fun z => by
  obtain ⟨_, o, ho, hdd⟩ := fl6.2.2.1.mem z
  rw [he] at ho; cases ho
  exact hdd vs hd
 have hs : s.heap.get? ea = none := by
  cases q : s.heap.get? ea with
  | none => rfl
  |
   some o =>
   obtain ⟨o', z⟩ := F.old ea o q hnf
   rw [hB] at z; cases z
 have I5 : Inv X pins σ H' { s' with heap := h6 } := I.call' (s' := { s' with heap := h6 }) (ch := []) os un2 hok2 bare fun b hb => nomatch hb
 refine ⟨hn, I5.track hn ?_ ?_ (fun x c e z => ?_) (fun p hp z => ?_) ⟨⟨oe, vs, he, hc, hd⟩, ⟨oe, he⟩, fun h1 h2 ⟨o1, v1, e1, r⟩ k => ⟨o1, v1, k o1 e1, r⟩⟩⟩
 ·cases q : X.s₀.heap.get? ea with
  | none => rfl
  |
   some o =>
   obtain ⟨o', z⟩ := I.base.there ea o q (by rw [T.ex]; simp)
   rw [hs] at z; cases z
 ·intro z
  obtain ⟨m, ⟨o, es, ep, ho, hdd, _⟩, _⟩ := I.loc
  rw [<- z, hs] at ho; cases ho
 ·obtain ⟨v, o, ho, _⟩ := I.cell x c e
  rw [z, hs] at ho; cases ho
 ·have := (I.pin p hp).1
  rw [z, hs] at this; cases this
end
end L2
set_option Elab.async false
set_option linter.all false
set_option maxRecDepth 100000
namespace L2
open PySem PySem.Spec PyProof.Rows
section
variable {P : Program} {w : World} {K : PySem.W.Frag} {mg : Str -> Option Value} {base : Heap} {N : List Str} {qual : Str} {scope : Scope} {f : Addr} {cd : Value} {A : Around} {outer : List Env} {s : Shared} {H : Hp} {E : XK}
theorem nD : (d8 (CX1 P w) P w K mg base N qual scope f cd A outer s H E).Top := ⟨rfl, rfl, rfl⟩
theorem aC : oA (CX1 P w) (d8 (CX1 P w) P w K mg base N qual scope f cd A outer s H E) E := fun pins σ H s e s' I h => tG nD I.ok.frames I h
theorem DV {X : Cx} : oA (CX1 P w) X E0 := fun pins σ H s e s' I ⟨_, _, _, _, _, _, _, _, _, q⟩ => q.elim
theorem lU : PassesOwn (model P w) (d8 (CX1 P w) P w K mg base N qual scope f cd A outer s H E).A (d8 (CX1 P w) P w K mg base N qual scope f cd A outer s H E).env (d8 (CX1 P w) P w K mg base N qual scope f cd A outer s H E).xe := PassesOwn.leaving
noncomputable def Rz (X : Cx) (E : XK) : Prop := ∀ (pins : List (Addr × Obj)) (σ : St) (H : Hp) (s : Shared) (h' : Heap) (ea : Addr) (cls : Value) (args : List Value), Inv X pins σ H s -> Heap.MadeExcOf s.heap h' ea cls args -> E cls none H -> X.xe (.ref ea) { s with heap := h' }
theorem rz1 : Rz (d8 (CX1 P w) P w K mg base N qual scope f cd A outer s H E) E := fun pins σ H s h' ea cls args I hx q => wj nD I.ok.frames I hx q
theorem Fun.okR {x qual : Str} {st : Stmt} {f : Addr} {fd : FuncData} {N ps : List Str} {k : Nat} {sp : Sp} (F : Fun K x qual st f fd) (S : FnScope N ps (ax st)) (len : ∀ vs H Q E, sp vs H Q E -> vs.length = ps.length)
  (hbody : ∀ (cdv : Value) (A : Around) (outer : List Env) (s : Shared) (H : Hp) (vs : List V) (Q : VK) (E : XK), Room k (A.deeper (envOfC qual (ax st) s.heap.objs.size f cdv)) -> sp vs H Q E ->
   ∃ t, PSs (d8 (CX1 P w) P w K mg base N qual (ax st) f cdv A outer s H E) (cm st) t /\ t { nx := fun _ H' => Q .non H', rt := Q } (ez N vs) H) : FnOk P w K mg base (CX1 P w) (k + 1) f fd ps sp := by
 obtain ⟨oc, od, kV, doc, pm, an, cdv, ct, osl, rfl, lk, hcd⟩ := F.ex
 exact Ew lk hcd S len fun A outer s H vs Q E hr hsp => hbody cdv A outer s H vs Q E hr hsp
end
abbrev d7 : List Value := [.type "ValueError", .type "Exception", .type "BaseException", .type "object"]
theorem
    ue {K : PySem.W.Frag} {h : Heap} {C : Addr} (X : K.In h) (q : PySem.W.excIn K C d7 "ValueError.__new__" = true) :
  ∃ bm N nm q' bs hdct sn sub ab col dd k0 k1 k2 k3 k5 mN, h.get? C = some (excClassObj nm q' C N bs bm hdct sn sub ab col dd k0 k1 k2 k3 k5 "ValueError.__new__") /\ h.Ns N mN /\ mN "__init__" = none /\ OwnTail h d7 bm := by
 unfold PySem.W.excIn at q
 split at q
 ·rename_i dd cd sl ho
  split at q
  ·rename_i C' bm k0 k1 k2 k3 n k5 hm hs
   simp only [Bool.and_eq_true, beq_iff_eq, Bool.not_eq_true'] at q
   obtain ⟨⟨⟨⟨⟨rfl, rfl⟩, hdel⟩, ht⟩, hok⟩, hni⟩ := q
   obtain ⟨nm, bs, mro, ns, qn, hd, sn, sub, ab, col, del⟩ := cd
   dsimp only at hm hdel hok hni
   subst hm hdel
   have hsl : sl = #[k0, k1, k2, k3, some (.builtin "ValueError.__new__"), k5] := by
    obtain ⟨l⟩ := sl
    simp only at hs
    rw [hs]
   subst hsl
   exact ⟨bm, ns, nm, qn, bs, hd, sn, sub, ab, col, dd, k0, k1, k2, k3, k5, _, X _ _ ho, .of_isNs (PySem.W.isNs_of_in X hok), PySem.W.nsMap_none_of_in X hok hni, PySem.W.tail_of_in X ht⟩
  ·cases q
 ·cases q
section
variable {X : Cx} {x : Str} {C : Addr} {E : XK} {np cpos pos : Pos} {e₀ : Expr} {es : List Expr} {ta : TA}
noncomputable def Ak (C : Addr) (E : XK) (ta : TA) : TS := fun _ σ H => ta σ H fun vs H1 => vs.length <= sizeLine /\ E (.ref C) none H1
theorem wD (hc : X.calm = true) (hR : Rz X E) (hg : Gl X x) (hm : X.mg x = some (.ref C)) (hq : PySem.W.excIn X.K C d7 "ValueError.__new__" = true) (ha : PA X (e₀ :: es) ta)
  (he : starEach (e₀ :: es) X.env = (false, eval e₀ X.env) :: starEach es X.env := by rfl) (hplain : (backTo cpos (starEach es X.env)).any (·.1) = false := by rfl) (hd : (x == ("__debug__" : Str)) = false := by decide) :
  PS X (.Raise (some (.Call (.Name x np) (e₀ :: es) [] cpos)) none pos) (Ak C E ta) := by
 intro pins s σ H D I h
 obtain ⟨bm, N, nm, q', bs, hdct, sn, sub, ab, col, dd, k0, k1, k2, k3, k5, mN, hC, hN, hni, T⟩ := ue I.ok.mod.kin hq
 refine wpAny_Raise_call_subT (C := C) (nm := nm) (q := q') (N := N) (bs := bs) (bm := bm) (hdct := hdct) (sn := sn) (sub := sub) (ab := ab) (col := col) (dd := dd) (k0 := k0) (k1 := k1) (k2 := k2) (k3 := k3) (k5 := k5)
  PySem.F.excBase_ValueError (mN := mN) (T.hasType PySem.F.excBase_ValueError.hasBase) (I.ok.hd hc) (by rw [he]; show (false || (backTo cpos (starEach es X.env)).any (·.1)) = false; rw [hplain]; rfl) hni (mz I hg hm ⟨rfl, ?_⟩ hd)
 have hA := ha cpos pins s σ H _ I h
 rw [he] at hA ⊢
 refine Calls.evalArgs_plain (thn hA fun us s2 ⟨vs, H2, I2, r2, hz, q2⟩ => ⟨rfl, by rw [<- r2.length]; exact hz, I2.bk _ _ hC, hN.keeps I2.bk, T.keeps I2.bk, fun h' e hm' => ?_⟩)
 exact hR pins σ H2 s2 h' e _ _ I2 hm' q2
end
abbrev XS := St -> XK
abbrev TEx := St -> Hp -> VK -> XK -> Prop
abbrev TSx := Ends -> XS -> St -> Hp -> Prop
noncomputable def XP (X : Cx) (pins : List (Addr × Obj)) (E : XS) (e : Value) (s' : Shared) : Prop := ∃ σ1 H1 s1, Inv X pins σ1 H1 s1 /\ CX1 X.prog X.w X.stack H1 s1 (E σ1) e s'
noncomputable def PEx (X : Cx) (e : Expr) (t : TEx) : Prop :=
 ∀ (pins : List (Addr × Obj)) (s : Shared) (σ : St) (H : Hp) (Q : VK) (E : XS), Inv X pins σ H s -> t σ H Q (E σ) -> wpAny (model X.prog X.w) X.A (eval e X.env) (EP X pins σ Q) (XP X pins E) s
noncomputable def uw (X : Cx) (st : List Stmt) (t : TSx) : Prop :=
 ∀ (pins : List (Addr × Obj)) (s : Shared) (σ : St) (H : Hp) (D : Ends) (E : XS), Inv X pins σ H s -> t D E σ H -> wpAny (model X.prog X.w) X.A (execs st X.env) (SP X pins D) (XP X pins E) s
section
variable {X : Cx} {st : Stmt} {gL : List Stmt} {t u : TSx} {e : Expr} {es : List Expr} {te : TEx} {pos p : Pos} {x : Str} {f : Addr} {fd : FuncData} {ps : List Str} {sp : Sp} {k : Nat} {ta : TA} {dvs : List V} {ds : List Value}
end
noncomputable def dE (X : Cx) (ea : Addr) : Cx := { X with A := X.A.mark (some (.ref ea)), calm := false, xe := fun _ _ => False }
section
variable {X : Cx} {pins : List (Addr × Obj)} {σ : St} {H : Hp} {s : Shared} {ea : Addr}
theorem Inv.suite (I : Inv X pins σ H s) : Inv (dE X ea) pins σ H s :=
 ⟨⟨I.ok.mod, I.ok.kind, I.ok.glob, I.ok.blt, I.ok.above, I.ok.inj, I.ok.has, I.ok.cab, fun z => absurd z Bool.false_ne_true, I.ok.frames, I.ok.stk, I.ok.exf, I.ok.bs, I.ok.bsz, I.ok.noex, I.ok.exfs, I.ok.funs, I.ok.frf⟩, I.os, I.bare, I.base, I.loc, I.cell, I.free, I.freeC, I.pin, I.hok, I.len⟩
theorem Inv.unsuite (ok : X.Ok) (I : Inv (dE X ea) pins σ H s) : Inv X pins σ H s :=
 ⟨ok, I.os, I.bare, I.base, I.loc, I.cell, I.free, I.freeC, I.pin, I.hok, I.len⟩
theorem mS {M : Model} {A : Around} {E : Value -> Shared -> Prop} {K : PySem.W.Frag} {C Ce : Addr} {o : Obj} {Q : Bool -> Shared -> Prop} (KX : K.In s.heap) (he : s.heap.get? ea = some o) (hc : o.cls = .ref Ce)
  (hty : PySem.W.typeIn K (.ref C) = some (.type "type")) (hcl : (PySem.W.clsIn K C).isSome = true) (hb : PySem.W.mroIn K C (.type "BaseException") = some true) (hm : PySem.W.mroIn K Ce (.ref C) = some true) (q : Q true s) :
  wpAny M A (excMatches (.ref ea) (.ref C)) Q E s := by
 obtain ⟨h, g, d, tk, os⟩ := s
 have L0 := gA (M := M) he hc
 have L1 := PySem.W.looks_typeIn (M := M) KX hty
 have L2 := PySem.W.looks_mroIn (M := M) KX hb
 have L3 := PySem.W.looks_mroIn (M := M) KX hm
 have L4 : PySem.W.Looks M h (isType (.ref C)) true := by
  obtain ⟨cd, hcd⟩ := Option.isSome_iff_exists.mp hcl
  unfold PySem.W.clsIn at hcd
  split at hcd
  ·rename_i c' d' cd' sl' ho
   intro A' Q' E' s' k q
   unfold isType loadHead
   exact wpAny_bind (wpAny_loadPart (k _ _ (KX _ _ ho)) (wpAny_pure q))
  ·cases hcd
 have LT : PySem.W.Looks M h (isInstance (.ref C) (.type "tuple")) false := L1.andThen (PySem.W.Looks.of_pure tc_notTuple)
 have LE : PySem.W.Looks M h (isExcClass (.ref C)) true := by
  unfold isExcClass
  exact L4.andThen L2
 unfold excMatches
 refine wpAny_bind (LT.at ?_)
 rw [if_neg Bool.false_ne_true]
 refine wpAny_bind (wpAny_pure ?_)
 dsimp only
 refine wpAny_bind ?_
 rw [List.forIn_cons]
 refine wpAny_bind (wpAny_bind (LE.at ?_))
 simp only [Bool.not_true, Bool.false_eq_true, if_false]
 refine wpAny_pure ?_
 dsimp only
 rw [List.forIn_nil]
 refine wpAny_pure ?_
 refine wpAny_bind (L0.at (wpAny_bind ?_))
 rw [List.forIn_cons]
 refine wpAny_bind (wpAny_bind (L3.at ?_))
 simp only [if_true]
 exact wpAny_pure (wpAny_pure (wpAny_pure q))
theorem
    Inv.unbind {i : Nat} {n : Str} {h' : Heap} {tk : Nat} {m : Str -> Option Value} {v : Option Value} (I : Inv X pins σ H s) (hN : X.N.Nodup) (hi : X.N[i]? = some n) (hl : X.env.kindOf n = some .local)
  (hm : ∀ (i : Nat) (x : Str) (v : V), X.N[i]? = some x -> σ[i]? = some (some v) -> Vis X.env.scope x -> ∃ u, RelV v u /\ vj X.env s.heap m x u) (hn : s.heap.Ns X.env.locals m)
  (hn' : h'.Ns X.env.locals (fun x => if x = n then v else m x)) (hs : Heap.SameBut X.env.locals s.heap h') : Inv X pins (σ.set i none) H { s with heap := h', toks := tk } := by
 have cne := I.cne
 have neL : ∀ b o, X.s₀.heap.get? b = some o -> b ≠ X.env.locals := fun b o e => Nat.ne_of_lt (Nat.lt_of_lt_of_le (Heap.lt_size e) I.ok.above)
 refine ⟨I.ok, I.os, I.bare, ⟨fun b o e n hb hx => ?_, fun b o e n hb hx => ?_, I.base.free, fun b o e hx => ?_, I.base.tups, I.base.frzs, I.base.tbls⟩, ⟨_, hn', fun j y v' e1 e2 e3 => ?_⟩, fun y c e => ?_, I.free, I.freeC, fun p hp => ?_, fun b ob e => ?_, by simpa using I.len⟩
 ·exact (hs.2 b (neL b o e)).trans (I.base.keep b o e n hb hx)
 ·obtain ⟨sl, e1⟩ := I.base.slot b o e n hb hx
  exact ⟨sl, (hs.2 b (neL b o e)).trans e1⟩
 ·obtain ⟨o', e1⟩ := I.base.there b o e hx
  exact ⟨o', (hs.2 b (neL b o e)).trans e1⟩
 ·by_cases hj : j = i
  ·subst hj
   have hiσ : j < σ.length := by rw [I.len]; exact (List.getElem?_eq_some_iff.mp hi).1
   rw [List.getElem?_set_self hiσ] at e2
   cases e2
  ·rw [List.getElem?_set_ne (Ne.symm hj)] at e2
   obtain ⟨u', r', q⟩ := hm j y v' e1 e2 e3
   refine ⟨u', r', ?_⟩
   rcases q with ⟨k, e⟩ | ⟨k, c, e, z⟩
   ·refine .inl ⟨k, ?_⟩
    have : y ≠ n := fun e => hj (kC hN e1 (e ▸ hi))
    simp [this, e]
   ·exact .inr ⟨k, c, e, z.sameBut hs (cne y c e)⟩
 ·obtain ⟨w', z⟩ := I.cell y c e
  exact ⟨w', z.sameBut hs (cne y c e)⟩
 ·obtain ⟨e, n, ne, nf, d⟩ := I.pin p hp
  exact ⟨(hs.2 p.1 ne).trans e, n, ne, nf, d⟩
 ·refine (I.hok b ob e).stay (fun c w' hc q => (hs.2 c ?_).trans q) (fun _ q => q) fun _ _ q => q
  rintro rfl
  rcases hc with z | hc
  ·rw [<- z, I.free] at e; cases e
  ·rw [I.free] at hc; cases hc
theorem o4 {A : Around} {E : Value -> Shared -> Prop} {x : Str} {u : Value} {pos : Pos} {Q : Value -> Shared -> Prop} (I : Inv X pins σ H s) (hg : Gl X x) (hm : X.mg x = some u) (h : Q u s)
  (hd : (x == ("__debug__" : Str)) = false := by decide) : wpAny (model X.prog X.w) A (eval (.Name x pos) X.env) Q E s :=
 Calls.Name_function_global I.ok.kind hg (Calls.loadGlobal_global (by rw [I.ok.glob]; exact I.mod.glob.keeps I.bk) hm h) hd
end
structure XHand (K : PySem.W.Frag) (C : Addr) : Prop where
 ty : PySem.W.typeIn K (.ref C) = some (.type "type")
 cls : (PySem.W.clsIn K C).isSome = true
 mb : PySem.W.mroIn K C (.type "BaseException") = some true
noncomputable def wO (i : Nat) (D : Ends) : Ends := { nx := fun σ H => D.nx (σ.set i none) H, rt := D.rt, bk := fun σ H => D.bk (σ.set i none) H, ct := fun σ H => D.ct (σ.set i none) H }
noncomputable def tTry (K : PySem.W.Frag) (C : Addr) (i : Nat) (tb : TSx) (ts : TS) : TS := fun D σ H =>
 tb D (fun σ1 cls _ H1 => ∃ Ce, cls = .ref Ce /\ PySem.W.mroIn K Ce (.ref C) = some true /\ ∀ ea, H1 ea = none -> ts (wO i D) (σ1.set i (some (.ref ea))) (upd H1 ea (.ext (jx ea Ce)))) σ H
noncomputable def CM (K : PySem.W.Frag) (C : Addr) (tb : TSx) (ts : TS) : TS := fun D σ H =>
 tb D (fun σ1 cls _ H1 => ∃ Ce, cls = .ref Ce /\ PySem.W.mroIn K Ce (.ref C) = some true /\ ∀ ea, H1 ea = none -> ts D σ1 (upd H1 ea (.ext (jx ea Ce)))) σ H
section
variable {X : Cx} {x n : Str} {C : Addr} {i : Nat} {body suite : List Stmt} {b₀ : Stmt} {tb : TSx} {ts : TS} {np hpos pos : Pos}
theorem
    y0 (T : X.Top) (hN : X.N.Nodup) (hi : X.N[i]? = some n) (hl : X.env.kindOf n = some .local) (hg : Gl X x) (hm : X.mg x = some (.ref C)) (hh : XHand X.K C) (hb : uw X body tb) (hs : ∀ ea, PSs (dE X ea) (b₀ :: suite) ts)
  (hd : (x == ("__debug__" : Str)) = false := by decide) : PS X (.Try body [.ExceptHandler (some (.Name x np)) (some n) (b₀ :: suite) hpos] [] [] pos) (tTry X.K C i tb ts) := by
 intro pins s σ H D I h
 refine wpAny_Try_except (wpAny_mono (hb pins s σ H D _ I h) (fun f s1 q => ?_) fun e s1 hx => ?_)
 ·cases f with
  | next => exact wpAny_execs_nil q
  | ret v => exact q
  | brk => exact q
  | cont => exact q
 ·obtain ⟨σ1, H1, s0, I1, ea, t, cls, H', B, rfl, os, bare, F, Ce, rfl, hme, q⟩ := hx
  have F1 := F.fl
  rw [T.stk] at F1
  have hfr : X.A.frames = some (X.env :: X.outer) := by rw [I1.ok.frames, T.stk]
  refine wpAny_looks_onW hfr T.fr F1 fun h4 held4 up4 => ?_
  refine wpAny_landsW held4 fun h5 fl5 up5 => ?_
  have fl5' := fl5
  rw [<- T.stk] at fl5'
  obtain ⟨hn5, I5⟩ := iO (g' := s1) T I1 F os bare fl5' (up4.trans up5)
  obtain ⟨o5, he5, hc5⟩ := fl5.there
  refine wpAny_handleBy_cons (codeAny_handlers_test (o4 I5 hg hm ?_ hd)) (by intro q; cases q)
  refine mS I5.kIn he5 hc5 hh.ty hh.cls hh.mb hme ?_
  refine codeAny_handlers_suite_as ?_
  refine lands_againW fl5 fun h6 fl6 up6 => ?_
  have fl6' := fl6
  rw [<- T.stk] at fl6'
  obtain ⟨hn6, I6⟩ := iO (g' := s1) T I1 F os bare fl6' ((up4.trans up5).trans up6)
  refine fk (v := .ref ea) I6 hN hi (.inl hl) rfl (fun s7 I7 => ?_) (.inr hl)
  refine wpAny_mono (hs ea pins s7 _ _ (wO i D) I7.suite (q ea hn6)) (fun f s8 h8 => ?_) fun _ _ z => False.elim z
  have go : ∀ {σ8 : St} {H8 : Hp}, Inv (dE X ea) pins σ8 H8 s8 -> (∀ s9, Inv X pins (σ8.set i none) H8 s9 -> SP X pins D f s9) ->
    wpAny (model X.prog X.w) X.A (do bindName X.env n .none; unbindBehindTheSuite X.env n hpos) (fun _ s9 => SP X pins D f s9) X.xe s8 := fun {σ8 H8} I8' k => by
   have I8 := I8'.unsuite I.ok
   obtain ⟨m, hn, hm⟩ := I8.loc
   exact wpAny_nameGoes_keeps hl hn (by rw [I8.ok.kind]; rfl) fun h' v hn' hs' => k _ (I8.unbind hN hi hl hm hn hn' hs')
  cases f with
  | next => obtain ⟨σ8, H8, I8, q8⟩ := h8; exact go I8 fun s9 I9 => ⟨_, _, I9, q8⟩
  | brk => obtain ⟨σ8, H8, I8, q8⟩ := h8; exact go I8 fun s9 I9 => ⟨_, _, I9, q8⟩
  | cont => obtain ⟨σ8, H8, I8, q8⟩ := h8; exact go I8 fun s9 I9 => ⟨_, _, I9, q8⟩
  | ret u => obtain ⟨v, σ8, H8, I8, r8, q8⟩ := h8; exact go I8 fun s9 I9 => ⟨v, _, _, I9, r8, q8⟩
theorem yM (T : X.Top) (hg : Gl X x) (hm : X.mg x = some (.ref C)) (hh : XHand X.K C) (hb : uw X body tb) (hs : ∀ ea, PSs (dE X ea) (b₀ :: suite) ts)
  (hd : (x == ("__debug__" : Str)) = false := by decide) : PS X (.Try body [.ExceptHandler (some (.Name x np)) none (b₀ :: suite) hpos] [] [] pos) (CM X.K C tb ts) := by
 intro pins s σ H D I h
 refine wpAny_Try_except (wpAny_mono (hb pins s σ H D _ I h) (fun f s1 q => ?_) fun e s1 hx => ?_)
 ·cases f with
  | next => exact wpAny_execs_nil q
  | ret v => exact q
  | brk => exact q
  | cont => exact q
 ·obtain ⟨σ1, H1, s0, I1, ea, t, cls, H', B, rfl, os, bare, F, Ce, rfl, hme, q⟩ := hx
  have F1 := F.fl
  rw [T.stk] at F1
  have hfr : X.A.frames = some (X.env :: X.outer) := by rw [I1.ok.frames, T.stk]
  refine wpAny_looks_onW hfr T.fr F1 fun h4 held4 up4 => ?_
  refine wpAny_landsW held4 fun h5 fl5 up5 => ?_
  have fl5' := fl5
  rw [<- T.stk] at fl5'
  obtain ⟨hn5, I5⟩ := iO (g' := s1) T I1 F os bare fl5' (up4.trans up5)
  obtain ⟨o5, he5, hc5⟩ := fl5.there
  refine wpAny_handleBy_cons (codeAny_handlers_test (o4 I5 hg hm ?_ hd)) (by intro q; cases q)
  refine mS I5.kIn he5 hc5 hh.ty hh.cls hh.mb hme ?_
  refine codeAny_handlers_suite ?_
  refine lands_againW fl5 fun h6 fl6 up6 => ?_
  have fl6' := fl6
  rw [<- T.stk] at fl6'
  obtain ⟨hn6, I6⟩ := iO (g' := s1) T I1 F os bare fl6' ((up4.trans up5).trans up6)
  refine wpAny_mono (hs ea pins _ _ _ D I6.suite (q ea hn6)) (fun f s8 h8 => ?_) fun _ _ z => False.elim z
  cases f with
  | next => obtain ⟨σ8, H8, I8, q8⟩ := h8; exact ⟨_, _, I8.unsuite I.ok, q8⟩
  | brk => obtain ⟨σ8, H8, I8, q8⟩ := h8; exact ⟨_, _, I8.unsuite I.ok, q8⟩
  | cont => obtain ⟨σ8, H8, I8, q8⟩ := h8; exact ⟨_, _, I8.unsuite I.ok, q8⟩
  | ret u => obtain ⟨v, σ8, H8, I8, r8, q8⟩ := h8; exact ⟨v, _, _, I8.unsuite I.ok, r8, q8⟩
end
end L2
set_option Elab.async false
set_option linter.all false
set_option maxRecDepth 100000
namespace L2
open PySem PySem.Spec PyProof.Rows
mutual
inductive Rep (K : PySem.W.Frag) (H : Hp) : V -> PyData -> Prop where
 | non : Rep K H .non .none
 | bl (b : Bool) : Rep K H (.bl b) (.bool b)
 | int (i : Int) : Rep K H (.int i) (.int i)
 | str (x : Str) : Rep K H (.str x) (.str x)
 | tup {a : Addr} {xs : List V} {ds : List PyData} (h : SqT K H a xs) (r : Reps K H xs ds) : Rep K H (.ref a) (.tuple ds)
 | lst {a : Addr} {xs : List V} {ds : List PyData} (h : SqL K H a xs) (r : Reps K H xs ds) : Rep K H (.ref a) (.list ds)
inductive Reps (K : PySem.W.Frag) (H : Hp) : List V -> List PyData -> Prop where
 | nil : Reps K H [] []
 | cons {x : V} {d : PyData} {xs : List V} {ds : List PyData} (r : Rep K H x d) (rr : Reps K H xs ds) : Reps K H (x :: xs) (d :: ds)
end
section
variable {X : Cx} {pins : List (Addr × Obj)} {σ : St} {H H' : Hp} {s : Shared} {K : PySem.W.Frag}
theorem
    Rep.reads (I : Inv X pins σ H s) {v : V} {d : PyData} {u : Value} (r : Rep X.K H v d) (q : RelV v u) : ∃ as, Reads s.heap u d as :=
 Rep.rec (motive_1 := fun v d _ => ∀ u, RelV v u -> ∃ as, Reads s.heap u d as) (motive_2 := fun vs ds _ => ∀ us, Vals vs us -> ∃ as, ReadsAll s.heap us ds as)
  (fun u r => by cases r; exact ⟨_, .none⟩) (fun b u r => by cases r; exact ⟨_, .bool b⟩) (fun i u r => by obtain ⟨t, rfl⟩ := r; exact ⟨_, .int i t⟩) (fun x u r => by obtain ⟨t, rfl⟩ := r; exact ⟨_, .str x t⟩)
  (fun h _ ih u r => by
   cases r
   obtain ⟨its, rv, ⟨o, e, c, n, d⟩, _⟩ := I.tuple h
   obtain ⟨as, q⟩ := ih _ rv
   exact ⟨as, .tuple e c d (by simpa using q)⟩)
  (fun h _ ih u r => by
   cases r
   obtain ⟨its, rv, ⟨o, n, e, c, _, d⟩, _⟩ := I.list h
   obtain ⟨as, q⟩ := ih _ rv
   exact ⟨_, .list e c d (by simpa using q)⟩)
  (fun us r => by cases r; exact ⟨_, .nil⟩)
  (fun _ _ a b us q => by
   cases q with
   |
    cons q1 q2 =>
    obtain ⟨as, h1⟩ := a _ q1
    obtain ⟨bs, h2⟩ := b _ q2
    exact ⟨_, .cons h1 h2⟩) r u q
end
section
variable {X : Cx}
noncomputable def rp (K : PySem.W.Frag) : R2 := fun x y H Q => ∃ dx dy, Rep K H x dx /\ Rep K H y dy /\ SeqAt.shaped dx = true /\ SeqAt.shaped dy = true /\ Q (.bl (PyData.eqv dx dy)) H
noncomputable def rM (K : PySem.W.Frag) : R2 := fun x y H Q => ∃ dx dy, Rep K H x dx /\ Rep K H y dy /\ SeqAt.shaped dx = true /\ SeqAt.shaped dy = true /\ Q (.bl (!PyData.eqv dx dy)) H
theorem Bj (hu : X.A.units + 64 < cLine) : OpR X (compareOp .Eq) (rp X.K) := by
 intro pins s σ H x y v u Q I rx ry h
 obtain ⟨dx, dy, r1, r2, h1, h2, q⟩ := h
 obtain ⟨as, q1⟩ := r1.reads I rx
 obtain ⟨bs, q2⟩ := r2.reads I ry
 exact SeqAt.compareEq_shaped q1 q2 h1 h2 hu (tK I q rfl)
theorem Cn (hu : X.A.units + 64 < cLine) : OpR X (compareOp .NotEq) (rM X.K) := by
 intro pins s σ H x y v u Q I rx ry h
 obtain ⟨dx, dy, r1, r2, h1, h2, q⟩ := h
 obtain ⟨as, q1⟩ := r1.reads I rx
 obtain ⟨bs, q2⟩ := r2.reads I ry
 exact SeqAt.compareNe_shaped q1 q2 h1 h2 hu (tK I q rfl)
open PySem.Builtin.Int (intBits)
noncomputable def CDivB (i j : Int) : Prop := j ≠ 0 /\ intBits j <= 8000
noncomputable def wF (i j : Int) : Prop := intBits i <= 100000 /\ intBits j <= 100000
theorem gD : OpR X (binaryOp .FloorDiv) (rI CDivB fun i j => .int (i.fdiv j)) := opI fun i j _ _ _ _ _ hc q => floordiv_int hc.1 q (.inl (PyProof.noPylong_of_log2 (by
 have h := hc.2
 have h0 := hc.1
 unfold intBits at h
 have hb : (j == 0) = false := by simpa using h0
 rw [hb] at h
 simp only [Bool.false_eq_true, if_false] at h
 omega)))
theorem xK : OpR X (binaryOp .Mult) (rI wF fun i j => .int (i * j)) := opI fun i j _ _ _ _ _ hc q => mul_int q (PySem.IntMulOk.of_le hc.1 hc.2 (by decide))
theorem tR (bs : List Bool) : ((List.range bs.length).all fun i => bs.getD i false) = bs.all id := by
 rw [Bool.eq_iff_iff, List.all_eq_true, List.all_eq_true]
 constructor
 ·intro h x hx
  obtain ⟨i, hi, rfl⟩ := List.mem_iff_getElem.mp hx
  have := h i (List.mem_range.mpr hi)
  simpa [List.getD_eq_getElem?_getD, hi] using this
 ·intro h i hi
  have hi' := List.mem_range.mp hi
  have := h bs[i] (List.getElem_mem hi')
  simpa [List.getD_eq_getElem?_getD, hi'] using this
theorem vf (hc : X.calm = true) : CallR X (.builtin "all") (fun xs H Q => ∃ (a : Addr) (bs : List Bool), xs = [.ref a] /\ SqL X.K H a (bs.map V.bl) /\ Q (.bl (bs.all id)) H) := by
 intro pins s σ H xs us Q I r h
 obtain ⟨a, bs, rfl, hq, q⟩ := h
 obtain ⟨u, rfl, ru⟩ := jh r
 cases ru
 obtain ⟨its, rv, p, hz⟩ := I.list hq
 have hl := rv.length
 rw [List.length_map] at hl
 have hlt : a < s.heap.objs.size := by obtain ⟨o, n, e, _⟩ := p; exact Heap.lt_size e
 refine call_all_walk (wpAny_pyIter_list p.isList ?_)
 refine ⟨s.heap.objs.size, _, _, _, _, _, fun i => bs.getD i false, rfl, Walks.list (A := X.A.in1) (I.ok.hd hc) s.heap.objs.size a (Nat.ne_of_lt hlt) its.toArray, ⟨⟨_, Heap.get?_push_size _ rfl, rfl, rfl⟩, (p.keeps fun b o e => Heap.get?_push_of_some _ e).isList⟩, fun i v s' Q' E' hP hQ => ?_, fun h' tk hk => ?_⟩
 ·have hP' : its[i]? = some v := by simpa using hP
  have hi : i < bs.length := by rw [hl]; exact (List.getElem?_eq_some_iff.mp hP').1
  have hb : (bs.map V.bl)[i]? = some (V.bl bs[i]) := by simp [hi]
  obtain ⟨u, hu, ru⟩ := rv.get hb
  rw [hP'] at hu
  cases hu
  cases ru
  refine wpAny_truthy_bool ?_
  have e : bs.getD i false = bs[i] := by simp [List.getD_eq_getElem?_getD, hi]
  show Q' bs[i] s'
  rw [<- e]
  exact hQ
 ·have e1 : its.toArray.size = bs.length := by rw [List.size_toArray, hl]
  rw [e1, tR]
  have hn : H s.heap.objs.size = none := I.fresh
  have I1 : Inv X pins σ H { s with heap := s.heap.push { cls := .type "list_iterator", dict := none, data := .fields #[.ref a, rawInt 0] } } := I.kept (t' := s.toks) fun b o e => Heap.get?_push_of_some _ e
  refine ⟨.bl _, H, ?_, rfl, q⟩
  refine I.kept (t' := tk) fun b o e => ?_
  have hne : b ≠ s.heap.objs.size := Nat.ne_of_lt (Heap.lt_size e)
  exact hk b o (by simpa using hne) (Heap.get?_push_of_some _ e)
end
end L2
set_option Elab.async false
set_option linter.all false
set_option maxRecDepth 100000
namespace L2
open PySem PySem.Spec PyProof.Rows
structure Def (K : PySem.W.Frag) (mg : Str -> Option Value) (x : Str) (st : Stmt) : Prop where
 ex : ∃ f fd, Fun K x x st f fd /\ mg x = some (.ref f)
theorem aO {K : PySem.W.Frag} {h : Heap} {mg : Str -> Option Value} {x : Str} {st : Stmt} {f : Addr} {oc : Value} {od an : Option Addr} {osl : Array (Option Value)} {kV doc pm cdv ct : Value} (X : K.In h) (G : h.Ns mainGlobals mg)
  (a : PySem.W.nsIn K mainGlobals x = some (some (.ref f))) (l : K.lookup f = some ⟨oc, od, .func (PySem.W.fnOf x x (dG st) (cm st) (ax st) .none kV doc pm an cdv ct), osl⟩)
  (c : PySem.W.codeIn K cdv x = true) (k : PySem.W.keepIn K (.ref f) = true) : Def K mg x st := ⟨f, _, BX l c k, PySem.W.mg_of X G a⟩
theorem Fun.look {K : PySem.W.Frag} {x qual : Str} {st : Stmt} {f : Addr} {fd : FuncData} (F : Fun K x qual st f fd) : ∃ oc od osl, K.lookup f = some ⟨oc, od, .func fd, osl⟩ := by
 obtain ⟨oc, od, kV, doc, pm, an, cdv, ct, osl, rfl, lk, hcd⟩ := F.ex
 exact ⟨oc, od, osl, lk⟩
structure Callee (P : Program) (w : World) (K : PySem.W.Frag) (mg : Str -> Option Value) (base : Heap) (x : Str) (k : Nat) (ps : List Str) (sp : Sp) : Prop where
 ex : ∃ f fd, FnOk P w K mg base (CX1 P w) k f fd ps sp /\ mg x = some (.ref f) /\ PySem.W.keepIn K (.ref f) = true /\ Binds K fd ps [] /\ ∃ oc od osl, K.lookup f = some ⟨oc, od, .func fd, osl⟩
section
variable {P : Program} {w : World} {K : PySem.W.Frag} {mg : Str -> Option Value} {base : Heap} {x : Str} {st : Stmt} {k : Nat} {ps N : List Str} {sp : Sp}
theorem Callee.imp {sp' : Sp} (C : Callee P w K mg base x k ps sp) (h : ∀ vs H Q E, sp' vs H Q E -> sp vs H Q E) : Callee P w K mg base x k ps sp' := by
 obtain ⟨f, fd, F, r⟩ := C.ex
 exact ⟨f, fd, F.imp h, r⟩
theorem Def.okR (D : Def K mg x st) (S : FnScope N ps (ax st))
  (hb : ∀ (kV doc pm : Value) (an : Option Addr) (cdv ct : Value) (us : List Value), us.length = ps.length -> bindArgs (PySem.W.fnOf x x (dG st) (cm st) (ax st) .none kV doc pm an cdv ct) ⟨us, []⟩ = pure (ps.zip us))
  (len : ∀ vs H Q E, sp vs H Q E -> vs.length = ps.length)
  (hbody : ∀ (f : Addr) (cdv : Value) (A : Around) (outer : List Env) (s : Shared) (H : Hp) (vs : List V) (Q : VK) (E : XK), Room k (A.deeper (envOfC x (ax st) s.heap.objs.size f cdv)) -> sp vs H Q E ->
   ∃ t, PSs (d8 (CX1 P w) P w K mg base N x (ax st) f cdv A outer s H E) (cm st) t /\ t { nx := fun _ H' => Q .non H', rt := Q } (ez N vs) H) : Callee P w K mg base x (k + 1) ps sp := by
 obtain ⟨f, fd, F, m⟩ := D.ex
 exact ⟨f, fd, F.okR S len (hbody f), m, F.kp, F.binds hb, F.look⟩
end
section
variable {X : Cx} {x : Str} {p pos : Pos} {e : Expr} {es : List Expr} {ta : TA} {k : Nat} {ps : List Str} {sp : Sp} {E : XK}
end
section
variable {X : Cx} {K : PySem.W.Frag} {tg l : Expr} {tl : TE}
theorem rQ (h : X.K = K) (hc : X.calm = true) : CallR X (.builtin "all") (fun xs H Q => ∃ (a : Addr) (bs : List Bool), xs = [.ref a] /\ SqL K H a (bs.map V.bl) /\ Q (.bl (bs.all id)) H) := by subst h; exact vf hc
theorem dq (h : X.K = K) (hu : X.A.units + 64 < cLine) : OpR X (compareOp .Eq) (rp K) := by subst h; exact Bj hu
theorem kP (h : X.K = K) (hu : X.A.units + 64 < cLine) : OpR X (compareOp .NotEq) (rM K) := by subst h; exact Cn hu
theorem inK (h : X.K = K) : OpR X (compareOp .In) (rIn K false) := by subst h; exact tU
end
end L2
set_option Elab.async false
set_option linter.all false
set_option maxRecDepth 100000
namespace L2
open PySem PySem.Spec PyProof.Rows
section
variable {X : Cx}
end
end L2
set_option Elab.async false
set_option linter.all false
set_option maxRecDepth 100000
namespace L2
open PySem PySem.Spec PyProof.Rows
theorem pY : ∀ {ns : List Int} {its : List Value}, Vals (ns.map V.int) its -> IntsAre its ns
 | [], _, h => by cases h; exact .nil
 |
  i :: r, _, h => by
  cases h with
  |
   cons h1 h2 =>
   obtain ⟨t, rfl⟩ := h1
   exact .cons i t (pY h2)
theorem uk {X : Cx} {K : PySem.W.Frag} (hK : X.K = K) (hc : X.calm = true) : CallR X (.builtin "sum") (fun xs H Q => ∃ (a : Addr) (ns : List Int), xs = [.ref a] /\ SqL K H a (ns.map V.int) /\ Q (.int ns.sum) H) := by
 subst hK
 intro pins s σ H xs us Q I r h
 obtain ⟨a, ns, rfl, hq, q⟩ := h
 obtain ⟨u, rfl, ru⟩ := jh r
 cases ru
 obtain ⟨its, rv, p, hz⟩ := I.list hq
 have hi := pY rv
 obtain ⟨ys, hy⟩ := hi.allInts.items
 have hn : numsOf its.toArray.toList = ns := by rw [show its.toArray.toList = its from rfl, hi.numsOf]
 have pl := p.isList
 rw [hy] at pl hn
 rw [nums_intItems] at hn
 refine sum_intListG (I.ok.hd hc) pl fun h' tk t' hk => ?_
 rw [preSum_eq, List.take_of_length_le (by simp), hn]
 exact ⟨.int ns.sum, H, I.kept (t' := tk) hk, ⟨_, rfl⟩, q⟩
end L2
namespace Fr
noncomputable def dv (a b : Int) : Int := if b < 0 then -((Int.gcd a b : Nat) : Int) else ((Int.gcd a b : Nat) : Int)
noncomputable def T (a b : Int) : Int := a.fdiv (dv a b)
noncomputable def B (a b : Int) : Int := b.fdiv (dv a b)
theorem nX {a b : Int} (hb : b ≠ 0) : 0 < Int.gcd a b := Int.gcd_pos_of_ne_zero_right a hb
theorem dv_ne {a b : Int} (hb : b ≠ 0) : dv a b ≠ 0 := by
 have := nX (a := a) hb
 unfold dv
 split <;> omega
theorem uL (a b : Int) : dv a b ∣ a := by
 have h : ((Int.gcd a b : Nat) : Int) ∣ a := Int.gcd_dvd_left a b
 unfold dv
 split
 ·exact Int.neg_dvd.mpr h
 ·exact h
theorem ux (a b : Int) : dv a b ∣ b := by
 have h : ((Int.gcd a b : Nat) : Int) ∣ b := Int.gcd_dvd_right a b
 unfold dv
 split
 ·exact Int.neg_dvd.mpr h
 ·exact h
theorem p9 {a d q : Int} (hd : d ≠ 0) (h : a = d * q) : a.fdiv d = q := by
 rw [h, Int.mul_comm]
 exact Int.mul_fdiv_cancel q hd
theorem T_mul {a b : Int} (hb : b ≠ 0) : T a b * dv a b = a := by
 obtain ⟨q, h⟩ := uL a b
 have : T a b = q := p9 (dv_ne hb) h
 rw [this, Int.mul_comm]; exact h.symm
theorem B_mul {a b : Int} (hb : b ≠ 0) : B a b * dv a b = b := by
 obtain ⟨q, h⟩ := ux a b
 have : B a b = q := p9 (dv_ne hb) h
 rw [this, Int.mul_comm]; exact h.symm
theorem B_pos {a b : Int} (hb : b ≠ 0) : 0 < B a b := by
 have h := B_mul (a := a) hb
 have hg := nX (a := a) hb
 generalize hx : B a b = x at h ⊢
 unfold dv at h
 split at h
 ·rename_i hneg
  have h2 : x * ((Int.gcd a b : Nat) : Int) = -b := by rw [Int.mul_neg] at h; omega
  rcases Int.lt_or_le 0 x with z | z
  ·exact z
  ·have : x * ((Int.gcd a b : Nat) : Int) <= 0 := Int.mul_nonpos_of_nonpos_of_nonneg z (by omega)
   omega
 ·rename_i hpos
  rcases Int.lt_or_le 0 x with z | z
  ·exact z
  ·have : x * ((Int.gcd a b : Nat) : Int) <= 0 := Int.mul_nonpos_of_nonpos_of_nonneg z (by omega)
   omega
theorem cross {a b : Int} (hb : b ≠ 0) : T a b * b = a * B a b := by
 have h1 := T_mul (a := a) hb
 have h2 := B_mul (a := a) hb
 generalize T a b = x at *
 generalize B a b = y at *
 generalize dv a b = d at *
 rw [<- h2, <- h1]
 rw [<- Int.mul_assoc, Int.mul_right_comm]
theorem dv_abs (a b : Int) : (dv a b).natAbs = Int.gcd a b := by
 unfold dv
 split <;> simp
theorem low {a b : Int} (hb : b ≠ 0) : Int.gcd (T a b) (B a b) = 1 := by
 have h1 := T_mul (a := a) hb
 have h2 := B_mul (a := a) hb
 have hg := nX (a := a) hb
 have e1 : a.natAbs = (T a b).natAbs * Int.gcd a b := by rw [<- dv_abs a b, <- Int.natAbs_mul, h1]
 have e2 : b.natAbs = (B a b).natAbs * Int.gcd a b := by rw [<- dv_abs a b, <- Int.natAbs_mul, h2]
 have e3 : Int.gcd a b = Nat.gcd ((T a b).natAbs * Int.gcd a b) ((B a b).natAbs * Int.gcd a b) := by rw [<- e1, <- e2]; rfl
 rw [Nat.gcd_mul_right] at e3
 show Nat.gcd (T a b).natAbs (B a b).natAbs = 1
 generalize Nat.gcd (T a b).natAbs (B a b).natAbs = k at *
 generalize Int.gcd a b = g at *
 have : (1 : Nat) * g = k * g := by omega
 exact (Nat.eq_of_mul_eq_mul_right hg this).symm
theorem uniq {x y x' y' : Int} (hy : 0 < y) (hy' : 0 < y') (h : Int.gcd x y = 1) (h' : Int.gcd x' y' = 1) (e : x * y' = x' * y) : x = x' /\ y = y' := by
 have c1 : Nat.Coprime y.natAbs x.natAbs := by rw [Nat.coprime_comm]; exact h
 have c2 : Nat.Coprime y'.natAbs x'.natAbs := by rw [Nat.coprime_comm]; exact h'
 have e1 : x.natAbs * y'.natAbs = x'.natAbs * y.natAbs := by rw [<- Int.natAbs_mul, <- Int.natAbs_mul, e]
 have d1 : y.natAbs ∣ y'.natAbs := c1.dvd_of_dvd_mul_left (by rw [e1]; exact Nat.dvd_mul_left _ _)
 have d2 : y'.natAbs ∣ y.natAbs := c2.dvd_of_dvd_mul_left (by rw [<- e1]; exact Nat.dvd_mul_left _ _)
 have ey : y.natAbs = y'.natAbs := Nat.dvd_antisymm d1 d2
 have ey' : y = y' := by omega
 subst ey'
 exact ⟨Int.eq_of_mul_eq_mul_right (by omega) e, rfl⟩
theorem same {a b c d : Int} (hb : b ≠ 0) (hd : d ≠ 0) (e : a * d = c * b) : T a b = T c d /\ B a b = B c d := by
 refine uniq (B_pos hb) (B_pos hd) (low hb) (low hd) ?_
 have h1 := cross (a := a) hb
 have h2 := cross (a := c) hd
 have hbd : b * d ≠ 0 := Int.mul_ne_zero hb hd
 refine Int.eq_of_mul_eq_mul_right hbd ?_
 calc T a b * B c d * (b * d) = (T a b * b) * (B c d * d) := by rw [Int.mul_assoc, Int.mul_left_comm (B c d) b d, <- Int.mul_assoc]
  _ = (a * B a b) * (B c d * d) := by rw [h1]
  _ = (a * d) * (B c d * B a b) := by rw [Int.mul_assoc a, Int.mul_assoc a, Int.mul_left_comm (B a b), Int.mul_left_comm d, Int.mul_comm (B a b) d]
  _ = (c * b) * (B c d * B a b) := by rw [e]
  _ = (c * B c d) * (B a b * b) := by rw [Int.mul_assoc c, Int.mul_assoc c, Int.mul_left_comm b, Int.mul_comm b (B a b)]
  _ = (T c d * d) * (B a b * b) := by rw [<- h2]
  _ = T c d * B a b * (b * d) := by rw [Int.mul_assoc, Int.mul_assoc, Int.mul_left_comm d, Int.mul_comm d b]
theorem self {a b : Int} (hb : 0 < b) (h : Int.gcd a b = 1) : T a b = a /\ B a b = b :=
 uniq (B_pos (by omega)) hb (low (by omega)) h (cross (by omega))
theorem euc (m n : Nat) : Nat.gcd n (m % n) = Nat.gcd m n := by
 rw [Nat.gcd_comm, <- Nat.gcd_rec, Nat.gcd_comm]
end Fr
set_option Elab.async false
set_option linter.all false
set_option maxRecDepth 100000
set_option maxHeartbeats 1000000
namespace L2
open PySem PySem.Spec PyProof.Rows
noncomputable def SqB (K : PySem.W.Frag) (b : Bool) (H : Hp) (a : Addr) (xs : List V) : Prop := match b with
 | true => SqL K H a xs
 | false => SqT K H a xs
noncomputable def IteE (K : PySem.W.Frag) (b : Bool) (a : Addr) : It :=
 ⟨fun i H => ∃ xs x, SqB K b H a xs /\ xs[i]? = some x, fun i H x H' => ∃ p u, x = .ref p /\ H p = none /\ H' = upd H p (.tup [.int (i : Nat), u]) /\ ∀ xs, SqB K b H a xs -> xs[i]? = some u, fun i H => ∃ xs, SqB K b H a xs /\ xs.length = i⟩
section
variable {prog : Program} {w : World} {A : Around} {E : Value -> Shared -> Prop} {s : Shared} {b1 b2 : Bool} {z p q j1 j2 a1 a2 : Addr} {n : Nat} {xs ys : Array Value} {x y u v : Value}
end
end L2
set_option Elab.async false
set_option linter.all false
set_option maxRecDepth 100000
set_option maxHeartbeats 1000000
namespace L2
open PySem PySem.Spec PyProof.Rows
noncomputable def ItZ (K : PySem.W.Frag) (b c : Bool) (a d : Addr) : It :=
 ⟨fun i H => ∃ xs ys x y, SqB K b H a xs /\ SqB K c H d ys /\ xs[i]? = some x /\ ys[i]? = some y,
  fun i H x H' => ∃ p u v, x = .ref p /\ H p = none /\ H' = upd H p (.tup [u, v]) /\ (∀ xs, SqB K b H a xs -> xs[i]? = some u) /\ ∀ ys, SqB K c H d ys -> ys[i]? = some v,
  fun i H => ∃ xs ys, SqB K b H a xs /\ SqB K c H d ys /\ (xs[i]? = none \/ ys[i]? = none)⟩
end L2
set_option Elab.async false
set_option linter.all false
set_option maxRecDepth 100000
namespace L2
open PySem PySem.Spec PyProof.Rows
inductive D where
 | non | bl (b : Bool) | int (i : Int) | str (x : Str) | ty (n : String) | glb (x : Str) | exc (x : Str) | tup (xs : List D) | ref (n : Nat) | kl (xs : List D)
 deriving Inhabited
inductive Ob where
 | lst (xs : List D) | fz (xs : List D) | set (xs : List Int) | dct (kvs : List (Key × D)) | any
 deriving Inhabited
abbrev AH := List Ob
abbrev AE := List (Option D)
inductive R (α : Type) where
 | ok (a : α) (h : AH) | exc (c : Str) (h : AH) | stuck
inductive SR where
 | nx (ae : AE) (h : AH) | rt (d : D) (h : AH) | bk (ae : AE) (h : AH) | ct (ae : AE) (h : AH) | exc (c : Str) (ae : AE) (h : AH) | stuck
abbrev ME := AE -> AH -> R D
abbrev MT := AE -> AH -> R Bool
abbrev MA := AE -> AH -> R (List D)
abbrev MS := AE -> AH -> SR
abbrev Fn := List D -> AH -> R D
noncomputable def R.bind {α β : Type} (r : R α) (f : α -> AH -> R β) : R β := match r with
 | .ok a h => f a h
 | .exc c h => .exc c h
 | .stuck => .stuck
section
variable (K : PySem.W.Frag) (mg : Str -> Option Value)
mutual
inductive RelD (ρ : List Addr) (H : Hp) : D -> V -> Prop where
 | non : RelD ρ H .non .non
 | bl (b : Bool) : RelD ρ H (.bl b) (.bl b)
 | int (i : Int) : RelD ρ H (.int i) (.int i)
 | str (x : Str) : RelD ρ H (.str x) (.str x)
 | ty (n : String) : RelD ρ H (.ty n) (.ty n)
 | glb {x : Str} {a : Addr} (m : mg x = some (.ref a)) : RelD ρ H (.glb x) (.ref a)
 | exc {x : Str} {a C : Addr} (m : mg x = some (.ref C)) (e : H a = some (.ext (jx a C))) : RelD ρ H (.exc x) (.ref a)
 | tup {p : Addr} {vs : List V} {ds : List D} (h : SqT K H p vs) (r : RelDs ρ H ds vs) : RelD ρ H (.tup ds) (.ref p)
 | ref {n : Nat} {a : Addr} (e : ρ[n]? = some a) : RelD ρ H (.ref n) (.ref a)
 | kl {a : Addr} {vs : List V} {ds : List D} (h : ∃ (o : Obj) (its : Array Value) (n : Nat), K.lookup a = some o /\ o.cls = .type "list" /\ o.dict = none /\ o.data = .seq its n /\ its.size <= sizeLine /\ Vals vs its.toList) (r : RelDs ρ H ds vs) : RelD ρ H (.kl ds) (.ref a)
inductive RelDs (ρ : List Addr) (H : Hp) : List D -> List V -> Prop where
 | nil : RelDs ρ H [] []
 | cons {d : D} {v : V} {ds : List D} {vs : List V} (r : RelD ρ H d v) (rr : RelDs ρ H ds vs) : RelDs ρ H (d :: ds) (v :: vs)
end
structure Le (ρ : List Addr) (H : Hp) (ρ' : List Addr) (H' : Hp) : Prop where
 pre : ∀ (n : Nat) (a : Addr), ρ[n]? = some a -> ρ'[n]? = some a
 tup : ∀ b xs, H b = some (.tup xs) -> H' b = some (.tup xs)
 frz : ∀ b o u, H b = some (.frz o u) -> H' b = some (.frz o u)
 ext : ∀ b φ, H b = some (.ext φ) -> H' b = some (.ext φ)
noncomputable def ObR (ρ : List Addr) (H : Hp) (a : Addr) : Ob -> Prop
 | .lst ds => ∃ vs, H a = some (.lst vs) /\ RelDs K mg ρ H ds vs
 | .fz ds => ∃ o vs, H a = some (.frz o (.lst vs)) /\ RelDs K mg ρ H ds vs
 | .set xs => xs.Nodup /\ H a = some (.set (fun i => decide (i ∈ xs)) xs.length)
 | .dct kvs => ∃ ws, H a = some (.dK ws) /\ ws.map (·.1) = kvs.map (·.1) /\ RelDs K mg ρ H (kvs.map (·.2)) (ws.map (·.2))
 | .any => ∃ o, H a = some o
structure Wd (ρ : List Addr) (h : AH) (H : Hp) : Prop where
 len : ρ.length = h.length
 nd : ρ.Nodup
 ob : ∀ (n : Nat) (a : Addr) (o : Ob), ρ[n]? = some a -> h[n]? = some o -> ObR K mg ρ H a o
structure RelE (ρ : List Addr) (H : Hp) (ae : AE) (σ : St) : Prop where
 len : ae.length = σ.length
 at_ : ∀ (i : Nat) (d : D), ae[i]? = some (some d) -> ∃ v, σ[i]? = some (some v) /\ RelD K mg ρ H d v
noncomputable def PostG {α : Type} (ρ : List Addr) (H : Hp) (E : XK) (k : α -> AH -> List Addr -> Hp -> Prop) : R α -> Prop
 | .ok a h => ∀ ρ' H', Le ρ H ρ' H' -> Wd K mg ρ' h H' -> k a h ρ' H'
 | .exc c h => ∀ ρ' H' C, Le ρ H ρ' H' -> Wd K mg ρ' h H' -> mg c = some (.ref C) -> E (.ref C) none H'
 | .stuck => False
abbrev dg (ρ : List Addr) (H : Hp) (Q : VK) (E : XK) (r : R D) : Prop := PostG K mg ρ H E (fun d _ ρ' H' => ∀ v, RelD K mg ρ' H' d v -> Q v H') r
abbrev wR (ρ : List Addr) (H : Hp) (Q : Bool -> Hp -> Prop) (E : XK) (r : R Bool) : Prop := PostG K mg ρ H E (fun b _ ρ' H' => Q b H') r
abbrev wG (ρ : List Addr) (H : Hp) (Q : List V -> Hp -> Prop) (E : XK) (r : R (List D)) : Prop := PostG K mg ρ H E (fun d _ ρ' H' => ∀ vs, RelDs K mg ρ' H' d vs -> Q vs H') r
noncomputable def PostS (ρ : List Addr) (H : Hp) (D : Ends) (ES : St -> XK) : SR -> Prop
 | .nx ae h => ∀ ρ' H' σ', Le ρ H ρ' H' -> Wd K mg ρ' h H' -> RelE K mg ρ' H' ae σ' -> D.nx σ' H'
 | .bk ae h => ∀ ρ' H' σ', Le ρ H ρ' H' -> Wd K mg ρ' h H' -> RelE K mg ρ' H' ae σ' -> D.bk σ' H'
 | .ct ae h => ∀ ρ' H' σ', Le ρ H ρ' H' -> Wd K mg ρ' h H' -> RelE K mg ρ' H' ae σ' -> D.ct σ' H'
 | .rt d h => ∀ ρ' H' v, Le ρ H ρ' H' -> Wd K mg ρ' h H' -> RelD K mg ρ' H' d v -> D.rt v H'
 | .exc c ae h => ∀ ρ' H' σ' C, Le ρ H ρ' H' -> Wd K mg ρ' h H' -> RelE K mg ρ' H' ae σ' -> mg c = some (.ref C) -> ES σ' (.ref C) none H'
 | .stuck => False
noncomputable def rdE (ES : St -> XK) (F : ME) : TE := fun σ H Q => ∃ ρ h ae, Wd K mg ρ h H /\ RelE K mg ρ H ae σ /\ dg K mg ρ H Q (ES σ) (F ae h)
noncomputable def rdT (ES : St -> XK) (F : MT) : TT := fun σ H Q => ∃ ρ h ae, Wd K mg ρ h H /\ RelE K mg ρ H ae σ /\ wR K mg ρ H Q (ES σ) (F ae h)
noncomputable def rdA (ES : St -> XK) (F : MA) : TA := fun σ H Q => ∃ ρ h ae, Wd K mg ρ h H /\ RelE K mg ρ H ae σ /\ wG K mg ρ H Q (ES σ) (F ae h)
noncomputable def rdS (ES : St -> XK) (F : MS) : TS := fun D σ H => ∃ ρ h ae, Wd K mg ρ h H /\ RelE K mg ρ H ae σ /\ PostS K mg ρ H D ES (F ae h)
noncomputable def spD (n : Nat) (S : Fn) : Sp := fun vs H Q E => ∃ ρ h ds, Wd K mg ρ h H /\ RelDs K mg ρ H ds vs /\ ds.length = n /\ dg K mg ρ H Q E (S ds h)
end
theorem rdE.el {K : PySem.W.Frag} {mg : Str -> Option Value} {ES : St -> XK} {F : ME} {σ : St} {H : Hp} {Q : VK} {C : Prop} (q : rdE K mg ES F σ H Q) (k : ∀ ρ h ae, Wd K mg ρ h H -> RelE K mg ρ H ae σ -> dg K mg ρ H Q (ES σ) (F ae h) -> C) : C := by
 obtain ⟨ρ, h, ae, w, re, p⟩ := q
 exact k ρ h ae w re p
theorem rdT.el {K : PySem.W.Frag} {mg : Str -> Option Value} {ES : St -> XK} {F : MT} {σ : St} {H : Hp} {Q : Bool -> Hp -> Prop} {C : Prop} (q : rdT K mg ES F σ H Q) (k : ∀ ρ h ae, Wd K mg ρ h H -> RelE K mg ρ H ae σ -> wR K mg ρ H Q (ES σ) (F ae h) -> C) : C := by
 obtain ⟨ρ, h, ae, w, re, p⟩ := q
 exact k ρ h ae w re p
theorem rdA.el {K : PySem.W.Frag} {mg : Str -> Option Value} {ES : St -> XK} {F : MA} {σ : St} {H : Hp} {Q : List V -> Hp -> Prop} {C : Prop} (q : rdA K mg ES F σ H Q) (k : ∀ ρ h ae, Wd K mg ρ h H -> RelE K mg ρ H ae σ -> wG K mg ρ H Q (ES σ) (F ae h) -> C) : C := by
 obtain ⟨ρ, h, ae, w, re, p⟩ := q
 exact k ρ h ae w re p
theorem rdS.el {K : PySem.W.Frag} {mg : Str -> Option Value} {ES : St -> XK} {F : MS} {σ : St} {H : Hp} {De : Ends} {C : Prop} (q : rdS K mg ES F De σ H) (k : ∀ ρ h ae, Wd K mg ρ h H -> RelE K mg ρ H ae σ -> PostS K mg ρ H De ES (F ae h) -> C) : C := by
 obtain ⟨ρ, h, ae, w, re, p⟩ := q
 exact k ρ h ae w re p
section
variable {K : PySem.W.Frag} {mg : Str -> Option Value} {ρ ρ' ρ1 : List Addr} {H H' H1 : Hp} {h h' : AH} {ae : AE} {σ : St}
theorem Le.refl : Le ρ H ρ H := ⟨fun _ _ e => e, fun _ _ e => e, fun _ _ _ e => e, fun _ _ e => e⟩
theorem Le.trans (a : Le ρ H ρ1 H1) (b : Le ρ1 H1 ρ' H') : Le ρ H ρ' H' :=
 ⟨fun n x e => b.pre n x (a.pre n x e), fun x y e => b.tup x y (a.tup x y e), fun x y z e => b.frz x y z (a.frz x y z e), fun x y e => b.ext x y (a.ext x y e)⟩
theorem Le.sqT {a : Addr} {xs : List V} (l : Le ρ H ρ' H') (q : SqT K H a xs) : SqT K H' a xs := by
 rcases q with (q | ⟨o, q⟩) | q
 ·exact .inl (.inl (l.tup _ _ q))
 ·exact .inl (.inr ⟨o, l.frz _ _ _ q⟩)
 ·exact .inr q
theorem RelD.mono (l : Le ρ H ρ' H') {d : D} {v : V} (r : RelD K mg ρ H d v) : RelD K mg ρ' H' d v :=
 RelD.rec (motive_1 := fun d v _ => RelD K mg ρ' H' d v) (motive_2 := fun ds vs _ => RelDs K mg ρ' H' ds vs) .non (fun b => .bl b) (fun i => .int i) (fun x => .str x) (fun n => .ty n) (fun m => .glb m) (fun m e => .exc m (l.ext _ _ e)) (fun h _ ih => .tup (l.sqT h) ih) (fun e => .ref (l.pre _ _ e)) (fun h _ ih => .kl h ih) .nil (fun _ _ a b => .cons a b) r
theorem RelDs.ind {M : List D -> List V -> Prop} (h0 : M [] []) (h1 : ∀ {d v ds vs}, RelD K mg ρ H d v -> RelDs K mg ρ H ds vs -> M ds vs -> M (d :: ds) (v :: vs)) {ds : List D} {vs : List V} (r : RelDs K mg ρ H ds vs) : M ds vs := by
 induction ds generalizing vs with
 | nil => cases r; exact h0
 |
  cons d ds ih =>
  cases r with
  | cons r rr => exact h1 r rr (ih rr)
theorem RelDs.mono (l : Le ρ H ρ' H') {ds : List D} {vs : List V} (r : RelDs K mg ρ H ds vs) : RelDs K mg ρ' H' ds vs := r.ind .nil fun r _ ih => .cons (r.mono l) ih
theorem RelDs.len {ds : List D} {vs : List V} (r : RelDs K mg ρ H ds vs) : ds.length = vs.length := r.ind (M := fun ds vs => ds.length = vs.length) rfl fun _ _ ih => congrArg (· + 1) ih
theorem RelDs.getD {ds : List D} {vs : List V} {i : Nat} {d : D} (r : RelDs K mg ρ H ds vs) (e : ds[i]? = some d) : ∃ v, vs[i]? = some v /\ RelD K mg ρ H d v :=
 r.ind (M := fun ds vs => ∀ i, ds[i]? = some d -> ∃ v, vs[i]? = some v /\ RelD K mg ρ H d v) (fun _ e => by rw [List.getElem?_nil] at e; cases e) (fun r _ ih i e => match i, e with
  | 0, e => by cases e; exact ⟨_, rfl, r⟩
  | i + 1, e => ih i e) i e
theorem RelDs.append {ds es : List D} {vs ws : List V} (r : RelDs K mg ρ H ds vs) (q : RelDs K mg ρ H es ws) : RelDs K mg ρ H (ds ++ es) (vs ++ ws) := r.ind (M := fun ds vs => RelDs K mg ρ H (ds ++ es) (vs ++ ws)) q fun r _ ih => .cons r ih
theorem RelDs.take {ds : List D} {vs : List V} (n : Nat) (r : RelDs K mg ρ H ds vs) : RelDs K mg ρ H (ds.take n) (vs.take n) :=
 r.ind (M := fun ds vs => ∀ n : Nat, RelDs K mg ρ H (ds.take n) (vs.take n)) (fun n => by rw [List.take_nil, List.take_nil]; exact .nil) (fun r _ ih n => by cases n with | zero => exact .nil | succ n => exact .cons r (ih n)) n
theorem RelDs.drop {ds : List D} {vs : List V} (n : Nat) (r : RelDs K mg ρ H ds vs) : RelDs K mg ρ H (ds.drop n) (vs.drop n) :=
 r.ind (M := fun ds vs => ∀ n : Nat, RelDs K mg ρ H (ds.drop n) (vs.drop n)) (fun n => by rw [List.drop_nil, List.drop_nil]; exact .nil) (fun r rr ih n => by cases n with | zero => exact .cons r rr | succ n => exact ih n) n
theorem RelDs.set {d : D} {v : V} (r : RelD K mg ρ H d v) {ds : List D} {vs : List V} (i : Nat) (q : RelDs K mg ρ H ds vs) : RelDs K mg ρ H (ds.set i d) (vs.set i v) :=
 q.ind (M := fun ds vs => ∀ i : Nat, RelDs K mg ρ H (ds.set i d) (vs.set i v)) (fun _ => .nil) (fun q qq ih i => by cases i with | zero => exact .cons r qq | succ i => exact .cons q (ih i)) i
theorem RelDs.ints : ∀ {ns : List Int} {vs : List V}, RelDs K mg ρ H (ns.map D.int) vs -> vs = ns.map V.int := by
 intro ns
 induction ns with
 | nil => intro vs r; cases r; rfl
 |
  cons n ns ih =>
  intro vs r
  cases r with
  | cons r rr => cases r; rw [ih rr]; rfl
theorem RelDs.bls : ∀ {ns : List Bool} {vs : List V}, RelDs K mg ρ H (ns.map D.bl) vs -> vs = ns.map V.bl := by
 intro ns
 induction ns with
 | nil => intro vs r; cases r; rfl
 |
  cons n ns ih =>
  intro vs r
  cases r with
  | cons r rr => cases r; rw [ih rr]; rfl
theorem RelE.mono (l : Le ρ H ρ' H') (r : RelE K mg ρ H ae σ) : RelE K mg ρ' H' ae σ := ⟨r.len, fun i d e => by
 obtain ⟨v, h1, h2⟩ := r.at_ i d e
 exact ⟨v, h1, h2.mono l⟩⟩
theorem RelE.set {d : D} {v : V} (i : Nat) (r : RelE K mg ρ H ae σ) (q : RelD K mg ρ H d v) : RelE K mg ρ H (ae.set i (some d)) (σ.set i (some v)) := ⟨by rw [List.length_set, List.length_set]; exact r.len, fun j d' e => by
 rw [List.getElem?_set] at e ⊢
 by_cases hij : i = j
 ·rw [if_pos hij] at e ⊢
  by_cases hi : i < ae.length
  ·rw [if_pos hi] at e
   cases e
   rw [if_pos (by rw [<- r.len]; exact hi)]
   exact ⟨v, rfl, q⟩
  ·rw [if_neg hi] at e; cases e
 ·rw [if_neg hij] at e ⊢
  exact r.at_ j d' e⟩
theorem RelE.unset {v : Option V} (i : Nat) (r : RelE K mg ρ H ae σ) : RelE K mg ρ H (ae.set i none) (σ.set i v) := ⟨by rw [List.length_set, List.length_set]; exact r.len, fun j d' e => by
 rw [List.getElem?_set] at e ⊢
 by_cases hij : i = j
 ·rw [if_pos hij] at e
  by_cases hi : i < ae.length
  ·rw [if_pos hi] at e; cases e
  ·rw [if_neg hi] at e; cases e
 ·rw [if_neg hij] at e ⊢
  exact r.at_ j d' e⟩
theorem ObR.mono {a : Addr} {o : Ob} (l : Le ρ H ρ' H') (e : H' a = H a) (q : ObR K mg ρ H a o) : ObR K mg ρ' H' a o := by
 cases o with
 | lst ds => obtain ⟨vs, h1, h2⟩ := q; exact ⟨vs, e.trans h1, h2.mono l⟩
 | fz ds => obtain ⟨o, vs, h1, h2⟩ := q; exact ⟨o, vs, e.trans h1, h2.mono l⟩
 | set xs => exact ⟨q.1, e.trans q.2⟩
 | dct kvs => obtain ⟨ws, h1, h2, h3⟩ := q; exact ⟨ws, e.trans h1, h2, h3.mono l⟩
 | any => obtain ⟨o, h1⟩ := q; exact ⟨o, e.trans h1⟩
theorem ObR.there {a : Addr} {o : Ob} (q : ObR K mg ρ H a o) : ∃ u, H a = some u := by
 cases o with
 | lst ds => obtain ⟨vs, h1, _⟩ := q; exact ⟨_, h1⟩
 | fz ds => obtain ⟨o, vs, h1, _⟩ := q; exact ⟨_, h1⟩
 | set xs => exact ⟨_, q.2⟩
 | dct kvs => obtain ⟨ws, h1, _⟩ := q; exact ⟨_, h1⟩
 | any => exact q
theorem Wd.fresh (w : Wd K mg ρ h H) {p : Addr} (hp : H p = none) : p ∉ ρ := fun hm => by
 obtain ⟨n, hn⟩ := List.getElem?_of_mem hm
 have hl : n < h.length := by rw [<- w.len]; exact (List.getElem?_eq_some_iff.mp hn).1
 obtain ⟨u, hu⟩ := (w.ob n p h[n] hn (List.getElem?_eq_getElem hl)).there
 rw [hp] at hu; cases hu
theorem cx {p : Addr} {o : HO} (hp : H p = none) : Le ρ H ρ (upd H p o) :=
 ⟨fun _ _ e => e, fun b xs e => by rw [aT (bN e hp)]; exact e, fun b xs u e => by rw [aT (bN e hp)]; exact e, fun b xs e => by rw [aT (bN e hp)]; exact e⟩
theorem lW {m : List Addr} : Le ρ H (ρ ++ m) H :=
 ⟨fun n a e => by rw [List.getElem?_append_left (List.getElem?_eq_some_iff.mp e).1]; exact e, fun _ _ e => e, fun _ _ _ e => e, fun _ _ e => e⟩
theorem
    Wd.alloc {p : Addr} {u : HO} {o : Ob} (w : Wd K mg ρ h H) (hp : H p = none) (hn : ObR K mg (ρ ++ [p]) (upd H p u) p o) : Wd K mg (ρ ++ [p]) (h ++ [o]) (upd H p u) := by
 refine ⟨by rw [List.length_append, List.length_append, w.len]; rfl, ?_, fun n a ob e1 e2 => ?_⟩
 ·rw [List.nodup_append]
  exact ⟨w.nd, by simp, fun a ha b hb => by rw [List.mem_singleton] at hb; subst hb; intro z; subst z; exact w.fresh hp ha⟩
 ·by_cases hl : n < ρ.length
  ·rw [List.getElem?_append_left hl] at e1
   rw [List.getElem?_append_left (by rw [<- w.len]; exact hl)] at e2
   have q := w.ob n a ob e1 e2
   obtain ⟨v, hv⟩ := q.there
   exact q.mono ((cx hp).trans lW) (aT (bN hv hp))
  ·have h1 : n = ρ.length := by
    have := (List.getElem?_eq_some_iff.mp e1).1
    rw [List.length_append] at this
    simp at this
    omega
   subst h1
   rw [List.getElem?_append_right (Nat.le_refl _), Nat.sub_self] at e1
   rw [w.len, List.getElem?_append_right (Nat.le_refl _), Nat.sub_self] at e2
   simp at e1 e2
   subst e1 e2
   exact hn
theorem Wd.tuple {p : Addr} {u : HO} (w : Wd K mg ρ h H) (hp : H p = none) : Wd K mg ρ h (upd H p u) :=
 ⟨w.len, w.nd, fun n a ob e1 e2 => by
  have q := w.ob n a ob e1 e2
  obtain ⟨v, hv⟩ := q.there
  exact q.mono (cx hp) (aT (bN hv hp))⟩
theorem sq {a : Addr} {o u : HO} (e : H a = some u) (hu : (∀ xs, u ≠ .tup xs) /\ (∀ x y, u ≠ .frz x y) /\ ∀ φ, u ≠ .ext φ) : Le ρ H ρ (upd H a o) := by
 refine ⟨fun _ _ e => e, fun b xs q => ?_, fun b x y q => ?_, fun b φ q => ?_⟩ <;> rw [aT] <;> (try exact q) <;> (intro z; subst z; rw [e] at q; have := Option.some.inj q; first | exact hu.1 _ this | exact hu.2.1 _ _ this | exact hu.2.2 _ this)
theorem Wd.write {n : Nat} {a : Addr} {o u : HO} {ob : Ob} (w : Wd K mg ρ h H) (ea : ρ[n]? = some a) (e : H a = some u) (hu : (∀ xs, u ≠ .tup xs) /\ (∀ x y, u ≠ .frz x y) /\ ∀ φ, u ≠ .ext φ)
  (hn : ObR K mg ρ (upd H a o) a ob) : Wd K mg ρ (h.set n ob) (upd H a o) := by
 refine ⟨by rw [List.length_set]; exact w.len, w.nd, fun m b ob' e1 e2 => ?_⟩
 rw [List.getElem?_set] at e2
 by_cases hm : n = m
 ·subst hm
  rw [ea] at e1; cases e1
  rw [if_pos rfl] at e2
  split at e2
  ·cases e2; exact hn
  ·cases e2
 ·rw [if_neg hm] at e2
  have q := w.ob m b ob' e1 e2
  refine q.mono (sq e hu) (aT fun z => hm ?_)
  subst z
  have h1 := (List.getElem?_eq_some_iff.mp e1)
  have h2 := (List.getElem?_eq_some_iff.mp ea)
  exact (List.getElem_inj (h₀ := h2.1) (h₁ := h1.1) w.nd).mp (h2.2.trans h1.2.symm)
theorem nK {vs : List V} : (∀ xs, HO.lst vs ≠ .tup xs) /\ (∀ x y, HO.lst vs ≠ .frz x y) /\ ∀ φ, HO.lst vs ≠ .ext φ := ⟨fun _ z => (nomatch z), fun _ _ z => (nomatch z), fun _ z => (nomatch z)⟩
theorem PostG.mono {α : Type} {E : XK} {k : α -> AH -> List Addr -> Hp -> Prop} {r : R α} (l : Le ρ H ρ' H') (p : PostG K mg ρ H E k r) : PostG K mg ρ' H' E k r := by
 cases r with
 | ok d h => exact fun ρ2 H2 l2 => p ρ2 H2 (l.trans l2)
 | exc c h => exact fun ρ2 H2 C l2 => p ρ2 H2 C (l.trans l2)
 | stuck => exact p
theorem PostG.imp {α : Type} {E : XK} {k k' : α -> AH -> List Addr -> Hp -> Prop} {r : R α} (p : PostG K mg ρ H E k r) (i : ∀ a h1 ρ' H', Le ρ H ρ' H' -> Wd K mg ρ' h1 H' -> k a h1 ρ' H' -> k' a h1 ρ' H') : PostG K mg ρ H E k' r := by
 cases r with
 | ok d h => exact fun ρ2 H2 l2 w2 => i _ _ _ _ l2 w2 (p ρ2 H2 l2 w2)
 | exc c h => exact p
 | stuck => exact p
theorem PostG.bind {α β : Type} {E : XK} {k : β -> AH -> List Addr -> Hp -> Prop} {r : R α} {f : α -> AH -> R β} (p : PostG K mg ρ H E k (r.bind f)) : PostG K mg ρ H E (fun a h1 ρ' H' => PostG K mg ρ' H' E k (f a h1)) r := by
 cases r with
 | ok d h => exact fun ρ2 H2 l2 w2 => PostG.mono l2 p
 | exc c h => exact p
 | stuck => exact p
theorem PostS.mono {De : Ends} {ES : St -> XK} {r : SR} (l : Le ρ H ρ' H') (p : PostS K mg ρ H De ES r) : PostS K mg ρ' H' De ES r := by
 cases r with
 | nx ae h => exact fun ρ2 H2 σ l2 => p ρ2 H2 σ (l.trans l2)
 | bk ae h => exact fun ρ2 H2 σ l2 => p ρ2 H2 σ (l.trans l2)
 | ct ae h => exact fun ρ2 H2 σ l2 => p ρ2 H2 σ (l.trans l2)
 | rt d h => exact fun ρ2 H2 v l2 => p ρ2 H2 v (l.trans l2)
 | exc c ae h => exact fun ρ2 H2 σ C l2 => p ρ2 H2 σ C (l.trans l2)
 | stuck => exact p
end
end L2
set_option Elab.async false
set_option linter.all false
set_option maxRecDepth 100000
namespace L2
open PySem PySem.Spec PyProof.Rows
section
variable {X : Cx} {e : Expr} {es : List Expr} {st : Stmt} {sts : List Stmt}
theorem PE.imp {t t' : TE} (h : PE X e t) (k : ∀ σ H Q, t' σ H Q -> t σ H Q) : PE X e t' := fun pins s σ H Q I w => h pins s σ H Q I (k σ H Q w)
theorem PT.imp {t t' : TT} (h : PT X e t) (k : ∀ σ H Q, t' σ H Q -> t σ H Q) : PT X e t' := fun pins s σ H Q I w => h pins s σ H Q I (k σ H Q w)
theorem PW.imp {t t' : TT} (h : PW X e t) (k : ∀ σ H Q, t' σ H Q -> t σ H Q) : PW X e t' := fun wh pins s σ H Q I w => h wh pins s σ H Q I (k σ H Q w)
theorem PA.imp {t t' : TA} (h : PA X es t) (k : ∀ σ H Q, t' σ H Q -> t σ H Q) : PA X es t' := fun pos pins s σ H Q I w => h pos pins s σ H Q I (k σ H Q w)
theorem PS.imp {t t' : TS} (h : PS X st t) (k : ∀ D σ H, t' D σ H -> t D σ H) : PS X st t' := fun pins s σ H D I w => h pins s σ H D I (k D σ H w)
theorem PSs.imp {t t' : TS} (h : PSs X sts t) (k : ∀ D σ H, t' D σ H -> t D σ H) : PSs X sts t' := fun pins s σ H D I w => h pins s σ H D I (k D σ H w)
theorem PG.imp {t t' : TG} (h : PG X e t) (k : ∀ v σ H Q, t' v σ H Q -> t v σ H Q) : PG X e t' := fun pins s σ H v u Q I r w => h pins s σ H v u Q I r (k v σ H Q w)
theorem PGs.imp {t t' : TGs} (h : PGs X es t) (k : ∀ v σ H Q, t' v σ H Q -> t v σ H Q) : PGs X es t' := fun pins s σ H v u Q I r w => h pins s σ H v u Q I r (k v σ H Q w)
theorem PO.imp {o : Option Expr} {t t' : TO} (h : PO X o t) (k : ∀ σ H Q, t' σ H Q -> t σ H Q) : PO X o t' := fun pins s σ H Q I w => h pins s σ H Q I (k σ H Q w)
end
section
variable (K : PySem.W.Frag) (mg : Str -> Option Value) (X : Cx) (ES : St -> XK)
noncomputable def DE (e : Expr) (F : ME) : Prop := PE X e (rdE K mg ES F)
noncomputable def DT (e : Expr) (F : MT) : Prop := PT X e (rdT K mg ES F)
noncomputable def DW (e : Expr) (F : MT) : Prop := PW X e (rdT K mg ES F)
noncomputable def DA (es : List Expr) (F : MA) : Prop := PA X es (rdA K mg ES F)
noncomputable def DS (st : Stmt) (F : MS) : Prop := PS X st (rdS K mg ES F)
noncomputable def DSs (st : List Stmt) (F : MS) : Prop := PSs X st (rdS K mg ES F)
end
noncomputable def OpD (K : PySem.W.Frag) (mg : Str -> Option Value) (r : R2) (g : D -> D -> AH -> R D) : Prop := ∀ ρ h H dx dy x y Q E, Wd K mg ρ h H -> RelD K mg ρ H dx x -> RelD K mg ρ H dy y -> dg K mg ρ H Q E (g dx dy h) -> r x y H Q
noncomputable def UnD (K : PySem.W.Frag) (mg : Str -> Option Value) (r : V -> Hp -> VK -> Prop) (g : D -> AH -> R D) : Prop := ∀ ρ h H dx x Q E, Wd K mg ρ h H -> RelD K mg ρ H dx x -> dg K mg ρ H Q E (g dx h) -> r x H Q
noncomputable def bG (K : PySem.W.Frag) (mg : Str -> Option Value) (r : List V -> Hp -> VK -> Prop) (g : Fn) : Prop := ∀ ρ h H ds vs Q E, Wd K mg ρ h H -> RelDs K mg ρ H ds vs -> dg K mg ρ H Q E (g ds h) -> r vs H Q
noncomputable def dj (i : Nat) : ME := fun ae h => match ae[i]? with
 | some (some d) => .ok d h
 | _ => .stuck
noncomputable def eC (d : D) : ME := fun _ h => .ok d h
noncomputable def eOp (g : D -> D -> AH -> R D) (F G : ME) : ME := fun ae h => (F ae h).bind fun x h1 => (G ae h1).bind fun y h2 => g x y h2
noncomputable def eUn (g : D -> AH -> R D) (F : ME) : ME := fun ae h => (F ae h).bind g
noncomputable def vW : MA := fun _ h => .ok [] h
noncomputable def rn (F : ME) (G : MA) : MA := fun ae h => (F ae h).bind fun x h1 => (G ae h1).bind fun xs h2 => .ok (x :: xs) h2
noncomputable def eFn (g : Fn) (A : MA) : ME := fun ae h => (A ae h).bind g
noncomputable def la (ds : List D) (h : AH) : R D := if ds.length <= 16777216 then .ok (.tup ds) h else .stuck
noncomputable def de (ds : List D) (h : AH) : R D := if ds.length <= 16777216 then .ok (.ref h.length) (h ++ [.lst ds]) else .stuck
noncomputable def asB (d : D) (h : AH) : R Bool := match d with
 | .bl b => .ok b h
 | _ => .stuck
noncomputable def vb (F G : ME) : ME := fun ae h => (F ae h).bind fun x h1 => (asB x h1).bind fun b h2 => if b = true then G ae h2 else .ok (.bl false) h2
noncomputable def uI (F : ME) : ME := fun ae h => (F ae h).bind fun x h1 => (asB x h1).bind fun b h2 => .ok (.bl (!b)) h2
noncomputable def eIf (c : MT) (F G : ME) : ME := fun ae h => (c ae h).bind fun b h1 => if b = true then F ae h1 else G ae h1
noncomputable def tOf (F : ME) : MT := fun ae h => (F ae h).bind asB
noncomputable def tAn (c d : MT) : MT := fun ae h => (c ae h).bind fun b h1 => if b = true then d ae h1 else .ok false h1
noncomputable def tO (c d : MT) : MT := fun ae h => (c ae h).bind fun b h1 => if b = true then .ok true h1 else d ae h1
noncomputable def tNo (c : MT) : MT := fun ae h => (c ae h).bind fun b h1 => .ok (!b) h1
section
variable {K : PySem.W.Frag} {mg : Str -> Option Value} {ρ : List Addr} {H : Hp} {h : AH}
theorem gG {Q : VK} {E : XK} {ds : List D} {vs : List V} {p : Addr} (w : Wd K mg ρ h H) (rs : RelDs K mg ρ H ds vs) (hp : H p = none) (q : dg K mg ρ H Q E (.ok (.ref h.length) (h ++ [.lst ds]))) : Q (.ref p) (upd H p (.lst vs)) := by
 have l : Le ρ H (ρ ++ [p]) (upd H p (.lst vs)) := (cx hp).trans lW
 refine q (ρ ++ [p]) _ l (w.alloc hp ⟨vs, cz, rs.mono l⟩) _ (.ref ?_)
 rw [<- w.len, List.getElem?_append_right (Nat.le_refl _), Nat.sub_self]
 rfl
theorem iH {Q : VK} {E : XK} {ds : List D} {vs : List V} {p : Addr} (w : Wd K mg ρ h H) (rs : RelDs K mg ρ H ds vs) (hp : H p = none) (q : dg K mg ρ H Q E (.ok (.tup ds) h)) : Q (.ref p) (upd H p (.tup vs)) :=
 q ρ _ (cx hp) (w.tuple hp) _ (.tup (SqT.of cz) (rs.mono (cx hp)))
theorem aS {Q : VK} {E : XK} {d : D} {v : V} (w : Wd K mg ρ h H) (r : RelD K mg ρ H d v) (q : dg K mg ρ H Q E (.ok d h)) : Q v H := q ρ H Le.refl w v r
end
section
variable {K : PySem.W.Frag} {mg : Str -> Option Value} {X : Cx} {ES : St -> XK} {e a b c : Expr} {es : List Expr} {F G : ME} {A : MA} {cf cg : MT} {pos : Pos}
theorem Ag (i : Nat) {x : Str} (hN : X.N[i]? = some x := by rfl) (hv : Vis X.env.scope x := by first | exact Or.inl rfl | exact Or.inr (Or.inl rfl) | exact Or.inr (Or.inr rfl)) (hd : (x == ("__debug__" : Str)) = false := by decide)
  (hcd : (x == ("__classdict__" : Str)) = false := by decide) : DE K mg X ES (.Name x pos) (dj i) := PE.imp (zX hN hv hd hcd) fun σ H Q q_ => q_.el fun ρ h ae w re p => by
 unfold dj at p
 split at p
 ·rename_i d ed
  obtain ⟨v, e1, r⟩ := re.at_ i d ed
  exact ⟨v, e1, aS w r p⟩
 ·exact p.elim
theorem kx {v : V} {d : D} (hp : PE X e (tC v)) (r : ∀ ρ H, RelD K mg ρ H d v) : DE K mg X ES e (eC d) := PE.imp hp fun σ H Q q_ => q_.el fun ρ h ae w re p => aS w (r ρ H) p
theorem BW {i : Int} {j : Nat} : DE K mg X ES (.Constant (.int i) j pos) (eC (.int i)) := kx Cp fun _ _ => .int i
theorem C8 {i : Bool} {j : Nat} : DE K mg X ES (.Constant (.bool i) j pos) (eC (.bl i)) := kx D2 fun _ _ => .bl i
theorem AZ {j : Nat} : DE K mg X ES (.Constant .none j pos) (eC .non) := kx Cf fun _ _ => .non
theorem AS {x : Str} {j : Nat} : DE K mg X ES (.Constant (.str x) j pos) (eC (.str x)) := kx Cm fun _ _ => .str x
theorem zP {x : Str} (hg : Gl X x) (ha : ∃ a, mg x = some (.ref a)) (hm : X.mg = mg := by rfl) (hd : (x == ("__debug__" : Str)) = false := by decide) : DE K mg X ES (.Name x pos) (eC (.glb x)) := by
 subst hm
 obtain ⟨a, ha⟩ := ha
 exact kx (qz hg ha (v := .ref a) rfl hd) fun _ _ => .glb ha
structure GC (K : PySem.W.Frag) (mg : Str -> Option Value) (x : Str) (d : D) : Prop where
 ex : ∃ u v, mg x = some u /\ RelV v u /\ ∀ ρ H, RelD K mg ρ H d v
theorem CJ {x : Str} {d : D} (hg : Gl X x) (ha : GC K mg x d) (hm : X.mg = mg := by rfl) (hd : (x == ("__debug__" : Str)) = false := by decide) : DE K mg X ES (.Name x pos) (eC d) := by
 subst hm
 obtain ⟨u, v, h1, h2, h3⟩ := ha.ex
 exact kx (qz hg h1 h2 hd) h3
theorem CG {x : Str} {n : String} (hg : Gl X x) (hm : mg x = none) (hv : bootBuiltins x = some (.type n)) (he : X.mg = mg := by rfl) (hn : x ≠ "__name__" := by decide) (hd : (x == ("__debug__" : Str)) = false := by decide) : DE K mg X ES (.Name x pos) (eC (.ty n)) := by
 subst he
 exact kx (xG hg hm hv (v := .ty n) rfl hn hd) fun _ _ => .ty n
theorem nM {r : R2} {g : D -> D -> AH -> R D} (hd : OpD K mg r g) (σ : St) (H : Hp) (Q : VK) (q : rdE K mg ES (eOp g F G) σ H Q) : tOp r (rdE K mg ES F) (rdE K mg ES G) σ H Q := by
 obtain ⟨ρ, h, ae, w, re, p⟩ := q
 exact ⟨ρ, h, ae, w, re, p.bind.imp fun dx h1 ρ1 H1 l1 w1 p1 x rx => ⟨ρ1, h1, ae, w1, re.mono l1, p1.bind.imp fun dy h2 ρ2 H2 l2 w2 p2 y ry => hd ρ2 h2 H2 dx dy x y Q _ w2 (rx.mono l2) ry p2⟩⟩
theorem CY {op : Operator} {r : R2} {g : D -> D -> AH -> R D} (ho : OpR X (binaryOp op) r) (hd : OpD K mg r g) (ha : DE K mg X ES a F) (hb : DE K mg X ES b G) : DE K mg X ES (.BinOp a op b pos) (eOp g F G) := PE.imp (CK ho ha hb) (nM hd)
theorem Ez {r : R2} {g : D -> D -> AH -> R D} (hr : IxR X r) (hd : OpD K mg r g) (ha : DE K mg X ES a F) (hb : DE K mg X ES b G) (hs : mn b) : DE K mg X ES (.Subscript a b pos) (eOp g F G) := PE.imp (Dv hr ha hb hs) (nM hd)
theorem Al {op : CmpOp} {r : R2} {g : D -> D -> AH -> R D} (ho : OpR X (compareOp op) r) (hd : OpD K mg r g) (ha : DE K mg X ES a F) (hb : DE K mg X ES b G) (hm : behindInMarks op b = false) : DE K mg X ES (.Compare a [op] [b] pos) (eOp g F G) := PE.imp (x3 ho ha hb hm) (nM hd)
theorem qh (σ : St) (H : Hp) (Q : Bool -> Hp -> Prop) (q : rdT K mg ES (tOf F) σ H Q) : rdE K mg ES F σ H fun x H' => ∃ k, x = .bl k /\ Q k H' := by
 obtain ⟨ρ, h, ae, w, re, p⟩ := q
 refine ⟨ρ, h, ae, w, re, p.bind.imp fun d h1 ρ1 H1 l1 w1 p1 x rx => ?_⟩
 unfold asB at p1
 split at p1
 ·cases rx; exact ⟨_, rfl, p1 ρ1 H1 Le.refl w1⟩
 ·exact p1.elim
theorem Ba {op : CmpOp} {r : R2} {g : D -> D -> AH -> R D} (ho : OpR X (compareOp op) r) (hd : OpD K mg r g) (ha : DE K mg X ES a F) (hb : DE K mg X ES b G) (hm : behindInMarks op b = false) : DT K mg X ES (.Compare a [op] [b] pos) (tOf (eOp g F G)) :=
 PT.imp (yJ ho ha hb hm) fun σ H Q q => nM hd σ H _ (qh σ H Q q)
theorem A5 (ha : DE K mg X ES a F) (he : ∀ whole, isTrue a X.env whole = (do let v <- whole; standAt a.pos; holding [v] (truthy v)) := by intro _; rfl) : DT K mg X ES a (tOf F) :=
 PT.imp (BD ha he) fun σ H Q q => qh σ H Q q
theorem BV (ha : DT K mg X ES a cf) : DT K mg X ES (.UnaryOp .Not a pos) (tNo cf) := PT.imp (Cr ha) fun σ H Q q_ => q_.el fun ρ h ae w re p =>
 ⟨ρ, h, ae, w, re, p.bind.imp fun b h1 ρ1 H1 l1 w1 p1 => p1 ρ1 H1 Le.refl w1⟩
theorem yt (ha : DT K mg X ES a cf) : DW K mg X ES (.BoolOp .And [a] pos) cf := yE ha
theorem Be (ha : DT K mg X ES a cf) : DW K mg X ES (.BoolOp .Or [a] pos) cf := y9 ha
theorem Cg (ha : DT K mg X ES a cf) (hb : DW K mg X ES (.BoolOp .And (b :: es) pos) cg) : DW K mg X ES (.BoolOp .And (a :: b :: es) pos) (tAn cf cg) := PW.imp (Bw ha hb) fun σ H Q q_ => q_.el fun ρ h ae w re p =>
 ⟨ρ, h, ae, w, re, p.bind.imp fun b h1 ρ1 H1 l1 w1 p1 => by
  cases b with
  | true => exact ⟨ρ1, h1, ae, w1, re.mono l1, p1⟩
  | false => exact p1 ρ1 H1 Le.refl w1⟩
theorem Dx (ha : DT K mg X ES a cf) (hb : DW K mg X ES (.BoolOp .Or (b :: es) pos) cg) : DW K mg X ES (.BoolOp .Or (a :: b :: es) pos) (tO cf cg) := PW.imp (CS ha hb) fun σ H Q q_ => q_.el fun ρ h ae w re p =>
 ⟨ρ, h, ae, w, re, p.bind.imp fun b h1 ρ1 H1 l1 w1 p1 => by
  cases b with
  | true => exact p1 ρ1 H1 Le.refl w1
  | false => exact ⟨ρ1, h1, ae, w1, re.mono l1, p1⟩⟩
theorem DW.dt (h : DW K mg X ES a cf) : DT K mg X ES a cf := PW.pt h
theorem Ao {op} (h : DE K mg X ES a F) : DE K mg X ES (.BoolOp op [a] pos) F := zx h
theorem zK (ha : DE K mg X ES a F) (hb : DE K mg X ES (.BoolOp .And (b :: es) pos) G) : DE K mg X ES (.BoolOp .And (a :: b :: es) pos) (vb F G) := PE.imp (Bc ha hb) fun σ H Q q_ => q_.el fun ρ h ae w re p => by
 refine ⟨ρ, h, ae, w, re, p.bind.imp fun d h1 ρ1 H1 l1 w1 p1 x rx => ?_⟩
 unfold asB at p1
 split at p1
 ·rename_i b'
  cases rx
  refine ⟨b', rfl, ?_⟩
  cases b' with
  | true => exact ⟨ρ1, h1, ae, w1, re.mono l1, p1⟩
  | false => exact p1 ρ1 H1 Le.refl w1 _ (.bl false)
 ·exact p1.elim
theorem BM (ha : DE K mg X ES a F) : DE K mg X ES (.UnaryOp .Not a pos) (uI F) := PE.imp (zI ha) fun σ H Q q_ => q_.el fun ρ h ae w re p => by
 refine ⟨ρ, h, ae, w, re, p.bind.imp fun d h1 ρ1 H1 l1 w1 p1 x rx => ?_⟩
 unfold asB at p1
 split at p1
 ·cases rx
  exact ⟨_, rfl, p1 ρ1 H1 Le.refl w1 _ (.bl _)⟩
 ·exact p1.elim
theorem CC (hc : DT K mg X ES c cf) (ha : DE K mg X ES a F) (hb : DE K mg X ES b G) : DE K mg X ES (.IfExp c a b pos) (eIf cf F G) := PE.imp (v7 hc ha hb) fun σ H Q q_ => q_.el fun ρ h ae w re p =>
 ⟨ρ, h, ae, w, re, p.bind.imp fun b h1 ρ1 H1 l1 w1 p1 => by
  cases b with
  | true => exact ⟨ρ1, h1, ae, w1, re.mono l1, p1⟩
  | false => exact ⟨ρ1, h1, ae, w1, re.mono l1, p1⟩⟩
theorem C3 {op : UnaryOp} {r : V -> Hp -> VK -> Prop} {g : D -> AH -> R D} (ho : UnR X (unaryOp op) r) (hd : UnD K mg r g) (ha : DE K mg X ES a F) : DE K mg X ES (.UnaryOp op a pos) (eUn g F) := PE.imp (Du ho ha) fun σ H Q q_ => q_.el fun ρ h ae w re p =>
 ⟨ρ, h, ae, w, re, p.bind.imp fun d h1 ρ1 H1 l1 w1 p1 x rx => hd ρ1 h1 H1 d x Q _ w1 rx p1⟩
theorem AB : DA K mg X ES [] vW := PA.imp Ab fun σ H Q q_ => q_.el fun ρ h ae w re p => p ρ H Le.refl w _ .nil
theorem yc (ha : DE K mg X ES e F) (hr : DA K mg X ES es A) (hs : starEach (e :: es) X.env = (false, eval e X.env) :: starEach es X.env := by rfl) : DA K mg X ES (e :: es) (rn F A) := PA.imp (yq ha hr hs) fun σ H Q q_ => q_.el fun ρ h ae w re p =>
 ⟨ρ, h, ae, w, re, p.bind.imp fun d h1 ρ1 H1 l1 w1 p1 x rx => ⟨ρ1, h1, ae, w1, re.mono l1, p1.bind.imp fun ds h2 ρ2 H2 l2 w2 p2 vs rs => p2 ρ2 H2 Le.refl w2 _ (.cons (rx.mono l2) rs)⟩⟩
theorem AF {x1} (h : DA K mg X ES es A) : DE K mg X ES (.Tuple es x1 pos) (eFn la A) := PE.imp (AM h) fun σ H Q q_ => q_.el fun ρ h ae w re p =>
 ⟨ρ,
   h, ae, w, re, p.bind.imp fun ds h1 ρ1 H1 l1 w1 p1 vs rs => by
  unfold la at p1
  split at p1
  ·rename_i hl
   exact ⟨by rw [<- rs.len]; exact hl, fun q hq => iH w1 rs hq p1⟩
  ·exact p1.elim⟩
theorem zG (h : DA K mg X ES es A) : DE K mg X ES (.List es pos) (eFn de A) := PE.imp (yZ h) fun σ H Q q_ => q_.el fun ρ h ae w re p =>
 ⟨ρ,
   h, ae, w, re, p.bind.imp fun ds h1 ρ1 H1 l1 w1 p1 vs rs => by
  unfold de at p1
  split at p1
  ·rename_i hl
   exact ⟨by rw [<- rs.len]; exact hl, fun q hq => gG w1 rs hq p1⟩
  ·exact p1.elim⟩
theorem w6 {r : List V -> Hp -> VK -> Prop} {g : Fn} (hd : bG K mg r g) (σ : St) (H : Hp) (Q : VK) (q : rdE K mg ES (eFn g A) σ H Q) : tCB r (rdA K mg ES A) σ H Q := by
 obtain ⟨ρ, h, ae, w, re, p⟩ := q
 exact ⟨ρ, h, ae, w, re, p.bind.imp fun ds h1 ρ1 H1 l1 w1 p1 vs rs => hd ρ1 h1 H1 ds vs Q _ w1 rs p1⟩
theorem vP {id : String} {r : List V -> Hp -> VK -> Prop} {g : Fn} {x : Str} {p : Pos} (hc : CallR X (.builtin id) r) (hd : bG K mg r g) (hg : Gl X x) (hm : mg x = none) (hv : bootBuiltins x = some (.builtin id)) (ha : DA K mg X ES (e :: es) A) (hk : X.mg = mg := by rfl) (hn : x ≠ "__name__" := by decide) (hdb : (x == ("__debug__" : Str)) = false := by decide)
  (he : starEach (e :: es) X.env = (false, eval e X.env) :: starEach es X.env := by rfl) (hpl : (backTo pos (starEach es X.env)).any (·.1) = false := by rfl) : DE K mg X ES (.Call (.Name x p) (e :: es) [] pos) (eFn g A) := by
 subst hk
 exact PE.imp (wa hc hg hm hv ha hn hdb he hpl) (w6 hd)
theorem sI {T : String} {r : List V -> Hp -> VK -> Prop} {g : Fn} {x : Str} {p : Pos} (hc : CallR X (.type T) r) (hd : bG K mg r g) (hg : Gl X x) (hm : mg x = none) (hv : bootBuiltins x = some (.type T)) (ha : DA K mg X ES (e :: es) A) (hk : X.mg = mg := by rfl) (hn : x ≠ "__name__" := by decide) (hdb : (x == ("__debug__" : Str)) = false := by decide)
  (he : starEach (e :: es) X.env = (false, eval e X.env) :: starEach es X.env := by rfl) (hpl : (backTo pos (starEach es X.env)).any (·.1) = false := by rfl) : DE K mg X ES (.Call (.Name x p) (e :: es) [] pos) (eFn g A) := by
 subst hk
 exact PE.imp (sG hc hg hm hv ha hn hdb he hpl) (w6 hd)
end
end L2
set_option Elab.async false
set_option linter.all false
set_option maxRecDepth 100000
namespace L2
open PySem PySem.Spec PyProof.Rows
noncomputable def SR.then (r : SR) (f : AE -> AH -> SR) : SR := match r with
 | .nx ae h => f ae h
 | .rt d h => .rt d h
 | .bk ae h => .bk ae h
 | .ct ae h => .ct ae h
 | .exc c ae h => .exc c ae h
 | .stuck => .stuck
noncomputable def R.toS {α : Type} (r : R α) (ae : AE) (f : α -> AH -> SR) : SR := match r with
 | .ok a h => f a h
 | .exc c h => .exc c ae h
 | .stuck => .stuck
noncomputable def sNx : MS := fun ae h => .nx ae h
noncomputable def vp (F G : MS) : MS := fun ae h => (F ae h).then G
noncomputable def wx (F : ME) : MS := fun ae h => (F ae h).toS ae fun d h1 => .rt d h1
noncomputable def rJ (F : ME) : MS := fun ae h => (F ae h).toS ae fun _ h1 => .nx ae h1
noncomputable def sIf (c : MT) (F G : MS) : MS := fun ae h => (c ae h).toS ae fun b h1 => if b = true then F ae h1 else G ae h1
abbrev MG := D -> AE -> AH -> R AE
abbrev MGs := List D -> AE -> AH -> R AE
noncomputable def jw (F : ME) (g : MG) : MS := fun ae h => (F ae h).toS ae fun d h1 => (g d ae h1).toS ae fun ae' h2 => .nx ae' h2
noncomputable def gN (i : Nat) : MG := fun d ae h => .ok (ae.set i (some d)) h
noncomputable def gsN : MGs := fun ds ae h => match ds with
 | [] => .ok ae h
 | _ => .stuck
noncomputable def gsC (g : MG) (u : MGs) : MGs := fun ds ae h => match ds with
 | d :: r => (g d ae h).bind fun ae' h' => u r ae' h'
 | [] => .stuck
noncomputable def gT (u : MGs) : MG := fun d ae h => match d with
 | .tup ds => u ds ae h
 | _ => .stuck
noncomputable def gS (F G : ME) (w : D -> D -> D -> AH -> R Unit) : MG := fun v ae h => (F ae h).bind fun o h1 => (G ae h1).bind fun i h2 => (w o i v h2).bind fun _ h3 => .ok ae h3
noncomputable def uW (i j : Nat) (A : MA) : MS := fun ae h => (A ae h).toS ae fun ds h1 => match ds with
 | [d, e] => .nx ((ae.set i (some d)).set j (some e)) h1
 | _ => .stuck
noncomputable def pB (i : Nat) (g : D -> D -> AH -> R D) (F : ME) : MS := fun ae h => match ae[i]? with
 | some (some x) => (F ae h).toS ae fun y h1 => (g x y h1).toS ae fun z h2 => .nx (ae.set i (some z)) h2
 | _ => .stuck
noncomputable def oJ (c : Str) (A : MA) : MS := fun ae h => (A ae h).toS ae fun ds h1 => if ds.length <= 16777216 then .exc c ae h1 else .stuck
section
variable (K : PySem.W.Frag) (mg : Str -> Option Value)
noncomputable def rdG (ES : St -> XK) (g : MG) : TG := fun v σ H Q => ∃ ρ h ae d, Wd K mg ρ h H /\ RelE K mg ρ H ae σ /\ RelD K mg ρ H d v /\ PostG K mg ρ H (ES σ) (fun ae' _ ρ' H' => ∀ σ', RelE K mg ρ' H' ae' σ' -> Q σ' H') (g d ae h)
noncomputable def rdGs (ES : St -> XK) (g : MGs) : TGs := fun vs σ H Q => ∃ ρ h ae ds, Wd K mg ρ h H /\ RelE K mg ρ H ae σ /\ RelDs K mg ρ H ds vs /\ PostG K mg ρ H (ES σ) (fun ae' _ ρ' H' => ∀ σ', RelE K mg ρ' H' ae' σ' -> Q σ' H') (g ds ae h)
noncomputable def DG (X : Cx) (ES : St -> XK) (e : Expr) (g : MG) : Prop := PG X e (rdG K mg ES g)
noncomputable def DGs (X : Cx) (ES : St -> XK) (es : List Expr) (g : MGs) : Prop := PGs X es (rdGs K mg ES g)
noncomputable def dH (X : Cx) (ES : St -> XK) : Prop := ∀ (pins : List (Addr × Obj)) (σ : St) (H : Hp) (s : Shared) (e : Value) (s' : Shared), Inv X pins σ H s -> CX1 X.prog X.w X.stack H s (ES σ) e s' -> X.xe e s'
end
theorem rdG.el {K : PySem.W.Frag} {mg : Str -> Option Value} {ES : St -> XK} {g : MG} {v : V} {σ : St} {H : Hp} {Q : St -> Hp -> Prop} {C : Prop} (q : rdG K mg ES g v σ H Q) (k : ∀ ρ h ae d, Wd K mg ρ h H -> RelE K mg ρ H ae σ -> RelD K mg ρ H d v -> PostG K mg ρ H (ES σ) (fun ae' _ ρ' H' => ∀ σ', RelE K mg ρ' H' ae' σ' -> Q σ' H') (g d ae h) -> C) : C := by
 obtain ⟨ρ, h, ae, d, w, re, rd, p⟩ := q
 exact k ρ h ae d w re rd p
theorem rdGs.el {K : PySem.W.Frag} {mg : Str -> Option Value} {ES : St -> XK} {g : MGs} {v : List V} {σ : St} {H : Hp} {Q : St -> Hp -> Prop} {C : Prop} (q : rdGs K mg ES g v σ H Q) (k : ∀ ρ h ae d, Wd K mg ρ h H -> RelE K mg ρ H ae σ -> RelDs K mg ρ H d v -> PostG K mg ρ H (ES σ) (fun ae' _ ρ' H' => ∀ σ', RelE K mg ρ' H' ae' σ' -> Q σ' H') (g d ae h) -> C) : C := by
 obtain ⟨ρ, h, ae, d, w, re, rd, p⟩ := q
 exact k ρ h ae d w re rd p
section
variable {K : PySem.W.Frag} {mg : Str -> Option Value} {X : Cx} {ES : St -> XK} {ρ : List Addr} {H : Hp} {h : AH} {ae : AE} {σ : St} {De : Ends}
theorem cq {α : Type} {r : R α} {f : α -> AH -> SR} {k : α -> AH -> List Addr -> Hp -> Prop} (p : PostS K mg ρ H De ES (r.toS ae f)) (re : RelE K mg ρ H ae σ)
  (i : ∀ a h1 ρ1 H1, Le ρ H ρ1 H1 -> Wd K mg ρ1 h1 H1 -> RelE K mg ρ1 H1 ae σ -> PostS K mg ρ1 H1 De ES (f a h1) -> k a h1 ρ1 H1) : PostG K mg ρ H (ES σ) k r := by
 cases r with
 | ok a h1 => exact fun ρ1 H1 l1 w1 => i a h1 ρ1 H1 l1 w1 (re.mono l1) (PostS.mono l1 p)
 | exc c h1 => exact fun ρ1 H1 C l1 w1 m => p ρ1 H1 σ C l1 w1 (re.mono l1) m
 | stuck => exact p
theorem gR {ae' : AE} (p : PostS K mg ρ H De ES (.nx ae' h)) (w : Wd K mg ρ h H) (re : RelE K mg ρ H ae' σ) : De.nx σ H := p ρ H σ Le.refl w re
theorem vx {r : SR} {f : AE -> AH -> SR} {N : St -> Hp -> Prop} (p : PostS K mg ρ H De ES (r.then f)) (i : ∀ ae1 h1 ρ1 H1 σ1, Le ρ H ρ1 H1 -> Wd K mg ρ1 h1 H1 -> RelE K mg ρ1 H1 ae1 σ1 -> PostS K mg ρ1 H1 De ES (f ae1 h1) -> N σ1 H1) : PostS K mg ρ H { De with nx := N } ES r := by
 cases r with
 | nx ae1 h1 => exact fun ρ1 H1 σ1 l1 w1 re1 => i ae1 h1 ρ1 H1 σ1 l1 w1 re1 (PostS.mono l1 p)
 | rt d h1 => exact p
 | bk ae1 h1 => exact p
 | ct ae1 h1 => exact p
 | exc c ae1 h1 => exact p
 | stuck => exact p
end
section
variable {K : PySem.W.Frag} {mg : Str -> Option Value} {X : Cx} {ES : St -> XK} {e a b c o i : Expr} {es : List Expr} {st : Stmt} {sts sts' : List Stmt} {F G : ME} {A : MA} {cf : MT} {U V' : MS} {g : MG} {gs : MGs} {pos : Pos}
theorem xJ : DSs K mg X ES [] sNx := PSs.imp yk fun D σ H q_ => q_.el fun ρ h ae w re p => gR p w re
theorem xv (h1 : DS K mg X ES st U) : DSs K mg X ES [st] U := xy h1
theorem uU (h1 : DS K mg X ES st U) (h2 : DSs K mg X ES sts V') : DSs K mg X ES (st :: sts) (vp U V') := PSs.imp (u6 h1 h2) fun D σ H q_ => q_.el fun ρ h ae w re p =>
 ⟨ρ, h, ae, w, re, vx p fun ae1 h1 ρ1 H1 σ1 l1 w1 re1 p1 => ⟨ρ1, h1, ae1, w1, re1, p1⟩⟩
theorem zS (he : DE K mg X ES e F) : DS K mg X ES (.Return (some e) pos) (wx F) := PS.imp (AY he) fun D σ H q_ => q_.el fun ρ h ae w re p =>
 ⟨ρ, h, ae, w, re, cq p re fun d h1 ρ1 H1 l1 w1 re1 p1 v rv => p1 ρ1 H1 v Le.refl w1 rv⟩
theorem xD (he : DE K mg X ES e F) (hs : swapsWith e none pos.line X.env = pure false := by rfl) : DS K mg X ES (.Expr e pos) (rJ F) := PS.imp (x9 he hs) fun D σ H q_ => q_.el fun ρ h ae w re p =>
 ⟨ρ, h, ae, w, re, cq p re fun d h1 ρ1 H1 l1 w1 re1 p1 v rv => gR p1 w1 re1⟩
theorem C4 (hc : DT K mg X ES c cf) (ha : DSs K mg X ES sts U) (hb : DSs K mg X ES sts' V') : DS K mg X ES (.If c sts sts' pos) (sIf cf U V') := PS.imp (DN hc ha hb) fun D σ H q_ => q_.el fun ρ h ae w re p =>
 ⟨ρ, h, ae, w, re, cq p re fun b h1 ρ1 H1 l1 w1 re1 p1 => by
  cases b with
  | true => exact ⟨ρ1, h1, ae, w1, re1, p1⟩
  | false => exact ⟨ρ1, h1, ae, w1, re1, p1⟩⟩
theorem xW {i : Nat} {x : Str} (hN : X.N.Nodup) (hi : X.N[i]? = some x) (hx : Loc X.env.scope x) (hf : X.fn x = true \/ X.env.scope.names.lookup x = some .local := by first | exact .inl rfl | exact .inr rfl | assumption) : DG K mg X ES (.Name x pos) (gN i) :=
 PG.imp (xq hN hi hx hf) fun v σ H Q q_ => q_.el fun ρ h ae d w re rd p => p ρ H Le.refl w _ (re.set i rd)
theorem yD : DGs K mg X ES [] gsN := PGs.imp yR fun vs σ H Q q_ => q_.el fun ρ h ae ds w re rd p => by
 cases rd with
 | nil => exact ⟨rfl, p ρ H Le.refl w _ re⟩
 | cons r rr => exact p.elim
theorem u4 (h1 : DG K mg X (fun _ => E0) e g) (h2 : DGs K mg X (fun _ => E0) es gs)
  (hs : (assignEach (e :: es) X.env).map (·.2) = assign e X.env :: (assignEach es X.env).map (·.2) := by rfl) : DGs K mg X (fun _ => E0) (e :: es) (gsC g gs) := PGs.imp (vw h1 h2 hs) fun vs σ H Q q_ => q_.el fun ρ h ae ds w re rd p => by
 cases rd with
 | nil => exact p.elim
 | cons r rr => exact ⟨_, _, rfl, ρ, h, ae, _, w, re, r, p.bind.imp fun ae1 h1 ρ1 H1 l1 w1 p1 σ1 re1 => ⟨ρ1, h1, ae1, _, w1, re1, rr.mono l1, p1⟩⟩
theorem zb {k n : Nat} (hK : X.K = K) (hc : X.calm = true) (h : DGs K mg X (fun _ => E0) es gs)
  (hn : (assignEach es X.env).length = n := by rfl) (hst : (assignEach es X.env).findIdx? (·.1) = none := by rfl) : DG K mg X (fun _ => E0) (.Tuple es k pos) (gT fun ds ae h => if ds.length = n then gs ds ae h else .stuck) := by
 subst hK
 refine PG.imp (zD hc h hn hst) fun v σ H Q q_ => q_.el fun ρ h ae d w re rd p => ?_
 unfold gT at p
 cases rd with
 |
  tup q rs =>
  dsimp only at p
  split at p
  ·rename_i hl
   exact ⟨_, _, rfl, q, by rw [<- rs.len]; exact hl, ρ, h, ae, _, w, re, rs, p⟩
  ·exact p.elim
 | _ => exact p.elim
noncomputable def noX {α : Type} (r : R α) : R α := match r with
 | .exc _ _ => .stuck
 | .ok a h => .ok a h
 | .stuck => .stuck
theorem DG.weak (hg : DG K mg X (fun _ => E0) e g) : DG K mg X ES e (fun d ae h => noX (g d ae h)) := PG.imp hg fun v σ H Q q_ => q_.el fun ρ h ae d w re rd p => by
 refine ⟨ρ, h, ae, d, w, re, rd, ?_⟩
 try dsimp only at p
 cases q : g d ae h with
 | ok a h1 => rw [q] at p; exact p
 | exc c h1 => rw [q] at p; exact p.elim
 | stuck => rw [q] at p; exact p.elim
noncomputable def rS (K : PySem.W.Frag) (mg : Str -> Option Value) (r : mj) (f : D -> D -> D -> AH -> R Unit) : Prop := ∀ ρ h H do_ di dv o i v (Q : Hp -> Prop) E, Wd K mg ρ h H -> RelD K mg ρ H do_ o -> RelD K mg ρ H di i -> RelD K mg ρ H dv v -> PostG K mg ρ H E (fun _ _ _ H' => Q H') (f do_ di dv h) -> r o i v H Q
theorem sM (he : DE K mg X ES e F) (hg : DG K mg X ES a g) (hs : swapsWithSole [a] e pos.line X.env = pure false := by rfl) (hw : swappedStores [a] e X.env = pure none := by rfl)
  (h1 : (assignEach [a] X.env).map (·.2) = [assign a X.env] := by rfl) : DS K mg X ES (.Assign [a] e pos) (jw F g) := PS.imp (Bd he hg hs hw h1) fun D σ H q_ => q_.el fun ρ h ae w re p =>
 ⟨ρ, h, ae, w, re, cq p re fun d h1 ρ1 H1 l1 w1 re1 p1 v rv => ⟨ρ1, h1, ae, d, w1, re1, rv, cq p1 re1 fun ae2 h2 ρ2 H2 l2 w2 re2 p2 σ' re' => gR p2 w2 re'⟩⟩
theorem B0 {i : Nat} {x : Str} {pos' : Pos} (hN : X.N.Nodup) (hi : X.N[i]? = some x) (hx : Loc X.env.scope x) (he : DE K mg X ES e F) (hs : swapsWith e (some (.Name x pos')) pos.line X.env = pure false := by rfl) (hf : X.fn x = true \/ X.env.scope.names.lookup x = some .local := by first | exact .inl rfl | exact .inr rfl | assumption) :
  DS K mg X ES (.Assign [.Name x pos'] e pos) (jw F (gN i)) := PS.imp (zo hN hi hx he hs hf) fun D σ H q_ => q_.el fun ρ h ae w re p =>
 ⟨ρ, h, ae, w, re, cq p re fun d h1 ρ1 H1 l1 w1 re1 p1 v rv => gR p1 w1 (re1.set i rv)⟩
theorem
    BE {i j : Nat} {x y : Str} {px py pt : Pos} {kt k2 pt2} (hc : X.calm = true) (hN : X.N.Nodup) (hi : X.N[i]? = some x) (hj : X.N[j]? = some y) (hij : i ≠ j)
  (hx : X.env.scope.names.lookup x = some .local) (hy : X.env.scope.names.lookup y = some .local) (ha : DA K mg X ES [a, b] A)
  (hw : swappedStores [.Tuple [.Name x px, .Name y py] kt pt] (.Tuple [a, b] k2 pt2) X.env = pure (some [x, y]))
  (hs : swapsWithSole [.Tuple [.Name x px, .Name y py] kt pt] (.Tuple [a, b] k2 pt2) pos.line X.env = pure false := by rfl) :
  DS K mg X ES (.Assign [.Tuple [.Name x px, .Name y py] kt pt] (.Tuple [a, b] k2 pt2) pos) (uW i j A) := PS.imp (BG hc hN hi hj hij hx hy ha hw hs) fun D σ H q_ => q_.el fun ρ h ae w re p =>
 ⟨ρ, h, ae, w, re, cq p re fun ds h1 ρ1 H1 l1 w1 re1 p1 vs rs => by
  split at p1
  ·cases rs with
   |
    cons r1 rs =>
    cases rs with
    |
     cons r2 rs =>
     cases rs
     exact ⟨_, _, rfl, gR p1 w1 ((re1.set i r1).set j r2)⟩
  ·exact p1.elim⟩
noncomputable def IpD (K : PySem.W.Frag) (mg : Str -> Option Value) (r : TIp) (g : D -> D -> AH -> R D) : Prop := ∀ ρ h H dx dy x y Q E, Wd K mg ρ h H -> RelD K mg ρ H dx x -> RelD K mg ρ H dy y -> dg K mg ρ H Q E (g dx dy h) -> r x y H Q
theorem AV {i : Nat} {x : Str} {op : Operator} {ti : TIp} {pos' : Pos} {gg : D -> D -> AH -> R D} (hN : X.N.Nodup) (hi : X.N[i]? = some x) (hx : Loc X.env.scope x) (he : DE K mg X ES e F) (ho : PIp X op ti) (hd : IpD K mg ti gg) (hf : X.fn x = true \/ X.env.scope.names.lookup x = some .local := by first | exact .inl rfl | exact .inr rfl | assumption) :
  DS K mg X ES (.AugAssign (.Name x pos') op e pos) (pB i gg F) := PS.imp (AL hN hi hx he ho hf) fun D σ H q_ => q_.el fun ρ h ae w re p => by
 unfold pB at p
 split at p
 ·rename_i d ed
  obtain ⟨v, e1, r⟩ := re.at_ i d ed
  exact ⟨v, e1, ρ, h, ae, w, re, cq p re fun dy h1 ρ1 H1 l1 w1 re1 p1 y ry => hd ρ1 h1 H1 d dy v y _ _ w1 (r.mono l1) ry (cq p1 re1 fun dz h2 ρ2 H2 l2 w2 re2 p2 z rz => gR p2 w2 (re2.set i rz))⟩
 ·exact p.elim
theorem
    wd {x : Str} {C : Addr} {E : XK} {np cpos : Pos} (hc : X.calm = true) (hR : Rz X E) (hg : Gl X x) (hm : mg x = some (.ref C)) (hq : PySem.W.excIn X.K C d7 "ValueError.__new__" = true) (ha : DA K mg X (fun _ => E) (e :: es) A) (hk : X.mg = mg := by rfl)
  (he : starEach (e :: es) X.env = (false, eval e X.env) :: starEach es X.env := by rfl) (hplain : (backTo cpos (starEach es X.env)).any (·.1) = false := by rfl) (hd : (x == ("__debug__" : Str)) = false := by decide) :
  DS K mg X (fun _ => E) (.Raise (some (.Call (.Name x np) (e :: es) [] cpos)) none pos) (oJ x A) := by
 subst hk
 exact
    PS.imp (wD hc hR hg hm hq ha he hplain hd) fun D σ H q_ => q_.el fun ρ h ae w re p =>
  ⟨ρ,
    h, ae, w, re, cq p re fun ds h1 ρ1 H1 l1 w1 re1 p1 vs rs => by
   split at p1
   ·rename_i hl
    exact ⟨by rw [<- rs.len]; exact hl, p1 ρ1 H1 σ C Le.refl w1 re1 hm⟩
   ·exact p1.elim⟩
theorem xo {x : Str} {p : Pos} {k n : Nat} {ps : List Str} {S : Fn} (C : Callee X.prog X.w X.K X.mg X.base x k ps (spD K mg n S)) (hr : Room k X.A) (hg : Gl X x) (hx : dH X ES) (ha : DA K mg X ES (e :: es) A)
  (hdb : (x == ("__debug__" : Str)) = false := by decide) (he : starEach (e :: es) X.env = (false, eval e X.env) :: starEach es X.env := by rfl) (hpl : (backTo pos (starEach es X.env)).any (·.1) = false := by rfl) :
  DE K mg X ES (.Call (.Name x p) (e :: es) [] pos) (eFn (fun ds h => if ds.length = n then S ds h else .stuck) A) := by
 obtain ⟨f, fd, F', m, kp, bb, _⟩ := C.ex
 intro pins s σ H Q I hh
 refine wpAny_Call_Name_kw (mz I hg m ?_ hdb)
 have rd : rdA K mg ES A σ H (fun vs H1 => spD K mg n S vs H1 Q (ES σ)) := by
  obtain ⟨ρ, h, ae, w, re, p⟩ := hh
  refine ⟨ρ, h, ae, w, re, p.bind.imp fun ds h1 ρ1 H1 l1 w1 p1 vs rs => ?_⟩
  split at p1
  ·rename_i hl
   exact ⟨ρ1, h1, ds, w1, rs, hl, p1⟩
  ·exact p1.elim
 refine PySem.W.callWith_K (h₀ := X.base) I.ok.mod.kin kp (wpAny_mono (ha pos pins s σ H _ I rd) (fun us s1 ⟨vs, H1, I1, r, q⟩ => ⟨I1.kIn, ?_⟩) fun _ _ z => z) he hpl
 have hl : (us ++ []).length = ps.length := by rw [List.append_nil, <- r.length]; exact F'.len _ _ _ _ q
 refine wpAny_call (codeAny_mono (F'.run X.A X.stack s1 H1 ⟨us, []⟩ us vs Q (ES σ) hr I1.env0 (by simpa using bb s1 us I1.kIn hl) r q) fun r s' hq => ?_)
 cases r with
 | error ex => exact hx pins σ H1 s1 ex s' I1 hq
 |
  ok fl =>
  cases fl with
  | ret u => exact I1.after hq
  | next => exact False.elim hq
  | brk => exact False.elim hq
  | cont => exact False.elim hq
noncomputable def fnD (n : Nat) (F : MS) : Fn := fun ds h => match F (ds.map some ++ List.replicate (n - ds.length) none) h with
 | .nx _ h' => .ok .non h'
 | .rt d h' => .ok d h'
 | .exc c _ h' => .exc c h'
 | _ => .stuck
theorem aq {E : XK} (hp : oA (CX1 X.prog X.w) X E) : dH X (fun _ => E) := fun pins σ H s e s' I h => hp pins σ H s e s' I h
theorem iJ : dH X (fun _ => E0) := fun pins σ H s e s' I h => DV pins σ H s e s' I h
end
section
variable {P : Program} {w : World} {K : PySem.W.Frag} {mg : Str -> Option Value} {base : Heap} {x : Str} {st : Stmt} {k : Nat} {ps N : List Str} {F : MS}
theorem rP {ρ : List Addr} {H : Hp} {ds : List D} {vs : List V} (rs : RelDs K mg ρ H ds vs) : RelE K mg ρ H (ds.map some ++ List.replicate (N.length - ds.length) none) (ez N vs) := by
 unfold ez
 refine ⟨by rw [List.length_append, List.length_append, List.length_map, List.length_map, List.length_replicate, List.length_replicate, rs.len], fun i d e => ?_⟩
 by_cases hi : i < ds.length
 ·rw [List.getElem?_append_left (by rw [List.length_map]; exact hi), List.getElem?_map] at e
  have e' : ds[i]? = some d := by
   cases q : ds[i]? with
   | none => rw [q] at e; cases e
   | some z => rw [q] at e; cases e; rfl
  obtain ⟨v, h1, h2⟩ := rs.getD e'
  refine ⟨v, ?_, h2⟩
  rw [List.getElem?_append_left (by rw [List.length_map, <- rs.len]; exact hi), List.getElem?_map, h1]; rfl
 ·rw [List.getElem?_append_right (by rw [List.length_map]; omega), List.getElem?_replicate] at e
  split at e <;> cases e
theorem Def.okD (D : Def K mg x st) (S : FnScope N ps (ax st))
  (hb : ∀ (kV doc pm : Value) (an : Option Addr) (cdv ct : Value) (us : List Value), us.length = ps.length -> bindArgs (PySem.W.fnOf x x (dG st) (cm st) (ax st) .none kV doc pm an cdv ct) ⟨us, []⟩ = pure (ps.zip us))
  (hbody : ∀ (f : Addr) (cdv : Value) (A : Around) (outer : List Env) (s : Shared) (H : Hp) (E : XK), Room k (A.deeper (envOfC x (ax st) s.heap.objs.size f cdv)) ->
   DSs K mg (d8 (CX1 P w) P w K mg base N x (ax st) f cdv A outer s H E) (fun _ => E) (cm st) F) : Callee P w K mg base x (k + 1) ps (spD K mg ps.length (fnD N.length F)) := by
 refine D.okR S hb (fun vs H Q E ⟨ρ, h, ds, w, rs, hl, p⟩ => by rw [<- rs.len]; exact hl) fun f cdv A outer s H vs Q E hr ⟨ρ, h, ds, w', rs, hl, p⟩ => ?_
 refine ⟨_, hbody f cdv A outer s H E hr, ρ, h, _, w', rP rs, ?_⟩
 unfold fnD at p
 split at p
 ·rename_i e; rw [e]; exact fun ρ1 H1 σ1 l1 w1 re1 => p ρ1 H1 l1 w1 _ .non
 ·rename_i e; rw [e]; exact fun ρ1 H1 v l1 w1 rv => p ρ1 H1 l1 w1 v rv
 ·rename_i e; rw [e]; exact fun ρ1 H1 σ1 C l1 w1 re1 m => p ρ1 H1 C l1 w1 m
 ·exact p.elim
end
end L2
set_option Elab.async false
set_option linter.all false
set_option maxRecDepth 100000
namespace L2
open PySem PySem.Spec PyProof.Rows
noncomputable def bD (h : AH) (n : Nat) : Option (List D) := match h[n]? with
 | some (.lst xs) => some xs
 | some (.fz xs) => some xs
 | _ => none
noncomputable def cS (h : AH) : D -> Option (List D)
 | .tup xs => some xs
 | .ref n => bD h n
 | .kl xs => some xs
 | _ => none
section
variable {K : PySem.W.Frag} {mg : Str -> Option Value} {ρ : List Addr} {H : Hp} {h : AH}
theorem cH (w : Wd K mg ρ h H) {n : Nat} {a : Addr} {xs : List D} (ea : ρ[n]? = some a) (e : bD h n = some xs) : ∃ vs, SqL K H a vs /\ RelDs K mg ρ H xs vs := by
 unfold bD at e
 split at e
 ·rename_i ys eo
  cases e
  obtain ⟨vs, h1, h2⟩ := w.ob n a _ ea eo
  exact ⟨vs, SqL.of h1, h2⟩
 ·rename_i ys eo
  cases e
  obtain ⟨o, vs, h1, h2⟩ := w.ob n a _ ea eo
  exact ⟨vs, .inl (.inr ⟨o, h1⟩), h2⟩
 ·cases e
theorem c8 (w : Wd K mg ρ h H) {d : D} {v : V} {xs : List D} (r : RelD K mg ρ H d v) (e : cS h d = some xs) : ∃ p vs, v = .ref p /\ (SqL K H p vs \/ SqT K H p vs) /\ RelDs K mg ρ H xs vs := by
 cases r with
 |
  tup q rs =>
  have e' : some _ = some xs := e
  cases e'
  exact ⟨_, _, rfl, .inr q, rs⟩
 |
  ref ea =>
  obtain ⟨vs, h1, h2⟩ := cH w ea e
  exact ⟨_, vs, rfl, .inl h1, h2⟩
 |
  kl q rs =>
  have e' : some _ = some xs := e
  cases e'
  exact ⟨_, _, rfl, .inl (.inr q), rs⟩
 | _ => cases e
end
noncomputable def g2 (f : Int -> Int -> R D) (x y : D) : R D := match x, y with
 | .int i, .int j => f i j
 | _, _ => .stuck
noncomputable def gI (f : Int -> Int -> D) : D -> D -> AH -> R D := fun x y h => match x, y with
 | .int i, .int j => .ok (f i j) h
 | _, _ => .stuck
open Classical in
noncomputable def gIc (C : Int -> Int -> Prop) (f : Int -> Int -> D) : D -> D -> AH -> R D := fun x y h => match x, y with
 | .int i, .int j => if C i j then .ok (f i j) h else .stuck
 | _, _ => .stuck
section
variable {K : PySem.W.Frag} {mg : Str -> Option Value} {X : Cx}
theorem jF {f : Int -> Int -> V} {g : Int -> Int -> D} (hr : ∀ i j ρ H, RelD K mg ρ H (g i j) (f i j)) : OpD K mg (rI0 f) (gI g) := fun ρ h H dx dy x y Q E w rx ry p => by
 unfold gI at p
 split at p
 ·cases rx; cases ry; exact ⟨_, _, rfl, rfl, aS w (hr _ _ ρ H) p⟩
 ·exact p.elim
theorem nA {C : Int -> Int -> Prop} {f : Int -> Int -> V} {g : Int -> Int -> D} (hr : ∀ i j ρ H, RelD K mg ρ H (g i j) (f i j)) : OpD K mg (rI C f) (gIc C g) := fun ρ h H dx dy x y Q E w rx ry p => by
 unfold gIc at p
 split at p
 ·cases rx; cases ry
  split at p
  ·rename_i hc; exact ⟨_, _, rfl, rfl, hc, aS w (hr _ _ ρ H) p⟩
  ·exact p.elim
 ·exact p.elim
noncomputable def gOr (g g' : D -> D -> AH -> R D) : D -> D -> AH -> R D := fun x y h => match g x y h with
 | .stuck => g' x y h
 | r => r
theorem OpD.or {r r' : R2} {g g' : D -> D -> AH -> R D} (a : OpD K mg r g) (b : OpD K mg r' g') : OpD K mg (fun x y H Q => r x y H Q \/ r' x y H Q) (gOr g g') := fun ρ h H dx dy x y Q E w rx ry p => by
 unfold gOr at p
 split at p
 ·exact .inr (b ρ h H dx dy x y Q E w rx ry p)
 ·exact .inl (a ρ h H dx dy x y Q E w rx ry p)
end
noncomputable def kM : D -> D -> AH -> R D := fun x y h => match x, y with
 | .ref n, .ref m => match h[n]?, h[m]? with
  | some (.lst xs), some (.lst ys) => if xs.length + ys.length <= 16777216 then .ok (.ref h.length) (h ++ [.lst (xs ++ ys)]) else .stuck
  | _, _ => .stuck
 | .tup xs, .tup ys => if xs.length + ys.length <= 16777216 then .ok (.tup (xs ++ ys)) h else .stuck
 | _, _ => .stuck
noncomputable def gIx : D -> D -> AH -> R D := fun x y h => match cS h x, y with
 | some xs, .int i => match atI xs i with
  | some d => .ok d h
  | none => .stuck
 | _, _ => .stuck
section
variable {K : PySem.W.Frag} {mg : Str -> Option Value} {X : Cx}
noncomputable def jT (K : PySem.W.Frag) : R2 := fun x y H Q => ∃ a b ys, x = .ref a /\ y = .ref b /\ SqT K H a [] /\ SqT K H b ys /\ Q (.ref b) H
theorem xX : OpR X (binaryOp .Add) (jT X.K) := by
 intro pins s σ H x y v u Q I rx ry h
 obtain ⟨a, b, ys, rfl, rfl, ha, hb, q⟩ := h
 cases rx
 cases ry
 obtain ⟨its, r1, p1, _⟩ := I.tuple ha
 obtain ⟨its2, r2, p2, _⟩ := I.tuple hb
 have e : its = [] := r1.nil_iff.mpr rfl
 subst e
 obtain ⟨⟨cls, dd, data, sl⟩, ho, hc, n, hd⟩ := id p1
 obtain ⟨⟨cls2, dd2, data2, sl2⟩, ho2, hc2, n2, hd2⟩ := id p2
 simp only at hc hd hc2 hd2
 subst hc hd hc2 hd2
 exact concat_meets ⟨_, ho, rfl⟩ ⟨_, ho2, rfl⟩ noFill_tuple_add seq_tuple_add PySem.F.slot_tuple_add PySem.F.entry_tuple_add (PySem.F.args_tuple_add_2 _ _)
  (tuple_addW0 _ _ _ _ n n2 dd dd2 sl sl2 rfl) ⟨ho, ho2, ⟨.ref b, H, I, rfl, q⟩⟩
theorem
    yO : OpD K mg (fun x y H Q => mw x y H Q \/ (jK K x y H Q \/ jT K x y H Q)) kM := fun ρ h H dx dy x y Q E w rx ry p => by
 unfold kM at p
 split at p
 ·cases
     rx with
  |
   ref ea =>
   cases ry with
   |
    ref eb =>
    split at p
    ·rename_i xs ys e1 e2
     split at p
     ·rename_i hl
      obtain ⟨vs, q1, r1⟩ := w.ob _ _ _ ea e1
      obtain ⟨ws, q2, r2⟩ := w.ob _ _ _ eb e2
      exact .inl ⟨_, _, vs, ws, rfl, rfl, q1, q2, by rw [<- r1.len, <- r2.len]; exact hl, fun p' hp => gG w (r1.append r2) hp p⟩
     ·exact p.elim
    ·exact p.elim
 ·cases
     rx with
  |
   tup q1 r1 =>
   cases ry with
   |
    tup q2 r2 =>
    split at p
    ·rename_i hl
     cases r1 with
     | nil => exact .inr (.inr ⟨_, _, _, rfl, rfl, q1, q2, aS w (.tup q2 r2) p⟩)
     |
      cons r0 r1 =>
      refine .inr (.inl ⟨_, _, _, _, rfl, rfl, q1, q2, (fun z => nomatch z), by rw [<- (RelDs.cons r0 r1).len, <- r2.len]; exact hl, fun z => ?_, fun _ p' hp => iH w ((RelDs.cons r0 r1).append r2) hp p⟩)
      subst z
      cases r2
      rw [List.append_nil] at p
      exact aS w (.tup q1 (.cons r0 r1)) p
    ·exact p.elim
 ·exact p.elim
theorem xx {ρ : List Addr} {H : Hp} {xs : List D} {vs : List V} (r : RelDs K mg ρ H xs vs) {i : Int} {d : D} (e : atI xs i = some d) : ∃ v, atI vs i = some v /\ RelD K mg ρ H d v := by
 unfold atI at e ⊢
 rw [<- r.len]
 cases q : ixN xs.length i with
 | none => rw [q] at e; cases e
 | some j => rw [q] at e; exact r.getD e
theorem zR : OpD K mg (fun x y H Q => qI K x y H Q \/ qG K x y H Q) gIx := fun ρ h H dx dy x y Q E w rx ry p => by
 unfold gIx at p
 split at p
 ·rename_i xs i e1
  split at p
  ·rename_i d e2
   cases ry
   obtain ⟨pa, vs, rfl, hq, rs⟩ := c8 w rx e1
   obtain ⟨v, e3, rv⟩ := xx rs e2
   rcases hq with hq | hq
   ·exact .inl ⟨_, _, _, _, rfl, rfl, hq, e3, aS w rv p⟩
   ·exact .inr ⟨_, _, _, _, rfl, rfl, hq, e3, aS w rv p⟩
  ·exact p.elim
 ·exact p.elim
theorem ixK (h : X.K = K) : IxR X (fun x y H Q => qI K x y H Q \/ qG K x y H Q) := by subst h; exact xt.or BQ
theorem catK (h : X.K = K) : OpR X (binaryOp .Add) (fun x y H Q => mw x y H Q \/ (jK K x y H Q \/ jT K x y H Q)) := by subst h; exact Aj.or (yi.or xX)
end
noncomputable def dP : Nat -> AH -> D -> Option PyData
 | 0, _, _ => none
 | _ + 1, _, .non => some .none
 | _ + 1, _, .bl b => some (.bool b)
 | _ + 1, _, .int i => some (.int i)
 | _ + 1, _, .str x => some (.str x)
 | k + 1, h, .tup xs => (xs.mapM (dP k h)).map .tuple
 | k + 1, h, .ref n => match bD h n with
  | some xs => (xs.mapM (dP k h)).map .list
  | none => none
 | _ + 1, _, _ => none
theorem
    mQ {K : PySem.W.Frag} {mg : Str -> Option Value} {ρ : List Addr} {H : Hp} {f : D -> Option PyData} (hf : ∀ d v pd, RelD K mg ρ H d v -> f d = some pd -> Rep K H v pd) : ∀ {xs : List D} {vs : List V} {ps : List PyData}, RelDs K mg ρ H xs vs -> xs.mapM f = some ps -> Reps K H vs ps := by
 intro xs
 induction xs with
 |
  nil =>
  intro vs ps r e
  cases r
  have e' : some [] = some _ := e
  cases e'; exact .nil
 |
  cons x xs ih =>
  intro vs ps r e
  cases r with
  |
   cons r rr =>
   rw [List.mapM_cons] at e
   cases q : f x with
   | none => rw [q] at e; cases e
   |
    some pd =>
    rw [q] at e
    cases q2 : xs.mapM f with
    | none => rw [q2] at e; cases e
    |
     some pds =>
     rw [q2] at e
     have e' : some (pd :: pds) = some ps := e
     cases e'
     exact .cons (hf _ _ _ r q) (ih rr q2)
theorem
    jd {K : PySem.W.Frag} {mg : Str -> Option Value} {ρ : List Addr} {H : Hp} {h : AH} (w : Wd K mg ρ h H) : ∀ (k : Nat) {d : D} {v : V} {pd : PyData}, RelD K mg ρ H d v -> dP k h d = some pd -> Rep K H v pd
 | 0, _, _, _, _, e => by cases e
 |
  k + 1, d, v, pd, r, e => by
  cases r with
  | non => have e' : some _ = some pd := e; cases e'; exact .non
  | bl b => have e' : some _ = some pd := e; cases e'; exact .bl b
  | int b => have e' : some _ = some pd := e; cases e'; exact .int b
  | str b => have e' : some _ = some pd := e; cases e'; exact .str b
  |
   tup q rs =>
   rename_i ds
   have e' : (ds.mapM (dP k h)).map PyData.tuple = some pd := e
   cases q2 : ds.mapM (dP k h) with
   | none => rw [q2] at e'; cases e'
   |
    some ps =>
    rw [q2] at e'
    cases e'
    exact .tup q (mQ (fun d v pd r e => jd w k r e) rs q2)
  |
   ref ea =>
   rename_i n a
   unfold dP at e
   split at e
   ·rename_i xs e1
    obtain ⟨vs, h1, h2⟩ := cH w ea e1
    cases q2 : xs.mapM (dP k h) with
    | none => rw [q2] at e; cases e
    |
     some ps =>
     rw [q2] at e
     cases e
     exact .lst h1 (mQ (fun d v pd r e => jd w k r e) h2 q2)
   ·cases e
  | _ => cases e
noncomputable def pz (h : AH) (x y : D) : Option Bool := match dP 64 h x, dP 64 h y with
 | some a, some b => if SeqAt.shaped a = true /\ SeqAt.shaped b = true then some (PyData.eqv a b) else none
 | _, _ => none
noncomputable def gEq (neg : Bool) : D -> D -> AH -> R D := fun x y h => match pz h x y with
 | some b => .ok (.bl (if neg then !b else b)) h
 | none => .stuck
section
variable {K : PySem.W.Frag} {mg : Str -> Option Value} {X : Cx}
theorem qw {ρ : List Addr} {H : Hp} {h : AH} {dx dy : D} {x y : V} {b : Bool} (w : Wd K mg ρ h H) (rx : RelD K mg ρ H dx x) (ry : RelD K mg ρ H dy y) (e : pz h dx dy = some b) :
  ∃ a c, Rep K H x a /\ Rep K H y c /\ SeqAt.shaped a = true /\ SeqAt.shaped c = true /\ PyData.eqv a c = b := by
 unfold pz at e
 split at e
 ·rename_i a c e1 e2
  split at e
  ·rename_i hs
   cases e
   exact ⟨a, c, jd w 64 rx e1, jd w 64 ry e2, hs.1, hs.2, rfl⟩
  ·cases e
 ·cases e
theorem zd : OpD K mg (rp K) (gEq false) := fun ρ h H dx dy x y Q E w rx ry p => by
 unfold gEq at p
 split at p
 ·rename_i b e
  obtain ⟨a, c, h1, h2, h3, h4, rfl⟩ := qw w rx ry e
  exact ⟨a, c, h1, h2, h3, h4, aS w (.bl _) p⟩
 ·exact p.elim
theorem A1 : OpD K mg (rM K) (gEq true) := fun ρ h H dx dy x y Q E w rx ry p => by
 unfold gEq at p
 split at p
 ·rename_i b e
  obtain ⟨a, c, h1, h2, h3, h4, rfl⟩ := qw w rx ry e
  exact ⟨a, c, h1, h2, h3, h4, aS w (.bl _) p⟩
 ·exact p.elim
end
noncomputable def j4 : D -> Bool
 | .non => true
 | .bl _ => true
 | .int _ => true
 | .str _ => true
 | _ => false
noncomputable def toV : D -> V
 | .bl b => .bl b
 | .int i => .int i
 | .str x => .str x
 | _ => .non
noncomputable def eqF (x y : D) : Bool := eqV (toV x) (toV y)
noncomputable def gIn (neg : Bool) : D -> D -> AH -> R D := fun x y h => match cS h y with
 | some xs => if j4 x = true /\ xs.all j4 = true then .ok (.bl (if neg then !(xs.any fun d => eqF d x) else xs.any fun d => eqF d x)) h else .stuck
 | none => .stuck
section
variable {K : PySem.W.Frag} {mg : Str -> Option Value} {X : Cx} {ρ : List Addr} {H : Hp}
theorem oq {d : D} {v : V} (r : RelD K mg ρ H d v) (f : j4 d = true) : v = toV d /\ bu v = true := by
 cases r with
 | non => exact ⟨rfl, rfl⟩
 | bl => exact ⟨rfl, rfl⟩
 | int => exact ⟨rfl, rfl⟩
 | str => exact ⟨rfl, rfl⟩
 | _ => cases f
theorem sU : ∀ {ds : List D} {vs : List V}, RelDs K mg ρ H ds vs -> ds.all j4 = true -> vs = ds.map toV /\ vs.all bu = true := by
 intro ds
 induction ds with
 |
  nil =>
  intro vs r f
  cases r
  exact ⟨rfl, rfl⟩
 |
  cons d0 ds ih =>
  intro vs r f
  cases r with
  |
   cons r rr =>
   rw [List.all_cons, Bool.and_eq_true] at f
   obtain ⟨rfl, h1⟩ := oq r f.1
   obtain ⟨rfl, h2⟩ := ih rr f.2
   exact ⟨rfl, by rw [List.all_cons, h1, h2]; rfl⟩
theorem
    Bq (neg : Bool) : OpD K mg (rIn K neg) (gIn neg) := fun ρ h H dx dy x y Q E w rx ry p => by
 unfold gIn at p
 split at p
 ·rename_i xs e
  split at p
  ·rename_i hf
   obtain ⟨pa, vs, rfl, hq, rs⟩ := c8 w ry e
   obtain ⟨rfl, f1⟩ := oq rx hf.1
   obtain ⟨rfl, f2⟩ := sU rs hf.2
   refine ⟨pa, _, rfl, hq, f1, f2, ?_⟩
   have e2 : inV (toV dx) (xs.map toV) = xs.any fun d => eqF d dx := by
    unfold inV eqF
    rw [List.any_map]; rfl
   rw [e2]
   exact aS w (.bl _) p
  ·exact p.elim
 ·exact p.elim
noncomputable def uT (neg : Bool) : D -> D -> AH -> R D := fun x y h => match x, y with
 | .non, .non => .ok (.bl (!neg)) h
 | _, .non => .ok (.bl neg) h
 | _, _ => .stuck
end
end L2
set_option Elab.async false
set_option linter.all false
set_option maxRecDepth 100000
namespace L2
open PySem PySem.Spec PyProof.Rows
inductive AIt where
 | lst (n : Nat) (xs : List D) | tup (xs : List D) | rng (lo : Int) (k : Nat) | enm (s : AIt) | zip (s t : AIt)
noncomputable def hZ : Nat -> List D -> List D
 | _, [] => []
 | i, d :: ds => .tup [.int (i : Nat), d] :: hZ (i + 1) ds
noncomputable def AIt.items : AIt -> List D
 | .lst _ xs => xs
 | .tup xs => xs
 | .rng lo k => (List.range k).map fun i => D.int (lo + (i : Nat))
 | .enm s => hZ 0 s.items
 | .zip s t => List.zipWith (fun x y => .tup [x, y]) s.items t.items
noncomputable def AIt.guard : AIt -> AH -> Prop
 | .lst n xs, h => bD h n = some xs
 | .enm s, h => s.guard h
 | .zip s t, h => s.guard h /\ t.guard h
 | _, _ => True
noncomputable def SrcR (K : PySem.W.Frag) (mg : Str -> Option Value) (ρ : List Addr) (H : Hp) : AIt -> Bool -> Addr -> Prop
 | .lst n _, true, a => ρ[n]? = some a
 | .tup xs, false, p => ∃ vs, SqT K H p vs /\ RelDs K mg ρ H xs vs
 | _, _, _ => False
noncomputable def ItR (K : PySem.W.Frag) (mg : Str -> Option Value) (ρ : List Addr) (H : Hp) : AIt -> It -> Prop
 | .lst n _, J => ∃ a, ρ[n]? = some a /\ J = Itl K a
 | .tup xs, J => ∃ p vs, SqT K H p vs /\ RelDs K mg ρ H xs vs /\ J = Itt K p
 | .rng lo k, J => J = Itr lo k
 | .enm s, J => ∃ b a, SrcR K mg ρ H s b a /\ J = IteE K b a
 | .zip s t, J => ∃ b c a d, SrcR K mg ρ H s b a /\ SrcR K mg ρ H t c d /\ J = ItZ K b c a d
theorem pA : ∀ {ds : List D} {k i : Nat} {e : D}, (hZ k ds)[i]? = some e -> ∃ d, ds[i]? = some d /\ e = .tup [.int ((k + i : Nat) : Int), d]
 | [], _, _, _, q => by simp [hZ] at q
 | d :: ds, k, 0, e, q => ⟨d, rfl, by simpa [hZ] using q.symm⟩
 |
  d :: ds, k, i + 1, e, q => by
  obtain ⟨d', q1, q2⟩ := pA (ds := ds) (k := k + 1) (i := i) (e := e) (by simpa [hZ] using q)
  refine ⟨d', by simpa using q1, ?_⟩
  rw [q2]
  congr 4
  omega
theorem nV : ∀ (ds : List D) (k : Nat), (hZ k ds).length = ds.length
 | [], _ => rfl
 | _ :: ds, k => by show (hZ (k + 1) ds).length + 1 = ds.length + 1; rw [nV ds]
section
variable {K : PySem.W.Frag} {mg : Str -> Option Value} {ρ ρ1 : List Addr} {H H1 : Hp} {h h1 : AH}
theorem SrcR.at_ {s : AIt} {b : Bool} {a : Addr} (r : SrcR K mg ρ H s b a) (l : Le ρ H ρ1 H1) (w : Wd K mg ρ1 h1 H1) (g : s.guard h1) : ∃ vs, SqB K b H1 a vs /\ RelDs K mg ρ1 H1 s.items vs := by
 cases s with
 |
  lst n xs =>
  cases b with
  | true => exact cH w (l.pre _ _ r) g
  | false => exact r.elim
 |
  tup xs =>
  cases b with
  | true => exact r.elim
  | false => obtain ⟨vs, q, rs⟩ := r; exact ⟨vs, l.sqT q, rs.mono l⟩
 | rng _ _ => cases b <;> exact r.elim
 | enm _ => cases b <;> exact r.elim
 | zip _ _ => cases b <;> exact r.elim
theorem
    ItR.step {it : AIt} {J : It} (hJ : ItR K mg ρ H it J) (l : Le ρ H ρ1 H1) (w : Wd K mg ρ1 h1 H1) (g : it.guard h1) :
  (∀ (i : Nat) (d : D), it.items[i]? = some d -> J.go i H1 /\ ∀ x H', J.yld i H1 x H' -> Le ρ1 H1 ρ1 H' /\ Wd K mg ρ1 h1 H' /\ RelD K mg ρ1 H' d x) /\ J.stop it.items.length H1 := by
 cases it with
 |
  lst n xs =>
  obtain ⟨a, ea, rfl⟩ := hJ
  obtain ⟨vs, q, rs⟩ := cH w (l.pre _ _ ea) g
  refine ⟨fun i d e => ?_, vs, q, by rw [<- rs.len]; exact Nat.le_refl _⟩
  obtain ⟨v, ev, rv⟩ := rs.getD e
  refine ⟨⟨vs, v, q, ev⟩, fun x H' ⟨e1, y⟩ => ?_⟩
  subst e1
  have := (y vs q).symm.trans ev
  cases this
  exact ⟨Le.refl, w, rv⟩
 |
  tup xs =>
  obtain ⟨p, vs, q, rs, rfl⟩ := hJ
  have q1 := l.sqT q
  have rs1 := rs.mono l
  refine ⟨fun i d e => ?_, vs, q1, by rw [<- rs1.len]; exact Nat.le_refl _⟩
  obtain ⟨v, ev, rv⟩ := rs1.getD e
  refine ⟨⟨vs, v, q1, ev⟩, fun x H' ⟨e1, y⟩ => ?_⟩
  subst e1
  have := (y vs q1).symm.trans ev
  cases this
  exact ⟨Le.refl, w, rv⟩
 |
  rng lo k =>
  cases hJ
  refine ⟨fun i d e => ?_, ?_⟩
  ·have e' : ((List.range k).map fun i => D.int (lo + (i : Nat)))[i]? = some d := e
   rw [List.getElem?_map] at e'
   cases q : (List.range k)[i]? with
   | none => rw [q] at e'; cases e'
   |
    some j =>
    rw [q] at e'
    have hj := List.getElem?_eq_some_iff.mp q
    have e2 := hj.2
    rw [List.getElem_range] at e2
    subst e2
    cases e'
    refine ⟨show i < k by simpa using hj.1, fun x H' ⟨e1, e2⟩ => ?_⟩
    subst e1 e2
    exact ⟨Le.refl, w, .int _⟩
  ·show k <= ((List.range k).map fun i => D.int (lo + (i : Nat))).length
   simp
 |
  enm s =>
  obtain ⟨b, a, r, rfl⟩ := hJ
  obtain ⟨vs, q, rs⟩ := r.at_ l w g
  refine ⟨fun i d e => ?_, vs, q, by show vs.length = (hZ 0 s.items).length; rw [nV, rs.len]⟩
  obtain ⟨d', q1, rfl⟩ := pA (show (hZ 0 s.items)[i]? = some d from e)
  obtain ⟨v, ev, rv⟩ := rs.getD q1
  refine ⟨⟨vs, v, q, ev⟩, fun x H' ⟨p, u, e1, hp, e2, hu⟩ => ?_⟩
  subst e1 e2
  have := (hu vs q).symm.trans ev
  cases this
  rw [Nat.zero_add]
  exact ⟨cx hp, w.tuple hp, .tup (SqT.of cz) (.cons (.int _) (.cons (rv.mono (cx hp)) .nil))⟩
 |
  zip s t =>
  obtain ⟨b, c, a, d, r1, r2, rfl⟩ := hJ
  obtain ⟨vs, q, rs⟩ := r1.at_ l w g.1
  obtain ⟨us, q', rs'⟩ := r2.at_ l w g.2
  refine ⟨fun i e ei => ?_, vs, us, q, q', ?_⟩
  ·have ei' : (List.zipWith (fun x y => D.tup [x, y]) s.items t.items)[i]? = some e := ei
   rw [List.getElem?_zipWith] at ei'
   cases k1 : s.items[i]? with
   | none => rw [k1] at ei'; cases ei'
   |
    some d1 =>
    cases k2 : t.items[i]? with
    | none => rw [k1, k2] at ei'; cases ei'
    |
     some d2 =>
     rw [k1, k2] at ei'
     cases ei'
     obtain ⟨v, ev, rv⟩ := rs.getD k1
     obtain ⟨v', ev', rv'⟩ := rs'.getD k2
     refine ⟨⟨vs, us, v, v', q, q', ev, ev'⟩, fun x H' ⟨p, u, u', e1, hp, e2, hu, hu'⟩ => ?_⟩
     subst e1 e2
     have := (hu vs q).symm.trans ev
     cases this
     have := (hu' us q').symm.trans ev'
     cases this
     exact ⟨cx hp, w.tuple hp, .tup (SqT.of cz) (.cons (rv.mono (cx hp)) (.cons (rv'.mono (cx hp)) .nil))⟩
  ·have hl : (AIt.zip s t).items.length = min s.items.length t.items.length := List.length_zipWith ..
   rw [hl, rs.len, rs'.len]
   rcases Nat.le_total vs.length us.length with z | z
   ·left; rw [Nat.min_eq_left z]; exact List.getElem?_eq_none (Nat.le_refl _)
   ·right; rw [Nat.min_eq_right z]; exact List.getElem?_eq_none (Nat.le_refl _)
end
noncomputable def SR.loop (r : SR) (f : AE -> AH -> SR) : SR := match r with
 | .nx ae h => f ae h
 | .ct ae h => f ae h
 | .bk ae h => .nx ae h
 | .rt d h => .rt d h
 | .exc c ae h => .exc c ae h
 | .stuck => .stuck
open Classical in
noncomputable def iI (G : AH -> Prop) (g : MG) (B : MS) : List D -> MS
 | [], ae, h => if G h then .nx ae h else .stuck
 | d :: ds, ae, h => if G h then (g d ae h).toS ae fun ae1 h1 => (B ae1 h1).loop (iI G g B ds) else .stuck
abbrev MI := AE -> AH -> R AIt
noncomputable def wg (I : MI) (g : MG) (B : MS) : MS := fun ae h => (I ae h).toS ae fun it h1 => iI it.guard g B it.items ae h1
open Classical in
noncomputable def lcL (G : AH -> Prop) (g : MG) (c : MT) (F : ME) : List D -> List D -> AE -> AH -> R (List D)
 | [], acc, _, h => if G h then .ok acc h else .stuck
 | d :: ds, acc, ae, h => if G h /\ acc.length < 16777216 then (g d ae h).bind fun ae1 h1 => (c ae1 h1).bind fun b h2 => if b = true then (F ae1 h2).bind fun y h3 => lcL G g c F ds (acc ++ [y]) ae1 h3 else lcL G g c F ds acc ae1 h2 else .stuck
noncomputable def iZ (sub : List (Option Nat)) (ae : AE) : AE := sub.map fun o => o.bind fun i => (ae[i]?).bind id
noncomputable def eLC (I : MI) (sub : List (Option Nat)) (g : MG) (c : MT) (F : ME) : ME := fun ae h => (I ae h).bind fun it h1 => (noX (lcL it.guard g c F it.items [] (iZ sub ae) h1)).bind de
noncomputable def tY : MT := fun _ h => .ok true h
section
variable (K : PySem.W.Frag) (mg : Str -> Option Value)
noncomputable def rdI (ES : St -> XK) (F : MI) : TI := fun σ H R' => ∃ ρ h ae, Wd K mg ρ h H /\ RelE K mg ρ H ae σ /\ PostG K mg ρ H (ES σ) (fun it _ ρ' H' => ∀ J, ItR K mg ρ' H' it J -> R' J H') (F ae h)
noncomputable def DI (X : Cx) (ES : St -> XK) (tg iter : Expr) (F : MI) : Prop := PI X tg iter (rdI K mg ES F)
end
noncomputable def vM (F : ME) : MI := fun ae h => (F ae h).bind fun d h1 => match d with
 | .tup xs => .ok (.tup xs) h1
 | .ref n => match bD h1 n with
  | some xs => .ok (.lst n xs) h1
  | none => .stuck
 | _ => .stuck
noncomputable def uG (A : MA) : MI := fun ae h => (A ae h).bind fun ds h1 => match ds with
 | [.int j] => if -(2 ^ 62) <= j /\ j < 2 ^ 62 then .ok (.rng 0 j.toNat) h1 else .stuck
 | _ => .stuck
noncomputable def jS (d : D) (h : AH) : Option AIt := match d with
 | .tup xs => some (.tup xs)
 | .ref n => (bD h n).map (.lst n)
 | _ => none
section
variable {K : PySem.W.Frag} {mg : Str -> Option Value} {X : Cx} {ES : St -> XK} {tg iter e a b c elt : Expr} {F : ME} {A : MA} {I : MI} {g : MG} {cf : MT} {U : MS} {sts : List Stmt} {pos : Pos}
theorem PI.imp {t t' : TI} (h : PI X tg iter t) (k : ∀ σ H Q, t' σ H Q -> t σ H Q) : PI X tg iter t' := fun pins s σ H Q I w => h pins s σ H Q I (k σ H Q w)
theorem B9 {l : Expr} {tl : TE} (hl : PE X l tl) : PI X tg l (fun σ H R => tl σ H fun x H1 => (∃ a, x = .ref a /\ (∃ xs, SqL X.K H1 a xs) /\ R (Itl X.K a) H1) \/ (∃ a, x = .ref a /\ (∃ xs, SqT X.K H1 a xs) /\ R (Itt X.K a) H1)) := by
 intro pins s σ H R I h
 refine thn (hl pins s σ H _ I h) fun v s1 ⟨x, H1, I1, r1, q1⟩ => ?_
 rcases q1 with ⟨a, e, ⟨xs, hq⟩, q⟩ | ⟨a, e, ⟨xs, hq⟩, q⟩
 ·subst e
  cases r1
  obtain ⟨its, rv, p, hz⟩ := I1.list hq
  refine wpAny_pyIter_list p.isList ?_
  refine ⟨s1.heap.objs.size, [s1.heap.objs.size], _, _, H1, rfl, I1.kept (t' := s1.toks) fun b o e => Heap.get?_push_of_some _ e, sP a _, ⟨_, Heap.get?_push_size _ rfl, rfl, rfl⟩, fun b hb => ?_, q⟩
  have e : b = s1.heap.objs.size := by simpa using hb
  subst e
  exact I1.fpOk (Nat.le_refl _) (I1.hok.fresh (Nat.le_refl _))
 ·subst e
  cases r1
  obtain ⟨its, rv, p, hz⟩ := I1.tuple hq
  refine wpAny_pyIter_tuple (show s1.heap.IsTuple a its.toArray from p) ?_
  refine ⟨s1.heap.objs.size, [s1.heap.objs.size], _, _, H1, rfl, I1.kept (t' := s1.toks) fun b o e => Heap.get?_push_of_some _ e, qF a _, ⟨_, Heap.get?_push_size _ rfl, rfl, rfl⟩, fun b hb => ?_, q⟩
  have e : b = s1.heap.objs.size := by simpa using hb
  subst e
  exact I1.fpOk (Nat.le_refl _) (I1.hok.fresh (Nat.le_refl _))
theorem Bm (hK : X.K = K) (he : DE K mg X ES e F) : DI K mg X ES tg e (vM F) := by
 subst hK
 refine PI.imp (B9 he) fun σ H R ⟨ρ, h, ae, w, re, p⟩ => ⟨ρ, h, ae, w, re, p.bind.imp fun d h1 ρ1 H1 l1 w1 p1 v rv => ?_⟩
 cases rv with
 | tup q rs => exact .inr ⟨_, rfl, ⟨_, q⟩, p1 ρ1 H1 Le.refl w1 _ ⟨_, _, q, rs, rfl⟩⟩
 |
  ref ea =>
  dsimp only at p1
  split at p1
  ·rename_i xs e1
   obtain ⟨vs, q, rs⟩ := cH w1 ea e1
   exact .inl ⟨_, rfl, ⟨_, q⟩, p1 ρ1 H1 Le.refl w1 _ ⟨_, ea, rfl⟩⟩
  ·exact p1.elim
 | _ => exact p1.elim
theorem
    ua {p : Pos} (hg : Gl X "range") (hm : mg "range" = none) (ha : DA K mg X ES [a] A) (hk : X.mg = mg := by rfl) (hs : starEach [a] X.env = [(false, eval a X.env)] := by rfl) : DI K mg X ES tg (.Call (.Name "range" p) [a] [] pos) (uG A) := by
 subst hk
 refine PI.imp (uh hg hm ha hs) fun σ H R ⟨ρ, h, ae, w, re, p⟩ => ⟨ρ, h, ae, w, re, p.bind.imp fun ds h1 ρ1 H1 l1 w1 p1 vs rs => ?_⟩
 split at p1
 ·cases rs with
  |
   cons r rs =>
   cases r; cases rs
   split at p1
   ·rename_i hb
    exact ⟨_, rfl, hb.1, hb.2, p1 ρ1 H1 Le.refl w1 _ rfl⟩
   ·exact p1.elim
 ·exact p1.elim
theorem oH {ρ : List Addr} {H : Hp} {De : Ends} {r : SR} {f : AE -> AH -> SR} {N : St -> Hp -> Prop} (p : PostS K mg ρ H De ES (r.loop f)) (i : ∀ ae1 h1 ρ1 H1 σ1, Le ρ H ρ1 H1 -> Wd K mg ρ1 h1 H1 -> RelE K mg ρ1 H1 ae1 σ1 -> PostS K mg ρ1 H1 De ES (f ae1 h1) -> N σ1 H1) :
  PostS K mg ρ H { De with nx := N, ct := N, bk := De.nx } ES r := by
 cases r with
 | nx ae1 h1 => exact fun ρ1 H1 σ1 l1 w1 re1 => i ae1 h1 ρ1 H1 σ1 l1 w1 re1 (PostS.mono l1 p)
 | rt d h1 => exact p
 | bk ae1 h1 => exact p
 | ct ae1 h1 => exact fun ρ1 H1 σ1 l1 w1 re1 => i ae1 h1 ρ1 H1 σ1 l1 w1 re1 (PostS.mono l1 p)
 | exc c ae1 h1 => exact p
 | stuck => exact p
theorem
    Co (hp : PassesOwn (model X.prog X.w) X.A X.env X.xe) (hc : X.calm = true) (hi : DI K mg X ES tg iter I) (hg : DG K mg X ES tg g) (hb : DSs K mg X ES sts U)
  (hs : ∀ x, foldedSetIterable iter X.env x = pure x := by intro _; rfl) : DS K mg X ES (.For tg iter sts [] pos) (wg I g U) := by
 refine PS.imp (Bf hp hc hi hg hb hs) fun De σ H q_ => q_.el fun ρ h ae w re p => ⟨ρ, h, ae, w, re, cq p re fun it h1 ρ1 H1 l1 w1 re1 p1 J hJ => ?_⟩
 refine ⟨fun i m σ2 H2 => m = it.items.length - i /\ i <= it.items.length /\ ∃ ρ2 h2 ae2, Le ρ1 H1 ρ2 H2 /\ Wd K mg ρ2 h2 H2 /\ RelE K mg ρ2 H2 ae2 σ2 /\ PostS K mg ρ2 H2 De ES (iI it.guard g U (it.items.drop i) ae2 h2), ⟨_, rfl, Nat.zero_le _, ρ1, h1, ae, Le.refl, w1, re1, p1⟩, ?_⟩
 rintro i m σ2 H2 ⟨rfl, hi', ρ2, h2, ae2, l2, w2, re2, p2⟩
 by_cases hlt : i < it.items.length
 ·have hd : it.items.drop i = it.items[i] :: it.items.drop (i + 1) := List.drop_eq_getElem_cons hlt
  rw [hd] at p2
  unfold iI at p2
  split at p2
  ·rename_i hG
   obtain ⟨st, _⟩ := hJ.step l2 w2 hG
   obtain ⟨go, yl⟩ := st i it.items[i] (List.getElem?_eq_getElem hlt)
   refine .inr ⟨go, fun σ' H' => ∃ ρ3 h3 ae3, Le ρ1 H1 ρ3 H' /\ Wd K mg ρ3 h3 H' /\ RelE K mg ρ3 H' ae3 σ' /\ PostS K mg ρ3 H' De ES (iI it.guard g U (it.items.drop (i + 1)) ae3 h3),
    fun σ' H' ⟨ρ3, h3, ae3, q⟩ => ⟨_, by omega, rfl, hlt, ρ3, h3, ae3, q⟩, fun x H' hy => ?_⟩
   obtain ⟨ly, wy, rx⟩ := yl x H' hy
   refine ⟨ρ2, h2, ae2, _, wy, re2.mono ly, rx, cq (PostS.mono ly p2) (re2.mono ly) fun ae3 h3 ρ3 H3 l3 w3 re3 p3 σ' re' => ⟨ρ3, h3, ae3, w3, re', oH p3 fun ae4 h4 ρ4 H4 σ4 l4 w4 re4 p4 => ⟨ρ4, h4, ae4, ((l2.trans ly).trans l3).trans l4, w4, re4, p4⟩⟩⟩
  ·exact p2.elim
 ·have hi2 : i = it.items.length := by omega
  subst hi2
  rw [List.drop_length] at p2
  unfold iI at p2
  split at p2
  ·rename_i hG
   exact .inl ⟨(hJ.step l2 w2 hG).2, gR p2 w2 re2⟩
  ·exact p2.elim
theorem
    wt {ρ : List Addr} {H : Hp} {ae : AE} {σ : St} (re : RelE K mg ρ H ae σ) (sub : List (Option Nat)) : RelE K mg ρ H (iZ sub ae) (fu sub σ) := by
 unfold iZ fu
 refine ⟨by rw [List.length_map, List.length_map], fun j d e => ?_⟩
 rw [List.getElem?_map] at e ⊢
 cases q : sub[j]? with
 | none => rw [q] at e; cases e
 |
  some o =>
  rw [q] at e
  cases o with
  | none => cases e
  |
   some i =>
   have e' : (ae[i]?).bind id = some d := Option.some.inj e
   cases q2 : ae[i]? with
   | none => rw [q2] at e'; cases e'
   |
    some z =>
    rw [q2] at e'
    have e3 : z = some d := e'
    subst e3
    obtain ⟨v, h1, h2⟩ := re.at_ i d q2
    refine ⟨v, ?_, h2⟩
    show some ((σ[i]?).bind id) = some (some v)
    rw [h1]; rfl
theorem ko {α : Type} {ρ : List Addr} {H : Hp} {E : XK} {r : R α} {f : α -> AH -> R (List D)} {m : List D -> AH -> R D} {k : D -> AH -> List Addr -> Hp -> Prop} (p : PostG K mg ρ H E k ((noX (r.bind f)).bind m)) :
  PostG K mg ρ H E0 (fun a h1 ρ' H' => PostG K mg ρ' H' E k ((noX (f a h1)).bind m)) r := by
 cases r with
 | ok a h1 => exact fun ρ1 H1 l1 w1 => PostG.mono l1 p
 | exc c h1 => exact p.elim
 | stuck => exact p.elim
theorem
    Cz {sub : List (Option Nat)} (σ : St) (H : Hp) (Q : VK) (q : rdE K mg ES (eLC I sub g cf F) σ H Q) : rN (rdI K mg ES I) sub (rdG K mg (fun _ => E0) g) (rdT K mg (fun _ => E0) cf) (rdE K mg (fun _ => E0) F) σ H Q := by
 obtain ⟨ρ, h, ae, w, re, p⟩ := q
 refine ⟨ρ, h, ae, w, re, p.bind.imp fun it h1 ρ1 H1 l1 w1 p1 J hJ => ?_⟩
 have re1 := wt (re.mono l1) sub
 refine ⟨fun i m ys σ2 H2 => m = it.items.length - i /\ i <= it.items.length /\ ∃ ρ2 h2 ae2 acc, Le ρ1 H1 ρ2 H2 /\ Wd K mg ρ2 h2 H2 /\ RelE K mg ρ2 H2 ae2 σ2 /\ RelDs K mg ρ2 H2 acc ys /\
   PostG K mg ρ2 H2 (ES σ) (fun d _ ρ' H' => ∀ v, RelD K mg ρ' H' d v -> Q v H') ((noX (lcL it.guard g cf F (it.items.drop i) acc ae2 h2)).bind de),
  ⟨_, rfl, Nat.zero_le _, ρ1, h1, iZ sub ae, [], Le.refl, w1, re1, .nil, p1⟩, ?_⟩
 rintro i m ys σ2 H2 ⟨rfl, hi', ρ2, h2, ae2, acc, l2, w2, re2, rs, p2⟩
 by_cases hlt : i < it.items.length
 ·have hd : it.items.drop i = it.items[i] :: it.items.drop (i + 1) := List.drop_eq_getElem_cons hlt
  rw [hd] at p2
  unfold lcL at p2
  split at p2
  ·rename_i hG
   obtain ⟨st, _⟩ := hJ.step l2 w2 hG.1
   obtain ⟨go, yl⟩ := st i it.items[i] (List.getElem?_eq_getElem hlt)
   refine .inr ⟨go, by rw [<- rs.len]; exact hG.2, fun ys' σ' H' => ∃ ρ3 h3 ae3 acc3, Le ρ1 H1 ρ3 H' /\ Wd K mg ρ3 h3 H' /\ RelE K mg ρ3 H' ae3 σ' /\ RelDs K mg ρ3 H' acc3 ys' /\
     PostG K mg ρ3 H' (ES σ) (fun d _ ρ' H' => ∀ v, RelD K mg ρ' H' d v -> Q v H') ((noX (lcL it.guard g cf F (it.items.drop (i + 1)) acc3 ae3 h3)).bind de),
    fun ys' σ' H' ⟨ρ3, h3, ae3, acc3, q⟩ => ⟨_, by omega, rfl, hlt, ρ3, h3, ae3, acc3, q⟩, fun x H' hy => ?_⟩
   obtain ⟨ly, wy, rx⟩ := yl x H' hy
   refine ⟨ρ2, h2, ae2, _, wy, re2.mono ly, rx, (ko (PostG.mono ly p2)).imp fun ae3 h3 ρ3 H3 l3 w3 p3 σ3 re3 => ⟨ρ3, h3, ae3, w3, re3, (ko p3).imp fun b h4 ρ4 H4 l4 w4 p4 => ?_⟩⟩
   cases b with
   | true => exact ⟨ρ4, h4, ae3, w4, re3.mono l4, (ko p4).imp fun y h5 ρ5 H5 l5 w5 p5 v rv => ⟨ρ5, h5, ae3, acc ++ [y], (((l2.trans ly).trans l3).trans l4).trans l5, w5, (re3.mono l4).mono l5, ((((rs.mono ly).mono l3).mono l4).mono l5).append (.cons rv .nil), p5⟩⟩
   | false => exact ⟨ρ4, h4, ae3, acc, ((l2.trans ly).trans l3).trans l4, w4, re3.mono l4, ((rs.mono ly).mono l3).mono l4, p4⟩
  ·exact p2.elim
 ·have hi2 : i = it.items.length := by omega
  subst hi2
  rw [List.drop_length] at p2
  unfold lcL at p2
  split at p2
  ·rename_i hG
   refine .inl ⟨(hJ.step l2 w2 hG).2, ?_⟩
   have p3 : PostG K mg ρ2 H2 (ES σ) (fun d _ ρ' H' => ∀ v, RelD K mg ρ' H' d v -> Q v H') (de acc h2) := p2
   unfold de at p3
   split at p3
   ·rename_i hl
    exact ⟨by rw [<- rs.len]; exact hl, fun q hq => gG w2 rs hq p3⟩
   ·exact p3.elim
  ·exact p2.elim
theorem Ds {scope : Scope} (M : List Str) (kn : List (Str × NameKind)) (N : List Str) (sub : List (Option Nat))
  (hc : X.calm = true) (hi : DI K mg X ES tg iter I)
  (hg : ∀ cl C s₂ H fp, DG K mg (dk X N scope cl C s₂ H fp) (fun _ => E0) tg g) (he : ∀ cl C s₂ H fp, DE K mg (dk X N scope cl C s₂ H fp) (fun _ => E0) elt F)
  (hM : X.N = M := by rfl) (hkn : X.env.scope.names = kn := by rfl) (hsub : kR M scope.names sub N = true := by decide +kernel)
  (hk : scope.kind = .function := by rfl) (hnc : ∀ x ∈ scope.names, x.2 ≠ .cell := by decide +kernel) (hnames : ∀ x ∈ scope.names, x.2 = .local -> scope.names.lookup x.1 = some .local := by decide +kernel)
  (hfr : oy kn scope.names = true := by decide +kernel)
  (hsl : sub.length = N.length := by rfl) (hs : ∀ x, foldedSetIterable iter X.env x = pure x := by intro _; rfl) :
  DE K mg X ES (.ListComp elt [⟨tg, iter, [], 0⟩] scope pos) (eLC I sub g tY F) :=
 PE.imp (Ee M kn N sub hc hi hg he hM hkn hsub hk hnc hnames hfr hsl hs) fun σ H Q q => by
  have := Cz (cf := tY) σ H Q q
  obtain ⟨ρ, h, ae, w, re, p⟩ := this
  refine ⟨ρ, h, ae, w, re, p.imp fun it h1 ρ1 H1 l1 w1 k J hJ => ?_⟩
  obtain ⟨W, w0, tn⟩ := k J hJ
  refine ⟨W, w0, fun i m ys σ2 H2 hW => ?_⟩
  rcases tn i m ys σ2 H2 hW with z | ⟨go, hl, Nx, hN, st⟩
  ·exact .inl z
  ·refine .inr ⟨go, hl, Nx, hN, fun x H' hy => ?_⟩
   obtain ⟨ρ3, h3, ae3, d3, w3, re3, rd3, p3⟩ := st x H' hy
   refine ⟨ρ3, h3, ae3, d3, w3, re3, rd3, p3.imp fun ae4 h4 ρ4 H4 l4 w4 k4 σ4 re4 => ?_⟩
   obtain ⟨ρ5, h5, ae5, w5, re5, p5⟩ := k4 σ4 re4
   exact p5 ρ5 _ Le.refl w5
end
noncomputable def whN (c : MT) (B : MS) : Nat -> MS
 | 0, _, _ => .stuck
 | k + 1, ae, h => (c ae h).toS ae fun b h1 => if b = true then (B ae h1).loop (whN c B k) else .nx ae h1
open Classical in
noncomputable def sWh (c : MT) (B : MS) : MS := fun ae h => if q : ∃ k, whN c B k ae h ≠ .stuck then whN c B q.choose ae h else .stuck
theorem
    kG {c : MT} {B : MS} : ∀ {k : Nat} {ae : AE} {h : AH}, whN c B k ae h ≠ .stuck -> whN c B (k + 1) ae h = whN c B k ae h
 | 0, _, _, q => absurd rfl q
 |
  k + 1, ae, h, q => by
  have e1 : whN c B (k + 2) ae h = (c ae h).toS ae fun b h1 => if b = true then (B ae h1).loop (whN c B (k + 1)) else .nx ae h1 := rfl
  have e2 : whN c B (k + 1) ae h = (c ae h).toS ae fun b h1 => if b = true then (B ae h1).loop (whN c B k) else .nx ae h1 := rfl
  rw [e2] at q
  rw [e1, e2]
  cases r : c ae h with
  | exc _ _ => rfl
  | stuck => rfl
  |
   ok b h1 =>
   rw [r] at q
   cases b with
   | false => rfl
   |
    true =>
    have q' : (B ae h1).loop (whN c B k) ≠ .stuck := q
    show (B ae h1).loop (whN c B (k + 1)) = (B ae h1).loop (whN c B k)
    cases s : B ae h1 with
    | nx a2 h2 => rw [s] at q'; exact kG q'
    | ct a2 h2 => rw [s] at q'; exact kG q'
    | _ => rfl
theorem ui {c : MT} {B : MS} {k j : Nat} {ae : AE} {h : AH} (q : whN c B k ae h ≠ .stuck) (hj : k <= j) : whN c B j ae h = whN c B k ae h := by
 induction hj with
 | refl => rfl
 | step _ ih => rw [kG (by rw [ih]; exact q), ih]
theorem tx {c : MT} {B : MS} {k : Nat} {ae : AE} {h : AH} (q : whN c B k ae h ≠ .stuck) : sWh c B ae h = whN c B k ae h := by
 have hq : ∃ k, whN c B k ae h ≠ .stuck := ⟨k, q⟩
 unfold sWh
 rw [dif_pos hq]
 rcases Nat.le_total hq.choose k with z | z
 ·exact (ui hq.choose_spec z).symm
 ·exact ui q z
section
variable {K : PySem.W.Frag} {mg : Str -> Option Value} {X : Cx} {ES : St -> XK} {c : Expr} {cf : MT} {U : MS} {sts : List Stmt} {pos : Pos}
theorem vn (hp : PassesOwn (model X.prog X.w) X.A X.env X.xe) (hc : DT K mg X ES c cf) (hb : DSs K mg X ES sts U) : DS K mg X ES (.While c sts [] pos) (sWh cf U) := by
 refine PS.imp (uO hp hc hb) fun De σ H q_ => q_.el fun ρ h ae w re p => ?_
 have hx : ∃ k, whN cf U k ae h ≠ .stuck := Classical.byContradiction fun z => by
  unfold sWh at p
  rw [dif_neg z] at p
  exact p.elim
 obtain ⟨k, hk⟩ := hx
 rw [tx hk] at p
 refine ⟨fun m σ2 H2 => ∃ ρ2 h2 ae2, Wd K mg ρ2 h2 H2 /\ RelE K mg ρ2 H2 ae2 σ2 /\ PostS K mg ρ2 H2 De ES (whN cf U m ae2 h2), ⟨k, ρ, h, ae, w, re, p⟩, ?_⟩
 rintro m σ2 H2 ⟨ρ2, h2, ae2, w2, re2, p2⟩
 cases m with
 | zero => exact p2.elim
 |
  succ m =>
  refine ⟨ρ2, h2, ae2, w2, re2, cq p2 re2 fun b h3 ρ3 H3 l3 w3 re3 p3 => ?_⟩
  cases b with
  | true => exact ⟨fun σ' H' => ∃ ρ4 h4 ae4, Wd K mg ρ4 h4 H' /\ RelE K mg ρ4 H' ae4 σ' /\ PostS K mg ρ4 H' De ES (whN cf U m ae4 h4), fun σ' H' q => ⟨m, Nat.lt_succ_self _, q⟩, ρ3, h3, ae2, w3, re3, oH p3 fun ae4 h4 ρ4 H4 σ4 l4 w4 re4 p4 => ⟨ρ4, h4, ae4, w4, re4, p4⟩⟩
  | false => exact gR p3 w3 re3
end
end L2
set_option Elab.async false
set_option linter.all false
set_option maxRecDepth 100000
namespace L2
open PySem PySem.Spec PyProof.Rows
noncomputable def pv : Fn := fun ds h => match ds with
 | [d] => match cS h d with
  | some xs => .ok (.int xs.length) h
  | none => match d with
   | .str z => if z.length <= 16777216 then .ok (.int z.length) h else .stuck
   | _ => .stuck
 | _ => .stuck
noncomputable def rK : Fn := fun ds h => match ds with
 | [.int i] => .ok (.int (if i < 0 then -i else i)) h
 | _ => .stuck
noncomputable def nC : Fn := fun ds h => match ds with
 | [.int i, .int j] => .ok (.int (if j > i then j else i)) h
 | _ => .stuck
noncomputable def ny : Fn := fun ds h => match ds with
 | [.int i, .int j] => .ok (.int (if j < i then j else i)) h
 | _ => .stuck
noncomputable def gX : List D -> Option (List Bool)
 | [] => some []
 | .bl b :: r => (gX r).map (b :: ·)
 | _ => none
noncomputable def fI : List D -> Option (List Int)
 | [] => some []
 | .int b :: r => (fI r).map (b :: ·)
 | _ => none
theorem ou : ∀ {ds : List D} {bs : List Bool}, gX ds = some bs -> ds = bs.map D.bl
 | [], bs, e => by cases e; rfl
 |
  .bl b :: r, bs, e => by
  have e' : (gX r).map (b :: ·) = some bs := e
  cases q : gX r with
  | none => rw [q] at e'; cases e'
  | some z => rw [q] at e'; cases e'; rw [ou q]; rfl
theorem mY : ∀ {ds : List D} {bs : List Int}, fI ds = some bs -> ds = bs.map D.int
 | [], bs, e => by cases e; rfl
 |
  .int b :: r, bs, e => by
  have e' : (fI r).map (b :: ·) = some bs := e
  cases q : fI r with
  | none => rw [q] at e'; cases e'
  | some z => rw [q] at e'; cases e'; rw [mY q]; rfl
noncomputable def n8 : Fn := fun ds h => match ds with
 | [.ref n] => match (bD h n).bind gX with
  | some bs => .ok (.bl (bs.all id)) h
  | none => .stuck
 | _ => .stuck
noncomputable def oX : Fn := fun ds h => match ds with
 | [.ref n] => match (bD h n).bind fI with
  | some ns => .ok (.int ns.sum) h
  | none => .stuck
 | _ => .stuck
noncomputable def lx : Fn := fun ds h => match ds with
 | [d] => match cS h d with
  | some xs => .ok (.ref h.length) (h ++ [.lst xs])
  | none => .stuck
 | _ => .stuck
noncomputable def jv : Fn := fun ds h => match ds with
 | [d] => match cS h d with
  | some xs => .ok (.tup xs) h
  | none => .stuck
 | _ => .stuck
section
variable {K : PySem.W.Frag} {mg : Str -> Option Value} {X : Cx}
theorem
    z8 : bG K mg (fun xs H Q => (∃ p ys, xs = [.ref p] /\ (SqL K H p ys \/ SqT K H p ys) /\ Q (.int ys.length) H) \/ (∃ z, xs = [.str z] /\ z.length <= sizeLine /\ Q (.int z.length) H)) pv := fun ρ h H ds vs Q E w rs p => by
 unfold pv at p
 split at p
 ·cases
     rs with
  |
   cons r rs =>
   cases rs
   split at p
   ·rename_i xs e
    obtain ⟨pa, vs, rfl, hq, rs⟩ := c8 w r e
    exact .inl ⟨_, _, rfl, hq, by rw [<- rs.len]; exact aS w (.int _) p⟩
   ·split at p
    ·cases r
     split at p
     ·rename_i hl; exact .inr ⟨_, rfl, hl, aS w (.int _) p⟩
     ·exact p.elim
    ·exact p.elim
 ·exact p.elim
theorem eQ (h : X.K = K) : CallR X (.builtin "len") (fun xs H Q => (∃ p ys, xs = [.ref p] /\ (SqL K H p ys \/ SqT K H p ys) /\ Q (.int ys.length) H) \/ (∃ z, xs = [.str z] /\ z.length <= sizeLine /\ Q (.int z.length) H)) := by subst h; exact nU.or pe
theorem Aa : bG K mg (fun xs H Q => ∃ i, xs = [.int i] /\ Q (.int (if i < 0 then -i else i)) H) rK := fun ρ h H ds vs Q E w rs p => by
 unfold rK at p
 split at p
 ·cases rs with
  | cons r rs => cases r; cases rs; exact ⟨_, rfl, aS w (.int _) p⟩
 ·exact p.elim
theorem yn : bG K mg (fun xs H Q => ∃ i j, xs = [.int i, .int j] /\ Q (.int (if j > i then j else i)) H) nC := fun ρ h H ds vs Q E w rs p => by
 unfold nC at p
 split at p
 ·cases rs with
  | cons r rs => cases rs with | cons r2 rs => cases r; cases r2; cases rs; exact ⟨_, _, rfl, aS w (.int _) p⟩
 ·exact p.elim
theorem yC : bG K mg (fun xs H Q => ∃ i j, xs = [.int i, .int j] /\ Q (.int (if j < i then j else i)) H) ny := fun ρ h H ds vs Q E w rs p => by
 unfold ny at p
 split at p
 ·cases rs with
  | cons r rs => cases rs with | cons r2 rs => cases r; cases r2; cases rs; exact ⟨_, _, rfl, aS w (.int _) p⟩
 ·exact p.elim
theorem
    A0 : bG K mg (fun xs H Q => ∃ (a : Addr) (bs : List Bool), xs = [.ref a] /\ SqL K H a (bs.map V.bl) /\ Q (.bl (bs.all id)) H) n8 := fun ρ h H ds vs Q E w rs p => by
 unfold n8 at p
 split at p
 ·cases
     rs with
  |
   cons r rs =>
   cases r with
   |
    ref ea =>
    cases rs
    split at p
    ·rename_i bs e
     obtain ⟨xs, q, e2⟩ := Option.bind_eq_some_iff.mp e
     ·obtain ⟨vs, h1, h2⟩ := cH w ea q
      rw [ou e2] at h2
      rw [h2.bls] at h1
      exact ⟨_, bs, rfl, h1, aS w (.bl _) p⟩
    ·exact p.elim
 ·exact p.elim
theorem
    Bh : bG K mg (fun xs H Q => ∃ (a : Addr) (ns : List Int), xs = [.ref a] /\ SqL K H a (ns.map V.int) /\ Q (.int ns.sum) H) oX := fun ρ h H ds vs Q E w rs p => by
 unfold oX at p
 split at p
 ·cases
     rs with
  |
   cons r rs =>
   cases r with
   |
    ref ea =>
    cases rs
    split at p
    ·rename_i bs e
     obtain ⟨xs, q, e2⟩ := Option.bind_eq_some_iff.mp e
     ·obtain ⟨vs, h1, h2⟩ := cH w ea q
      rw [mY e2] at h2
      rw [h2.ints] at h1
      exact ⟨_, bs, rfl, h1, aS w (.int _) p⟩
    ·exact p.elim
 ·exact p.elim
theorem
    yU : bG K mg (fun xs H Q => ∃ p ys, xs = [.ref p] /\ (SqL K H p ys \/ SqT K H p ys) /\ ∀ l, H l = none -> Q (.ref l) (upd H l (.lst ys))) lx := fun ρ h H ds vs Q E w rs p => by
 unfold lx at p
 split at p
 ·cases rs with
  |
   cons r rs =>
   cases rs
   split at p
   ·rename_i xs e
    obtain ⟨pa, vs, rfl, hq, rs⟩ := c8 w r e
    exact ⟨_, _, rfl, hq, fun l hl => gG w rs hl p⟩
   ·exact p.elim
 ·exact p.elim
theorem
    vB : bG K mg (fun xs H Q => ∃ p ys, xs = [.ref p] /\ ((SqL K H p ys /\ ∀ l, H l = none -> Q (.ref l) (upd H l (.tup ys))) \/ (SqT K H p ys /\ Q (.ref p) H))) jv := fun ρ h H ds vs Q E w rs p => by
 unfold jv at p
 split at p
 ·cases rs with
  |
   cons r rs =>
   cases rs
   split at p
   ·rename_i xs e
    obtain ⟨pa, vs, rfl, hq, rs⟩ := c8 w r e
    rcases hq with hq | hq
    ·exact ⟨_, _, rfl, .inl ⟨hq, fun l hl => iH w rs hl p⟩⟩
    ·exact ⟨_, _, rfl, .inr ⟨hq, aS w (.tup hq rs) p⟩⟩
   ·exact p.elim
 ·exact p.elim
theorem Bu (h : X.K = K) : CallR X (.type "list") (fun xs H Q => ∃ p ys, xs = [.ref p] /\ (SqL K H p ys \/ SqT K H p ys) /\ ∀ l, H l = none -> Q (.ref l) (upd H l (.lst ys))) := by subst h; exact ox
theorem yb (h : X.K = K) : CallR X (.type "tuple") (fun xs H Q => ∃ p ys, xs = [.ref p] /\ ((SqL K H p ys /\ ∀ l, H l = none -> Q (.ref l) (upd H l (.tup ys))) \/ (SqT K H p ys /\ Q (.ref p) H))) := by subst h; exact nc
end
inductive Cl where
 | b (n : String) | o (x : Str)
 deriving DecidableEq
noncomputable def tyD (h : AH) : D -> Option Cl
 | .non => some (.b "NoneType")
 | .bl _ => some (.b "bool")
 | .int _ => some (.b "int")
 | .str _ => some (.b "str")
 | .tup _ => some (.b "tuple")
 | .exc x => some (.o x)
 | .ref n => match h[n]? with
  | some (.lst _) => some (.b "list")
  | some (.fz _) => some (.b "list")
  | some (.dct _) => some (.b "dict")
  | _ => none
 | _ => none
noncomputable def clD : D -> Option Cl
 | .ty n => some (.b n)
 | .glb x => some (.o x)
 | _ => none
noncomputable def ClV (mg : Str -> Option Value) : Cl -> Value -> Prop
 | .b n, v => v = .type n
 | .o x, v => ∃ a, v = .ref a /\ mg x = some (.ref a)
abbrev eL := List (Cl × Cl × Bool)
structure KitsOk (K : PySem.W.Frag) (mg : Str -> Option Value) (kt : eL) : Prop where
 one : ∀ p ∈ kt, ∀ t v, ClV mg p.1 t -> ClV mg p.2.1 v -> PySem.W.kitOne K t v = some p.2.2
 xc : ∀ p ∈ kt, ∀ x C, p.1 = .o x -> mg x = some (.ref C) -> XCls K C
noncomputable def kit (kt : eL) (t c : Cl) : Option Bool := (kt.find? fun p => decide (p.1 = t) && decide (p.2.1 = c)).map (·.2.2)
noncomputable def eY (kt : eL) (t : Cl) : List Cl -> Option Bool
 | [] => some false
 | c :: r => match kit kt t c with
  | some true => some true
  | some false => eY kt t r
  | none => none
noncomputable def nR (kt : eL) : Fn := fun ds h => match ds with
 | [d, c] => match tyD h d with
  | some t => match c with
   | .tup cs => match cs.mapM clD with
    | some (c0 :: cr) => match eY kt t (c0 :: cr), kit kt t c0 with
     | some b, some _ => .ok (.bl b) h
     | _, _ => .stuck
    | _ => .stuck
   | c => match clD c with
    | some cl => match kit kt t cl with
     | some b => .ok (.bl b) h
     | none => .stuck
    | none => .stuck
  | none => .stuck
 | _ => .stuck
theorem lX {kt : eL} {t c : Cl} {b : Bool} (e : kit kt t c = some b) : (t, c, b) ∈ kt := by
 unfold kit at e
 cases q : kt.find? (fun p => decide (p.1 = t) && decide (p.2.1 = c)) with
 | none => rw [q] at e; cases e
 |
  some p =>
  rw [q] at e
  have h1 := List.find?_some q
  have h2 := List.mem_of_find?_eq_some q
  simp only [Bool.and_eq_true, decide_eq_true_eq] at h1
  obtain ⟨p1, p2, p3⟩ := p
  have e3 : p3 = b := Option.some.inj e
  obtain ⟨rfl, rfl⟩ := h1
  subst e3
  exact h2
section
variable {K : PySem.W.Frag} {mg : Str -> Option Value} {X : Cx} {ρ : List Addr} {H : Hp} {h : AH}
theorem p6 {kt : eL} (ok : KitsOk K mg kt) (w : Wd K mg ρ h H) {d : D} {v : V} {t c : Cl} {b : Bool} (r : RelD K mg ρ H d v) (e : tyD h d = some t) (k : kit kt t c = some b) : ∃ tv, TyX K H v tv /\ ClV mg t tv := by
 cases r with
 | non => cases e; exact ⟨_, .of .non, rfl⟩
 | bl => cases e; exact ⟨_, .of (.bl _), rfl⟩
 | int => cases e; exact ⟨_, .of (.int _), rfl⟩
 | str => cases e; exact ⟨_, .of (.str _), rfl⟩
 | tup q rs => cases e; exact ⟨_, .sqT q, rfl⟩
 |
  exc m ex =>
  cases e
  exact ⟨_, .exc ex (ok.xc _ (lX k) _ _ rfl m), _, rfl, m⟩
 |
  ref ea =>
  unfold tyD at e
  dsimp only at e
  split at e
  ·rename_i e1; cases e; obtain ⟨vs, h1, h2⟩ := w.ob _ _ _ ea e1; exact ⟨_, .of (.lst h1), rfl⟩
  ·rename_i e1; cases e; obtain ⟨o, vs, h1, h2⟩ := w.ob _ _ _ ea e1; exact ⟨_, .of (.frz h1), rfl⟩
  ·rename_i e1; cases e; obtain ⟨ws, h1, _⟩ := w.ob _ _ _ ea e1; exact ⟨_, .of (.dK h1), rfl⟩
  ·cases e
 | _ => cases e
theorem qb {d : D} {v : V} {c : Cl} (r : RelD K mg ρ H d v) (e : clD d = some c) : ∃ cv, eB v = some cv /\ ClV mg c cv := by
 cases r with
 | ty n => cases e; exact ⟨_, rfl, rfl⟩
 | glb m => cases e; exact ⟨_, rfl, _, rfl, m⟩
 | _ => cases e
theorem
    uP : ∀ {ds : List D} {vs : List V} {cs : List Cl}, RelDs K mg ρ H ds vs -> ds.mapM clD = some cs -> ∃ cvs, vs.mapM eB = some cvs /\ Paired (ClV mg) cs cvs := by
 intro ds
 induction ds with
 |
  nil =>
  intro vs cs r e
  cases r
  have e' : some ([] : List Cl) = some cs := e
  cases e'; exact ⟨[], rfl, .nil⟩
 |
  cons d ds ih =>
  intro vs cs r e
  cases r with
  |
   cons r rr =>
   rw [List.mapM_cons] at e
   cases q : clD d with
   | none => rw [q] at e; cases e
   |
    some c =>
    rw [q] at e
    cases q2 : ds.mapM clD with
    | none => rw [q2] at e; cases e
    |
     some cs' =>
     rw [q2] at e
     have e' : some (c :: cs') = some cs := e
     cases e'
     obtain ⟨cv, h1, h2⟩ := qb r q
     obtain ⟨cvs, h3, h4⟩ := ih rr q2
     refine ⟨cv :: cvs, ?_, .cons h2 h4⟩
     rw [List.mapM_cons, h1, h3]; rfl
theorem
    sZ {kt : eL} (ok : KitsOk K mg kt) {t : Cl} {tv : Value} (ht : ClV mg t tv) : ∀ {cs : List Cl} {cvs : List Value} {b : Bool}, Paired (ClV mg) cs cvs -> eY kt t cs = some b -> PySem.W.kitAny K tv cvs = some b := by
 intro cs
 induction cs with
 |
  nil =>
  intro cvs b r e
  cases r
  cases e; rfl
 |
  cons c cs ih =>
  intro cvs b r e
  cases r with
  |
   cons r rr =>
   unfold eY at e
   unfold PySem.W.kitAny
   cases q : kit kt t c with
   | none => rw [q] at e; cases e
   |
    some z =>
    rw [q] at e
    rw [ok.one _ (lX q) _ _ ht r]
    cases z with
    | true => exact e
    | false => exact ih rr e
theorem td : CallR X (.builtin "isinstance") (fun xs H Q => ∃ x tp cs t vs b, xs = [x, .ref tp] /\ SqT X.K H tp cs /\ TyX X.K H x t /\ cs.mapM eB = some vs /\ PySem.W.kitAny X.K t vs = some b /\ Q (.bl b) H) := by
 intro pins s σ H xs us Q I r h
 obtain ⟨x, tp, cs, t, vs, b, rfl, ht, ty, hc, hk, q⟩ := h
 obtain ⟨u, w', rfl, rx, rc⟩ := nL r
 cases rc
 obtain ⟨its, rv, ⟨o, e, c, n, d⟩, _⟩ := I.tuple ht
 obtain rfl := m7 hc rv
 obtain ⟨Hh, Z, p, hne⟩ := qx I rx ty
 obtain ⟨oc, od, odt, osl⟩ := o
 have c' : oc = .type "tuple" := c
 have d' : odt = .seq its.toArray n := d
 subst c' d'
 exact PySem.W.kia_tup Z I.kIn p e hk hne fun tk => ⟨.bl b, H, I.tok _, rfl, q⟩
theorem cL (hK : X.K = K) : CallR X (.builtin "isinstance") (fun xs H Q => (∃ x c t v b, xs = [x, c] /\ TyX K H x t /\ eB c = some v /\ PySem.W.kitOne K t v = some b /\ Q (.bl b) H) \/
  (∃ x tp cs t vs b, xs = [x, .ref tp] /\ SqT K H tp cs /\ TyX K H x t /\ cs.mapM eB = some vs /\ PySem.W.kitAny K t vs = some b /\ Q (.bl b) H)) := by subst hK; exact vU.or td
theorem
    Bp {kt : eL} (ok : KitsOk K mg kt) : bG K mg (fun xs H Q => (∃ x c t v b, xs = [x, c] /\ TyX K H x t /\ eB c = some v /\ PySem.W.kitOne K t v = some b /\ Q (.bl b) H) \/
  (∃ x tp cs t vs b, xs = [x, .ref tp] /\ SqT K H tp cs /\ TyX K H x t /\ cs.mapM eB = some vs /\ PySem.W.kitAny K t vs = some b /\ Q (.bl b) H)) (nR kt) := fun ρ h H ds vs Q E w rs p => by
 unfold nR at p
 split at p
 ·cases
     rs with
  |
   cons r rs =>
   cases rs with
   |
    cons r2 rs =>
    cases rs
    split at p
    ·rename_i t e1
     split at p
     ·split
         at p
      ·rename_i cs c0 cr e2
       split at p
       ·rename_i b b' e3 e4
        cases r2 with
        |
         tup q rs2 =>
         obtain ⟨tv, h1, h2⟩ := p6 ok w r e1 e4
         obtain ⟨cvs, h3, h4⟩ := uP rs2 e2
         exact .inr ⟨_, _, _, tv, cvs, b, rfl, q, h1, h3, sZ ok h2 h4 e3, aS w (.bl _) p⟩
       ·exact p.elim
      ·exact p.elim
     ·split at p
      ·rename_i cl e2
       split at p
       ·rename_i b e3
        obtain ⟨tv, h1, h2⟩ := p6 ok w r e1 e3
        obtain ⟨cv, h3, h4⟩ := qb r2 e2
        exact .inl ⟨_, _, tv, cv, b, rfl, h1, h3, ok.one _ (lX e3) _ _ h2 h4, aS w (.bl _) p⟩
       ·exact p.elim
      ·exact p.elim
    ·exact p.elim
 ·exact p.elim
end
end L2
set_option Elab.async false
set_option linter.all false
set_option maxRecDepth 100000
namespace L2
open PySem PySem.Spec PyProof.Rows
noncomputable def MtD (K : PySem.W.Frag) (mg : Str -> Option Value) (r : V -> List V -> Hp -> VK -> Prop) (g : D -> List D -> AH -> R D) : Prop := ∀ ρ h H dx ds x vs Q E, Wd K mg ρ h H -> RelD K mg ρ H dx x -> RelDs K mg ρ H ds vs -> dg K mg ρ H Q E (g dx ds h) -> r x vs H Q
noncomputable def lL (h : AH) : D -> Bool
 | .ref n => (bD h n).isSome
 | _ => false
noncomputable def eM (g : D -> List D -> AH -> R D) (F : ME) (A : MA) : ME := fun ae h => (F ae h).bind fun x h1 => if lL h1 x = true then (A ae h1).bind fun ds h2 => g x ds h2 else .stuck
section
variable {K : PySem.W.Frag} {mg : Str -> Option Value} {X : Cx} {ES : St -> XK} {o e : Expr} {es : List Expr} {F G : ME} {A : MA} {pos : Pos}
theorem sH {ρ : List Addr} {H : Hp} {h : AH} {d : D} {v : V} (w : Wd K mg ρ h H) (r : RelD K mg ρ H d v) (q : lL h d = true) : tyV K "list" v H := by
 cases r with
 |
  ref ea =>
  obtain ⟨xs, e⟩ := Option.isSome_iff_exists.mp q
  obtain ⟨vs, h1, _⟩ := cH w ea e
  exact .inl ⟨rfl, vs, h1⟩
 | _ => cases q
theorem de_m {name : Str} {id : String} {apos cpos : Pos} {r : V -> List V -> Hp -> VK -> Prop} {g : D -> List D -> AH -> R D} (hK : X.K = K) (slot : Slot "list" name id) (hty : typeOf (.builtin id) = pure (.type "method_descriptor")) (hm : MtM X id r) (hd : MtD K mg r g) (ho : DE K mg X ES o F) (ha : DA K mg X ES (e :: es) A)
  (hbase : attributeBase o name X.env (eval o X.env) = eval o X.env := by rfl)
  (hfew : ((backTo cpos (starEach (e :: es) X.env)).all (fun x => !x.1) && (backToKw cpos (keywordEach [] X.env)).all (fun x => x.1.isSome)
   && decide ((e :: es).length + ([] : List Keyword).length + (if ([] : List Keyword).isEmpty then 0 else 1) < 30)) = true := by rfl)
  (hline : (apos.endLine == cpos.line) = true := by rfl) (hs : starEach (e :: es) X.env = (false, eval e X.env) :: starEach es X.env := by rfl) (hplain : (backTo cpos (starEach es X.env)).any (·.1) = false := by rfl) :
  DE K mg X ES (.Call (.Attribute o name apos) (e :: es) [] cpos) (eM g F A) := by
 subst hK
 refine PE.imp (Ed PySem.F.plainAttrs_list slot hty hm ho ha hbase hfew hline hs hplain) fun σ H Q q_ => q_.el fun ρ h ae w re p => ⟨ρ, h, ae, w, re, p.bind.imp fun dx h1 ρ1 H1 l1 w1 p1 x rx => ?_⟩
 split at p1
 ·rename_i hl
  exact ⟨sH w1 rx hl, ρ1, h1, ae, w1, re.mono l1, p1.bind.imp fun ds h2 ρ2 H2 l2 w2 p2 vs rs => hd ρ2 h2 H2 dx ds x vs Q _ w2 (rx.mono l2) rs p2⟩
 ·exact p1.elim
end
noncomputable def k8 (h : AH) (d : D) (f : Nat -> List D -> R D) : R D := match d with
 | .ref n => match h[n]? with
  | some (.lst xs) => f n xs
  | _ => .stuck
 | _ => .stuck
noncomputable def jI : D -> List D -> AH -> R D := fun x ds h => k8 h x fun n xs => match ds with
 | [d] => if xs.length < 16777216 then .ok .non (h.set n (.lst (xs ++ [d]))) else .stuck
 | _ => .stuck
section
variable {K : PySem.W.Frag} {mg : Str -> Option Value} {X : Cx} {ρ : List Addr} {H : Hp} {h : AH}
theorem
    tI {Q : VK} {E : XK} {d : D} {v : V} {f : Nat -> List D -> R D} (w : Wd K mg ρ h H) (r : RelD K mg ρ H d v) (p : dg K mg ρ H Q E (k8 h d f)) :
  ∃ n xs a vs, d = .ref n /\ h[n]? = some (.lst xs) /\ ρ[n]? = some a /\ v = .ref a /\ H a = some (.lst vs) /\ RelDs K mg ρ H xs vs /\ dg K mg ρ H Q E (f n xs) := by
 unfold k8 at p
 split at p
 ·cases r with
  |
   ref ea =>
   split at p
   ·rename_i n xs e
    obtain ⟨vs, h1, h2⟩ := w.ob _ _ _ ea e
    exact ⟨_, _, _, vs, rfl, e, ea, rfl, h1, h2, p⟩
   ·exact p.elim
 ·exact p.elim
theorem wu {Q : VK} {E : XK} {n : Nat} {a : Addr} {vs ws : List V} {ys : List D} {d : D} {v : V} (w : Wd K mg ρ h H) (ea : ρ[n]? = some a) (e : H a = some (.lst vs)) (rs : RelDs K mg ρ H ys ws) (rd : RelD K mg ρ H d v) (p : dg K mg ρ H Q E (.ok d (h.set n (.lst ys)))) : Q v (upd H a (.lst ws)) := by
 have l : Le ρ H ρ (upd H a (.lst ws)) := sq e nK
 exact p ρ _ l (w.write ea e nK ⟨ws, cz, rs.mono l⟩) v (rd.mono l)
theorem
    ub : MtD K mg mK jI := fun ρ h H dx ds x vs Q E w rx rs p => by
 obtain ⟨n, xs, a, us, rfl, e, ea, rfl, h1, h2, p⟩ := tI w rx p
 split at p
 ·cases rs with
  |
   cons r rs =>
   cases rs
   split at p
   ·rename_i hl
    exact ⟨a, us, _, rfl, rfl, h1, by rw [<- h2.len]; exact hl, wu w ea h1 (h2.append (.cons r .nil)) .non p⟩
   ·exact p.elim
 ·exact p.elim
inductive EqsR (K : PySem.W.Frag) (H : Hp) (y : V) (pd : PyData) : List V -> List Bool -> Prop where
 | nil : EqsR K H y pd [] []
 | cons {x : V} {px : PyData} {xs : List V} {bs : List Bool} (rx : Rep K H x px) (hx : SeqAt.shaped px = true) (r : EqsR K H y pd xs bs) : EqsR K H y pd (x :: xs) (PyData.eqv px pd :: bs)
end
noncomputable def wL (o i v : D) (h : AH) : R Unit := match o, i with
 | .ref n, .int k => match h[n]? with
  | some (.lst xs) => match ixN xs.length k with
   | some j => .ok () (h.set n (.lst (xs.set j v)))
   | none => .stuck
  | _ => .stuck
 | _, _ => .stuck
section
variable {K : PySem.W.Frag} {mg : Str -> Option Value} {X : Cx} {ES : St -> XK} {o i : Expr} {F G : ME} {pos : Pos}
theorem
    ye : rS K mg rm wL := fun ρ h H do_ di dv o i v Q E w ro ri rv p => by
 unfold wL at p
 split at p
 ·cases
     ro with
  |
   ref ea =>
   cases ri
   split at p
   ·rename_i n k xs e
    split at p
    ·rename_i j ej
     obtain ⟨vs, h1, h2⟩ := w.ob _ _ _ ea e
     have l : Le ρ H ρ (upd H _ (.lst (vs.set j v))) := sq h1 nK
     exact ⟨_, vs, _, j, rfl, rfl, h1, by rw [<- h2.len]; exact ej, p ρ _ l (w.write ea h1 nK ⟨_, cz, (h2.set rv j).mono l⟩)⟩
    ·exact p.elim
   ·exact p.elim
 ·exact p.elim
theorem zi {t : mj} {f : D -> D -> D -> AH -> R Unit} (ho : DE K mg X ES o F) (hi : DE K mg X ES i G) (hs : so X t) (hd : rS K mg t f)
  (ha : ∀ v, assign (.Subscript o i pos) X.env v = (do
   let ov <- holding [v] (eval o X.env)
   let iv <- holding [v, ov] (eval i X.env)
   standAt pos
   holding [v, ov, iv] (setItem ov iv v)
   release [v, ov, iv] []) := by intro _; rfl) : DG K mg X ES (.Subscript o i pos) (gS F G f) :=
 PG.imp (Bo ho hi hs ha) fun v σ H Q q_ => q_.el fun ρ h ae d w re rd p =>
  ⟨ρ, h, ae, w, re, p.bind.imp fun do_ h1 ρ1 H1 l1 w1 p1 o' ro => ⟨ρ1, h1, ae, w1, re.mono l1, p1.bind.imp fun di h2 ρ2 H2 l2 w2 p2 i' ri =>
   hd ρ2 h2 H2 do_ di d o' i' v _ _ w2 (ro.mono l2) ri ((rd.mono l1).mono l2) (p2.bind.imp fun _ h3 ρ3 H3 l3 w3 p3 => p3 ρ3 H3 Le.refl w3 σ (((re.mono l1).mono l2).mono l3))⟩⟩
end
noncomputable def cutD (xs : List D) (lo hi : Option Int) : List D := (xs.drop (HT.sIx xs.length 0 lo)).take (HT.sIx xs.length xs.length hi - HT.sIx xs.length 0 lo)
abbrev MO := AE -> AH -> R (Option Int)
noncomputable def rf : MO := fun _ h => .ok none h
noncomputable def qZ (F : ME) : MO := fun ae h => (F ae h).bind fun d h1 => match d with
 | .int i => .ok (some i) h1
 | _ => .stuck
noncomputable def gSl (x : D) (lo hi : Option Int) (h : AH) : R D := match x with
 | .tup xs => if HT.sIx xs.length 0 lo = 0 /\ HT.sIx xs.length xs.length hi = xs.length then .stuck else .ok (.tup (cutD xs lo hi)) h
 | .ref n => match bD h n with
  | some xs => .ok (.ref h.length) (h ++ [.lst (cutD xs lo hi)])
  | none => .stuck
 | _ => .stuck
noncomputable def eSl (F : ME) (L U : MO) : ME := fun ae h => (F ae h).bind fun x h1 => (L ae h1).bind fun lo h2 => (U ae h2).bind fun hi h3 => gSl x lo hi h3
section
variable {K : PySem.W.Frag} {mg : Str -> Option Value} {X : Cx} {ES : St -> XK} {e : Expr} {F : ME} {L U : MO} {lo hi : Option Expr} {pos p2 : Pos}
noncomputable def rdO (K : PySem.W.Frag) (mg : Str -> Option Value) (ES : St -> XK) (F : MO) : TO := fun σ H Q => ∃ ρ h ae, Wd K mg ρ h H /\ RelE K mg ρ H ae σ /\ PostG K mg ρ H (ES σ) (fun o _ ρ' H' => Q o H') (F ae h)
noncomputable def DO (K : PySem.W.Frag) (mg : Str -> Option Value) (X : Cx) (ES : St -> XK) (e : Option Expr) (F : MO) : Prop := PO X e (rdO K mg ES F)
theorem ya : DO K mg X ES none rf := PO.imp xE fun σ H Q ⟨ρ, h, ae, w, re, p⟩ => p ρ H Le.refl w
theorem yK (he : DE K mg X ES e F) : DO K mg X ES (some e) (qZ F) := PO.imp (xZ he) fun σ H Q ⟨ρ, h, ae, w, re, p⟩ => ⟨ρ, h, ae, w, re, p.bind.imp fun d h1 ρ1 H1 l1 w1 p1 v rv => by
 split at p1
 ·cases rv; exact ⟨_, rfl, p1 ρ1 H1 Le.refl w1⟩
 ·exact p1.elim⟩
theorem qc {ρ : List Addr} {H : Hp} {xs : List D} {vs : List V} (r : RelDs K mg ρ H xs vs) (lo hi : Option Int) : RelDs K mg ρ H (cutD xs lo hi) (jC vs lo hi) := by
 unfold cutD jC
 rw [<- r.len]
 exact (r.drop _).take _
theorem slK (h : X.K = K) : SlR X (fun x lo hi H Q => rSlL K x lo hi H Q \/ rSlT K x lo hi H Q) := by subst h; exact yG.or Az
theorem
    vL (hK : X.K = K) (he : DE K mg X ES e F) (hl : DO K mg X ES lo L) (hu : DO K mg X ES hi U) : DE K mg X ES (.Subscript e (.Slice lo hi none p2) pos) (eSl F L U) :=
 PE.imp (
     wk (slK hK) he hl hu) fun σ H Q q_ => q_.el fun ρ h ae w re p => ⟨ρ, h, ae, w, re, p.bind.imp fun d h1 ρ1 H1 l1 w1 p1 x rx => ⟨ρ1, h1, ae, w1, re.mono l1, p1.bind.imp fun lo h2 ρ2 H2 l2 w2 p2 => ⟨ρ2, h2, ae, w2, (re.mono l1).mono l2, p2.bind.imp fun hi h3 ρ3 H3 l3 w3 p3 => by
  have rx3 := (rx.mono l2).mono l3
  unfold gSl at p3
  split at p3
  ·split at p3
   ·exact p3.elim
   ·rename_i hn
    cases rx3 with
    | tup q rs => exact .inr ⟨_, _, rfl, q, by rw [<- rs.len]; exact hn, fun l hl => iH w3 (qc rs lo hi) hl p3⟩
  ·split at p3
   ·rename_i xs e1
    cases rx3 with
    |
     ref ea =>
     obtain ⟨vs, q, rs⟩ := cH w3 ea e1
     exact .inl ⟨_, _, rfl, q, fun l hl => gG w3 (qc rs lo hi) hl p3⟩
   ·exact p3.elim
  ·exact p3.elim⟩⟩⟩
end
noncomputable def oE (d : D) (h : AH) : R Bool := match d with
 | .non => .ok false h
 | .bl b => .ok b h
 | .int i => .ok (i != 0) h
 | d => match cS h d with
  | some xs => .ok (!xs.isEmpty) h
  | none => .stuck
noncomputable def tTr (F : ME) : MT := fun ae h => (F ae h).bind oE
section
variable {K : PySem.W.Frag} {mg : Str -> Option Value} {X : Cx} {ES : St -> XK} {a : Expr} {F : ME}
theorem uQ (hK : X.K = K) (ha : DE K mg X ES a F) (he : ∀ whole, isTrue a X.env whole = (do let v <- whole; standAt a.pos; holding [v] (truthy v)) := by intro _; rfl) : DT K mg X ES a (tTr F) := by
 subst hK
 refine PT.imp (v8 ha he) fun σ H Q q_ => q_.el fun ρ h ae w re p => ⟨ρ, h, ae, w, re, p.bind.imp fun d h1 ρ1 H1 l1 w1 p1 x rx => ?_⟩
 have items : ∀ {xs : List D}, cS h1 d = some xs -> Q (!xs.isEmpty) H1 -> ∃ k, wz X.K x H1 k /\ Q k H1 := fun {xs} e q => by
  obtain ⟨pa, vs, rfl, hq, rs⟩ := c8 w1 rx e
  have ee : xs.isEmpty = vs.isEmpty := by cases rs <;> rfl
  rw [ee] at q
  rcases hq with hq | hq
  ·exact ⟨_, .inl ⟨vs, hq, rfl⟩, q⟩
  ·exact ⟨_, .inr (.inl ⟨vs, hq, rfl⟩), q⟩
 unfold oE at p1
 split at p1
 ·cases rx; exact ⟨_, rfl, p1 ρ1 H1 Le.refl w1⟩
 ·cases rx; exact ⟨_, rfl, p1 ρ1 H1 Le.refl w1⟩
 ·cases rx; exact ⟨_, rfl, p1 ρ1 H1 Le.refl w1⟩
 ·split at p1
  ·rename_i xs e1; exact items e1 (p1 ρ1 H1 Le.refl w1)
  ·exact p1.elim
end
end L2
set_option Elab.async false
set_option linter.all false
set_option maxRecDepth 100000
namespace L2
open PySem PySem.Spec PyProof.Rows
abbrev cxT (X : Cx) (pn : List (Addr × Obj)) (xe : Value -> Shared -> Prop) : Cx := { X with pn := pn, xe := xe }
section
variable {X : Cx} {pins pins2 pn : List (Addr × Obj)} {σ : St} {H : Hp} {s : Shared} {xe : Value -> Shared -> Prop}
theorem Inv.toT (I : Inv X pins σ H s) : Inv (cxT X (X.pn ++ pins) xe) [] σ H s :=
 ⟨⟨I.ok.mod, I.ok.kind, I.ok.glob, I.ok.blt, I.ok.above, I.ok.inj, I.ok.has, I.ok.cab, I.ok.hd, I.ok.frames, I.ok.stk, I.ok.exf, I.ok.bs, I.ok.bsz, I.ok.noex, I.ok.exfs, I.ok.funs, I.ok.frf⟩, I.os, I.bare, I.base, I.loc, I.cell, I.free, I.freeC, fun p hp => I.pin p (by simpa using hp), I.hok, I.len⟩
theorem Inv.ofT (I : Inv (cxT X (X.pn ++ pins) xe) pins2 σ H s) : Inv X pins σ H s :=
 ⟨⟨I.ok.mod, I.ok.kind, I.ok.glob, I.ok.blt, I.ok.above, I.ok.inj, I.ok.has, I.ok.cab, I.ok.hd, I.ok.frames, I.ok.stk, I.ok.exf, I.ok.bs, I.ok.bsz, I.ok.noex, I.ok.exfs, I.ok.funs, I.ok.frf⟩, I.os, I.bare, I.base, I.loc, I.cell, I.free, I.freeC, fun p hp => I.pin p (List.mem_append_left _ hp), I.hok, I.len⟩
end
noncomputable def oV (mro : List Str) (i : Nat) (B U : MS) : MS := fun ae h => match B ae h with
 |
  .exc c ae1 h1 => if c ∈ mro then match U (ae1.set i (some (.exc c))) h1 with
   | .nx ae2 h2 => .nx (ae2.set i none) h2
   | .bk ae2 h2 => .bk (ae2.set i none) h2
   | .ct ae2 h2 => .ct (ae2.set i none) h2
   | .rt d h2 => .rt d h2
   | _ => .stuck
  else .stuck
 | r => r
noncomputable def kS (mro : List Str) (B U : MS) : MS := fun ae h => match B ae h with
 |
  .exc c ae1 h1 => if c ∈ mro then match U ae1 h1 with
   | .exc _ _ _ => .stuck
   | r => r
  else .stuck
 | r => r
section
variable {K : PySem.W.Frag} {mg : Str -> Option Value} {X : Cx} {ES : St -> XK} {x n : Str} {C : Addr} {i : Nat} {body suite : List Stmt} {b₀ : Stmt} {B U : MS} {np hpos pos : Pos} {mro : List Str}
theorem qA (hb : ∀ (pn : List (Addr × Obj)) (xe : Value -> Shared -> Prop) (ES' : St -> XK), dH (cxT X pn xe) ES' -> DSs K mg (cxT X pn xe) ES' body B) : uw X body (fun De E σ H => ∃ ρ h ae, Wd K mg ρ h H /\ RelE K mg ρ H ae σ /\ PostS K mg ρ H De E (B ae h)) := by
 intro pins s σ H De E I hh
 let xe : Value -> Shared -> Prop := fun e s' => ∃ pins2 σ1 H1 s1, Inv (cxT X (X.pn ++ pins) (fun _ _ => False)) pins2 σ1 H1 s1 /\ CX1 X.prog X.w X.stack H1 s1 (E σ1) e s'
 have hx : dH (cxT X (X.pn ++ pins) xe) E := fun pins2 σ1 H1 s1 e s' I1 q => ⟨pins2, σ1, H1, s1, ⟨⟨I1.ok.mod, I1.ok.kind, I1.ok.glob, I1.ok.blt, I1.ok.above, I1.ok.inj, I1.ok.has, I1.ok.cab, I1.ok.hd, I1.ok.frames, I1.ok.stk, I1.ok.exf, I1.ok.bs, I1.ok.bsz, I1.ok.noex, I1.ok.exfs, I1.ok.funs, I1.ok.frf⟩, I1.os, I1.bare, I1.base, I1.loc, I1.cell, I1.free, I1.freeC, I1.pin, I1.hok, I1.len⟩, q⟩
 refine wpAny_mono (hb (X.pn ++ pins) xe E hx [] s σ H De I.toT hh) (fun f s' q => ?_) fun e s' q => ?_
 ·cases f with
  | next => obtain ⟨σ1, H1, I1, q1⟩ := q; exact ⟨σ1, H1, I1.ofT, q1⟩
  | brk => obtain ⟨σ1, H1, I1, q1⟩ := q; exact ⟨σ1, H1, I1.ofT, q1⟩
  | cont => obtain ⟨σ1, H1, I1, q1⟩ := q; exact ⟨σ1, H1, I1.ofT, q1⟩
  | ret u => obtain ⟨v, σ1, H1, I1, r1, q1⟩ := q; exact ⟨v, σ1, H1, I1.ofT, r1, q1⟩
 ·obtain ⟨pins2, σ1, H1, s1, I1, q1⟩ := q
  exact ⟨σ1, H1, s1, I1.ofT, q1⟩
theorem BJ (T : X.Top) (hN : X.N.Nodup) (hi : X.N[i]? = some n) (hl : X.env.kindOf n = some .local) (hg : Gl X x) (hm : mg x = some (.ref C)) (hh : XHand K C) (hmro : ∀ c ∈ mro, ∀ Ce, mg c = some (.ref Ce) -> PySem.W.mroIn K Ce (.ref C) = some true)
  (hb : ∀ (pn : List (Addr × Obj)) (xe : Value -> Shared -> Prop) (ES' : St -> XK), dH (cxT X pn xe) ES' -> DSs K mg (cxT X pn xe) ES' body B) (hs : ∀ ea, DSs K mg (dE X ea) (fun _ => E0) (b₀ :: suite) U)
  (hK : X.K = K := by rfl) (hk : X.mg = mg := by rfl) (hd : (x == ("__debug__" : Str)) = false := by decide) : DS K mg X ES (.Try body [.ExceptHandler (some (.Name x np)) (some n) (b₀ :: suite) hpos] [] [] pos) (oV mro i B U) := by
 subst hK hk
 refine PS.imp (y0 T hN hi hl hg hm hh (qA hb) hs hd) fun De σ H q_ => q_.el fun ρ h ae w re p => ⟨ρ, h, ae, w, re, ?_⟩
 unfold oV at p
 cases q : B ae h with
 | nx a1 h1 => rw [q] at p; exact p
 | rt a1 h1 => rw [q] at p; exact p
 | bk a1 h1 => rw [q] at p; exact p
 | ct a1 h1 => rw [q] at p; exact p
 | stuck => rw [q] at p; exact p
 |
  exc c ae1 h1 =>
  rw [q] at p
  dsimp only at p
  split at p
  ·rename_i hc
   intro ρ1 H1 σ1 Ce l1 w1 re1 mc
   refine ⟨Ce, rfl, hmro c hc Ce mc, fun ea hn => ⟨ρ1, h1, ae1.set i (some (.exc c)), w1.tuple hn, (re1.mono (cx hn)).set i (.exc mc cz), ?_⟩⟩
   have p' := PostS.mono (l1.trans (cx (o := .ext (jx ea Ce)) hn)) p
   cases q2 : U (ae1.set i (some (.exc c))) h1 with
   | nx a2 h2 => rw [q2] at p'; exact fun ρ2 H2 σ2 l2 w2 re2 => p' ρ2 H2 _ l2 w2 (re2.unset i)
   | bk a2 h2 => rw [q2] at p'; exact fun ρ2 H2 σ2 l2 w2 re2 => p' ρ2 H2 _ l2 w2 (re2.unset i)
   | ct a2 h2 => rw [q2] at p'; exact fun ρ2 H2 σ2 l2 w2 re2 => p' ρ2 H2 _ l2 w2 (re2.unset i)
   | rt d h2 => rw [q2] at p'; exact p'
   | exc c2 a2 h2 => rw [q2] at p'; exact p'.elim
   | stuck => rw [q2] at p'; exact p'.elim
  ·exact p.elim
theorem xC (T : X.Top) (hg : Gl X x) (hm : mg x = some (.ref C)) (hh : XHand K C) (hmro : ∀ c ∈ mro, ∀ Ce, mg c = some (.ref Ce) -> PySem.W.mroIn K Ce (.ref C) = some true)
  (hb : ∀ (pn : List (Addr × Obj)) (xe : Value -> Shared -> Prop) (ES' : St -> XK), dH (cxT X pn xe) ES' -> DSs K mg (cxT X pn xe) ES' body B) (hs : ∀ ea, DSs K mg (dE X ea) (fun _ => E0) (b₀ :: suite) U)
  (hK : X.K = K := by rfl) (hk : X.mg = mg := by rfl) (hd : (x == ("__debug__" : Str)) = false := by decide) : DS K mg X ES (.Try body [.ExceptHandler (some (.Name x np)) none (b₀ :: suite) hpos] [] [] pos) (kS mro B U) := by
 subst hK hk
 refine PS.imp (yM T hg hm hh (qA hb) hs hd) fun De σ H q_ => q_.el fun ρ h ae w re p => ⟨ρ, h, ae, w, re, ?_⟩
 unfold kS at p
 cases q : B ae h with
 | nx a1 h1 => rw [q] at p; exact p
 | rt a1 h1 => rw [q] at p; exact p
 | bk a1 h1 => rw [q] at p; exact p
 | ct a1 h1 => rw [q] at p; exact p
 | stuck => rw [q] at p; exact p
 |
  exc c ae1 h1 =>
  rw [q] at p
  dsimp only at p
  split at p
  ·rename_i hc
   intro ρ1 H1 σ1 Ce l1 w1 re1 mc
   refine ⟨Ce, rfl, hmro c hc Ce mc, fun ea hn => ⟨ρ1, h1, ae1, w1.tuple hn, re1.mono (cx hn), ?_⟩⟩
   have p' := PostS.mono (l1.trans (cx (o := .ext (jx ea Ce)) hn)) p
   cases q2 : U ae1 h1 with
   | nx a2 h2 => rw [q2] at p'; exact p'
   | bk a2 h2 => rw [q2] at p'; exact p'
   | ct a2 h2 => rw [q2] at p'; exact p'
   | rt d h2 => rw [q2] at p'; exact p'
   | exc c2 a2 h2 => rw [q2] at p'; exact p'.elim
   | stuck => rw [q2] at p'; exact p'.elim
  ·exact p.elim
end
structure Script (h : AH) (d : D) (ns : List Int) : Prop where
 form : (∃ n, d = .ref n /\ h[n]? = some (.fz (ns.map D.int))) \/ d = .kl (ns.map D.int)
theorem je {K : PySem.W.Frag} {mg : Str -> Option Value} {ρ : List Addr} {H : Hp} : ∀ (ns : List Int), RelDs K mg ρ H (ns.map D.int) (ns.map V.int)
 | [] => .nil
 | _ :: r => .cons (.int _) (je r)
theorem vE {P : Program} {w : World} {K : PySem.W.Frag} {mg : Str -> Option Value} {base : Heap} {x y : Str} {k : Nat} {S : Fn} (C : Callee P w K mg base x k [y] (spD K mg 1 S))
  (hS : ∀ (d : D) (h : AH) (ns : List Int), ns.length <= 63 -> Script h d ns -> ∃ h', S [d] h = .ok (.bl true) h') : Callee P w K mg base x k [y] (fun vs H Q _ => ∃ (a : Addr) (ns : List Int), vs = [.ref a] /\ mB H /\ SqL K H a (ns.map V.int) /\ ns.length <= 63 /\ ∀ H', Q (.bl true) H') := by
 refine C.imp fun vs H Q E ⟨a, ns, e, hO, hq, hl, q⟩ => ?_
 subst e
 rcases hq with (hq | ⟨o, hq⟩) | hq
 ·rcases hO a with z | ⟨o, xs, z⟩ <;> rw [hq] at z <;> cases z
 ·obtain ⟨h', e⟩ := hS (.ref 0) [.fz (ns.map D.int)] ns hl ⟨.inl ⟨0, rfl, rfl⟩⟩
  refine ⟨[a], [.fz (ns.map D.int)], [.ref 0], ⟨rfl, by simp, fun n b ob e1 e2 => ?_⟩, .cons (.ref rfl) .nil, rfl, ?_⟩
  ·cases n with
   | zero => cases e1; cases e2; exact ⟨o, _, hq, je ns⟩
   | succ n => simp at e1
  ·rw [e]
   exact fun ρ' H' l' w' v rv => by cases rv; exact q H'
 ·obtain ⟨h', e⟩ := hS (.kl (ns.map D.int)) [] ns hl ⟨.inr rfl⟩
  refine ⟨[], [], [.kl (ns.map D.int)], ⟨rfl, by simp, fun n b ob e1 e2 => by simp at e1⟩, .cons (.kl hq (je ns)) .nil, rfl, ?_⟩
  rw [e]
  exact fun ρ' H' l' w' v rv => by cases rv; exact q H'
theorem walk_lawD {l : PySem.W.OpenLaw} {q : Program} {loose : List Str} {XP : (Str -> Option Value) -> Heap -> Prop} {YP : World -> Heap -> Prop} {d : DefRec} {K : Params -> PySem.W.Frag} {x : Str} {k : Nat} (hn : l.most = some 63) (hdf : d.params.defaults = []) (hr : Room k callerA)
  (hY : ∀ (w : World) (h : Heap), YP w h -> (K w.params).In h)
  (F : ∀ (w : World) (mg : Str -> Option Value) (h : Heap), (K w.params).In h -> h.Ns mainGlobals mg -> ∀ base : Heap, (K w.params).In base -> base.Ns mainGlobals mg -> Callee l.prog w (K w.params) mg base d.name k [x] (fun vs H Q _ => ∃ (a : Addr) (ns : List Int), vs = [.ref a] /\ mB H /\ SqL (K w.params) H a (ns.map V.int) /\ ns.length <= 63 /\ ∀ H', Q (.bl true) H'))
  (D : ∀ (w : World) (mg : Str -> Option Value) (h : Heap), (K w.params).In h -> h.Ns mainGlobals mg -> ∃ st, Def (K w.params) mg d.name st /\ ∀ (kV doc pm : Value) (an : Option Addr) (cdv ct : Value) (us : List Value), us.length = 1 -> bindArgs (PySem.W.fnOf d.name d.name (dG st) (cm st) (ax st) .none kV doc pm an cdv ct) ⟨us, []⟩ = pure ([x].zip us)) :
  PySem.W.WalkO q loose XP YP l.row.toRowW d [] (fun f vs => PySem.call f vs) := by
 refine L2.walk_of (n := 63) (k := k) (x := x) (CX := fun w => CX1 l.prog w) (sp := fun w => fun vs H Q _ => ∃ (a : Addr) (ns : List Int), vs = [.ref a] /\ mB H /\ SqL (K w.params) H a (ns.map V.int) /\ ns.length <= 63 /\ ∀ H', Q (.bl true) H') hn (by decide) hdf hr hY (fun w mg fa h KX G hmg => ?_) (fun _ _ a ns hl hO hS => ⟨a, ns, rfl, hO, hS, hl, fun _ => rfl⟩) fun _ _ _ _ _ ⟨_, _, _, _, _, _, _, _, _, z⟩ => z
 obtain ⟨st, Dd, hbind⟩ := D w mg h KX G
 obtain ⟨f, fd, Ff, m⟩ := Dd.ex
 have e := hmg.symm.trans m
 cases e
 obtain ⟨oc, od, kV, doc, pm, an, cdv, ct, osl, rfl, lk, hcd⟩ := Ff.ex
 refine ⟨_, fun s u => .of_eq (hbind kV doc pm an cdv ct [u] rfl), fun base kb nb => ?_⟩
 obtain ⟨f', fd', F', m', kp', b', oc', od', osl', lk'⟩ := (F w mg h KX G base kb nb).ex
 rw [m] at m'
 cases m'
 rw [lk] at lk'
 cases lk'
 exact F'
end L2
set_option Elab.async false
set_option linter.all false
set_option maxRecDepth 100000
namespace L2
open PySem PySem.Spec PyProof.Rows
mutual
inductive Bel (N : Nat) : D -> Prop where
 | non : Bel N .non
 | bl (b : Bool) : Bel N (.bl b)
 | int (i : Int) : Bel N (.int i)
 | str (x : Str) : Bel N (.str x)
 | ty (n : String) : Bel N (.ty n)
 | glb (x : Str) : Bel N (.glb x)
 | exc (x : Str) : Bel N (.exc x)
 | tup {ds : List D} (r : Bels N ds) : Bel N (.tup ds)
 | ref {n : Nat} (h : n < N) : Bel N (.ref n)
 | kl {ds : List D} (r : Bels N ds) : Bel N (.kl ds)
inductive Bels (N : Nat) : List D -> Prop where
 | nil : Bels N []
 | cons {d : D} {ds : List D} (r : Bel N d) (rr : Bels N ds) : Bels N (d :: ds)
end
noncomputable def vH (N : Nat) : Ob -> Prop
 | .lst xs => Bels N xs
 | .fz xs => Bels N xs
 | .dct kvs => Bels N (kvs.map (·.2))
 | _ => True
section
variable {K : PySem.W.Frag} {mg : Str -> Option Value} {ρ ρ1 ρ2 : List Addr} {H H1 : Hp} {h : AH}
end
inductive Rf (h : AH) : R D -> R D -> Prop where
 | stuck (r : R D) : Rf h r .stuck
 | eq (r : R D) : Rf h r r
 | val {d : D} {h2 g : AH} (hl : h2.length = h.length) (ho : ∀ (n : Nat) (o : Ob), h2[n]? = some o -> h[n]? = some o \/ vH h.length o) (hd : Bel h.length d) : Rf h (.ok d (h2 ++ g)) (.ok d h2)
 | exc {c : Str} {h2 g : AH} (hl : h2.length = h.length) (ho : ∀ (n : Nat) (o : Ob), h2[n]? = some o -> h[n]? = some o \/ vH h.length o) : Rf h (.exc c (h2 ++ g)) (.exc c h2)
 | lst {m : Nat} {h1 h2 : AH} {ys : List D} (hl : h2.length = h.length) (ho : ∀ (n : Nat) (o : Ob), h2[n]? = some o -> h[n]? = some o \/ vH h.length o) (hs : ∀ (n : Nat) (o : Ob), h2[n]? = some o -> h1[n]? = some o) (em : h1[m]? = some (.lst ys)) (hm : h.length <= m) (hy : Bels h.length ys) : Rf h (.ok (.ref m) h1) (.ok (.ref h.length) (h2 ++ [.lst ys]))
section
variable {K : PySem.W.Frag} {mg : Str -> Option Value} {ρ : List Addr} {H : Hp} {h : AH}
end
end L2
set_option Elab.async false
set_option linter.all false
set_option maxRecDepth 100000
namespace L2
open PySem PySem.Spec PyProof.Rows
noncomputable def rD : D -> D -> AH -> R D := gOr (gI fun i j => .int (i + j)) kM
noncomputable def ve : D -> D -> AH -> R D := gI fun i j => .int (i - j)
noncomputable def CMulA (i j : Int) : Prop := wF i j \/ CMul i j
noncomputable def vR : D -> D -> AH -> R D := gIc CMulA fun i j => .int (i * j)
noncomputable def uz : D -> D -> AH -> R D := gIc CDivB fun i j => .int (i.fdiv j)
noncomputable def uR : D -> D -> AH -> R D := gIc (fun _ j => j ≠ 0) fun i j => .int (i.fmod j)
noncomputable def vS : D -> D -> AH -> R D := gIc lV fun i j => .int (i ^ j.toNat)
noncomputable def gLt : D -> D -> AH -> R D := gI fun i j => .bl (decide (i < j))
noncomputable def gGt : D -> D -> AH -> R D := gI fun i j => .bl (decide (j < i))
noncomputable def gGe : D -> D -> AH -> R D := gI fun i j => .bl (decide (j <= i))
noncomputable def qM : D -> AH -> R D := fun x h => match x with
 | .int i => .ok (.int (-i)) h
 | _ => .stuck
noncomputable def nB (n : Nat) (S : Fn) (A : MA) : ME := eFn (fun ds h => if ds.length = n then S ds h else .stuck) A
section
variable {K : PySem.W.Frag} {mg : Str -> Option Value} {X : Cx}
theorem ba (h : X.K = K) : OpR X (binaryOp .Add) (fun x y H Q => rI0 (fun i j => .int (i + j)) x y H Q \/ (mw x y H Q \/ (jK K x y H Q \/ jT K x y H Q))) := AQ.or (catK h)
theorem BZ : OpD K mg (fun x y H Q => rI0 (fun i j => .int (i + j)) x y H Q \/ (mw x y H Q \/ (jK K x y H Q \/ jT K x y H Q))) rD := (jF fun _ _ _ _ => .int _).or yO
theorem Aw : OpD K mg (rI0 fun i j => .int (i - j)) ve := jF fun _ _ _ _ => .int _
theorem bR : OpR X (binaryOp .Mult) (rI CMulA fun i j => .int (i * j)) := by
 intro pins s σ H x y v u Q I rx ry h
 obtain ⟨i, j, e1, e2, hc, q⟩ := h
 rcases hc with hc | hc
 ·exact xK pins s σ H x y v u Q I rx ry ⟨i, j, e1, e2, hc, q⟩
 ·exact Bb pins s σ H x y v u Q I rx ry ⟨i, j, e1, e2, hc, q⟩
theorem BU : OpD K mg (rI CMulA fun i j => .int (i * j)) vR := nA fun _ _ _ _ => .int _
theorem zH : OpD K mg (rI CDivB fun i j => .int (i.fdiv j)) uz := nA fun _ _ _ _ => .int _
theorem Cs : OpD K mg (rI (fun _ j => j ≠ 0) fun i j => .int (i.fmod j)) uR := nA fun _ _ _ _ => .int _
theorem y7 : OpD K mg (rI lV fun i j => .int (i ^ j.toNat)) vS := nA fun _ _ _ _ => .int _
theorem Eb : OpD K mg (rI0 fun i j => .bl (decide (i < j))) gLt := jF fun _ _ _ _ => .bl _
theorem Dw : OpD K mg (rI0 fun i j => .bl (decide (j < i))) gGt := jF fun _ _ _ _ => .bl _
theorem Dg : OpD K mg (rI0 fun i j => .bl (decide (j <= i))) gGe := jF fun _ _ _ _ => .bl _
theorem BP : UnD K mg (rU fun i => .int (-i)) qM := fun ρ h H dx x Q E w rx p => by
 unfold qM at p
 split at p
 ·cases rx; exact ⟨_, rfl, aS w (.int _) p⟩
 ·exact p.elim
theorem yp : IpD K mg (ipI fun i j => i + j) (gI fun i j => .int (i + j)) := fun ρ h H dx dy x y Q E w rx ry p => by
 unfold gI at p
 split at p
 ·cases rx; cases ry; exact ⟨_, _, rfl, rfl, aS w (.int _) p⟩
 ·exact p.elim
variable {ES : St -> XK} {e : Expr} {es : List Expr} {A : MA} {pos : Pos}
theorem vd {x : Str} {p : Pos} {k n : Nat} {ps : List Str} {S : Fn} (C : Callee X.prog X.w X.K X.mg X.base x k ps (spD K mg n S)) (hr : Room k X.A) (hg : Gl X x) (hx : dH X ES) (ha : DA K mg X ES (e :: es) A)
  (hdb : (x == ("__debug__" : Str)) = false := by decide) (he : starEach (e :: es) X.env = (false, eval e X.env) :: starEach es X.env := by rfl) (hpl : (backTo pos (starEach es X.env)).any (·.1) = false := by rfl) :
  DE K mg X ES (.Call (.Name x p) (e :: es) [] pos) (nB n S A) := xo C hr hg hx ha hdb he hpl
end
section
variable {ae : AE} {h : AH}
@[simp] theorem gm {α β : Type} (a : α) (h : AH) (f : α -> AH -> R β) : (R.ok a h).bind f = f a h := rfl
end
end L2
set_option Elab.async false
set_option linter.all false
set_option maxRecDepth 100000
namespace L2
open PySem PySem.Spec PyProof.Rows
theorem m5 {pd : PyData} (h1 : pd.canLay0 = true) (h2 : pd.depth <= 64) : SeqAt.shaped pd = true := by
 unfold SeqAt.shaped
 rw [h1, decide_eq_true h2]; rfl
noncomputable def Sm (n : Nat) (x : Int) : Prop := x.natAbs < 2 ^ n
theorem Sm.mono {n m : Nat} {x : Int} (h : Sm n x) (l : n <= m) : Sm m x := Nat.lt_of_lt_of_le h (Nat.pow_le_pow_right (by omega) l)
theorem Sm.mul {n m : Nat} {x y : Int} (h : Sm n x) (k : Sm m y) : Sm (n + m) (x * y) := by
 unfold Sm at *
 rw [Int.natAbs_mul, Nat.pow_add]
 exact Nat.mul_lt_mul'' h k
theorem Sm.bits {n : Nat} {x : Int} (h : Sm n x) : Builtin.Int.intBits x <= n := intBits_le_iff.mpr h
theorem Sm.of_le {n : Nat} {x y : Int} (h : Sm n y) (l : x.natAbs <= y.natAbs) : Sm n x := Nat.lt_of_le_of_lt l h
theorem CMulA.left {x y : Int} (h : -(2 ^ 64) < x) (k : x < 2 ^ 64) : CMulA x y := .inr (.inl ⟨h, k⟩)
theorem CMulA.right {x y : Int} (h : -(2 ^ 64) < y) (k : y < 2 ^ 64) : CMulA x y := .inr (.inr ⟨h, k⟩)
theorem CDivB.of {x y : Int} (h0 : y ≠ 0) (h : Sm 8000 y) : CDivB x y := ⟨h0, h.bits⟩
structure Sz (n : Nat) (q : Rat) : Prop where
 top : Sm n q.num
 bot : Sm n (q.den : Int)
theorem tZ {a b : Int} (hb : b ≠ 0) : ((a : Rat) / (b : Rat)).num * b = a * ((a : Rat) / (b : Rat)).den := by
 have h2 := Rat.num_divInt_den ((a : Rat) / (b : Rat))
 have h3 : Rat.divInt ((a : Rat) / (b : Rat)).num (((a : Rat) / (b : Rat)).den : Int) = Rat.divInt a b := by rw [h2, Rat.divInt_eq_div]
 exact (Rat.divInt_eq_divInt_iff (by have := ((a : Rat) / (b : Rat)).den_nz; omega) hb).mp h3
theorem qp (q : Rat) : Int.gcd q.num q.den = 1 := by
 have := q.reduced
 exact this
theorem nN {a b : Int} (hb : b ≠ 0) : Fr.T a b = ((a : Rat) / (b : Rat)).num /\ Fr.B a b = (((a : Rat) / (b : Rat)).den : Int) := by
 refine Fr.uniq (Fr.B_pos hb) (by have := ((a : Rat) / (b : Rat)).den_pos; omega) (Fr.low hb) (qp _) ?_
 have h1 := Fr.cross (a := a) hb
 have h2 := tZ (a := a) hb
 generalize ((a : Rat) / (b : Rat)).num = n at *
 generalize (((a : Rat) / (b : Rat)).den : Int) = d at *
 generalize Fr.T a b = x at *
 generalize Fr.B a b = y at *
 have h3 : (x * d) * b = (n * y) * b := by
  calc x * d * b = (x * b) * d := by rw [Int.mul_right_comm]
   _ = a * y * d := by rw [h1]
   _ = (a * d) * y := by rw [Int.mul_right_comm]
   _ = n * b * y := by rw [h2]
   _ = n * y * b := by rw [Int.mul_right_comm]
 exact Int.eq_of_mul_eq_mul_right hb h3
theorem qL {a b : Int} (hb : b ≠ 0) : ((a : Rat) / (b : Rat)).num.natAbs <= a.natAbs := by
 have h := (nN (a := a) hb).1
 rw [<- h]
 have h1 := Fr.T_mul (a := a) hb
 have h2 := Fr.dv_ne (a := a) hb
 have h3 : (Fr.T a b).natAbs * (Fr.dv a b).natAbs = a.natAbs := by rw [<- Int.natAbs_mul, h1]
 have h4 : 1 <= (Fr.dv a b).natAbs := by omega
 calc (Fr.T a b).natAbs = (Fr.T a b).natAbs * 1 := by omega
  _ <= (Fr.T a b).natAbs * (Fr.dv a b).natAbs := Nat.mul_le_mul_left _ h4
  _ = a.natAbs := h3
theorem qS {a b : Int} (hb : b ≠ 0) : ((((a : Rat) / (b : Rat)).den : Int)).natAbs <= b.natAbs := by
 have h := (nN (a := a) hb).2
 rw [<- h]
 have h1 := Fr.B_mul (a := a) hb
 have h2 := Fr.dv_ne (a := a) hb
 have h3 : (Fr.B a b).natAbs * (Fr.dv a b).natAbs = b.natAbs := by rw [<- Int.natAbs_mul, h1]
 have h4 : 1 <= (Fr.dv a b).natAbs := by omega
 calc (Fr.B a b).natAbs = (Fr.B a b).natAbs * 1 := by omega
  _ <= (Fr.B a b).natAbs * (Fr.dv a b).natAbs := Nat.mul_le_mul_left _ h4
  _ = b.natAbs := h3
theorem Sz.div {n m : Nat} {a b : Int} (hb : b ≠ 0) (ha : Sm n a) (hb' : Sm m b) (k : Nat) (h1 : n <= k) (h2 : m <= k) : Sz k ((a : Rat) / (b : Rat)) :=
 ⟨(ha.of_le (qL hb)).mono h1, (hb'.of_le (qS hb)).mono h2⟩
theorem xO {q : Rat} : 0 < q.num ↔ 0 < q := by
 have h1 := Rat.num_nonneg (q := q)
 have h2 := Rat.num_eq_zero (q := q)
 constructor
 ·intro h
  refine Rat.lt_of_le_of_ne (h1.mp (by omega)) fun z => ?_
  have := h2.mpr z.symm
  omega
 ·intro h
  have h3 := h1.mpr (Rat.le_of_lt h)
  have h4 : q.num ≠ 0 := fun z => (Rat.ne_of_lt h) (h2.mp z).symm
  omega
section
variable {α β : Type} (ae : AE) (h : AH)
end
noncomputable def Vl (mg : Str -> Option Value) (c : Cl) (u : Value) : Prop := match c with
 | .b n => u = .type n
 | .o x => mg x = some u
theorem DX {K : PySem.W.Frag} {mg : Str -> Option Value} {c d : Cl} {tu cu t v : Value} {b : Bool} (e : PySem.W.kitOne K tu cu = some b) (hc : Vl mg c tu) (hd : Vl mg d cu) (h1 : ClV mg c t) (h2 : ClV mg d v) : PySem.W.kitOne K t v = some b := by
 have f : ∀ {c : Cl} {u t : Value}, Vl mg c u -> ClV mg c t -> u = t := by
  intro c u t h1 h2
  cases c with
  | b n => exact (show u = _ from h1).trans (show t = _ from h2).symm
  |
   o x =>
   obtain ⟨a, rfl, m⟩ := h2
   have h1' : mg x = some u := h1
   rw [m] at h1'
   exact (Option.some.inj h1').symm
 rw [<- f hc h1, <- f hd h2]
 exact e
theorem u7 {K : PySem.W.Frag} {mg : Str -> Option Value} : KitsOk K mg [] := ⟨fun p hp => (nomatch hp), fun p hp => (nomatch hp)⟩
theorem av {K : PySem.W.Frag} {mg : Str -> Option Value} {c d : Cl} {tu cu : Value} {b : Bool} {kt : eL} (e : PySem.W.kitOne K tu cu = some b) (hc : Vl mg c tu) (hd : Vl mg d cu) (hx : ∀ x C, c = .o x -> mg x = some (.ref C) -> XCls K C) (r : KitsOk K mg kt) : KitsOk K mg ((c, d, b) :: kt) :=
 ⟨fun p hp t v h1 h2 => by
  rcases List.mem_cons.mp hp with rfl | hp
  ·exact DX e hc hd h1 h2
  ·exact r.one p hp t v h1 h2, fun p hp x C e' m => by
  rcases List.mem_cons.mp hp with rfl | hp
  ·exact hx x C e' m
  ·exact r.xc p hp x C e' m⟩
theorem aV {K : PySem.W.Frag} {mg : Str -> Option Value} {n : String} : ∀ x C, Cl.b n = .o x -> mg x = some (.ref C) -> XCls K C := fun _ _ e => nomatch e
theorem lG {K : PySem.W.Frag} {mg : Str -> Option Value} {y : Str} {a : Addr} (m : mg y = some (.ref a)) (k : XCls K a) : ∀ x C, Cl.o y = .o x -> mg x = some (.ref C) -> XCls K C := fun x C e m' => by
 cases e
 rw [m] at m'
 cases m'
 exact k
theorem BY {K : PySem.W.Frag} {h : Heap} {mg : Str -> Option Value} {x : Str} {i : Int} {t : Tok} (X : K.In h) (G : h.Ns mainGlobals mg) (e : PySem.W.nsIn K mainGlobals x = some (some (.int i t))) : GC K mg x (.int i) :=
 ⟨_, .int i, PySem.W.mg_of X G e, ⟨t, rfl⟩, fun _ _ => .int i⟩
theorem Bt {K : PySem.W.Frag} {h : Heap} {mg : Str -> Option Value} {x : Str} {a : Addr} {dd : Option Addr} {its : Array Value} {n : Nat} {sl : Array (Option Value)} {vs : List V} {ds : List D} (X : K.In h) (G : h.Ns mainGlobals mg) (e : PySem.W.nsIn K mainGlobals x = some (some (.ref a)))
  (l : K.lookup a = some ⟨.type "tuple", dd, .seq its n, sl⟩) (hs : its.size <= sizeLine) (hv : Vals vs its.toList) (hr : ∀ ρ H, RelDs K mg ρ H ds vs) : GC K mg x (.tup ds) :=
 ⟨_, .ref a, PySem.W.mg_of X G e, rfl, fun ρ H => .tup (.inr ⟨_, its, n, l, rfl, rfl, hs, hv⟩) (hr ρ H)⟩
end L2
set_option Elab.async false
set_option linter.all false
set_option maxRecDepth 100000
namespace L2
open PySem PySem.Spec PyProof.Rows
theorem vc {P : Program} {w : World} {H : Hp} (h : Heap) (hb : sysModules < h.objs.size) : ObjOk P w H (h.push { cls := .type "dict", data := .dict #[] }) h.objs.size (.dK []) :=
 ⟨Nat.zero_le _, beq_eq_false_iff_ne.mpr (Ne.symm (Nat.ne_of_lt hb)), [], .nil, Heap.DictOf.new h⟩
theorem Inv.big {X : Cx} {pins : List (Addr × Obj)} {σ : St} {H : Hp} {s : Shared} (I : Inv X pins σ H s) : sysModules < s.heap.objs.size := by
 have h : mainGlobals < s.heap.objs.size := (I.mod.glob.keeps I.bk).lt
 exact Nat.lt_trans (by decide) h
noncomputable def Am : TE := fun _ H Q => ∀ p, H p = none -> Q (.ref p) (upd H p (.dK []))
noncomputable def eD0 : ME := fun _ h => .ok (.ref h.length) (h ++ [.dct []])
section
variable {K : PySem.W.Frag} {mg : Str -> Option Value} {X : Cx} {ES : St -> XK} {pos : Pos}
theorem v3 : PE X (.Dict [] [] pos) Am := fun pins s σ H Q I h =>
 wpAny_Dict_empty ⟨.ref s.heap.objs.size, _, I.laid (a := s.heap.objs.size) (o := .dK []) (t' := s.toks) (fun _ _ q => Heap.get?_push_of_some _ q) (Nat.le_refl _) (vc s.heap I.big), rfl, h _ (I.hok.fresh (Nat.le_refl _))⟩
theorem Dp : DE K mg X ES (.Dict [] [] pos) eD0 := PE.imp v3 fun σ H Q ⟨ρ, h, ae, w, re, q⟩ p hp => by
 have l : Le ρ H (ρ ++ [p]) (upd H p (.dK [])) := (cx hp).trans lW
 refine q (ρ ++ [p]) _ l (w.alloc hp ⟨[], cz, rfl, .nil⟩) _ (.ref ?_)
 rw [<- w.len, List.getElem?_append_right (Nat.le_refl _), Nat.sub_self]
 rfl
end
end L2
set_option Elab.async false
set_option linter.all false
set_option maxRecDepth 100000
set_option maxHeartbeats 1000000
namespace L2
open PySem PySem.Spec PyProof.Rows
variable {K : PySem.W.Frag} {mg : Str -> Option Value}
end L2
set_option Elab.async false
set_option linter.all false
set_option maxRecDepth 100000
namespace L2
open PySem PySem.Spec PyProof.Rows
noncomputable def ph (cs : List (Str × Nat × Fn)) (F : ME) (A : MA) : ME := fun ae h => (F ae h).bind fun d h1 => match d with
 | .glb x => (match cs.lookup x with
  | some c => nB c.1 c.2 A ae h1
  | none => .stuck)
 | _ => .stuck
section
variable {K : PySem.W.Frag} {mg : Str -> Option Value} {X : Cx} {ES : St -> XK} {e : Expr} {es : List Expr} {A : MA} {pos : Pos}
theorem kX {β : Type} {x : Str} {b : β} : ∀ {l : List (Str × β)}, l.lookup x = some b -> (x, b) ∈ l
 | [], h => by simp at h
 |
  (y, c) :: l, h => by
  rw [List.lookup_cons] at h
  split at h
  ·rename_i q
   have := eq_of_beq q
   subst this
   cases h
   exact List.mem_cons_self ..
  ·exact List.mem_cons_of_mem _ (kX h)
theorem
    vk {ef : Expr} {cs : List (Str × Nat × Fn)} {F : ME}
  (hc : ∀ c ∈ cs, ∃ k ps, Callee X.prog X.w X.K X.mg X.base c.1 k ps (spD K mg c.2.1 c.2.2) /\ Room k X.A)
  (hf : DE K mg X ES ef F) (hx : dH X ES) (ha : DA K mg X ES (e :: es) A) (hm : X.mg = mg := by rfl)
  (harm : eval (.Call ef (e :: es) [] pos) X.env = (do callWith pos (<- eval ef X.env) [] (backTo pos (starEach (e :: es) X.env)) (backToKw pos (keywordEach [] X.env))) := by rfl)
  (he : starEach (e :: es) X.env = (false, eval e X.env) :: starEach es X.env := by rfl) (hpl : (backTo pos (starEach es X.env)).any (·.1) = false := by rfl) :
  DE K mg X ES (.Call ef (e :: es) [] pos) (ph cs F A) := by
 subst hm
 intro pins s σ H Q I hh
 rw [harm]
 refine wpAny_bind ?_
 have rd
     : rdE K X.mg ES F σ H (fun v H1 => ∃ x c f, (x, c) ∈ cs /\ v = .ref f /\ X.mg x = some (.ref f) /\ rdA K X.mg ES A σ H1 (fun vs H2 => spD K X.mg c.1 c.2 vs H2 Q (ES σ))) := by
  obtain ⟨ρ, h, ae, w, re, p⟩ := hh
  refine ⟨ρ, h, ae, w, re, p.bind.imp fun d h1 ρ1 H1 l1 w1 p1 v rv => ?_⟩
  split at p1
  ·rename_i x
   split at p1
   ·rename_i c q
    cases rv with
    |
     glb m =>
     refine ⟨x, c, _, kX q, rfl, m, ρ1, h1, ae, w1, re.mono l1, p1.bind.imp fun ds h2 ρ2 H2 l2 w2 p2 vs rs => ?_⟩
     split at p2
     ·rename_i hl
      exact ⟨ρ2, h2, ds, w2, rs, hl, p2⟩
     ·exact p2.elim
   ·exact p1.elim
  ·exact p1.elim
 refine wpAny_mono (hf pins s σ H _ I rd) (fun u s1 ⟨v, H1, I1, rv, x, c, f, hmem, ev, m, ra⟩ => ?_) fun _ _ z => z
 subst ev
 obtain rfl : u = Value.ref f := rv
 obtain ⟨k, ps, C, hr⟩ := hc (x, c) hmem
 obtain ⟨f', fd, F', m', kp, bb, _⟩ := C.ex
 rw [m] at m'
 cases m'
 refine PySem.W.callWith_K (h₀ := X.base) I.ok.mod.kin kp (wpAny_mono (ha pos pins s1 σ H1 _ I1 ra) (fun us s2 ⟨vs, H2, I2, r, q⟩ => ⟨I2.kIn, ?_⟩) fun _ _ z => z) he hpl
 have hl : (us ++ []).length = ps.length := by rw [List.append_nil, <- r.length]; exact F'.len _ _ _ _ q
 refine wpAny_call (codeAny_mono (F'.run X.A X.stack s2 H2 ⟨us, []⟩ us vs Q (ES σ) hr I2.env0 (by simpa using bb s2 us I2.kIn hl) r q) fun r s' hq => ?_)
 cases r with
 | error ex => exact hx pins σ H2 s2 ex s' I2 hq
 |
  ok fl =>
  cases fl with
  | ret u => exact I2.after hq
  | next => exact False.elim hq
  | brk => exact False.elim hq
  | cont => exact False.elim hq
end
end L2
set_option Elab.async false
set_option linter.all false
set_option maxRecDepth 100000
namespace L2
open PySem PySem.Spec PyProof.Rows
section
variable {K : PySem.W.Frag} {mg : Str -> Option Value} {X : Cx} {ES : St -> XK} {e a b c o lo hi : Expr} {F G L U : ME} {pos p2 : Pos} {ρ : List Addr} {H : Hp} {h : AH} {ae : AE}
end
end L2
set_option Elab.async false
set_option linter.all false
set_option maxRecDepth 100000
namespace L3
open PySem PySem.Spec PyProof.Rows L2
set_option genInjectivity true in
inductive Val where
 | non | bl (b : Bool) | int (i : Int) | str (x : Str) | ty (n : String) | glb (x : Str) | exc (x : Str)
 | tup (xs : List Val) | lst (xs : List Val) | kl (xs : List Val) | dct (kvs : List (Key × Val)) | set (xs : List Int)
 deriving Inhabited
mutual
inductive Rd (P : Nat -> Prop) (h : AH) : D -> Val -> Prop where
 | non : Rd P h .non .non
 | bl (b : Bool) : Rd P h (.bl b) (.bl b)
 | int (i : Int) : Rd P h (.int i) (.int i)
 | str (x : Str) : Rd P h (.str x) (.str x)
 | ty (n : String) : Rd P h (.ty n) (.ty n)
 | glb (x : Str) : Rd P h (.glb x) (.glb x)
 | exc (x : Str) : Rd P h (.exc x) (.exc x)
 | tup {ds : List D} {vs : List Val} (r : Rds P h ds vs) : Rd P h (.tup ds) (.tup vs)
 | kl {ds : List D} {vs : List Val} (r : Rds P h ds vs) : Rd P h (.kl ds) (.kl vs)
 | cell {n : Nat} {o : Ob} {v : Val} (p : P n) (e : h[n]? = some o) (r : Rc P h o v) : Rd P h (.ref n) v
inductive Rc (P : Nat -> Prop) (h : AH) : Ob -> Val -> Prop where
 | lst {ds : List D} {vs : List Val} (r : Rds P h ds vs) : Rc P h (.lst ds) (.lst vs)
 | fz {ds : List D} {vs : List Val} (r : Rds P h ds vs) : Rc P h (.fz ds) (.kl vs)
 | dct {ws : List (Key × D)} {us : List (Key × Val)} (r : Rk P h ws us) : Rc P h (.dct ws) (.dct us)
 | set (xs : List Int) : Rc P h (.set xs) (.set xs)
inductive Rds (P : Nat -> Prop) (h : AH) : List D -> List Val -> Prop where
 | nil : Rds P h [] []
 | cons {d : D} {v : Val} {ds : List D} {vs : List Val} (r : Rd P h d v) (rr : Rds P h ds vs) : Rds P h (d :: ds) (v :: vs)
inductive Rk (P : Nat -> Prop) (h : AH) : List (Key × D) -> List (Key × Val) -> Prop where
 | nil : Rk P h [] []
 | cons {k : Key} {d : D} {v : Val} {ds : List (Key × D)} {vs : List (Key × Val)} (r : Rd P h d v) (rr : Rk P h ds vs) : Rk P h ((k, d) :: ds) ((k, v) :: vs)
end
section
variable {P P' : Nat -> Prop} {h h' : AH}
abbrev Mov (P P' : Nat -> Prop) (h h' : AH) : Prop := ∀ n o, P n -> h[n]? = some o -> P' n /\ h'[n]? = some o
theorem Rd.mono (m : Mov P P' h h') {d : D} {v : Val} (r : Rd P h d v) : Rd P' h' d v := @Rd.rec P h (fun d v _ => Rd P' h' d v) (fun o v _ => Rc P' h' o v) (fun ds vs _ => Rds P' h' ds vs) (fun ws us _ => Rk P' h' ws us) .non (fun b => .bl b) (fun i => .int i) (fun x => .str x) (fun n => .ty n) (fun x => .glb x) (fun x => .exc x) (fun _ ih => .tup ih) (fun _ ih => .kl ih) (fun p e _ ih => .cell (m _ _ p e).1 (m _ _ p e).2 ih) (fun _ ih => .lst ih) (fun _ ih => .fz ih) (fun _ ih => .dct ih) (fun xs => .set xs) .nil (fun _ _ a b => .cons a b) .nil (fun _ _ a b => .cons a b) d v r
theorem Rds.ind {M : List D -> List Val -> Prop} (h0 : M [] []) (h1 : ∀ {d v ds vs}, Rd P h d v -> Rds P h ds vs -> M ds vs -> M (d :: ds) (v :: vs)) {ds : List D} {vs : List Val} (r : Rds P h ds vs) : M ds vs := by
 induction ds generalizing vs with
 | nil => cases r; exact h0
 |
  cons d ds ih =>
  cases r with
  | cons r rr => exact h1 r rr (ih rr)
theorem Rk.ind {M : List (Key × D) -> List (Key × Val) -> Prop} (h0 : M [] []) (h1 : ∀ {k d v ds vs}, Rd P h d v -> Rk P h ds vs -> M ds vs -> M ((k, d) :: ds) ((k, v) :: vs)) {ds : List (Key × D)} {vs : List (Key × Val)} (r : Rk P h ds vs) : M ds vs := by
 induction ds generalizing vs with
 | nil => cases r; exact h0
 |
  cons d ds ih =>
  cases r with
  | cons r rr => exact h1 r rr (ih rr)
theorem Rds.mono (m : Mov P P' h h') {d : List D} {v : List Val} (r : Rds P h d v) : Rds P' h' d v := r.ind .nil fun r _ ih => .cons (r.mono m) ih
theorem Rk.mono (m : Mov P P' h h') {d : List (Key × D)} {v : List (Key × Val)} (r : Rk P h d v) : Rk P' h' d v := r.ind .nil fun r _ ih => .cons (r.mono m) ih
theorem Rc.mono (m : Mov P P' h h') {d : Ob} {v : Val} (r : Rc P h d v) : Rc P' h' d v := by
 cases r with
 | lst r => exact .lst (r.mono m)
 | fz r => exact .fz (r.mono m)
 | dct r => exact .dct (r.mono m)
 | set xs => exact .set xs
theorem Rds.len {ds : List D} {vs : List Val} (r : Rds P h ds vs) : ds.length = vs.length := r.ind (M := fun ds vs => ds.length = vs.length) rfl fun _ _ ih => congrArg (· + 1) ih
theorem Rds.get {ds : List D} {vs : List Val} {i : Nat} {v : Val} (r : Rds P h ds vs) (e : vs[i]? = some v) : ∃ d, ds[i]? = some d /\ Rd P h d v :=
 r.ind (M := fun ds vs => ∀ i, vs[i]? = some v -> ∃ d, ds[i]? = some d /\ Rd P h d v) (fun _ e => by rw [List.getElem?_nil] at e; cases e) (fun r _ ih i e => match i, e with
  | 0, e => by cases e; exact ⟨_, rfl, r⟩
  | i + 1, e => ih i e) i e
theorem Rds.append {ds es : List D} {vs ws : List Val} (r : Rds P h ds vs) (q : Rds P h es ws) : Rds P h (ds ++ es) (vs ++ ws) := r.ind (M := fun ds vs => Rds P h (ds ++ es) (vs ++ ws)) q fun r _ ih => .cons r ih
theorem Rds.take {ds : List D} {vs : List Val} (n : Nat) (r : Rds P h ds vs) : Rds P h (ds.take n) (vs.take n) :=
 r.ind (M := fun ds vs => ∀ n : Nat, Rds P h (ds.take n) (vs.take n)) (fun n => by rw [List.take_nil, List.take_nil]; exact .nil) (fun r _ ih n => by cases n with | zero => exact .nil | succ n => exact .cons r (ih n)) n
theorem Rds.drop {ds : List D} {vs : List Val} (n : Nat) (r : Rds P h ds vs) : Rds P h (ds.drop n) (vs.drop n) :=
 r.ind (M := fun ds vs => ∀ n : Nat, Rds P h (ds.drop n) (vs.drop n)) (fun n => by rw [List.drop_nil, List.drop_nil]; exact .nil) (fun r rr ih n => by cases n with | zero => exact .cons r rr | succ n => exact ih n) n
theorem Rds.set {d : D} {v : Val} (r : Rd P h d v) {ds : List D} {vs : List Val} (i : Nat) (q : Rds P h ds vs) : Rds P h (ds.set i d) (vs.set i v) :=
 q.ind (M := fun ds vs => ∀ i : Nat, Rds P h (ds.set i d) (vs.set i v)) (fun _ => .nil) (fun q qq ih i => by cases i with | zero => exact .cons r qq | succ i => exact .cons q (ih i)) i
noncomputable def ShR (P : Nat -> Prop) (h : AH) (d : D) (v : Val) : Prop := Rd P h d v \/ ∃ n o, d = .ref n /\ h[n]? = some o /\ Rc P h o v
inductive ShRs (P : Nat -> Prop) (h : AH) : List D -> List Val -> Prop where
 | nil : ShRs P h [] []
 | cons {d : D} {v : Val} {ds : List D} {vs : List Val} (r : ShR P h d v) (rr : ShRs P h ds vs) : ShRs P h (d :: ds) (v :: vs)
noncomputable def Val.items : Val -> Option (List Val)
 | .tup xs => some xs
 | .lst xs => some xs
 | .kl xs => some xs
 | _ => none
theorem ShR.int {d : D} {i : Int} (r : ShR P h d (.int i)) : d = .int i := by
 rcases r with r | ⟨n, o, rfl, e, r⟩
 ·cases r with
  | int => rfl
  | cell p e r => cases r
 ·cases r
theorem ShR.str {d : D} {i : Str} (r : ShR P h d (.str i)) : d = .str i := by
 rcases r with r | ⟨n, o, rfl, e, r⟩
 ·cases r with
  | str => rfl
  | cell p e r => cases r
 ·cases r
theorem ShR.bl {d : D} {i : Bool} (r : ShR P h d (.bl i)) : d = .bl i := by
 rcases r with r | ⟨n, o, rfl, e, r⟩
 ·cases r with
  | bl => rfl
  | cell p e r => cases r
 ·cases r
theorem ShR.non {d : D} (r : ShR P h d .non) : d = .non := by
 rcases r with r | ⟨n, o, rfl, e, r⟩
 ·cases r with
  | non => rfl
  | cell p e r => cases r
 ·cases r
theorem ShR.exc {d : D} {x : Str} (r : ShR P h d (.exc x)) : d = .exc x := by
 rcases r with r | ⟨n, o, rfl, e, r⟩
 ·cases r with
  | exc => rfl
  | cell p e r => cases r
 ·cases r
theorem ShR.ty {d : D} {x : String} (r : ShR P h d (.ty x)) : d = .ty x := by
 rcases r with r | ⟨n, o, rfl, e, r⟩
 ·cases r with
  | ty => rfl
  | cell p e r => cases r
 ·cases r
theorem ShR.glb {d : D} {x : Str} (r : ShR P h d (.glb x)) : d = .glb x := by
 rcases r with r | ⟨n, o, rfl, e, r⟩
 ·cases r with
  | glb => rfl
  | cell p e r => cases r
 ·cases r
theorem ShR.tup {d : D} {vs : List Val} (r : ShR P h d (.tup vs)) : ∃ ds, d = .tup ds /\ Rds P h ds vs := by
 rcases r with r | ⟨n, o, rfl, e, r⟩
 ·cases r with
  | tup r => exact ⟨_, rfl, r⟩
  | cell p e r => cases r
 ·cases r
theorem Rc.seq {n : Nat} {o : Ob} {vs : List Val} (e : h[n]? = some o) (r : Rc P h o (.lst vs)) : ∃ ds, h[n]? = some (.lst ds) /\ bD h n = some ds /\ Rds P h ds vs := by
 cases r with
 | lst r => exact ⟨_, e, by unfold bD; rw [e], r⟩
theorem ShR.lst {d : D} {vs : List Val} (r : ShR P h d (.lst vs)) : ∃ n ds, d = .ref n /\ h[n]? = some (.lst ds) /\ bD h n = some ds /\ Rds P h ds vs := by
 rcases r with r | ⟨n, o, rfl, e, r⟩
 ·cases r with
  |
   cell p e r =>
   obtain ⟨ds, q, r⟩ := Rc.seq e r
   exact ⟨_, ds, rfl, q, r⟩
 ·obtain ⟨ds, q, r⟩ := Rc.seq e r
  exact ⟨_, ds, rfl, q, r⟩
theorem ShR.kl {d : D} {vs : List Val} (r : ShR P h d (.kl vs)) : ∃ ds, Rds P h ds vs /\ (d = .kl ds \/ ∃ n, d = .ref n /\ bD h n = some ds) := by
 rcases r with r | ⟨n, o, rfl, e, r⟩
 ·cases r with
  | kl r => exact ⟨_, r, .inl rfl⟩
  | cell p e r => cases r with | fz r => exact ⟨_, r, .inr ⟨_, rfl, by unfold bD; rw [e]⟩⟩
 ·cases r with | fz r => exact ⟨_, r, .inr ⟨_, rfl, by unfold bD; rw [e]⟩⟩
theorem ShR.dct {d : D} {us : List (Key × Val)} (r : ShR P h d (.dct us)) : ∃ n ws, d = .ref n /\ h[n]? = some (.dct ws) /\ Rk P h ws us := by
 rcases r with r | ⟨n, o, rfl, e, r⟩
 ·cases r with
  | cell p e r => cases r with | dct r => exact ⟨_, _, rfl, e, r⟩
 ·cases r with | dct r => exact ⟨_, _, rfl, e, r⟩
theorem ShR.items {d : D} {v : Val} {vs : List Val} (r : ShR P h d v) (e : v.items = some vs) : ∃ ds, cS h d = some ds /\ Rds P h ds vs := by
 cases v with
 | tup xs => cases e; obtain ⟨ds, rfl, q⟩ := r.tup; exact ⟨ds, rfl, q⟩
 | lst xs => cases e; obtain ⟨n, ds, rfl, _, e, q⟩ := r.lst; exact ⟨ds, e, q⟩
 |
  kl xs =>
  cases e
  obtain ⟨ds, q, rfl | ⟨n, rfl, e⟩⟩ := r.kl
  ·exact ⟨ds, rfl, q⟩
  ·exact ⟨ds, e, q⟩
 | _ => cases e
end
inductive Sl where
 | no | sh (v : Val) | ow (v : Val) | mu (v : Val) | lo (v : Val) | lm (v : Val)
 deriving Inhabited
abbrev E3 := List Sl
noncomputable def Sl.val : Sl -> Option Val
 | .no => none
 | .sh v => some v
 | .ow v => some v
 | .mu v => some v
 | .lo v => some v
 | .lm v => some v
noncomputable def Sl.mt : Sl -> Bool
 | .ow _ => true
 | .mu _ => true
 | _ => false
noncomputable def Sl.lk : Sl -> Bool
 | .lo _ => true
 | .lm _ => true
 | _ => false
abbrev Ns := List (Option Nat)
noncomputable def Oc (X : Nat -> Prop) (ns : Ns) (n : Nat) : Prop := ¬ X n /\ some n ∉ ns
noncomputable def bT : Ob -> Prop
 | .fz _ => False
 | .any => False
 | _ => True
noncomputable def SlR (P : Nat -> Prop) (h0 : Nat) (n : Option (Option Nat)) (d : Option (Option D)) (h : AH) : Sl -> Prop
 | .no => n = some none
 | .sh v => n = some none /\ ∃ x, d = some (some x) /\ Rd P h x v
 | .ow v => ∃ m o, n = some (some m) /\ d = some (some (.ref m)) /\ h0 <= m /\ h[m]? = some o /\ bT o /\ Rc P h o v
 | .lo v => ∃ m o, n = some (some m) /\ d = some (some (.ref m)) /\ h0 <= m /\ h[m]? = some o /\ bT o /\ Rc P h o v
 | .mu v => ∃ m o, n = some (some m) /\ d = some (some (.ref m)) /\ h[m]? = some o /\ bT o /\ Rc P h o v
 | .lm v => ∃ m o, n = some (some m) /\ d = some (some (.ref m)) /\ h[m]? = some o /\ bT o /\ Rc P h o v
structure Sat (X : Nat -> Prop) (h0 : Nat) (ns : Ns) (e : E3) (ae : AE) (h : AH) : Prop where
 l1 : ae.length = e.length
 l2 : ns.length = e.length
 lh : h0 <= h.length
 xl : ∀ (n : Nat), X n -> n < h.length
 inj : ∀ (i j n : Nat), ns[i]? = some (some n) -> ns[j]? = some (some n) -> i = j
 nx : ∀ (i n : Nat), ns[i]? = some (some n) -> ¬ X n
 sl : ∀ (i : Nat) (s : Sl), e[i]? = some s -> SlR (Oc X ns) h0 (ns[i]?) (ae[i]?) h s
noncomputable def Mt (ns : Ns) (e : E3) (n : Nat) : Prop := ∃ (i : Nat) (s : Sl), ns[i]? = some (some n) /\ e[i]? = some s /\ s.mt = true
structure Stp (ns : Ns) (e : E3) (h : AH) (ns' : Ns) (e' : E3) (h' : AH) : Prop where
 len : h.length <= h'.length
 keep : ∀ (m : Nat) (o : Ob), h[m]? = some o -> ¬ Mt ns e m -> h'[m]? = some o
 nw : ∀ (i n : Nat), ns'[i]? = some (some n) -> ns[i]? = some (some n) \/ h.length <= n
 lk : ∀ (i : Nat) (s : Sl), e[i]? = some s -> s.lk = true -> e'[i]? = some s /\ ns'[i]? = ns[i]?
 lk' : ∀ (i : Nat) (s : Sl), e'[i]? = some s -> s.lk = true -> e[i]? = some s /\ ns'[i]? = ns[i]?
 mu : ∀ (i : Nat) (v : Val), e'[i]? = some (.mu v) -> ∃ u, e[i]? = some (.mu u) /\ ns'[i]? = ns[i]?
 mu' : ∀ (i : Nat) (u : Val), e[i]? = some (.mu u) -> ∃ v, e'[i]? = some (.mu v) /\ ns'[i]? = ns[i]?
section
variable {X : Nat -> Prop} {h0 : Nat} {ns ns' ns1 ns2 : Ns} {e e' e1 e2 : E3} {ae : AE} {h h' h1 h2 : AH}
theorem bp {n : Nat} : some n ∈ ns ↔ ∃ i : Nat, ns[i]? = some (some n) := by
 constructor
 ·intro m; exact List.getElem?_of_mem m
 ·rintro ⟨i, e⟩; exact List.mem_of_getElem? e
theorem Sat.own (S : Sat X h0 ns e ae h) {i n : Nat} (q : ns[i]? = some (some n)) : ∃ s v o, e[i]? = some s /\ (s.mt = true \/ s.lk = true) /\ s.val = some v /\ ae[i]? = some (some (.ref n)) /\ h[n]? = some o /\ bT o /\ Rc (Oc X ns) h o v := by
 have hi : i < e.length := by rw [<- S.l2]; exact (List.getElem?_eq_some_iff.mp q).1
 have hs := S.sl i e[i] (List.getElem?_eq_getElem hi)
 refine ⟨e[i], ?_⟩
 have he := List.getElem?_eq_getElem hi
 generalize e[i] = s at *
 rw [q] at hs
 cases s with
 | no => cases hs
 | sh v => cases hs.1
 | ow v => obtain ⟨m, o, e1, e2, _, e3, e4, e5⟩ := hs; cases e1; exact ⟨v, o, he, .inl rfl, rfl, e2, e3, e4, e5⟩
 | lo v => obtain ⟨m, o, e1, e2, _, e3, e4, e5⟩ := hs; cases e1; exact ⟨v, o, he, .inr rfl, rfl, e2, e3, e4, e5⟩
 | mu v => obtain ⟨m, o, e1, e2, e3, e4, e5⟩ := hs; cases e1; exact ⟨v, o, he, .inl rfl, rfl, e2, e3, e4, e5⟩
 | lm v => obtain ⟨m, o, e1, e2, e3, e4, e5⟩ := hs; cases e1; exact ⟨v, o, he, .inr rfl, rfl, e2, e3, e4, e5⟩
theorem Stp.refl : Stp ns e h ns e h := ⟨Nat.le_refl _, fun _ _ q _ => q, fun _ _ q => .inl q, fun _ _ q _ => ⟨q, rfl⟩, fun _ _ q _ => ⟨q, rfl⟩, fun _ _ q => ⟨_, q, rfl⟩, fun _ _ q => ⟨_, q, rfl⟩⟩
theorem
    Stp.trans (S : Sat X h0 ns e ae h) (a : Stp ns e h ns1 e1 h1) (b : Stp ns1 e1 h1 ns2 e2 h2) : Stp ns e h ns2 e2 h2 := by
 refine ⟨Nat.le_trans a.len b.len, fun m o q hm => ?_, fun i n q => ?_, fun i s q hl => ?_, fun i s q hl => ?_, fun i v q => ?_, fun i v q => ?_⟩
 ·refine b.keep m o (a.keep m o q hm) fun ⟨i, s, z1, z2, z3⟩ => hm ?_
  have hlt := (List.getElem?_eq_some_iff.mp q).1
  rcases a.nw i m z1 with z | z
  ·obtain ⟨s0, v, o', q1, q2, _⟩ := S.own z
   rcases q2 with q2 | q2
   ·exact ⟨i, s0, z, q1, q2⟩
   ·have := (a.lk i s0 q1 q2).1
    rw [z2] at this
    cases this
    exfalso
    cases s <;> first | cases z3; done | cases q2; done
  ·omega
 ·rcases b.nw i n q with z | z
  ·exact a.nw i n z
  ·exact .inr (Nat.le_trans a.len z)
 ·obtain ⟨q1, q2⟩ := a.lk i s q hl
  obtain ⟨q3, q4⟩ := b.lk i s q1 hl
  exact ⟨q3, q4.trans q2⟩
 ·obtain ⟨q1, q2⟩ := b.lk' i s q hl
  obtain ⟨q3, q4⟩ := a.lk' i s q1 hl
  exact ⟨q3, q2.trans q4⟩
 ·obtain ⟨u, q1, q2⟩ := b.mu i v q
  obtain ⟨u', q3, q4⟩ := a.mu i u q1
  exact ⟨u', q3, q2.trans q4⟩
 ·obtain ⟨u, q1, q2⟩ := a.mu' i v q
  obtain ⟨u', q3, q4⟩ := b.mu' i u q1
  exact ⟨u', q3, q4.trans q2⟩
theorem Stp.mov (S : Sat X h0 ns e ae h) (a : Stp ns e h ns1 e1 h1) : Mov (Oc X ns) (Oc X ns1) h h1 := fun n o p q => by
 have hlt := (List.getElem?_eq_some_iff.mp q).1
 have hm : ¬ Mt ns e n := fun ⟨i, s, z, _⟩ => p.2 (bp.mpr ⟨i, z⟩)
 refine ⟨⟨p.1, fun z => ?_⟩, a.keep n o q hm⟩
 obtain ⟨i, z⟩ := bp.mp z
 rcases a.nw i n z with z | z
 ·exact p.2 (bp.mpr ⟨i, z⟩)
 ·omega
theorem cQ {n : Nat} {o : Ob} (q : h[n]? = some o) : n < h.length := (List.getElem?_eq_some_iff.mp q).1
theorem j0 {n : Nat} {o : Ob} {g : AH} (q : h[n]? = some o) : (h ++ g)[n]? = some o := by rw [List.getElem?_append_left (cQ q)]; exact q
theorem x4 {o : Ob} : (h ++ [o])[h.length]? = some o := by rw [List.getElem?_append_right (Nat.le_refl _), Nat.sub_self]; rfl
theorem SlR.mono {P P' : Nat -> Prop} {n : Option (Option Nat)} {d : Option (Option D)} {s : Sl} (m : Mov P P' h h') (k : ∀ j o, n = some (some j) -> h[j]? = some o -> h'[j]? = some o) (r : SlR P h0 n d h s) : SlR P' h0 n d h' s := by
 cases s with
 | no => exact r
 | sh v => obtain ⟨q, x, q1, q2⟩ := r; exact ⟨q, x, q1, q2.mono m⟩
 | ow v => obtain ⟨j, o, q1, q2, q3, q4, q5, q6⟩ := r; exact ⟨j, o, q1, q2, q3, k j o q1 q4, q5, q6.mono m⟩
 | lo v => obtain ⟨j, o, q1, q2, q3, q4, q5, q6⟩ := r; exact ⟨j, o, q1, q2, q3, k j o q1 q4, q5, q6.mono m⟩
 | mu v => obtain ⟨j, o, q1, q2, q4, q5, q6⟩ := r; exact ⟨j, o, q1, q2, k j o q1 q4, q5, q6.mono m⟩
 | lm v => obtain ⟨j, o, q1, q2, q4, q5, q6⟩ := r; exact ⟨j, o, q1, q2, k j o q1 q4, q5, q6.mono m⟩
noncomputable def Xn (X : Nat -> Prop) (n : Nat) : Nat -> Prop := fun m => X m \/ m = n
theorem Sat.grow (S : Sat X h0 ns e ae h) (o : Ob) : Sat (Xn X h.length) h0 ns e ae (h ++ [o]) := by
 have mv : Mov (Oc X ns) (Oc (Xn X h.length) ns) h (h ++ [o]) := fun n o' p q => ⟨⟨fun z => by
  rcases z with z | z
  ·exact p.1 z
  ·have := cQ q; omega, p.2⟩, j0 q⟩
 refine ⟨S.l1, S.l2, by rw [List.length_append]; have := S.lh; omega, fun n z => ?_, S.inj, fun i n q z => ?_, fun i s q => (S.sl i s q).mono mv fun j o' _ q' => j0 q'⟩
 ·rw [List.length_append]
  rcases z with z | z
  ·have := S.xl n z; omega
  ·subst z; show h.length < h.length + 1; omega
 ·rcases z with z | z
  ·exact S.nx i n q z
  ·obtain ⟨_, _, _, _, _, _, _, q', _⟩ := S.own q
   have := cQ q'; omega
theorem Sat.weak {Y : Nat -> Prop} (S : Sat Y h0 ns e ae h) (hx : ∀ n, X n -> Y n) : Sat X h0 ns e ae h :=
 ⟨S.l1, S.l2, S.lh, fun n z => S.xl n (hx n z), S.inj, fun i n q z => S.nx i n q (hx n z), fun i s q => (S.sl i s q).mono (fun n o p q => ⟨⟨fun z => p.1 (hx n z), p.2⟩, q⟩) fun _ _ _ q => q⟩
theorem Stp.grow (o : Ob) : Stp ns e h ns e (h ++ [o]) := ⟨by rw [List.length_append]; omega, fun _ _ q _ => j0 q, fun _ _ q => .inl q, fun _ _ q _ => ⟨q, rfl⟩, fun _ _ q _ => ⟨q, rfl⟩, fun _ _ q => ⟨_, q, rfl⟩, fun _ _ q => ⟨_, q, rfl⟩⟩
end
end L3
set_option Elab.async false
set_option linter.all false
set_option maxRecDepth 100000
namespace L3
open PySem PySem.Spec PyProof.Rows L2
section
variable {X : Nat -> Prop} {h0 : Nat} {ns ns' : Ns} {e e' : E3} {ae : AE} {h h' hs : AH}
theorem bF {α : Type} {l : List α} {i j : Nat} {a b : α} (hi : i < l.length) (q : (l.set i a)[j]? = some b) : (j = i /\ b = a) \/ (j ≠ i /\ l[j]? = some b) := by
 rw [List.getElem?_set] at q
 by_cases z : i = j
 ·subst z
  rw [if_pos rfl, if_pos hi] at q
  exact .inl ⟨rfl, (Option.some.inj q).symm⟩
 ·rw [if_neg z] at q
  exact .inr ⟨fun y => z y.symm, q⟩
theorem bS {α : Type} {l : List α} {i : Nat} {a : α} (hi : i < l.length) : (l.set i a)[i]? = some a := by rw [List.getElem?_set, if_pos rfl, if_pos hi]
theorem bM {α : Type} {l : List α} {i j : Nat} {a : α} (hi : j ≠ i) : (l.set i a)[j]? = l[j]? := by rw [List.getElem?_set_ne (fun y => hi y.symm)]
theorem eV {i n : Nat} (p : Oc X ns n) : Oc X (ns.set i none) n := ⟨p.1, fun z => by
 rcases List.mem_or_eq_of_mem_set z with z | z
 ·exact p.2 z
 ·cases z⟩
theorem Sat.putN (S : Sat X h0 ns e ae h) {i : Nat} (hi : i < e.length) {s : Sl} {d : Option D} (q : SlR (Oc X (ns.set i none)) h0 (some none) (some d) h s) : Sat X h0 (ns.set i none) (e.set i s) (ae.set i d) h := by
 have hn : i < ns.length := by rw [S.l2]; exact hi
 have ha : i < ae.length := by rw [S.l1]; exact hi
 refine ⟨by rw [List.length_set, List.length_set]; exact S.l1, by rw [List.length_set, List.length_set]; exact S.l2, S.lh, S.xl, fun j k n q1 q2 => ?_, fun j n q1 => ?_, fun j s' q1 => ?_⟩
 ·rcases bF hn q1 with ⟨_, z⟩ | ⟨_, z⟩
  ·cases z
  rcases bF hn q2 with ⟨_, y⟩ | ⟨_, y⟩
  ·cases y
  exact S.inj j k n z y
 ·rcases bF hn q1 with ⟨_, z⟩ | ⟨_, z⟩
  ·cases z
  exact S.nx j n z
 ·rcases bF hi q1 with ⟨rfl, rfl⟩ | ⟨z, q2⟩
  ·rw [bS hn, bS ha]; exact q
  ·rw [bM z, bM z]
   exact (S.sl j s' q2).mono (fun n o p q => ⟨eV p, q⟩) fun _ _ _ q => q
theorem Sat.putN' (S : Sat X h0 ns e ae h) {i : Nat} (hi : i < e.length) {s : Sl} (q : SlR (Oc X (ns.set i none)) h0 (some none) (ae[i]?) h s) : Sat X h0 (ns.set i none) (e.set i s) ae h := by
 have ha : i < ae.length := by rw [S.l1]; exact hi
 have := S.putN hi (s := s) (d := ae[i]) (by rw [List.getElem?_eq_getElem ha] at q; exact q)
 rw [List.set_getElem_self] at this
 exact this
theorem Sat.putO {n : Nat} {o : Ob} {v : Val} (S : Sat (Xn X n) h0 ns e ae h) (hx : ¬ X n) {i : Nat} (hi : i < e.length) (hn0 : h0 <= n) (eo : h[n]? = some o) (hf : bT o) (r : Rc (Oc (Xn X n) ns) h o v) : Sat X h0 (ns.set i (some n)) (e.set i (.ow v)) (ae.set i (some (.ref n))) h := by
 have hn : i < ns.length := by rw [S.l2]; exact hi
 have ha : i < ae.length := by rw [S.l1]; exact hi
 have nn : ∀ j : Nat, ns[j]? ≠ some (some n) := fun j q => S.nx j n q (.inr rfl)
 have mv : Mov (Oc (Xn X n) ns) (Oc X (ns.set i (some n))) h h := fun m o' p q => ⟨⟨fun z => p.1 (.inl z), fun z => by
  rcases List.mem_or_eq_of_mem_set z with z | z
  ·exact p.2 z
  ·cases z; exact p.1 (.inr rfl)⟩, q⟩
 refine ⟨by rw [List.length_set, List.length_set]; exact S.l1, by rw [List.length_set, List.length_set]; exact S.l2, S.lh, fun m z => S.xl m (.inl z), fun j k m q1 q2 => ?_, fun j m q1 z => ?_, fun j s' q1 => ?_⟩
 ·rcases bF hn q1 with ⟨z1, z⟩ | ⟨z1, z⟩ <;> rcases bF hn q2 with ⟨y1, y⟩ | ⟨y1, y⟩
  ·rw [z1, y1]
  ·cases z; exact absurd y (nn k)
  ·cases y; exact absurd z (nn j)
  ·exact S.inj j k m z y
 ·rcases bF hn q1 with ⟨_, y⟩ | ⟨_, y⟩
  ·cases y; exact hx z
  ·exact S.nx j m y (.inl z)
 ·rcases bF hi q1 with ⟨rfl, rfl⟩ | ⟨z, q2⟩
  ·rw [bS hn, bS ha]; exact ⟨n, o, rfl, rfl, hn0, eo, hf, r.mono mv⟩
  ·rw [bM z, bM z]
   exact (S.sl j s' q2).mono mv fun _ _ _ q => q
noncomputable def Sl.pl : Sl -> Bool
 | .no => true
 | .sh _ => true
 | .ow _ => true
 | _ => false
theorem Stp.put {ns0 : Ns} {e0 : E3} (A : Stp ns0 e0 hs ns e h) {i : Nat} (hi : i < e.length) {x : Option Nat} (hx : ∀ n, x = some n -> hs.length <= n) {s s0 : Sl} (q0 : e[i]? = some s0) (p0 : s0.pl = true) (p : s.pl = true) (l2 : ns.length = e.length) : Stp ns0 e0 hs (ns.set i x) (e.set i s) h := by
 have hn : i < ns.length := by rw [l2]; exact hi
 refine ⟨A.len, A.keep, fun j n q => ?_, fun j s' q hl => ?_, fun j s' q hl => ?_, fun j v q => ?_, fun j v q => ?_⟩
 ·rcases bF hn q with ⟨_, z⟩ | ⟨_, z⟩
  ·exact .inr (hx n z.symm)
  ·exact A.nw j n z
 ·obtain ⟨q1, q2⟩ := A.lk j s' q hl
  have z : j ≠ i := fun z => by
   subst z
   rw [q0] at q1; cases q1
   cases s0 <;> first | cases p0; done | cases hl; done
  rw [bM z, bM z]; exact ⟨q1, q2⟩
 ·rcases bF hi q with ⟨_, z⟩ | ⟨z, q1⟩
  ·subst z; cases s' <;> first | cases p; done | cases hl; done
  ·rw [bM z]; exact A.lk' j s' q1 hl
 ·rcases bF hi q with ⟨_, z⟩ | ⟨z, q1⟩
  ·subst z; cases p
  ·rw [bM z]; exact A.mu j v q1
 ·obtain ⟨u, q1, q2⟩ := A.mu' j v q
  have z : j ≠ i := fun z => by
   subst z
   rw [q0] at q1; cases q1; cases p0
  exact ⟨u, by rw [bM z]; exact q1, by rw [bM z]; exact q2⟩
end
inductive Tm where
 | val (v : Val) | new (v : Val) | bor (i : Nat)
inductive R3 (α : Type) where
 | ok (a : α) (e : E3) | exc (c : Str) (e : E3) | stuck
noncomputable def R3.bind {α β : Type} (r : R3 α) (f : α -> E3 -> R3 β) : R3 β := match r with
 | .ok a e => f a e
 | .exc c e => .exc c e
 | .stuck => .stuck
abbrev ME3 := E3 -> R3 Tm
abbrev MT3 := E3 -> R3 Bool
abbrev MA3 := E3 -> R3 (List Tm)
noncomputable def Po {δ α : Type} (X : Nat -> Prop) (h0 : Nat) (ns : Ns) (e : E3) (ae : AE) (h : AH) (rel : Ns -> E3 -> AH -> δ -> α -> Prop) (r2 : R δ) : R3 α -> Prop
 | .stuck => True
 | .ok t e' => ∃ d h' ns', r2 = .ok d h' /\ Stp ns e h ns' e' h' /\ Sat X h0 ns' e' ae h' /\ rel ns' e' h' d t
 | .exc c e' => ∃ h' ns', r2 = .exc c h' /\ Stp ns e h ns' e' h' /\ Sat X h0 ns' e' ae h'
noncomputable def relE (X : Nat -> Prop) (h0 L : Nat) (ae : AE) (ns : Ns) (e : E3) (h : AH) (d : D) : Tm -> Prop
 | .val v => Rd (Oc X ns) h d v
 | .new v => ∃ n o, d = .ref n /\ L <= n /\ ¬ X n /\ h[n]? = some o /\ bT o /\ Sat (Xn X n) h0 ns e ae h /\ Rc (Oc (Xn X n) ns) h o v
 | .bor i => ae[i]? = some (some d)
noncomputable def relT (_ : Ns) (_ : E3) (_ : AH) (b c : Bool) : Prop := b = c
inductive TsR (X : Nat -> Prop) (ns : Ns) (ae : AE) (h : AH) : List D -> List Tm -> Prop where
 | nil : TsR X ns ae h [] []
 | val {d : D} {v : Val} {ds : List D} {ts : List Tm} (r : Rd (Oc X ns) h d v) (rr : TsR X ns ae h ds ts) : TsR X ns ae h (d :: ds) (.val v :: ts)
 | bor {d : D} {i : Nat} {ds : List D} {ts : List Tm} (q : ae[i]? = some (some d)) (rr : TsR X ns ae h ds ts) : TsR X ns ae h (d :: ds) (.bor i :: ts)
noncomputable def relA (X : Nat -> Prop) (ae : AE) (ns : Ns) (_ : E3) (h : AH) (ds : List D) (ts : List Tm) : Prop := TsR X ns ae h ds ts
noncomputable def RE (F : ME) (G : ME3) : Prop := ∀ X h0 L ns e ae h, Sat X h0 ns e ae h -> L <= h.length -> Po X h0 ns e ae h (relE X h0 L ae) (F ae h) (G e)
noncomputable def RT (F : MT) (G : MT3) : Prop := ∀ X h0 ns e ae h, Sat X h0 ns e ae h -> Po X h0 ns e ae h relT (F ae h) (G e)
noncomputable def RA (F : MA) (G : MA3) : Prop := ∀ X h0 ns e ae h, Sat X h0 ns e ae h -> Po X h0 ns e ae h (relA X ae) (F ae h) (G e)
section
variable {X : Nat -> Prop} {h0 L : Nat} {ns ns' : Ns} {e e' : E3} {ae : AE} {h h' : AH}
theorem Po.bind {δ δ' α α' : Type} {rel : Ns -> E3 -> AH -> δ -> α -> Prop} {rel' : Ns -> E3 -> AH -> δ' -> α' -> Prop} {r2 : R δ} {r3 : R3 α} {f2 : δ -> AH -> R δ'} {f3 : α -> E3 -> R3 α'} (S : Sat X h0 ns e ae h) (p : Po X h0 ns e ae h rel r2 r3)
  (k : ∀ d t h' ns' e', Stp ns e h ns' e' h' -> Sat X h0 ns' e' ae h' -> rel ns' e' h' d t -> Po X h0 ns' e' ae h' rel' (f2 d h') (f3 t e')) : Po X h0 ns e ae h rel' (r2.bind f2) (r3.bind f3) := by
 cases r3 with
 | stuck => trivial
 | exc c e' => obtain ⟨h', ns', q, q1, q2⟩ := p; subst q; exact ⟨h', ns', rfl, q1, q2⟩
 |
  ok t e' =>
  obtain ⟨d, h', ns', q, q1, q2, q3⟩ := p
  subst q
  have := k d t h' ns' e' q1 q2 q3
  show Po X h0 ns e ae h rel' (f2 d h') (f3 t e')
  generalize f3 t e' = r at *
  cases r with
  | stuck => trivial
  | exc c e2 => obtain ⟨h2, ns2, y, y1, y2⟩ := this; exact ⟨h2, ns2, y, q1.trans S y1, y2⟩
  | ok t2 e2 => obtain ⟨d2, h2, ns2, y, y1, y2, y3⟩ := this; exact ⟨d2, h2, ns2, y, q1.trans S y1, y2, y3⟩
theorem Po.ret {δ α : Type} {rel : Ns -> E3 -> AH -> δ -> α -> Prop} {d : δ} {t : α} (S : Sat X h0 ns e ae h) (q : rel ns e h d t) : Po X h0 ns e ae h rel (.ok d h) (.ok t e) := ⟨d, h, ns, rfl, .refl, S, q⟩
theorem TsR.stp {ds : List D} {ts : List Tm} (S : Sat X h0 ns e ae h) (a : Stp ns e h ns' e' h') (r : TsR X ns ae h ds ts) : TsR X ns' ae h' ds ts := by
 induction r with
 | nil => exact .nil
 | val r _ ih => exact .val (r.mono (a.mov S)) ih
 | bor q _ ih => exact .bor q ih
noncomputable def rs (e : E3) : Tm -> Option Val
 | .val v => some v
 | .new v => some v
 | .bor i => (e[i]?).bind Sl.val
theorem Sat.bor (S : Sat X h0 ns e ae h) {i : Nat} {d : D} {v : Val} (q : ae[i]? = some (some d)) (r : (e[i]?).bind Sl.val = some v) : ShR (Oc X ns) h d v := by
 cases z : e[i]? with
 | none => rw [z] at r; cases r
 |
  some s =>
  rw [z] at r
  have y := S.sl i s z
  rw [q] at y
  have r' : s.val = some v := r
  cases s with
  | no => cases r'
  | sh u => cases r'; obtain ⟨_, x, e1, e2⟩ := y; cases e1; exact .inl e2
  | ow u => cases r'; obtain ⟨m, o, _, e2, _, e3, _, e4⟩ := y; cases e2; exact .inr ⟨m, o, rfl, e3, e4⟩
  | lo u => cases r'; obtain ⟨m, o, _, e2, _, e3, _, e4⟩ := y; cases e2; exact .inr ⟨m, o, rfl, e3, e4⟩
  | mu u => cases r'; obtain ⟨m, o, _, e2, e3, _, e4⟩ := y; cases e2; exact .inr ⟨m, o, rfl, e3, e4⟩
  | lm u => cases r'; obtain ⟨m, o, _, e2, e3, _, e4⟩ := y; cases e2; exact .inr ⟨m, o, rfl, e3, e4⟩
theorem relE.new {d : D} {v : Val} (r : relE X h0 L ae ns e h d (.new v)) : Rd (Oc X ns) h d v := by
 obtain ⟨n, o, rfl, _, hx, eo, _, S, rc⟩ := r
 exact .cell ⟨hx, fun z => by obtain ⟨i, z⟩ := bp.mp z; exact S.nx i n z (.inr rfl)⟩ eo (rc.mono fun m o p q => ⟨⟨fun z => p.1 (.inl z), p.2⟩, q⟩)
theorem relE.sh {d : D} {t : Tm} {v : Val} (S : Sat X h0 ns e ae h) (r : relE X h0 L ae ns e h d t) (q : rs e t = some v) : ShR (Oc X ns) h d v := by
 cases t with
 | val u => cases q; exact .inl r
 | new u => cases q; exact .inl r.new
 | bor i => exact S.bor r q
theorem relE.stp {d : D} {t : Tm} (S : Sat X h0 ns e ae h) (a : Stp ns e h ns' e' h') (r : relE X h0 L ae ns e h d t) (hn : ∀ v, t ≠ .new v) : relE X h0 L ae ns' e' h' d t := by
 cases t with
 | val u => exact Rd.mono (a.mov S) r
 | new u => exact absurd rfl (hn u)
 | bor i => exact r
noncomputable def Tm.drop : Tm -> Tm
 | .new v => .val v
 | t => t
theorem relE.drop {d : D} {t : Tm} (r : relE X h0 L ae ns e h d t) : relE X h0 L ae ns e h d t.drop /\ ∀ v, t.drop ≠ .new v := by
 cases t with
 | val u => exact ⟨r, fun _ z => nomatch z⟩
 | new u => exact ⟨r.new, fun _ z => nomatch z⟩
 | bor i => exact ⟨r, fun _ z => nomatch z⟩
noncomputable def rss (e : E3) : List Tm -> Option (List Val)
 | [] => some []
 | t :: ts => match rs e t, rss e ts with
  | some v, some vs => some (v :: vs)
  | _, _ => none
theorem TsR.sh {ds : List D} {ts : List Tm} {vs : List Val} (S : Sat X h0 ns e ae h) (r : TsR X ns ae h ds ts) (q : rss e ts = some vs) : ShRs (Oc X ns) h ds vs := by
 induction r generalizing vs with
 | nil => cases q; exact .nil
 |
  val r _ ih =>
  unfold rss at q
  split at q
  ·rename_i e1 e2; cases q; cases e1; exact .cons (.inl r) (ih e2)
  ·cases q
 |
  bor q' _ ih =>
  unfold rss at q
  split at q
  ·rename_i e1 e2; cases q; exact .cons (S.bor q' e1) (ih e2)
  ·cases q
end
inductive Bv where
 | val (v : Val) | new (v : Val) | stuck
noncomputable def BvR (P : Nat -> Prop) (h : AH) (r : R D) : Bv -> Prop
 | .val v => ∃ d, r = .ok d h /\ Rd P h d v
 | .new v => ∃ o, r = .ok (.ref h.length) (h ++ [o]) /\ bT o /\ Rc P h o v
 | .stuck => True
noncomputable def Bv.at (b : Bv) (e : E3) : R3 Tm := match b with
 | .val v => .ok (.val v) e
 | .new v => .ok (.new v) e
 | .stuck => .stuck
theorem BvR.po {X : Nat -> Prop} {h0 L : Nat} {ns : Ns} {e : E3} {ae : AE} {h : AH} {r : R D} {b : Bv} (S : Sat X h0 ns e ae h) (hl : L <= h.length) (q : BvR (Oc X ns) h r b) : Po X h0 ns e ae h (relE X h0 L ae) r (b.at e) := by
 cases b with
 | stuck => trivial
 | val v => obtain ⟨d, rfl, r⟩ := q; exact Po.ret S r
 |
  new v =>
  obtain ⟨o, rfl, hf, r⟩ := q
  have S' := S.grow o
  refine ⟨_, _, ns, rfl, .grow o, S'.weak fun n z => .inl z, h.length, o, rfl, hl, fun z => ?_, x4, hf, S', r.mono fun n o' p q => ⟨⟨fun z => ?_, p.2⟩, j0 q⟩⟩
  ·have := S.xl _ z; omega
  ·rcases z with z | z
   ·exact p.1 z
   ·have := cQ q; omega
noncomputable def RU (g2 : D -> AH -> R D) (g3 : Val -> Bv) : Prop := ∀ P h d v, ShR P h d v -> BvR P h (g2 d h) (g3 v)
noncomputable def RO (g2 : D -> D -> AH -> R D) (g3 : Val -> Val -> Bv) : Prop := ∀ P h d1 d2 v1 v2, ShR P h d1 v1 -> ShR P h d2 v2 -> BvR P h (g2 d1 d2 h) (g3 v1 v2)
noncomputable def RFn (g2 : Fn) (g3 : List Val -> Bv) : Prop := ∀ P h ds vs, ShRs P h ds vs -> BvR P h (g2 ds h) (g3 vs)
noncomputable def uH (i : Nat) : ME3 := fun e => match e[i]? with
 | some (.sh v) => .ok (.val v) e
 | some .no => .stuck
 | some _ => .ok (.bor i) e
 | none => .stuck
noncomputable def vC (v : Val) : ME3 := fun e => .ok (.val v) e
noncomputable def vUn (g : Val -> Bv) (F : ME3) : ME3 := fun e => (F e).bind fun t e1 => match rs e1 t with
 | some v => (g v).at e1
 | none => .stuck
noncomputable def vOp (g : Val -> Val -> Bv) (F G : ME3) : ME3 := fun e => (F e).bind fun t1 e1 => (G e1).bind fun t2 e2 => match rs e2 t1.drop, rs e2 t2 with
 | some v1, some v2 => (g v1 v2).at e2
 | _, _ => .stuck
noncomputable def vNil : MA3 := fun e => .ok [] e
noncomputable def xi (F : ME3) (A : MA3) : MA3 := fun e => (F e).bind fun t e1 => (A e1).bind fun ts e2 => .ok (t.drop :: ts) e2
noncomputable def vFn (g : List Val -> Bv) (A : MA3) : ME3 := fun e => (A e).bind fun ts e1 => match rss e1 ts with
 | some vs => (g vs).at e1
 | none => .stuck
noncomputable def cR (e : E3) : Tm -> Option (E3 × Val)
 | .val v => some (e, v)
 | .new v => some (e, v)
 | .bor i => match e[i]? with
  | some (.sh v) => some (e, v)
  | some (.ow v) => some (e.set i (.sh v), v)
  | _ => none
noncomputable def dem (e : E3) : List Tm -> Option (E3 × List Val)
 | [] => some (e, [])
 | t :: ts => match cR e t with
  | some (e1, v) => match dem e1 ts with
   | some (e2, vs) => some (e2, v :: vs)
   | none => none
  | none => none
noncomputable def vTup (A : MA3) : ME3 := fun e => (A e).bind fun ts e1 => match dem e1 ts with
 | some (e2, vs) => if vs.length <= 16777216 then .ok (.val (.tup vs)) e2 else .stuck
 | none => .stuck
noncomputable def vLst (A : MA3) : ME3 := fun e => (A e).bind fun ts e1 => match dem e1 ts with
 | some (e2, vs) => if vs.length <= 16777216 then .ok (.new (.lst vs)) e2 else .stuck
 | none => .stuck
noncomputable def bOf : Option Val -> Option Bool
 | some (.bl b) => some b
 | _ => none
noncomputable def vAnd (F G : ME3) : ME3 := fun e => (F e).bind fun t e1 => match bOf (rs e1 t) with
 | some true => G e1
 | some false => .ok (.val (.bl false)) e1
 | none => .stuck
noncomputable def vNot (F : ME3) : ME3 := fun e => (F e).bind fun t e1 => match bOf (rs e1 t) with
 | some b => .ok (.val (.bl (!b))) e1
 | none => .stuck
noncomputable def vIf (c : MT3) (F G : ME3) : ME3 := fun e => (c e).bind fun b e1 => if b = true then F e1 else G e1
noncomputable def cOf (F : ME3) : MT3 := fun e => (F e).bind fun t e1 => match bOf (rs e1 t) with
 | some b => .ok b e1
 | none => .stuck
noncomputable def cAn (c d : MT3) : MT3 := fun e => (c e).bind fun b e1 => if b = true then d e1 else .ok false e1
noncomputable def cO (c d : MT3) : MT3 := fun e => (c e).bind fun b e1 => if b = true then .ok true e1 else d e1
noncomputable def cNo (c : MT3) : MT3 := fun e => (c e).bind fun b e1 => .ok (!b) e1
noncomputable def cY : MT3 := fun e => .ok true e
noncomputable def se : Val -> Option Bool
 | .non => some false
 | .bl b => some b
 | .int i => some (i != 0)
 | .tup xs => some (!xs.isEmpty)
 | .lst xs => some (!xs.isEmpty)
 | .kl xs => some (!xs.isEmpty)
 | _ => none
noncomputable def cTr (F : ME3) : MT3 := fun e => (F e).bind fun t e1 => match (rs e1 t).bind se with
 | some b => .ok b e1
 | none => .stuck
section
variable {F G : ME} {F3 G3 : ME3} {A : MA} {A3 : MA3} {c d : MT} {c3 d3 : MT3}
theorem Bs (i : Nat) : RE (dj i) (uH i) := fun X h0 L ns e ae h S hl => by
 unfold uH
 cases q : e[i]? with
 | none => trivial
 |
  some s =>
  have y := S.sl i s q
  cases s with
  | no => trivial
  | sh v => obtain ⟨_, x, e1, e2⟩ := y; unfold dj; rw [e1]; exact Po.ret S e2
  | ow v => obtain ⟨m, o, _, e2, _⟩ := y; unfold dj; rw [e2]; exact Po.ret S e2
  | lo v => obtain ⟨m, o, _, e2, _⟩ := y; unfold dj; rw [e2]; exact Po.ret S e2
  | mu v => obtain ⟨m, o, _, e2, _⟩ := y; unfold dj; rw [e2]; exact Po.ret S e2
  | lm v => obtain ⟨m, o, _, e2, _⟩ := y; unfold dj; rw [e2]; exact Po.ret S e2
theorem kJ {d : D} {v : Val} (r : ∀ P h, Rd P h d v) : RE (eC d) (vC v) := fun X h0 L ns e ae h S hl => Po.ret S (r _ _)
theorem DZ {g : D -> AH -> R D} {g3 : Val -> Bv} (hg : RU g g3) (hF : RE F F3) : RE (eUn g F) (vUn g3 F3) := fun X h0 L ns e ae h S hl =>
 Po.bind S (hF X h0 L ns e ae h S hl) fun d t h1 ns1 e1 a1 S1 r1 => by
  try dsimp only
  split
  ·rename_i v q
   exact BvR.po S1 (Nat.le_trans hl a1.len) (hg _ _ _ _ (r1.sh S1 q))
  ·trivial
theorem C2 {g : D -> D -> AH -> R D} {g3 : Val -> Val -> Bv} (hg : RO g g3) (hF : RE F F3) (hG : RE G G3) : RE (eOp g F G) (vOp g3 F3 G3) := fun X h0 L ns e ae h S hl =>
 Po.bind S (hF X h0 L ns e ae h S hl) fun d1 t1 h1 ns1 e1 a1 S1 r1 => Po.bind S1 (hG X h0 L ns1 e1 ae h1 S1 (Nat.le_trans hl a1.len)) fun d2 t2 h2 ns2 e2 a2 S2 r2 => by
  try dsimp only
  split
  ·rename_i v1 v2 q1 q2
   obtain ⟨r1', hn⟩ := r1.drop
   exact BvR.po S2 (Nat.le_trans hl (Nat.le_trans a1.len a2.len)) (hg _ _ _ _ _ _ ((r1'.stp S1 a2 hn).sh S2 q1) (r2.sh S2 q2))
  ·trivial
theorem By : RA vW vNil := fun X h0 ns e ae h S => Po.ret S .nil
theorem xF (hF : RE F F3) (hA : RA A A3) : RA (rn F A) (xi F3 A3) := fun X h0 ns e ae h S =>
 Po.bind S (hF X h0 0 ns e ae h S (Nat.zero_le _)) fun d1 t1 h1 ns1 e1 a1 S1 r1 => Po.bind S1 (hA X h0 ns1 e1 ae h1 S1) fun ds ts h2 ns2 e2 a2 S2 r2 => by
  obtain ⟨r1', hn⟩ := r1.drop
  have r3 := r1'.stp S1 a2 hn
  refine Po.ret S2 ?_
  show TsR X ns2 ae h2 (d1 :: ds) (t1.drop :: ts)
  generalize t1.drop = t at *
  cases t with
  | val v => exact .val r3 r2
  | new v => exact absurd rfl (hn v)
  | bor i => exact .bor r3 r2
theorem D1 {g : Fn} {g3 : List Val -> Bv} (hg : RFn g g3) (hA : RA A A3) : RE (eFn g A) (vFn g3 A3) := fun X h0 L ns e ae h S hl =>
 Po.bind S (hA X h0 ns e ae h S) fun ds ts h1 ns1 e1 a1 S1 r1 => by
  try dsimp only
  split
  ·rename_i vs q
   exact BvR.po S1 (Nat.le_trans hl a1.len) (hg _ _ _ _ (TsR.sh S1 r1 q))
  ·trivial
theorem Br {X : Nat -> Prop} {h0 : Nat} {ns : Ns} {e : E3} {ae : AE} {h : AH} {i : Nat} {v : Val} (S : Sat X h0 ns e ae h) (q : e[i]? = some (.ow v)) : ∃ n, ae[i]? = some (some (.ref n)) /\ Sat X h0 (ns.set i none) (e.set i (.sh v)) ae h /\ Stp ns e h (ns.set i none) (e.set i (.sh v)) h /\ Rd (Oc X (ns.set i none)) h (.ref n) v := by
 obtain ⟨n, o, q1, q2, _, q3, _, q4⟩ := S.sl i _ q
 have hi := (List.getElem?_eq_some_iff.mp q).1
 have hn : i < ns.length := by rw [S.l2]; exact hi
 have r : Rd (Oc X (ns.set i none)) h (.ref n) v := .cell ⟨S.nx i n q1, fun z => by
  obtain ⟨j, z⟩ := bp.mp z
  rcases bF hn z with ⟨_, y⟩ | ⟨y, z⟩
  ·cases y
  ·exact y (S.inj j i n z q1)⟩ q3 (q4.mono fun m o p q => ⟨eV p, q⟩)
 exact ⟨n, q2, S.putN' hi ⟨rfl, _, q2, r⟩, Stp.refl.put (x := none) hi (fun _ z => by cases z) q rfl rfl S.l2, r⟩
theorem fj {X : Nat -> Prop} {h0 L : Nat} {ns : Ns} {e e' : E3} {ae : AE} {h : AH} {d : D} {t : Tm} {v : Val} (S : Sat X h0 ns e ae h) (r : relE X h0 L ae ns e h d t) (q : cR e t = some (e', v)) : ∃ ns', Sat X h0 ns' e' ae h /\ Stp ns e h ns' e' h /\ Rd (Oc X ns') h d v := by
 cases t with
 | val u => cases q; exact ⟨ns, S, .refl, r⟩
 | new u => cases q; exact ⟨ns, S, .refl, r.new⟩
 |
  bor i =>
  unfold cR at q
  dsimp only at q
  have r' : ae[i]? = some (some d) := r
  split at q
  ·rename_i u q1; cases q
   obtain ⟨_, x, e1, e2⟩ := S.sl i _ q1
   rw [r'] at e1; cases e1
   exact ⟨ns, S, .refl, e2⟩
  ·rename_i u q1; cases q
   obtain ⟨n, e1, S', a', e2⟩ := Br S q1
   rw [r'] at e1; cases e1
   exact ⟨_, S', a', e2⟩
  ·cases q
theorem
    j6 {X : Nat -> Prop} {h0 : Nat} {ae : AE} {h : AH} {ts : List Tm} : ∀ {ds : List D} {vs : List Val} {ns : Ns} {e e' : E3}, Sat X h0 ns e ae h -> TsR X ns ae h ds ts -> dem e ts = some (e', vs) -> ∃ ns', Sat X h0 ns' e' ae h /\ Stp ns e h ns' e' h /\ Rds (Oc X ns') h ds vs := by
 induction ts with
 | nil => intro ds vs ns e e' S r q; cases r; cases q; exact ⟨ns, S, .refl, .nil⟩
 |
  cons t ts ih =>
  intro ds vs ns e e' S r q
  unfold dem at q
  split at q
  ·rename_i e1 v q1
   split at q
   ·rename_i e2 vs' q2
    cases q
    have hr : ∃ d ds', ds = d :: ds' /\ relE X h0 0 ae ns e h d t /\ TsR X ns ae h ds' ts := by
     cases r with
     | val r rr => exact ⟨_, _, rfl, r, rr⟩
     | bor r rr => exact ⟨_, _, rfl, r, rr⟩
    obtain ⟨d, ds', rfl, hr⟩ := hr
    obtain ⟨ns1, S1, a1, r1⟩ := fj S hr.1 q1
    obtain ⟨ns2, S2, a2, r2⟩ := ih S1 (hr.2.stp S a1) q2
    exact ⟨ns2, S2, a1.trans S a2, .cons (r1.mono (a2.mov S1)) r2⟩
   ·cases q
  ·cases q
theorem
    Aq (hA : RA A A3) : RE (eFn la A) (vTup A3) := fun X h0 L ns e ae h S hl =>
 Po.bind S (hA X h0 ns e ae h S) fun ds ts h1 ns1 e1 a1 S1 r1 => by
  try dsimp only
  split
  ·rename_i e2 vs q
   split
   ·rename_i hv
    obtain ⟨ns2, S2, a2, r2⟩ := j6 S1 r1 q
    exact ⟨.tup ds, h1, ns2, by unfold la; rw [if_pos (by rw [r2.len]; exact hv)], a2, S2, .tup r2⟩
   ·trivial
  ·trivial
theorem
    BF (hA : RA A A3) : RE (eFn de A) (vLst A3) := fun X h0 L ns e ae h S hl =>
 Po.bind S (hA X h0 ns e ae h S) fun ds ts h1 ns1 e1 a1 S1 r1 => by
  try dsimp only
  split
  ·rename_i e2 vs q
   split
   ·rename_i hv
    obtain ⟨ns2, S2, a2, r2⟩ := j6 S1 r1 q
    have p := BvR.po (r := de ds h1) (b := .new (.lst vs)) S2 (Nat.le_trans hl a1.len) ⟨.lst ds, by unfold de; rw [if_pos (by rw [r2.len]; exact hv)], trivial, .lst r2⟩
    obtain ⟨d, h', ns', y, y1, y2, y3⟩ := p
    exact ⟨d, h', ns', y, a2.trans S1 y1, y2, y3⟩
   ·trivial
  ·trivial
theorem lr {X : Nat -> Prop} {h0 L : Nat} {ae : AE} {ns1 : Ns} {e1 : E3} {h1 : AH} {d1 : D} {t1 : Tm} {b : Bool} (S1 : Sat X h0 ns1 e1 ae h1) (r1 : relE X h0 L ae ns1 e1 h1 d1 t1) (q : bOf (rs e1 t1) = some b) : d1 = .bl b := by
 unfold bOf at q
 split at q
 ·rename_i b' q'; cases q; exact (r1.sh S1 q').bl
 ·cases q
theorem zp (hF : RE F F3) (hG : RE G G3) : RE (vb F G) (vAnd F3 G3) := fun X h0 L ns e ae h S hl =>
 Po.bind S (hF X h0 L ns e ae h S hl) fun d1 t1 h1 ns1 e1 a1 S1 r1 => by
  try dsimp only
  split
  ·rename_i q; rw [lr S1 r1 q]; exact hG X h0 L ns1 e1 ae h1 S1 (Nat.le_trans hl a1.len)
  ·rename_i q; rw [lr S1 r1 q]; exact Po.ret S1 (.bl false)
  ·trivial
theorem zr (hF : RE F F3) : RE (uI F) (vNot F3) := fun X h0 L ns e ae h S hl =>
 Po.bind S (hF X h0 L ns e ae h S hl) fun d1 t1 h1 ns1 e1 a1 S1 r1 => by
  try dsimp only
  split
  ·rename_i q; rw [lr S1 r1 q]; exact Po.ret S1 (.bl _)
  ·trivial
theorem DP (hc : RT c c3) (hF : RE F F3) (hG : RE G G3) : RE (eIf c F G) (vIf c3 F3 G3) := fun X h0 L ns e ae h S hl =>
 Po.bind S (hc X h0 ns e ae h S) fun b b' h1 ns1 e1 a1 S1 r1 => by
  cases r1
  try dsimp only
  split
  ·exact hF X h0 L ns1 e1 ae h1 S1 (Nat.le_trans hl a1.len)
  ·exact hG X h0 L ns1 e1 ae h1 S1 (Nat.le_trans hl a1.len)
theorem D5 (hF : RE F F3) : RT (tOf F) (cOf F3) := fun X h0 ns e ae h S =>
 Po.bind S (hF X h0 0 ns e ae h S (Nat.zero_le _)) fun d1 t1 h1 ns1 e1 a1 S1 r1 => by
  try dsimp only
  split
  ·rename_i q; rw [lr S1 r1 q]; exact Po.ret S1 rfl
  ·trivial
theorem DY (hc : RT c c3) (hd : RT d d3) : RT (tAn c d) (cAn c3 d3) := fun X h0 ns e ae h S =>
 Po.bind S (hc X h0 ns e ae h S) fun b b' h1 ns1 e1 a1 S1 r1 => by
  cases r1
  try dsimp only
  split
  ·exact hd X h0 ns1 e1 ae h1 S1
  ·exact Po.ret S1 rfl
theorem rt_o (hc : RT c c3) (hd : RT d d3) : RT (tO c d) (cO c3 d3) := fun X h0 ns e ae h S =>
 Po.bind S (hc X h0 ns e ae h S) fun b b' h1 ns1 e1 a1 S1 r1 => by
  cases r1
  try dsimp only
  split
  ·exact Po.ret S1 rfl
  ·exact hd X h0 ns1 e1 ae h1 S1
theorem D9 (hc : RT c c3) : RT (tNo c) (cNo c3) := fun X h0 ns e ae h S =>
 Po.bind S (hc X h0 ns e ae h S) fun b b' h1 ns1 e1 a1 S1 r1 => by
  cases r1
  exact Po.ret S1 rfl
theorem rt_y : RT tY cY := fun X h0 ns e ae h S => Po.ret S rfl
theorem yQ {P : Nat -> Prop} {h : AH} {d : D} {v : Val} {b : Bool} (r : ShR P h d v) (q : se v = some b) : oE d h = .ok b h := by
 have emp : ∀ {ds : List D} {vs : List Val}, Rds P h ds vs -> ds.isEmpty = vs.isEmpty := fun r => by cases r <;> rfl
 cases v with
 | non => cases q; rw [r.non]; rfl
 | bl b => cases q; rw [r.bl]; rfl
 | int i => cases q; rw [r.int]; rfl
 | tup xs => cases q; obtain ⟨ds, rfl, r2⟩ := r.tup; show R.ok (!ds.isEmpty) h = _; rw [emp r2]
 |
  lst xs =>
  cases q
  obtain ⟨n, ds, rfl, _, e1, r1⟩ := r.lst
  rw [<- emp r1]
  unfold oE cS; dsimp only; rw [e1]
 |
  kl xs =>
  cases q
  obtain ⟨ds, r2, rfl | ⟨n, rfl, e1⟩⟩ := r.kl
  ·show R.ok (!ds.isEmpty) h = _; rw [emp r2]
  ·rw [<- emp r2]
   unfold oE cS; dsimp only; rw [e1]
 | _ => cases q
theorem D7 (hF : RE F F3) : RT (tTr F) (cTr F3) := fun X h0 ns e ae h S =>
 Po.bind S (hF X h0 0 ns e ae h S (Nat.zero_le _)) fun d1 t1 h1 ns1 e1 a1 S1 r1 => by
  try dsimp only
  split
  ·rename_i b q
   obtain ⟨v, q1, q2⟩ := Option.bind_eq_some_iff.mp q
   rw [yQ (r1.sh S1 q1) q2]
   exact Po.ret S1 rfl
  ·trivial
end
end L3
set_option Elab.async false
set_option linter.all false
set_option maxRecDepth 100000
namespace L3
open PySem PySem.Spec PyProof.Rows L2
inductive Rt where
 | val (v : Val) | new (v : Val)
inductive SR3 where
 | nx (e : E3) | rt (r : Rt) (e : E3) | bk (e : E3) | ct (e : E3) | exc (c : Str) (e : E3) | stuck
abbrev MS3 := E3 -> SR3
noncomputable def RtR (X : Nat -> Prop) (h0 : Nat) (ns : Ns) (e : E3) (ae : AE) (h : AH) (d : D) : Rt -> Prop
 | .val v => Sat X h0 ns e ae h /\ Rd (Oc X ns) h d v
 | .new v => ∃ n o, d = .ref n /\ h0 <= n /\ ¬ X n /\ h[n]? = some o /\ bT o /\ Sat (Xn X n) h0 ns e ae h /\ Rc (Oc (Xn X n) ns) h o v
noncomputable def PoS (X : Nat -> Prop) (h0 : Nat) (ns : Ns) (e : E3) (h : AH) (r2 : SR) : SR3 -> Prop
 | .stuck => True
 | .nx e' => ∃ ae' h' ns', r2 = .nx ae' h' /\ Stp ns e h ns' e' h' /\ Sat X h0 ns' e' ae' h'
 | .bk e' => ∃ ae' h' ns', r2 = .bk ae' h' /\ Stp ns e h ns' e' h' /\ Sat X h0 ns' e' ae' h'
 | .ct e' => ∃ ae' h' ns', r2 = .ct ae' h' /\ Stp ns e h ns' e' h' /\ Sat X h0 ns' e' ae' h'
 | .exc c e' => ∃ ae' h' ns', r2 = .exc c ae' h' /\ Stp ns e h ns' e' h' /\ Sat X h0 ns' e' ae' h'
 | .rt r e' => ∃ d ae' h' ns', r2 = .rt d h' /\ Stp ns e h ns' e' h' /\ RtR X h0 ns' e' ae' h' d r
noncomputable def RS (F : MS) (G : MS3) : Prop := ∀ X h0 ns e ae h, Sat X h0 ns e ae h -> PoS X h0 ns e h (F ae h) (G e)
noncomputable def R3.toS {α : Type} (r : R3 α) (f : α -> E3 -> SR3) : SR3 := match r with
 | .ok a e => f a e
 | .exc c e => .exc c e
 | .stuck => .stuck
noncomputable def SR3.then (r : SR3) (f : E3 -> SR3) : SR3 := match r with
 | .nx e => f e
 | r => r
section
variable {X : Nat -> Prop} {h0 L : Nat} {ns ns1 ns' : Ns} {e e1 e' : E3} {ae : AE} {h h1 h' : AH}
theorem PoS.after {r2 : SR} {r3 : SR3} (S : Sat X h0 ns e ae h) (a : Stp ns e h ns1 e1 h1) (p : PoS X h0 ns1 e1 h1 r2 r3) : PoS X h0 ns e h r2 r3 := by
 cases r3 with
 | stuck => trivial
 | nx e' => obtain ⟨ae', h', ns', q, q1, q2⟩ := p; exact ⟨ae', h', ns', q, a.trans S q1, q2⟩
 | bk e' => obtain ⟨ae', h', ns', q, q1, q2⟩ := p; exact ⟨ae', h', ns', q, a.trans S q1, q2⟩
 | ct e' => obtain ⟨ae', h', ns', q, q1, q2⟩ := p; exact ⟨ae', h', ns', q, a.trans S q1, q2⟩
 | exc c e' => obtain ⟨ae', h', ns', q, q1, q2⟩ := p; exact ⟨ae', h', ns', q, a.trans S q1, q2⟩
 | rt r e' => obtain ⟨d, ae', h', ns', q, q1, q2⟩ := p; exact ⟨d, ae', h', ns', q, a.trans S q1, q2⟩
theorem PoS.toS {δ α : Type} {rel : Ns -> E3 -> AH -> δ -> α -> Prop} {r2 : R δ} {r3 : R3 α} {f2 : δ -> AH -> SR} {f3 : α -> E3 -> SR3} (p : Po X h0 ns e ae h rel r2 r3)
  (k : ∀ d t h' ns' e', Stp ns e h ns' e' h' -> Sat X h0 ns' e' ae h' -> rel ns' e' h' d t -> PoS X h0 ns e h (f2 d h') (f3 t e')) : PoS X h0 ns e h (r2.toS ae f2) (r3.toS f3) := by
 cases r3 with
 | stuck => trivial
 | exc c e' => obtain ⟨h', ns', rfl, q1, q2⟩ := p; exact ⟨ae, h', ns', rfl, q1, q2⟩
 | ok t e' => obtain ⟨d, h', ns', rfl, q1, q2, q3⟩ := p; exact k d t h' ns' e' q1 q2 q3
theorem PoS.nx {ae' : AE} (a : Stp ns e h ns' e' h') (S : Sat X h0 ns' e' ae' h') : PoS X h0 ns e h (.nx ae' h') (.nx e') := ⟨ae', h', ns', rfl, a, S⟩
end
noncomputable def wNx : MS3 := fun e => .nx e
noncomputable def wSeq (F G : MS3) : MS3 := fun e => (F e).then G
noncomputable def xa (F : ME3) : MS3 := fun e => (F e).toS fun _ e1 => .nx e1
noncomputable def wIf (c : MT3) (F G : MS3) : MS3 := fun e => (c e).toS fun b e1 => if b = true then F e1 else G e1
noncomputable def oZ (t : Tm) (e : E3) : SR3 := match t with
 | .val v => .rt (.val v) e
 | .new v => .rt (.new v) e
 | .bor i => match e[i]? with
  | some (.sh v) => .rt (.val v) e
  | some (.ow v) => .rt (.new v) (e.set i .no)
  | _ => .stuck
noncomputable def wRet (F : ME3) : MS3 := fun e => (F e).toS oZ
noncomputable def il (o : Bool) (i : Nat) (t : Tm) (e : E3) : SR3 := match e[i]? with
 | some s0 => if s0.pl = true then (match t with
  | .val v => .nx (e.set i (.sh v))
  | .new v => .nx (e.set i (if o = true then .ow v else .sh v))
  | .bor j => match cR e (.bor j) with
   | some (e2, v) => .nx (e2.set i (.sh v))
   | none => .stuck) else .stuck
 | none => .stuck
noncomputable def wAsg (o : Bool) (i : Nat) (F : ME3) : MS3 := fun e => (F e).toS (il o i)
abbrev MG3 := Val -> E3 -> Option E3
abbrev kL := List Val -> E3 -> Option E3
noncomputable def pN (i : Nat) : MG3 := fun v e => match e[i]? with
 | some s => if s.pl = true then some (e.set i (.sh v)) else none
 | none => none
noncomputable def psN : kL := fun vs e => match vs with
 | [] => some e
 | _ => none
noncomputable def psC (g : MG3) (u : kL) : kL := fun vs e => match vs with
 | v :: r => (g v e).bind fun e1 => u r e1
 | [] => none
noncomputable def pT (n : Nat) (u : kL) : MG3 := fun v e => match v with
 | .tup vs => if vs.length = n then u vs e else none
 | _ => none
noncomputable def wZ (F : ME3) (g : MG3) : MS3 := fun e => (F e).toS fun t e1 => match cR e1 t with
 | some (e2, v) => match g v e2 with
  | some e3 => .nx e3
  | none => .stuck
 | none => .stuck
noncomputable def wPar (i j : Nat) (A : MA3) : MS3 := fun e => (A e).toS fun ts e1 => match dem e1 ts with
 | some (e2, [v, u]) => match (pN i v e2).bind (pN j u) with
  | some e3 => .nx e3
  | none => .stuck
 | _ => .stuck
noncomputable def uB (i : Nat) (g : Val -> Val -> Bv) (F : ME3) : MS3 := fun e => match e[i]? with
 | some (.sh x) => (F e).toS fun t e1 => match rs e1 t with
  | some y => match g x y with
   | .val z => match pN i z e1 with
    | some e2 => .nx e2
    | none => .stuck
   | _ => .stuck
  | none => .stuck
 | _ => .stuck
noncomputable def tw (c : Str) (A : MA3) : MS3 := fun e => (A e).toS fun ts e1 => if ts.length <= 16777216 then .exc c e1 else .stuck
noncomputable def RG (g2 : MG) (g3 : MG3) : Prop := ∀ X h0 ns e ae h d v e', Sat X h0 ns e ae h -> Rd (Oc X ns) h d v -> g3 v e = some e' -> ∃ ae' ns', g2 d ae h = .ok ae' h /\ Sat X h0 ns' e' ae' h /\ Stp ns e h ns' e' h
noncomputable def RGs (g2 : MGs) (g3 : kL) : Prop := ∀ X h0 ns e ae h ds vs e', Sat X h0 ns e ae h -> Rds (Oc X ns) h ds vs -> g3 vs e = some e' -> ∃ ae' ns', g2 ds ae h = .ok ae' h /\ Sat X h0 ns' e' ae' h /\ Stp ns e h ns' e' h
section
variable {F G : ME} {F3 G3 : ME3} {A : MA} {A3 : MA3} {c d : MT} {c3 d3 : MT3} {U V : MS} {U3 V3 : MS3} {g : MG} {g3 : MG3} {gs : MGs} {gs3 : kL}
theorem DC : RS sNx wNx := fun X h0 ns e ae h S => .nx .refl S
theorem Af (hU : RS U U3) (hV : RS V V3) : RS (vp U V) (wSeq U3 V3) := fun X h0 ns e ae h S => by
 have p := hU X h0 ns e ae h S
 show PoS X h0 ns e h ((U ae h).then V) ((U3 e).then V3)
 generalize U3 e = r at *
 cases r with
 | stuck => trivial
 | nx e' => obtain ⟨ae', h', ns', q, q1, q2⟩ := p; rw [q]; exact PoS.after S q1 (hV X h0 ns' e' ae' h' q2)
 | bk e' => obtain ⟨ae', h', ns', q, q1, q2⟩ := p; rw [q]; exact ⟨ae', h', ns', rfl, q1, q2⟩
 | ct e' => obtain ⟨ae', h', ns', q, q1, q2⟩ := p; rw [q]; exact ⟨ae', h', ns', rfl, q1, q2⟩
 | exc c e' => obtain ⟨ae', h', ns', q, q1, q2⟩ := p; rw [q]; exact ⟨ae', h', ns', rfl, q1, q2⟩
 | rt r e' => obtain ⟨d, ae', h', ns', q, q1, q2⟩ := p; rw [q]; exact ⟨d, ae', h', ns', rfl, q1, q2⟩
theorem yH (hF : RE F F3) : RS (rJ F) (xa F3) := fun X h0 ns e ae h S => PoS.toS (hF X h0 0 ns e ae h S (Nat.zero_le _)) fun d t h1 ns1 e1 a1 S1 r1 => .nx a1 S1
theorem Ex (hc : RT c c3) (hU : RS U U3) (hV : RS V V3) : RS (sIf c U V) (wIf c3 U3 V3) := fun X h0 ns e ae h S => PoS.toS (hc X h0 ns e ae h S) fun b b' h1 ns1 e1 a1 S1 r1 => by
 cases r1
 try dsimp only
 split
 ·exact PoS.after S a1 (hU X h0 ns1 e1 ae h1 S1)
 ·exact PoS.after S a1 (hV X h0 ns1 e1 ae h1 S1)
theorem
    Ap (hF : RE F F3) : RS (wx F) (wRet F3) := fun X h0 ns e ae h S => PoS.toS (hF X h0 h0 ns e ae h S S.lh) fun d t h1 ns1 e1 a1 S1 r1 => by
 cases t with
 | val v => exact ⟨d, ae, h1, ns1, rfl, a1, S1, r1⟩
 | new v => obtain ⟨n, o, q⟩ := r1; exact ⟨d, ae, h1, ns1, rfl, a1, n, o, q⟩
 |
  bor i =>
  unfold oZ
  dsimp only
  have r' : ae[i]? = some (some d) := r1
  split
  ·rename_i v q
   obtain ⟨_, x, e1', e2⟩ := S1.sl i _ q
   rw [r'] at e1'; cases e1'
   exact ⟨d, ae, h1, ns1, rfl, a1, S1, e2⟩
  ·rename_i v q
   obtain ⟨n, o, q1, q2, q3, q4, q5, q6⟩ := S1.sl i _ q
   rw [r'] at q2; cases q2
   have hi := (List.getElem?_eq_some_iff.mp q).1
   have hn : i < ns1.length := by rw [S1.l2]; exact hi
   have mv : Mov (Oc X ns1) (Oc (Xn X n) (ns1.set i none)) h1 h1 := fun m o' p q' => ⟨⟨fun z => by
    rcases z with z | rfl
    ·exact p.1 z
    ·exact p.2 (bp.mpr ⟨i, q1⟩), (eV p).2⟩, q'⟩
   have S2 := S1.putN' hi (s := .no) rfl
   refine ⟨.ref n, ae, h1, ns1.set i none, rfl, a1.put (x := none) hi (fun _ z => by cases z) q rfl rfl S1.l2, n, o, rfl, q3, S1.nx i n q1, q4, q5, ⟨S2.l1, S2.l2, S2.lh, fun m z => ?_, S2.inj, fun j m qj z => ?_, fun j s qj => ?_⟩, q6.mono mv⟩
   ·rcases z with z | rfl
    ·exact S2.xl m z
    ·exact cQ q4
   ·rcases z with z | rfl
    ·exact S2.nx j m qj z
    ·rcases bF hn qj with ⟨_, y⟩ | ⟨y, z⟩
     ·cases y
     ·exact y (S1.inj j i _ z q1)
   ·rcases bF hi qj with ⟨rfl, rfl⟩ | ⟨z, qj'⟩
    ·rw [bS hn]; rfl
    ·rw [bM z]
     exact (S1.sl j s qj').mono mv fun _ _ _ q => q
  ·trivial
theorem
    zy (o : Bool) (i : Nat) (hF : RE F F3) : RS (jw F (gN i)) (wAsg o i F3) := fun X h0 ns e ae h S => PoS.toS (hF X h0 h.length ns e ae h S (Nat.le_refl _)) fun d t h1 ns1 e1 a1 S1 r1 => by
 show PoS X h0 ns e h (.nx (ae.set i (some d)) h1) (il o i t e1)
 unfold il
 split
 ·rename_i s0 q0
  split
  ·rename_i p0
   have hi := (List.getElem?_eq_some_iff.mp q0).1
   cases t with
   | val v => exact .nx (a1.put (x := none) (s := .sh v) hi (fun _ z => by cases z) q0 p0 rfl S1.l2) (S1.putN hi ⟨rfl, d, rfl, Rd.mono (fun m o p q => ⟨eV p, q⟩) r1⟩)
   |
    new v =>
    try dsimp only
    split
    ·obtain ⟨n, ob, rfl, q1, q2, q3, q4, q5, q6⟩ := r1
     exact .nx (a1.put (x := some n) (s := .ow v) hi (fun m z => by cases z; exact q1) q0 p0 rfl S1.l2) (Sat.putO q5 q2 hi (Nat.le_trans S.lh q1) q3 q4 q6)
    ·exact .nx (a1.put (x := none) (s := .sh v) hi (fun _ z => by cases z) q0 p0 rfl S1.l2) (S1.putN hi ⟨rfl, d, rfl, Rd.mono (fun m o p q => ⟨eV p, q⟩) r1.new⟩)
   |
    bor j =>
    try dsimp only
    split
    ·rename_i e2 v q2
     obtain ⟨ns2, S2, a2, r2⟩ := fj S1 r1 q2
     have hq : ∃ s2, e2[i]? = some s2 /\ s2.pl = true := by
      unfold cR at q2
      dsimp only at q2
      split at q2
      ·cases q2; exact ⟨s0, q0, p0⟩
      ·rename_i u q3
       cases q2
       by_cases z : i = j
       ·subst z; exact ⟨_, bS hi, rfl⟩
       ·exact ⟨s0, by rw [bM z]; exact q0, p0⟩
      ·cases q2
     obtain ⟨s2, hq1, hq2⟩ := hq
     have hi2 := (List.getElem?_eq_some_iff.mp hq1).1
     exact .nx ((a1.trans S a2).put (x := none) (s := .sh v) hi2 (fun _ z => by cases z) hq1 hq2 rfl S2.l2) (S2.putN hi2 ⟨rfl, d, rfl, Rd.mono (fun m o p q => ⟨eV p, q⟩) r2⟩)
    ·trivial
  ·trivial
 ·trivial
theorem qT (i : Nat) : RG (gN i) (pN i) := fun X h0 ns e ae h d v e' S r q => by
 unfold pN at q
 split at q
 ·rename_i s q0
  split at q
  ·rename_i p0
   cases q
   have hi := (List.getElem?_eq_some_iff.mp q0).1
   exact ⟨_, ns.set i none, rfl, S.putN hi ⟨rfl, d, rfl, Rd.mono (fun m o p q => ⟨eV p, q⟩) r⟩, Stp.refl.put (x := none) (s := .sh v) hi (fun _ z => by cases z) q0 p0 rfl S.l2⟩
  ·cases q
 ·cases q
theorem DL : RGs gsN psN := fun X h0 ns e ae h ds vs e' S r q => by
 cases r with
 | nil => cases q; exact ⟨ae, ns, rfl, S, .refl⟩
 | cons _ _ => cases q
theorem Eh (hg : RG g g3) (hs : RGs gs gs3) : RGs (gsC g gs) (psC g3 gs3) := fun X h0 ns e ae h ds vs e' S r q => by
 cases r with
 | nil => cases q
 |
  cons r rr =>
  obtain ⟨e1, q1, q2⟩ := Option.bind_eq_some_iff.mp q
  obtain ⟨ae1, ns1, p1, S1, a1⟩ := hg _ _ _ _ _ _ _ _ _ S r q1
  obtain ⟨ae2, ns2, p2, S2, a2⟩ := hs _ _ _ _ _ _ _ _ _ S1 (rr.mono (a1.mov S)) q2
  refine ⟨ae2, ns2, ?_, S2, a1.trans S a2⟩
  unfold gsC; dsimp only; rw [p1]; exact p2
theorem rg_t (n : Nat) (hs : RGs gs gs3) : RG (gT fun ds ae h => if ds.length = n then gs ds ae h else .stuck) (pT n gs3) := fun X h0 ns e ae h d v e' S r q => by
 unfold pT at q
 split at q
 ·split at q
  ·rename_i hn
   obtain ⟨ds, rfl, r2⟩ := ShR.tup (.inl r)
   obtain ⟨ae1, ns1, p1, S1, a1⟩ := hs _ _ _ _ _ _ _ _ _ S r2 q
   refine ⟨ae1, ns1, ?_, S1, a1⟩
   unfold gT; dsimp only; rw [if_pos (by rw [r2.len]; exact hn)]; exact p1
  ·cases q
 ·cases q
theorem z9 (hg : RG g g3) : RG (fun d ae h => noX (g d ae h)) g3 := fun X h0 ns e ae h d v e' S r q => by
 obtain ⟨ae1, ns1, p1, S1, a1⟩ := hg _ _ _ _ _ _ _ _ _ S r q
 exact ⟨ae1, ns1, by dsimp only; rw [p1]; rfl, S1, a1⟩
theorem yf (hF : RE F F3) (hg : RG g g3) : RS (jw F g) (wZ F3 g3) := fun X h0 ns e ae h S => PoS.toS (hF X h0 0 ns e ae h S (Nat.zero_le _)) fun d t h1 ns1 e1 a1 S1 r1 => by
 try dsimp only
 split
 ·rename_i e2 v q
  obtain ⟨ns2, S2, a2, r2⟩ := fj S1 r1 q
  split
  ·rename_i e3 q3
   obtain ⟨ae3, ns3, p3, S3, a3⟩ := hg _ _ _ _ _ _ _ _ _ S2 r2 q3
   rw [p3]
   exact .nx ((a1.trans S a2).trans S a3) S3
  ·trivial
 ·trivial
theorem
    zW (i j : Nat) (hA : RA A A3) : RS (uW i j A) (wPar i j A3) := fun X h0 ns e ae h S => PoS.toS (hA X h0 ns e ae h S) fun ds ts h1 ns1 e1 a1 S1 r1 => by
 try dsimp only
 cases q : dem e1 ts with
 | none => trivial
 |
  some w =>
  obtain ⟨e2, vs⟩ := w
  obtain ⟨ns2, S2, a2, r2⟩ := j6 S1 r1 q
  match vs, ds, r2 with
  | [], _, _ => trivial
  | [_], _, _ => trivial
  | _ :: _ :: _ :: _, _, _ => trivial
  |
   [v, u], [d, d'], r2 =>
   dsimp only
   split
   ·rename_i e3 q3
    obtain ⟨e4, q4, q5⟩ := Option.bind_eq_some_iff.mp q3
    cases r2 with
    |
     cons r rr =>
     cases rr with
     |
      cons r' rr =>
      obtain ⟨ae3, ns3, p3, S3, a3⟩ := qT i _ _ _ _ _ _ _ _ _ S2 r q4
      obtain ⟨ae4, ns4, p4, S4, a4⟩ := qT j _ _ _ _ _ _ _ _ _ S3 (r'.mono (a3.mov S2)) q5
      have z3 : ae3 = ae.set i (some d) := by have := p3; unfold gN at this; cases this; rfl
      have z4 : ae4 = ae3.set j (some d') := by have := p4; unfold gN at this; cases this; rfl
      subst z4 z3
      exact .nx (((a1.trans S a2).trans S a3).trans S a4) S4
   ·trivial
theorem
    A8 {gg : D -> D -> AH -> R D} {gg3 : Val -> Val -> Bv} (i : Nat) (hg : RO gg gg3) (hF : RE F F3) : RS (pB i gg F) (uB i gg3 F3) := fun X h0 ns e ae h S => by
 unfold uB
 split
 ·rename_i x q0
  obtain ⟨_, dx, e1, r0⟩ := S.sl i _ q0
  unfold pB
  rw [e1]
  refine PoS.toS (hF X h0 0 ns e ae h S (Nat.zero_le _)) fun d t h1 ns1 e1 a1 S1 r1 => ?_
  try dsimp only
  split
  ·rename_i y q1
   have b := hg _ _ _ _ _ _ (.inl (r0.mono (a1.mov S))) (r1.sh S1 q1)
   split
   ·rename_i z q2
    rw [q2] at b
    obtain ⟨dz, p1, r2⟩ := b
    split
    ·rename_i e2 q3
     rw [p1]
     obtain ⟨ae3, ns3, p3, S3, a3⟩ := qT i _ _ _ _ _ _ _ _ _ S1 r2 q3
     have z3 : ae3 = ae.set i (some dz) := by have := p3; unfold gN at this; cases this; rfl
     subst z3
     exact .nx (a1.trans S a3) S3
    ·trivial
   ·trivial
  ·trivial
 ·trivial
theorem TsR.len {X : Nat -> Prop} {ns : Ns} {ae : AE} {h : AH} {ds : List D} {ts : List Tm} (r : TsR X ns ae h ds ts) : ds.length = ts.length := by
 induction r with
 | nil => rfl
 | val _ _ ih => rw [List.length_cons, List.length_cons, ih]
 | bor _ _ ih => rw [List.length_cons, List.length_cons, ih]
theorem uS (x : Str) (hA : RA A A3) : RS (oJ x A) (tw x A3) := fun X h0 ns e ae h S => PoS.toS (hA X h0 ns e ae h S) fun ds ts h1 ns1 e1 a1 S1 r1 => by
 try dsimp only
 by_cases hl : ts.length <= 16777216
 ·rw [if_pos hl, if_pos (by rw [TsR.len r1]; exact hl)]
  exact ⟨ae, h1, ns1, rfl, a1, S1⟩
 ·rw [if_neg hl]; trivial
end
noncomputable def Sl.re (s : Sl) (u : Val) : Sl := match s with
 | .ow _ => .ow u
 | .mu _ => .mu u
 | s => s
noncomputable def Sl.mv : Sl -> Option Val
 | .ow v => some v
 | .mu v => some v
 | _ => none
section
variable {X : Nat -> Prop} {h0 L : Nat} {ns ns1 ns' : Ns} {e e1 e' : E3} {ae : AE} {h h1 h' : AH}
theorem Sat.write (S : Sat X h0 ns e ae h) {i : Nat} {s : Sl} {u : Val} (q : e[i]? = some s) (hm : s.mv = some u) : ∃ n o, ae[i]? = some (some (.ref n)) /\ h[n]? = some o /\ bT o /\ Rc (Oc X ns) h o u /\
  ∀ o' u', bT o' -> Rc (Oc X ns) h o' u' -> Mov (Oc X ns) (Oc X ns) h (h.set n o') /\ Sat X h0 ns (e.set i (s.re u')) ae (h.set n o') /\ Stp ns e h ns (e.set i (s.re u')) (h.set n o') := by
 have hi := (List.getElem?_eq_some_iff.mp q).1
 have key : ∃ n o, ns[i]? = some (some n) /\ ae[i]? = some (some (.ref n)) /\ h[n]? = some o /\ bT o /\ Rc (Oc X ns) h o u /\ s.mt = true /\ (∀ o' u', bT o' -> Rc (Oc X ns) (h.set n o') o' u' -> SlR (Oc X ns) h0 (some (some n)) (some (some (.ref n))) (h.set n o') (s.re u')) := by
  have y := S.sl i s q
  cases s with
  | ow v => cases hm; obtain ⟨n, o, q1, q2, q3, q4, q5, q6⟩ := y; exact ⟨n, o, q1, q2, q4, q5, q6, rfl, fun o' u' hf r => ⟨n, o', rfl, rfl, q3, bS (cQ q4), hf, r⟩⟩
  | mu v => cases hm; obtain ⟨n, o, q1, q2, q4, q5, q6⟩ := y; exact ⟨n, o, q1, q2, q4, q5, q6, rfl, fun o' u' hf r => ⟨n, o', rfl, rfl, bS (cQ q4), hf, r⟩⟩
  | _ => cases hm
 obtain ⟨n, o, k1, k2, k3, k4, k5, k6, k7⟩ := key
 refine ⟨n, o, k2, k3, k4, k5, fun o' u' hf r => ?_⟩
 have mv : Mov (Oc X ns) (Oc X ns) h (h.set n o') := fun m ob p q' => ⟨p, by
  have : m ≠ n := fun z => p.2 (bp.mpr ⟨i, by rw [z]; exact k1⟩)
  rw [bM this]; exact q'⟩
 refine ⟨mv, ⟨by rw [List.length_set]; exact S.l1, by rw [List.length_set]; exact S.l2, by rw [List.length_set]; exact S.lh, fun m z => by rw [List.length_set]; exact S.xl m z, S.inj, S.nx, fun j s' qj => ?_⟩, ?_⟩
 ·rcases bF hi qj with ⟨rfl, rfl⟩ | ⟨z, qj'⟩
  ·rw [k1, k2]; exact k7 o' u' hf (r.mono mv)
  ·refine (S.sl j s' qj').mono mv fun m ob qm qo => ?_
   have : m ≠ n := fun y => by subst y; exact z (S.inj j i m qm k1)
   rw [bM this]; exact qo
 ·refine ⟨by rw [List.length_set]; exact Nat.le_refl _, fun m ob qm hM => ?_, fun _ _ q => .inl q, fun j s' qj hl => ?_, fun j s' qj hl => ?_, fun j v qj => ?_, fun j v qj => ?_⟩
  ·have : m ≠ n := fun y => by subst y; exact hM ⟨i, s, k1, q, k6⟩
   rw [bM this]; exact qm
  ·have z : j ≠ i := fun z => by subst z; rw [q] at qj; cases qj; cases s <;> first | cases hl; done | cases k6; done
   rw [bM z]; exact ⟨qj, rfl⟩
  ·rcases bF hi qj with ⟨_, y⟩ | ⟨z, qj'⟩
   ·subst y; cases s <;> first | cases hl; done | cases k6; done
   ·exact ⟨qj', rfl⟩
  ·rcases bF hi qj with ⟨rfl, y⟩ | ⟨z, qj'⟩
   ·cases s with
    | mu w => exact ⟨w, q, rfl⟩
    | ow w => cases y
    | _ => cases k6
   ·exact ⟨v, qj', rfl⟩
  ·by_cases z : j = i
   ·subst z; rw [q] at qj; cases qj; exact ⟨u', bS hi, rfl⟩
   ·exact ⟨v, by rw [bM z]; exact qj, rfl⟩
end
noncomputable def va (w2 : D -> D -> D -> AH -> R Unit) (w3 : Val -> Val -> Val -> Option Val) : Prop := ∀ P h n o u di vi d v u', ¬ P n -> h[n]? = some o -> bT o -> Rc P h o u -> ShR P h di vi -> Rd P h d v -> w3 u vi v = some u' -> ∃ o', w2 (.ref n) di d h = .ok () (h.set n o') /\ bT o' /\ Rc P h o' u'
noncomputable def wSet (i : Nat) (G : ME3) (F : ME3) (w : Val -> Val -> Val -> Option Val) : MS3 := fun e => (F e).toS fun t e1 => match (e1[i]?).bind Sl.mv with
 | none => .stuck
 | some _ => (G e1).toS fun t2 e2 => match rs e2 t2 with
  | none => .stuck
  | some vi => match cR e2 t.drop with
   | none => .stuck
   | some (e3, v) => match e3[i]? with
    | none => .stuck
    | some s => match s.mv with
     | none => .stuck
     | some u => match w u vi v with
      | some u' => .nx (e3.set i (s.re u'))
      | none => .stuck
noncomputable def RM (m2 : D -> List D -> AH -> R D) (m3 : Val -> List Val -> Option (Val × Val)) : Prop := ∀ P h n o u ds vs u' v, h[n]? = some o -> bT o -> Rc P h o u -> Rds P h ds vs -> m3 u vs = some (u', v) -> lL h (.ref n) = true /\ ∃ o' d, m2 (.ref n) ds h = .ok d (h.set n o') /\ bT o' /\ Rc P h o' u' /\ Rd P h d v
noncomputable def isLv : Val -> Bool
 | .lst _ => true
 | _ => false
noncomputable def wB (i : Nat) (m : Val -> List Val -> Option (Val × Val)) (A : MA3) : ME3 := fun e => match e[i]? with
 | some s => if (s.mv.map isLv) = some true then (A e).bind fun ts e1 => match dem e1 ts with
  | some (e2, vs) => match e2[i]? with
   | some s2 => match s2.mv with
    | some u => match m u vs with
     | some (u', v) => .ok (.val v) (e2.set i (s2.re u'))
     | none => .stuck
    | none => .stuck
   | none => .stuck
  | none => .stuck else .stuck
 | none => .stuck
section
variable {F G : ME} {F3 G3 : ME3} {A : MA} {A3 : MA3}
theorem xR {X : Nat -> Prop} {h0 : Nat} {ns : Ns} {e : E3} {ae : AE} {h : AH} (S : Sat X h0 ns e ae h) {i : Nat} {u : Val} (q : (e[i]?).bind Sl.mv = some u) : ∃ n o, ae[i]? = some (some (.ref n)) /\ h[n]? = some o /\ bT o /\ Rc (Oc X ns) h o u := by
 obtain ⟨s, q1, q2⟩ := Option.bind_eq_some_iff.mp q
 obtain ⟨n, o, k1, k2, k3, k4, _⟩ := S.write q1 q2
 exact ⟨n, o, k1, k2, k3, k4⟩
theorem
    Bg {w2 : D -> D -> D -> AH -> R Unit} {w3 : Val -> Val -> Val -> Option Val} (i : Nat) (hw : va w2 w3) (hG : RE G G3) (hF : RE F F3) : RS (jw F (gS (dj i) G w2)) (wSet i G3 F3 w3) := fun X h0 ns e ae h S => PoS.toS (hF X h0 0 ns e ae h S (Nat.zero_le _)) fun d t h1 ns1 e1 a1 S1 r1 => by
 try dsimp only
 cases qm : (e1[i]?).bind Sl.mv with
 | none => trivial
 |
  some u0 =>
  obtain ⟨n0, o0, b1, b2, b3, b4⟩ := xR S1 qm
  have L2e : ∀ h', (gS (dj i) G w2 d ae h').toS ae (fun ae' h2 => SR.nx ae' h2) = (G ae h').toS ae fun di h2 => (w2 (.ref n0) di d h2).toS ae fun _ h3 => .nx ae h3 := fun h' => by
   unfold gS dj
   rw [b1]
   simp only [gm]
   cases G ae h' with
   |
    ok di h2 =>
    simp only [gm]
    show _ = (w2 (.ref n0) di d h2).toS ae fun _ h3 => .nx ae h3
    cases w2 (.ref n0) di d h2 <;> rfl
   | exc c h2 => rfl
   | stuck => rfl
  rw [L2e]
  refine PoS.after S a1 (PoS.toS (hG X h0 0 ns1 e1 ae h1 S1 (Nat.zero_le _)) fun di t2 h2 ns2 e2 a2 S2 r2 => ?_)
  try dsimp only
  cases qi : rs e2 t2 with
  | none => trivial
  |
   some vi =>
   try dsimp only
   cases qd : cR e2 t.drop with
   | none => trivial
   |
    some w =>
    obtain ⟨e3, v⟩ := w
    try dsimp only
    obtain ⟨r1', hn⟩ := r1.drop
    have r3 := r1'.stp S1 a2 hn
    have si := r2.sh S2 qi
    obtain ⟨ns3, S3, a3, r4⟩ := fj S2 r3 qd
    have si3 : ShR (Oc X ns3) h2 di vi := by
     rcases si with z | ⟨n, o, z1, z2, z3⟩
     ·exact .inl (z.mono (a3.mov S2))
     ·exact .inr ⟨n, o, z1, z2, z3.mono (a3.mov S2)⟩
    cases q3 : e3[i]? with
    | none => trivial
    |
     some s =>
     try dsimp only
     cases q4 : s.mv with
     | none => trivial
     |
      some u =>
      try dsimp only
      cases q5 : w3 u vi v with
      | none => trivial
      |
       some u' =>
       obtain ⟨n, o, k1, k2, k3, k4, k5⟩ := S3.write q3 q4
       rw [b1] at k1; cases k1
       have nP : ¬ Oc X ns3 n0 := fun p => by
        have z1 := ((k5 (.lst []) (.lst []) trivial (.lst .nil)).1 _ _ p k2).2
        have z2 := ((k5 (.lst [.non]) (.lst [.non]) trivial (.lst (.cons .non .nil))).1 _ _ p k2).2
        rw [bS (cQ k2)] at z1 z2
        rw [<- z2] at z1
        cases z1
       obtain ⟨o', p1, p2, p3⟩ := hw _ _ _ _ _ _ _ _ _ _ nP k2 k3 k4 si3 r4 q5
       obtain ⟨mv, S4, a4⟩ := k5 o' u' p2 p3
       rw [p1]
       exact .nx ((a2.trans S1 a3).trans S1 a4) S4
theorem
    z0 {m2 : D -> List D -> AH -> R D} {m3 : Val -> List Val -> Option (Val × Val)} (i : Nat) (hm : RM m2 m3) (hA : RA A A3) : RE (eM m2 (dj i) A) (wB i m3 A3) := fun X h0 L ns e ae h S hl => by
 unfold wB
 cases q0 : e[i]? with
 | none => trivial
 |
  some s0 =>
  dsimp only
  split
  ·rename_i hz
   obtain ⟨u0, z1, z2⟩ := Option.map_eq_some_iff.mp hz
   obtain ⟨n0, o0, b1, b2, b3, b4, _⟩ := S.write q0 z1
   have hL : lL h (.ref n0) = true := by
    cases u0 with
    | lst xs => obtain ⟨ds, _, e1, _⟩ := Rc.seq b2 b4; show (bD h n0).isSome = true; rw [e1]; rfl
    | _ => cases z2
   have L2e : eM m2 (dj i) A ae h = (A ae h).bind fun ds h2 => m2 (.ref n0) ds h2 := by
    unfold eM dj
    rw [b1]
    simp only [gm, hL, if_true]
   rw [L2e]
   refine Po.bind S (hA X h0 ns e ae h S) fun ds ts h1 ns1 e1 a1 S1 r1 => ?_
   try dsimp only
   cases q1 : dem e1 ts with
   | none => trivial
   |
    some w =>
    obtain ⟨e2, vs⟩ := w
    try dsimp only
    obtain ⟨ns2, S2, a2, r2⟩ := j6 S1 r1 q1
    cases q2 : e2[i]? with
    | none => trivial
    |
     some s2 =>
     try dsimp only
     cases q3 : s2.mv with
     | none => trivial
     |
      some u =>
      try dsimp only
      cases q4 : m3 u vs with
      | none => trivial
      |
       some w =>
       obtain ⟨u', v⟩ := w
       obtain ⟨n, o, k1, k2, k3, k4, k5⟩ := S2.write q2 q3
       rw [b1] at k1; cases k1
       obtain ⟨_, o', d, p1, p2, p3, p4⟩ := hm _ _ _ _ _ _ _ _ _ k2 k3 k4 r2 q4
       obtain ⟨mv, S4, a4⟩ := k5 o' u' p2 p3
       exact ⟨d, _, ns2, p1, a2.trans S1 a4, S4, p4.mono mv⟩
  ·trivial
end
noncomputable def iP (mro : List Str) (i : Nat) (B U : MS3) : MS3 := fun e => match B e with
 |
  .exc c e1 => if c ∈ mro then match e1[i]? with
   |
    some s0 => if s0.pl = true then match U (e1.set i (.sh (.exc c))) with
     | .nx e2 => (match e2[i]? with | some s => if s.pl = true then .nx (e2.set i .no) else .stuck | none => .stuck)
     | .bk e2 => (match e2[i]? with | some s => if s.pl = true then .bk (e2.set i .no) else .stuck | none => .stuck)
     | .ct e2 => (match e2[i]? with | some s => if s.pl = true then .ct (e2.set i .no) else .stuck | none => .stuck)
     | .rt d e2 => .rt d e2
     | _ => .stuck
    else .stuck
   | none => .stuck
  else .stuck
 | r => r
noncomputable def jJ (mro : List Str) (B U : MS3) : MS3 := fun e => match B e with
 |
  .exc c e1 => if c ∈ mro then match U e1 with
   | .exc _ _ => .stuck
   | r => r
  else .stuck
 | r => r
theorem
    AW {B U : MS} {B3 U3 : MS3} (mro : List Str) (i : Nat) (hB : RS B B3) (hU : RS U U3) : RS (oV mro i B U) (iP mro i B3 U3) := fun X h0 ns e ae h S => by
 have p := hB X h0 ns e ae h S
 unfold iP oV
 generalize B3 e = r at *
 cases r with
 | stuck => trivial
 | nx e' => obtain ⟨ae', h', ns', q, q1, q2⟩ := p; rw [q]; exact ⟨ae', h', ns', rfl, q1, q2⟩
 | bk e' => obtain ⟨ae', h', ns', q, q1, q2⟩ := p; rw [q]; exact ⟨ae', h', ns', rfl, q1, q2⟩
 | ct e' => obtain ⟨ae', h', ns', q, q1, q2⟩ := p; rw [q]; exact ⟨ae', h', ns', rfl, q1, q2⟩
 | rt r e' => obtain ⟨d, ae', h', ns', q, q1, q2⟩ := p; rw [q]; exact ⟨d, ae', h', ns', rfl, q1, q2⟩
 |
  exc c e1 =>
  obtain ⟨ae1, h1, ns1, q, a1, S1⟩ := p
  rw [q]
  dsimp only
  by_cases hc : c ∈ mro
  ·rw [if_pos hc, if_pos hc]
   cases q0 : e1[i]? with
   | none => trivial
   |
    some s0 =>
    dsimp only
    by_cases p0 : s0.pl = true
    ·rw [if_pos p0]
     have hi := (List.getElem?_eq_some_iff.mp q0).1
     have S2 : Sat X h0 (ns1.set i none) (e1.set i (.sh (.exc c))) (ae1.set i (some (.exc c))) h1 := S1.putN hi ⟨rfl, _, rfl, .exc c⟩
     have a2 : Stp ns e h (ns1.set i none) (e1.set i (.sh (.exc c))) h1 := a1.put (x := none) (s := .sh (.exc c)) hi (fun _ z => by cases z) q0 p0 rfl S1.l2
     have p2 := PoS.after S a2 (hU X h0 _ _ _ _ S2)
     generalize U3 (e1.set i (.sh (.exc c))) = r2 at *
     cases r2 with
     | stuck => trivial
     | exc _ _ => trivial
     | rt r e2 => obtain ⟨d, ae', h', ns', q, q1, q2⟩ := p2; rw [q]; exact ⟨d, ae', h', ns', rfl, q1, q2⟩
     |
      nx e2 =>
      obtain ⟨ae', h', ns', q, q1, q2⟩ := p2
      rw [q]
      dsimp only
      split
      ·rename_i s qs
       split
       ·rename_i ps
        have hi2 := (List.getElem?_eq_some_iff.mp qs).1
        exact ⟨_, h', _, rfl, q1.put (x := none) (s := .no) hi2 (fun _ z => by cases z) qs ps rfl q2.l2, q2.putN hi2 rfl⟩
       ·trivial
      ·trivial
     |
      bk e2 =>
      obtain ⟨ae', h', ns', q, q1, q2⟩ := p2
      rw [q]
      dsimp only
      split
      ·rename_i s qs
       split
       ·rename_i ps
        have hi2 := (List.getElem?_eq_some_iff.mp qs).1
        exact ⟨_, h', _, rfl, q1.put (x := none) (s := .no) hi2 (fun _ z => by cases z) qs ps rfl q2.l2, q2.putN hi2 rfl⟩
       ·trivial
      ·trivial
     |
      ct e2 =>
      obtain ⟨ae', h', ns', q, q1, q2⟩ := p2
      rw [q]
      dsimp only
      split
      ·rename_i s qs
       split
       ·rename_i ps
        have hi2 := (List.getElem?_eq_some_iff.mp qs).1
        exact ⟨_, h', _, rfl, q1.put (x := none) (s := .no) hi2 (fun _ z => by cases z) qs ps rfl q2.l2, q2.putN hi2 rfl⟩
       ·trivial
      ·trivial
    ·rw [if_neg p0]; trivial
  ·rw [if_neg hc, if_neg hc]; trivial
theorem x5 {B U : MS} {B3 U3 : MS3} (mro : List Str) (hB : RS B B3) (hU : RS U U3) : RS (kS mro B U) (jJ mro B3 U3) := fun X h0 ns e ae h S => by
 have p := hB X h0 ns e ae h S
 unfold jJ kS
 generalize B3 e = r at *
 cases r with
 | stuck => trivial
 | nx e' => obtain ⟨ae', h', ns', q, q1, q2⟩ := p; rw [q]; exact ⟨ae', h', ns', rfl, q1, q2⟩
 | bk e' => obtain ⟨ae', h', ns', q, q1, q2⟩ := p; rw [q]; exact ⟨ae', h', ns', rfl, q1, q2⟩
 | ct e' => obtain ⟨ae', h', ns', q, q1, q2⟩ := p; rw [q]; exact ⟨ae', h', ns', rfl, q1, q2⟩
 | rt r e' => obtain ⟨d, ae', h', ns', q, q1, q2⟩ := p; rw [q]; exact ⟨d, ae', h', ns', rfl, q1, q2⟩
 |
  exc c e1 =>
  obtain ⟨ae1, h1, ns1, q, a1, S1⟩ := p
  rw [q]
  dsimp only
  by_cases hc : c ∈ mro
  ·rw [if_pos hc, if_pos hc]
   have p2 := PoS.after S a1 (hU X h0 _ _ _ _ S1)
   generalize U3 e1 = r2 at *
   cases r2 with
   | stuck => trivial
   | exc _ _ => trivial
   | nx e' => obtain ⟨ae', h', ns', q, q1, q2⟩ := p2; rw [q]; exact ⟨ae', h', ns', rfl, q1, q2⟩
   | bk e' => obtain ⟨ae', h', ns', q, q1, q2⟩ := p2; rw [q]; exact ⟨ae', h', ns', rfl, q1, q2⟩
   | ct e' => obtain ⟨ae', h', ns', q, q1, q2⟩ := p2; rw [q]; exact ⟨ae', h', ns', rfl, q1, q2⟩
   | rt r e' => obtain ⟨d, ae', h', ns', q, q1, q2⟩ := p2; rw [q]; exact ⟨d, ae', h', ns', rfl, q1, q2⟩
  ·rw [if_neg hc, if_neg hc]; trivial
end L3
set_option Elab.async false
set_option linter.all false
set_option maxRecDepth 100000
namespace L3
open PySem PySem.Spec PyProof.Rows L2
noncomputable def iR : Sl -> Sl
 | .ow v => .lo v
 | .mu v => .lm v
 | s => s
noncomputable def jM : Sl -> Sl
 | .lo v => .ow v
 | .lm v => .mu v
 | s => s
noncomputable def lock (e : E3) (k : Nat) : E3 := match e[k]? with
 | some s => e.set k (iR s)
 | none => e
noncomputable def unlock (e : E3) (k : Nat) : E3 := match e[k]? with
 | some s => e.set k (jM s)
 | none => e
noncomputable def lockO (e : E3) : Option Nat -> E3
 | some k => lock e k
 | none => e
noncomputable def eu (e : E3) : Option Nat -> E3
 | some k => unlock e k
 | none => e
section
variable {X : Nat -> Prop} {h0 L : Nat} {ns ns1 ns' : Ns} {e e1 e' : E3} {ae ae' : AE} {h h1 h' : AH}
theorem SlR.lock {P : Nat -> Prop} {n : Option (Option Nat)} {d : Option (Option D)} {s : Sl} (r : SlR P h0 n d h s) : SlR P h0 n d h (iR s) := by cases s <;> exact r
theorem SlR.unlock {P : Nat -> Prop} {n : Option (Option Nat)} {d : Option (Option D)} {s : Sl} (r : SlR P h0 n d h s) : SlR P h0 n d h (jM s) := by cases s <;> exact r
theorem Sat.lock (S : Sat X h0 ns e ae h) (k : Nat) : Sat X h0 ns (lock e k) ae h := by
 unfold L3.lock
 split
 ·rename_i s q
  have hi := (List.getElem?_eq_some_iff.mp q).1
  refine ⟨by rw [List.length_set]; exact S.l1, by rw [List.length_set]; exact S.l2, S.lh, S.xl, S.inj, S.nx, fun j s' qj => ?_⟩
  rcases bF hi qj with ⟨rfl, rfl⟩ | ⟨z, qj'⟩
  ·exact (S.sl j s q).lock
  ·exact S.sl j s' qj'
 ·exact S
theorem Sat.unlock (S : Sat X h0 ns e ae h) (k : Nat) : Sat X h0 ns (unlock e k) ae h := by
 unfold L3.unlock
 split
 ·rename_i s q
  have hi := (List.getElem?_eq_some_iff.mp q).1
  refine ⟨by rw [List.length_set]; exact S.l1, by rw [List.length_set]; exact S.l2, S.lh, S.xl, S.inj, S.nx, fun j s' qj => ?_⟩
  rcases bF hi qj with ⟨rfl, rfl⟩ | ⟨z, qj'⟩
  ·exact (S.sl j s q).unlock
  ·exact S.sl j s' qj'
 ·exact S
theorem iz {k j : Nat} (z : j ≠ k) : (lock e k)[j]? = e[j]? := by
 unfold lock; split
 ·rw [bM z]
 ·rfl
theorem gZ {k j : Nat} (z : j ≠ k) : (unlock e k)[j]? = e[j]? := by
 unfold unlock; split
 ·rw [bM z]
 ·rfl
theorem mD {k : Nat} {s : Sl} (q : e[k]? = some s) : (lock e k)[k]? = some (iR s) := by
 unfold lock; rw [q]; exact bS (List.getElem?_eq_some_iff.mp q).1
theorem jk {k : Nat} {s : Sl} (q : e[k]? = some s) : (unlock e k)[k]? = some (jM s) := by
 unfold unlock; rw [q]; exact bS (List.getElem?_eq_some_iff.mp q).1
theorem Stp.unlock {k : Nat} {s : Sl} (q : e[k]? = some s) (hs : s.mt = true) (a : Stp ns (L3.lock e k) h ns' e' h') : Stp ns e h ns' (L3.unlock e' k) h' := by
 have hl : (iR s).lk = true := by cases s <;> first | rfl | cases hs
 have hu : jM (iR s) = s := by cases s <;> first | rfl | cases hs
 obtain ⟨qk, nk⟩ := a.lk k _ (mD q) hl
 refine ⟨a.len, fun m o qm hM => a.keep m o qm fun ⟨j, s', z1, z2, z3⟩ => hM ?_, a.nw, fun j s' qj hj => ?_, fun j s' qj hj => ?_, fun j v qj => ?_, fun j v qj => ?_⟩
 ·by_cases z : j = k
  ·subst z; exact ⟨j, s, z1, q, hs⟩
  ·rw [iz z] at z2; exact ⟨j, s', z1, z2, z3⟩
 ·have z : j ≠ k := fun z => by subst z; rw [q] at qj; cases qj; cases s <;> first | cases hs; done | cases hj; done
  rw [gZ z]
  exact a.lk j s' (by rw [iz z]; exact qj) hj
 ·have z : j ≠ k := fun z => by
   subst z
   rw [jk qk, hu] at qj; cases qj; cases s <;> first | cases hs; done | cases hj; done
  rw [gZ z] at qj
  obtain ⟨y1, y2⟩ := a.lk' j s' qj hj
  rw [iz z] at y1
  exact ⟨y1, y2⟩
 ·by_cases z : j = k
  ·subst z; rw [jk qk, hu] at qj; cases qj; exact ⟨v, q, nk⟩
  ·rw [gZ z] at qj
   obtain ⟨u, y1, y2⟩ := a.mu j v qj
   rw [iz z] at y1
   exact ⟨u, y1, y2⟩
 ·by_cases z : j = k
  ·subst z; rw [q] at qj; cases qj; exact ⟨v, by rw [jk qk, hu], nk⟩
  ·obtain ⟨u, y1, y2⟩ := a.mu' j v (by rw [iz z]; exact qj)
   exact ⟨u, by rw [gZ z]; exact y1, y2⟩
end
abbrev MI3 := E3 -> R3 (List Val × Option Nat)
noncomputable def Stay (X : Nat -> Prop) (ns : Ns) (k : Option Nat) (h h' : AH) : Prop := ∀ (m : Nat) (o : Ob), h[m]? = some o -> (Oc X ns m \/ ∃ j : Nat, k = some j /\ ns[j]? = some (some m)) -> h'[m]? = some o
noncomputable def nY (X : Nat -> Prop) (ns : Ns) (e : E3) (h : AH) (it : AIt) (p : List Val × Option Nat) : Prop :=
 Rds (Oc X ns) h it.items p.1 /\ (∀ h', Stay X ns p.2 h h' -> it.guard h') /\ ∀ k : Nat, p.2 = some k -> ∃ s, e[k]? = some s /\ s.mt = true
noncomputable def RI (I : MI) (J : MI3) : Prop := ∀ X h0 ns e ae h, Sat X h0 ns e ae h -> Po X h0 ns e ae h (nY X) (I ae h) (J e)
noncomputable def jP : Val -> Option (List Val)
 | .tup xs => some xs
 | .lst xs => some xs
 | _ => none
noncomputable def mx (t : Tm) (e : E3) : Option (List Val × Option Nat) := match t with
 | .val v => (jP v).map fun xs => (xs, none)
 | .new v => (jP v).map fun xs => (xs, none)
 | .bor k => match e[k]? with
  | some (.sh v) => (jP v).map fun xs => (xs, none)
  | some (.ow (.lst xs)) => some (xs, some k)
  | some (.mu (.lst xs)) => some (xs, some k)
  | _ => none
noncomputable def wX (F : ME3) : MI3 := fun e => (F e).bind fun t e1 => match mx t e1 with
 | some p => .ok p e1
 | none => .stuck
noncomputable def rA (lo : Int) (k : Nat) : List Val := (List.range k).map fun i => Val.int (lo + (i : Nat))
structure RgB (j : Int) : Prop where
 lo : -(2 ^ 62) <= j
 hi : j < 2 ^ 62
noncomputable def ie : List Val -> Option (List Val)
 | [.int j] => @ite _ (RgB j) (Classical.propDecidable _) (some (rA 0 j.toNat)) none
 | _ => none
noncomputable def uC (f : List Val -> Option (List Val)) (A : MA3) : MI3 := fun e => (A e).bind fun ts e1 => match (rss e1 ts).bind f with
 | some xs => .ok (xs, none) e1
 | none => .stuck
section
variable {F : ME} {F3 : ME3} {A : MA} {A3 : MA3}
theorem rC {X : Nat -> Prop} {h0 : Nat} {ns : Ns} {e : E3} {ae : AE} {h : AH} {d : D} {v : Val} {xs : List Val} (S : Sat X h0 ns e ae h) (r : Rd (Oc X ns) h d v) (q : jP v = some xs) : ∃ it, jS d h = some it /\ nY X ns e h it (xs, none) := by
 cases v with
 |
  tup ys =>
  cases q
  obtain ⟨ds, rfl, r2⟩ := ShR.tup (.inl r)
  exact ⟨_, rfl, r2, fun _ _ => trivial, fun _ z => nomatch z⟩
 |
  lst ys =>
  cases q
  cases r with
  |
   cell p eo rc =>
   rename_i n o
   obtain ⟨ds, _, e1, r1⟩ := Rc.seq eo rc
   refine ⟨.lst n ds, by unfold jS; dsimp only; rw [e1]; rfl, r1, fun h' st => ?_, fun _ z => nomatch z⟩
   show bD h' n = some ds
   have := st n o eo (.inl p)
   unfold bD at e1 ⊢
   rw [eo] at e1
   rw [this]; exact e1
 | _ => cases q
theorem
    Ai {X : Nat -> Prop} {h0 L : Nat} {ns : Ns} {e : E3} {ae : AE} {h : AH} {d : D} {t : Tm} {p : List Val × Option Nat} (S : Sat X h0 ns e ae h) (r : relE X h0 L ae ns e h d t) (q : mx t e = some p) : ∃ it, jS d h = some it /\ nY X ns e h it p := by
 cases t with
 | val v => obtain ⟨xs, q1, rfl⟩ := Option.map_eq_some_iff.mp q; exact rC S r q1
 | new v => obtain ⟨xs, q1, rfl⟩ := Option.map_eq_some_iff.mp q; exact rC S r.new q1
 |
  bor k =>
  have r' : ae[k]? = some (some d) := r
  have own : ∀ {s xs}, e[k]? = some s -> s.mv = some (.lst xs) -> ∃ it, jS d h = some it /\ nY X ns e h it (xs, some k) := fun {s xs} q qm => by
   have hns : ∃ n, ns[k]? = some (some n) /\ ae[k]? = some (some (.ref n)) := by
    have y := S.sl k s q
    cases s with
    | ow v => obtain ⟨n, o, y1, y2, _⟩ := y; exact ⟨n, y1, y2⟩
    | mu v => obtain ⟨n, o, y1, y2, _⟩ := y; exact ⟨n, y1, y2⟩
    | _ => cases qm
   obtain ⟨n, y1, y2⟩ := hns
   obtain ⟨n', o, k1, k2, k3, k4, _⟩ := S.write q qm
   rw [y2] at k1; cases k1
   rw [r'] at y2; cases y2
   obtain ⟨ds, _, e2, r2⟩ := Rc.seq k2 k4
   refine ⟨.lst n ds, by unfold jS; dsimp only; rw [e2]; rfl, r2, fun h' st => ?_, fun j z => ?_⟩
   ·show bD h' n = some ds
    have := st n o k2 (.inr ⟨k, rfl, y1⟩)
    unfold bD at e2 ⊢
    rw [k2] at e2
    rw [this]; exact e2
   ·cases z; exact ⟨s, q, by cases s <;> first | rfl | cases qm⟩
  unfold mx at q
  dsimp only at q
  split at q
  ·rename_i v qs
   obtain ⟨_, x, e2, r2⟩ := S.sl k _ qs
   rw [r'] at e2; cases e2
   obtain ⟨xs, q1, rfl⟩ := Option.map_eq_some_iff.mp q
   exact rC S r2 q1
  ·rename_i xs qs; cases q; exact own qs rfl
  ·rename_i xs qs; cases q; exact own qs rfl
  ·cases q
noncomputable def vy (d : D) (h : AH) : R AIt := match d with
 | .tup xs => .ok (.tup xs) h
 | .ref n => match bD h n with
  | some xs => .ok (.lst n xs) h
  | none => .stuck
 | _ => .stuck
theorem x8 {d : D} {h : AH} {it : AIt} (q : jS d h = some it) : vy d h = .ok it h := by
 cases d with
 | tup xs => cases q; rfl
 |
  ref n =>
  obtain ⟨xs, y1, rfl⟩ := Option.map_eq_some_iff.mp (show (bD h n).map (AIt.lst n) = some it from q)
  unfold vy; dsimp only; rw [y1]
 | _ => cases q
theorem Au (hF : RE F F3) : RI (vM F) (wX F3) := fun X h0 ns e ae h S =>
 Po.bind S (hF X h0 0 ns e ae h S (Nat.zero_le _)) fun d t h1 ns1 e1 a1 S1 r1 => by
  show Po X h0 ns1 e1 ae h1 (nY X) (vy d h1) _
  cases q : mx t e1 with
  | none => trivial
  |
   some p =>
   dsimp only
   obtain ⟨it, q1, q2⟩ := Ai S1 r1 q
   exact ⟨it, h1, ns1, x8 q1, .refl, S1, q2⟩
theorem xQ {P : Nat -> Prop} {h : AH} (lo : Int) (k : Nat) : Rds P h (AIt.rng lo k).items (rA lo k) := by
 show Rds P h ((List.range k).map fun i => D.int (lo + (i : Nat))) ((List.range k).map fun i => Val.int (lo + (i : Nat)))
 generalize List.range k = l
 induction l with
 | nil => exact .nil
 | cons i l ih => exact .cons (.int _) ih
theorem iQ {P : Nat -> Prop} {h : AH} {ds : List D} {v : Val} (r : ShRs P h ds [v]) : ∃ d, ds = [d] /\ ShR P h d v := by
 cases r with | cons r rr => cases rr; exact ⟨_, rfl, r⟩
theorem qH {P : Nat -> Prop} {h : AH} {ds : List D} {v u : Val} (r : ShRs P h ds [v, u]) : ∃ d d', ds = [d, d'] /\ ShR P h d v /\ ShR P h d' u := by
 cases r with | cons r rr => cases rr with | cons r' rr => cases rr; exact ⟨_, _, rfl, r, r'⟩
theorem C9 {f2 : List D -> AH -> R AIt} {f3 : List Val -> Option (List Val)} (hf : ∀ P h ds vs xs, ShRs P h ds vs -> f3 vs = some xs -> ∃ lo k, f2 ds h = .ok (.rng lo k) h /\ xs = rA lo k) (hA : RA A A3) : RI (fun ae h => (A ae h).bind f2) (uC f3 A3) := fun X h0 ns e ae h S =>
 Po.bind S (hA X h0 ns e ae h S) fun ds ts h1 ns1 e1 a1 S1 r1 => by
  try dsimp only
  split
  ·rename_i xs q
   obtain ⟨vs, q1, q2⟩ := Option.bind_eq_some_iff.mp q
   obtain ⟨lo, k, p1, rfl⟩ := hf _ _ _ _ _ (TsR.sh S1 r1 q1) q2
   rw [p1]
   exact Po.ret S1 ⟨xQ _ _, fun _ _ => trivial, fun _ z => nomatch z⟩
  ·trivial
theorem
    BH (hA : RA A A3) : RI (uG A) (uC ie A3) := C9 (f2 := fun ds h1 => match ds with
 | [.int j] => if -(2 ^ 62) <= j /\ j < 2 ^ 62 then .ok (.rng 0 j.toNat) h1 else .stuck
 |
  _ => .stuck) (fun P h ds vs xs r q => by
  unfold ie at q
  split at q
  ·split at q
   ·rename_i hb
    cases q
    obtain ⟨d, rfl, r2⟩ := iQ r
    obtain rfl := r2.int
    exact ⟨_, _, by dsimp only; rw [if_pos ⟨hb.lo, hb.hi⟩], rfl⟩
   ·cases q
  ·cases q) hA
end
noncomputable def SR3.loop (r : SR3) (f : E3 -> SR3) : SR3 := match r with
 | .nx e => f e
 | .ct e => f e
 | .bk e => .nx e
 | .rt d e => .rt d e
 | .exc c e => .exc c e
 | .stuck => .stuck
noncomputable def iW (g : MG3) (B : MS3) : List Val -> MS3
 | [], e => .nx e
 | v :: vs, e => match g v e with
  | some e1 => (B e1).loop (iW g B vs)
  | none => .stuck
noncomputable def SR3.unl (k : Option Nat) (r : SR3) : SR3 := match r with
 | .nx e => .nx (eu e k)
 | .ct e => .ct (eu e k)
 | .bk e => .bk (eu e k)
 | .rt d e => .rt d (eu e k)
 | .exc c e => .exc c (eu e k)
 | .stuck => .stuck
noncomputable def wFor (I : MI3) (g : MG3) (B : MS3) : MS3 := fun e => (I e).toS fun p e1 => (iW g B p.1 (lockO e1 p.2)).unl p.2
section
variable {I : MI} {I3 : MI3} {g : MG} {g3 : MG3} {B : MS} {B3 : MS3} {c : MT} {c3 : MT3} {F : ME} {F3 : ME3}
theorem PoS.loop {X : Nat -> Prop} {h0 : Nat} {ns : Ns} {e : E3} {ae : AE} {h : AH} {r2 : SR} {r3 : SR3} {f2 : AE -> AH -> SR} {f3 : E3 -> SR3} (p : PoS X h0 ns e h r2 r3)
  (k : ∀ ae' h' ns' e', Stp ns e h ns' e' h' -> Sat X h0 ns' e' ae' h' -> PoS X h0 ns e h (f2 ae' h') (f3 e')) : PoS X h0 ns e h (r2.loop f2) (r3.loop f3) := by
 cases r3 with
 | stuck => trivial
 | nx e' => obtain ⟨ae', h', ns', q, q1, q2⟩ := p; rw [q]; exact k ae' h' ns' e' q1 q2
 | ct e' => obtain ⟨ae', h', ns', q, q1, q2⟩ := p; rw [q]; exact k ae' h' ns' e' q1 q2
 | bk e' => obtain ⟨ae', h', ns', q, q1, q2⟩ := p; rw [q]; exact ⟨ae', h', ns', rfl, q1, q2⟩
 | exc c e' => obtain ⟨ae', h', ns', q, q1, q2⟩ := p; rw [q]; exact ⟨ae', h', ns', rfl, q1, q2⟩
 | rt r e' => obtain ⟨d, ae', h', ns', q, q1, q2⟩ := p; rw [q]; exact ⟨d, ae', h', ns', rfl, q1, q2⟩
theorem yW {X : Nat -> Prop} {h0 : Nat} {ns ns' : Ns} {e e' : E3} {ae : AE} {h h' : AH} {k : Option Nat} (S : Sat X h0 ns e ae h) (hk : ∀ j : Nat, k = some j -> ∃ s, e[j]? = some s /\ s.mt = true) (a : Stp ns (lockO e k) h ns' e' h') : Stay X ns k h h' := fun m o q hm => by
 refine a.keep m o q fun ⟨i, s, z1, z2, z3⟩ => ?_
 rcases hm with hm | ⟨j, rfl, hj⟩
 ·exact hm.2 (bp.mpr ⟨i, z1⟩)
 ·have : i = j := S.inj i j m z1 hj
  subst this
  obtain ⟨s', y1, y2⟩ := hk i rfl
  have : (lockO e (some i))[i]? = some (iR s') := mD y1
  rw [this] at z2; cases z2
  cases s' <;> first | cases y2; done | cases z3; done
theorem PoS.unl {X : Nat -> Prop} {h0 : Nat} {ns : Ns} {e : E3} {h : AH} {k : Option Nat} {r2 : SR} {r3 : SR3} (hk : ∀ j : Nat, k = some j -> ∃ s, e[j]? = some s /\ s.mt = true) (p : PoS X h0 ns (lockO e k) h r2 r3) : PoS X h0 ns e h r2 (r3.unl k) := by
 cases k with
 | none => cases r3 <;> exact p
 |
  some j =>
  obtain ⟨s, y1, y2⟩ := hk j rfl
  cases r3 with
  | stuck => trivial
  | nx e' => obtain ⟨ae', h', ns', q, q1, q2⟩ := p; exact ⟨ae', h', ns', q, q1.unlock y1 y2, q2.unlock j⟩
  | ct e' => obtain ⟨ae', h', ns', q, q1, q2⟩ := p; exact ⟨ae', h', ns', q, q1.unlock y1 y2, q2.unlock j⟩
  | bk e' => obtain ⟨ae', h', ns', q, q1, q2⟩ := p; exact ⟨ae', h', ns', q, q1.unlock y1 y2, q2.unlock j⟩
  | exc c e' => obtain ⟨ae', h', ns', q, q1, q2⟩ := p; exact ⟨ae', h', ns', q, q1.unlock y1 y2, q2.unlock j⟩
  |
   rt r e' =>
   obtain ⟨d, ae', h', ns', q, q1, q2⟩ := p
   refine ⟨d, ae', h', ns', q, q1.unlock y1 y2, ?_⟩
   cases r with
   | val v => exact ⟨q2.1.unlock j, q2.2⟩
   | new v => obtain ⟨n, o, z1, z2, z3, z4, z5, z6, z7⟩ := q2; exact ⟨n, o, z1, z2, z3, z4, z5, z6.unlock j, z7⟩
theorem Sat.lockO {X : Nat -> Prop} {h0 : Nat} {ns : Ns} {e : E3} {ae : AE} {h : AH} (S : Sat X h0 ns e ae h) (k : Option Nat) : Sat X h0 ns (lockO e k) ae h := by
 cases k with
 | none => exact S
 | some k => exact S.lock k
theorem
    xu {X : Nat -> Prop} {h0 : Nat} {ns : Ns} {e : E3} {ae : AE} {h : AH} {G : AH -> Prop} (S : Sat X h0 ns e ae h) (hg : RG g g3) (hB : RS B B3) (hG : ∀ ns' e' h', Stp ns e h ns' e' h' -> G h') :
  ∀ {ds : List D} {vs : List Val}, Rds (Oc X ns) h ds vs -> ∀ {ns1 : Ns} {e1 : E3} {ae1 : AE} {h1 : AH}, Stp ns e h ns1 e1 h1 -> Sat X h0 ns1 e1 ae1 h1 -> PoS X h0 ns e h (iI G g B ds ae1 h1) (iW g3 B3 vs e1) := by
 intro ds
 induction ds with
 |
  nil =>
  intro vs r ns1 e1 ae1 h1 a1 S1
  cases r
  unfold iI
  rw [if_pos (hG _ _ _ a1)]
  exact .nx a1 S1
 |
  cons d0 ds ih =>
  intro vs r ns1 e1 ae1 h1 a1 S1
  cases r with
  |
   cons r rr =>
   unfold iI iW
   rw [if_pos (hG _ _ _ a1)]
   split
   ·rename_i e2 q
    obtain ⟨ae2, ns2, p2, S2, a2⟩ := hg _ _ _ _ _ _ _ _ _ S1 (r.mono (a1.mov S)) q
    rw [p2]
    have a12 := a1.trans S a2
    show PoS X h0 ns e h ((B ae2 h1).loop _) _
    refine PoS.loop (ae := ae) (PoS.after S a12 (hB X h0 ns2 e2 ae2 h1 S2)) fun ae3 h3 ns3 e3 a3 S3 => ih rr a3 S3
   ·trivial
theorem zB (hI : RI I I3) (hg : RG g g3) (hB : RS B B3) : RS (wg I g B) (wFor I3 g3 B3) := fun X h0 ns e ae h S => PoS.toS (hI X h0 ns e ae h S) fun it p h1 ns1 e1 a1 S1 r1 => by
 obtain ⟨r2, gd, hk⟩ := r1
 refine PoS.after S a1 (PoS.unl hk ?_)
 have S2 := S1.lockO p.2
 exact xu S2 hg hB (fun ns' e' h' a => gd h' (yW S1 hk a)) r2 .refl S2
noncomputable def whV (c : MT3) (B : MS3) : Nat -> MS3
 | 0, _ => .stuck
 | k + 1, e => (c e).toS fun b e1 => if b = true then (B e1).loop (whV c B k) else .nx e1
open Classical in
noncomputable def wWh (c : MT3) (B : MS3) : MS3 := fun e => if q : ∃ k, whV c B k e ≠ .stuck then whV c B q.choose e else .stuck
theorem
    kO {c : MT3} {B : MS3} : ∀ {k : Nat} {e : E3}, whV c B k e ≠ .stuck -> whV c B (k + 1) e = whV c B k e
 | 0, _, q => absurd rfl q
 |
  k + 1, e, q => by
  have e1 : whV c B (k + 2) e = (c e).toS fun b e1 => if b = true then (B e1).loop (whV c B (k + 1)) else .nx e1 := rfl
  have e2 : whV c B (k + 1) e = (c e).toS fun b e1 => if b = true then (B e1).loop (whV c B k) else .nx e1 := rfl
  rw [e2] at q
  rw [e1, e2]
  cases r : c e with
  | exc _ _ => rfl
  | stuck => rfl
  |
   ok b h1 =>
   rw [r] at q
   cases b with
   | false => rfl
   |
    true =>
    have q' : (B h1).loop (whV c B k) ≠ .stuck := q
    show (B h1).loop (whV c B (k + 1)) = (B h1).loop (whV c B k)
    cases s : B h1 with
    | nx a2 => rw [s] at q'; exact kO q'
    | ct a2 => rw [s] at q'; exact kO q'
    | _ => rfl
theorem sS {c : MT3} {B : MS3} {k j : Nat} {e : E3} (q : whV c B k e ≠ .stuck) (hj : k <= j) : whV c B j e = whV c B k e := by
 induction hj with
 | refl => rfl
 | step _ ih => rw [kO (by rw [ih]; exact q), ih]
theorem kZ {c : MT3} {B : MS3} {k : Nat} {e : E3} (q : whV c B k e ≠ .stuck) : wWh c B e = whV c B k e := by
 have hq : ∃ k, whV c B k e ≠ .stuck := ⟨k, q⟩
 unfold wWh
 rw [dif_pos hq]
 rcases Nat.le_total hq.choose k with z | z
 ·exact (sS hq.choose_spec z).symm
 ·exact sS q z
theorem
    uF (c : MT3) (B : MS3) (e : E3) : wWh c B e = (c e).toS fun b e1 => if b = true then (B e1).loop (wWh c B) else .nx e1 := by
 by_cases q : ∃ k, whV c B k e ≠ .stuck
 ·obtain ⟨k, q⟩ := q
  rw [kZ q]
  cases k with
  | zero => exact absurd rfl q
  |
   succ k =>
   have e2 : whV c B (k + 1) e = (c e).toS fun b e1 => if b = true then (B e1).loop (whV c B k) else .nx e1 := rfl
   rw [e2] at q ⊢
   cases r : c e with
   | exc _ _ => rfl
   | stuck => rfl
   |
    ok b h1 =>
    rw [r] at q
    cases b with
    | false => rfl
    |
     true =>
     have q' : (B h1).loop (whV c B k) ≠ .stuck := q
     show (B h1).loop (whV c B k) = (B h1).loop (wWh c B)
     cases s : B h1 with
     | nx a2 => rw [s] at q'; exact (kZ q').symm
     | ct a2 => rw [s] at q'; exact (kZ q').symm
     | _ => rfl
 ·have e0 : wWh c B e = .stuck := by unfold wWh; rw [dif_neg q]
  rw [e0]
  have hs : ∀ k, whV c B (k + 1) e = .stuck := fun k => Classical.byContradiction fun z => q ⟨_, z⟩
  cases r : c e with
  | stuck => rfl
  |
   exc c' h' =>
   have := hs 0
   unfold whV at this
   rw [r] at this
   cases this
  |
   ok b h1 =>
   cases b with
   |
    false =>
    have := hs 0
    unfold whV at this
    rw [r] at this
    cases this
   |
    true =>
    have h2 : ∀ k, (B h1).loop (whV c B k) = .stuck := fun k => by
     have := hs k
     unfold whV at this
     rw [r] at this
     exact this
    show SR3.stuck = (B h1).loop (wWh c B)
    have lim : ∀ a2, (∀ k, whV c B k a2 = .stuck) -> wWh c B a2 = .stuck := fun a2 z => by
     unfold wWh
     rw [dif_neg (fun ⟨k, y⟩ => y (z k))]
    cases s : B h1 with
    | nx a2 => rw [s] at h2; exact (lim a2 h2).symm
    | ct a2 => rw [s] at h2; exact (lim a2 h2).symm
    | stuck => rfl
    | _ => have := h2 0; rw [s] at this; cases this
theorem zC {X : Nat -> Prop} {h0 : Nat} {ns : Ns} {e : E3} {h : AH} {r2 : SR} {r3 : SR3} (p : PoS X h0 ns e h r2 r3) (q : r3 ≠ .stuck) : r2 ≠ .stuck := by
 cases r3 with
 | stuck => exact absurd rfl q
 | nx e' => obtain ⟨ae', h', ns', z, _⟩ := p; rw [z]; intro y; cases y
 | ct e' => obtain ⟨ae', h', ns', z, _⟩ := p; rw [z]; intro y; cases y
 | bk e' => obtain ⟨ae', h', ns', z, _⟩ := p; rw [z]; intro y; cases y
 | exc c e' => obtain ⟨ae', h', ns', z, _⟩ := p; rw [z]; intro y; cases y
 | rt r e' => obtain ⟨d, ae', h', ns', z, _⟩ := p; rw [z]; intro y; cases y
theorem sW (hc : RT c c3) (hB : RS B B3) : ∀ (k : Nat) (X : Nat -> Prop) (h0 : Nat) (ns : Ns) (e : E3) (ae : AE) (h : AH), Sat X h0 ns e ae h -> PoS X h0 ns e h (whN c B k ae h) (whV c3 B3 k e)
 | 0, _, _, _, _, _, _, _ => trivial
 |
  k + 1, X, h0, ns, e, ae, h, S => by
  refine PoS.toS (hc X h0 ns e ae h S) fun b b' h1 ns1 e1 a1 S1 r1 => ?_
  cases r1
  try dsimp only
  split
  ·exact PoS.after S a1 (PoS.loop (ae := ae) (hB X h0 ns1 e1 ae h1 S1) fun ae2 h2 ns2 e2 a2 S2 => PoS.after S1 a2 (sW hc hB k X h0 ns2 e2 ae2 h2 S2))
  ·exact .nx a1 S1
theorem CT (hc : RT c c3) (hB : RS B B3) : RS (sWh c B) (wWh c3 B3) := fun X h0 ns e ae h S => by
 by_cases q : ∃ k, whV c3 B3 k e ≠ .stuck
 ·obtain ⟨k, q⟩ := q
  rw [kZ q]
  have p := sW hc hB k X h0 ns e ae h S
  rw [tx (zC p q)]
  exact p
 ·unfold wWh; rw [dif_neg q]; trivial
end
end L3
set_option Elab.async false
set_option linter.all false
set_option maxRecDepth 100000
namespace L3
open PySem PySem.Spec PyProof.Rows L2
noncomputable def eT (o : Option Nat) (s : Sl) (e : E3) : E3 := match o, s with
 | some i, .mu v => (match e[i]? with
  | some t => e.set i (t.re v)
  | none => e)
 | _, _ => e
noncomputable def bC : List (Option Nat) -> E3 -> E3 -> E3
 | o :: sub, s :: inner, e => bC sub inner (eT o s e)
 | _, _, e => e
theorem p8 {o : Option Nat} {s : Sl} {e : E3} {i : Nat} (hn : ∀ v, o = some i -> s = .mu v -> False) : (eT o s e)[i]? = e[i]? := by
 unfold eT
 split
 ·rename_i i' v
  split
  ·rename_i t q
   by_cases z : i = i'
   ·subst z; exact (hn v rfl rfl).elim
   ·rw [bM z]
  ·rfl
 ·rfl
theorem my : ∀ {sub : List (Option Nat)} {e2 e : E3} {i : Nat}, (∀ (j : Nat) v, sub[j]? = some (some i) -> e2[j]? = some (.mu v) -> False) -> (bC sub e2 e)[i]? = e[i]?
 | [], _, _, _, _ => rfl
 | _ :: _, [], _, _, _ => rfl
 |
  o :: sub, s :: e2, e, i, hn => by
  show (bC sub e2 (eT o s e))[i]? = _
  rw [my (fun j v q1 q2 => hn (j + 1) v (by simpa using q1) (by simpa using q2))]
  exact p8 fun v z1 z2 => hn 0 v (by rw [z1]; rfl) (by rw [z2]; rfl)
theorem ql : ∀ {sub : List (Option Nat)} {e2 e : E3} {i j : Nat} {v : Val}, (∀ (j k : Nat) i, sub[j]? = some (some i) -> sub[k]? = some (some i) -> j = k) -> sub[j]? = some (some i) -> e2[j]? = some (.mu v) -> (bC sub e2 e)[i]? = (e[i]?).map (Sl.re · v)
 | [], _, _, _, j, _, _, q, _ => by simp at q
 | _ :: _, [], _, _, j, _, _, _, q => by simp at q
 |
  o :: sub, s :: e2, e, i, 0, v, hj, q1, q2 => by
  have z1 : o = some i := by simpa using q1
  have z2 : s = .mu v := by simpa using q2
  subst z1 z2
  show (bC sub e2 (eT (some i) (.mu v) e))[i]? = _
  rw [my (fun k u y1 _ => by have := hj 0 (k + 1) i rfl (by simpa using y1); omega)]
  unfold eT
  dsimp only
  split
  ·rename_i t q; rw [bS (List.getElem?_eq_some_iff.mp q).1, q]; rfl
  ·rename_i q; rw [q]; rfl
 |
  o :: sub, s :: e2, e, i, j + 1, v, hj, q1, q2 => by
  show (bC sub e2 (eT o s e))[i]? = _
  have q1' : sub[j]? = some (some i) := by simpa using q1
  rw [ql (fun a b c y1 y2 => by have := hj (a + 1) (b + 1) c (by simpa using y1) (by simpa using y2); omega) q1' (by simpa using q2)]
  rw [p8 fun v z1 _ => by have := hj 0 (j + 1) i (by rw [z1]; rfl) q1; omega]
noncomputable def bW (sub : List (Option Nat)) (ns : Ns) : Ns := sub.map fun o => o.bind fun i => (ns[i]?).bind id
theorem cA {sub : List (Option Nat)} {ns : Ns} {j n : Nat} (q : (bW sub ns)[j]? = some (some n)) : ∃ i, sub[j]? = some (some i) /\ ns[i]? = some (some n) := by
 unfold bW at q
 rw [List.getElem?_map] at q
 cases z : sub[j]? with
 | none => rw [z] at q; cases q
 |
  some o =>
  rw [z] at q
  cases o with
  | none => cases q
  |
   some i =>
   refine ⟨i, rfl, ?_⟩
   have q' : (ns[i]?).bind id = some n := Option.some.inj q
   cases y : ns[i]? with
   | none => rw [y] at q'; cases q'
   | some w => rw [y] at q'; have : w = some n := q'; rw [this]
theorem yy {sub : List (Option Nat)} {ns : Ns} {j i : Nat} {w : Option Nat} (q : sub[j]? = some (some i)) (q2 : ns[i]? = some w) : (bW sub ns)[j]? = some w := by
 unfold bW
 rw [List.getElem?_map, q]
 show some ((ns[i]?).bind id) = some w
 rw [q2]; rfl
structure Lnk (sub : List (Option Nat)) (e ei : E3) : Prop where
 inj : ∀ (j k : Nat) (i : Nat), sub[j]? = some (some i) -> sub[k]? = some (some i) -> j = k
 mu : ∀ (j : Nat) (v : Val), ei[j]? = some (.mu v) -> ∃ (i : Nat) (s : Sl), sub[j]? = some (some i) /\ e[i]? = some s /\ s.mt = true
 mt : ∀ (j : Nat) (s : Sl), ei[j]? = some s -> s.mt = true -> ∃ v, s = .mu v
theorem
    Sat.back {X Y : Nat -> Prop} {h0 : Nat} {ns ns2 : Ns} {e ei e2 : E3} {ae : AE} {h h2 : AH} {sub : List (Option Nat)} (S : Sat X h0 ns e ae h) (K : Lnk sub e ei) (a : Stp (bW sub ns) ei h ns2 e2 h2)
  (hY : ∀ n, Y n -> n < h2.length /\ (X n \/ h.length <= n)) (hXY : ∀ n, X n -> Y n)
  (hc : ∀ (j : Nat) v n, e2[j]? = some (.mu v) -> ns2[j]? = some (some n) -> ∃ o, h2[n]? = some o /\ bT o /\ Rc (Oc Y ns) h2 o v) : Sat Y h0 ns (bC sub e2 e) ae h2 /\ Stp ns e h ns (bC sub e2 e) h2 := by
 have hM : ∀ n, Mt (bW sub ns) ei n -> Mt ns e n := fun n ⟨j, s, z1, z2, z3⟩ => by
  obtain ⟨v, rfl⟩ := K.mt j s z2 z3
  obtain ⟨i, s', y1, y2, y3⟩ := K.mu j v z2
  obtain ⟨i', y4, y5⟩ := cA z1
  rw [y1] at y4; cases y4
  exact ⟨i, s', y5, y2, y3⟩
 have mv : Mov (Oc X ns) (Oc Y ns) h h2 := fun n o p q => ⟨⟨fun z => by
  rcases (hY n z).2 with z | z
  ·exact p.1 z
  ·have := cQ q; omega, p.2⟩, a.keep n o q fun z => by
   obtain ⟨j, s, z1, _⟩ := z
   obtain ⟨i, _, y⟩ := cA z1
   exact p.2 (bp.mpr ⟨i, y⟩)⟩
 have key : ∀ i : Nat, (∃ (j : Nat) (v : Val) (s : Sl), sub[j]? = some (some i) /\ e2[j]? = some (.mu v) /\ e[i]? = some s /\ s.mt = true /\ (bC sub e2 e)[i]? = some (s.re v) /\ ns2[j]? = ns[i]?) \/ ((∀ n, ns[i]? = some (some n) -> ¬ Mt (bW sub ns) ei n) /\ (bC sub e2 e)[i]? = e[i]?) := fun i => by
  by_cases hx : ∃ (j : Nat) (v : Val), sub[j]? = some (some i) /\ e2[j]? = some (.mu v)
  ·obtain ⟨j, v, q1, q2⟩ := hx
   obtain ⟨u, q3, q4⟩ := a.mu j v q2
   obtain ⟨i', s, y1, y2, y3⟩ := K.mu j u q3
   rw [q1] at y1; cases y1
   refine .inl ⟨j, v, s, q1, q2, y2, y3, by rw [ql K.inj q1 q2, y2]; rfl, ?_⟩
   rw [q4]
   have hl : i < ns.length := by rw [S.l2]; exact (List.getElem?_eq_some_iff.mp y2).1
   rw [List.getElem?_eq_getElem hl]
   exact yy q1 (List.getElem?_eq_getElem hl)
  ·refine .inr ⟨fun n q ⟨j, s, z1, z2, z3⟩ => hx ?_, my fun j v y1 y2 => hx ⟨j, v, y1, y2⟩⟩
   obtain ⟨v, rfl⟩ := K.mt j s z2 z3
   obtain ⟨i', y4, y5⟩ := cA z1
   have : i' = i := S.inj i' i n y5 q
   subst this
   obtain ⟨v', y6, _⟩ := a.mu' j v z2
   exact ⟨j, v', y4, y6⟩
 have lenB : (bC sub e2 e).length = e.length := by
  clear key hc a K S hY hXY hM mv
  induction sub generalizing e2 e with
  | nil => rfl
  |
   cons o sub ih =>
   cases e2 with
   | nil => rfl
   |
    cons s e2 =>
    show (bC sub e2 (eT o s e)).length = _
    rw [ih]
    unfold eT
    split
    ·split
     ·rw [List.length_set]
     ·rfl
    ·rfl
 refine ⟨⟨by rw [lenB]; exact S.l1, by rw [lenB]; exact S.l2, Nat.le_trans S.lh a.len, fun n z => (hY n z).1, S.inj, fun i n q z => ?_, fun i s q => ?_⟩, ⟨a.len, fun m o q hm => a.keep m o q fun z => hm (hM m z), fun _ _ q => .inl q, fun i s q hl => ?_, fun i s q hl => ?_, fun i v q => ?_, fun i v q => ?_⟩⟩
 ·rcases (hY n z).2 with z | z
  ·exact S.nx i n q z
  ·obtain ⟨_, _, _, _, _, _, _, q', _⟩ := S.own q
   have := cQ q'; omega
 ·rcases key i with ⟨j, v, s0, k1, k2, k3, k4, k5, k6⟩ | ⟨k1, k2⟩
  ·rw [k5] at q; cases q
   have y := S.sl i s0 k3
   cases s0 with
   |
    ow u =>
    obtain ⟨n, o, y1, y2, y3, _⟩ := y
    obtain ⟨o', z1, z2, z3⟩ := hc j v n k2 (by rw [k6]; exact y1)
    exact ⟨n, o', y1, y2, y3, z1, z2, z3⟩
   |
    mu u =>
    obtain ⟨n, o, y1, y2, _⟩ := y
    obtain ⟨o', z1, z2, z3⟩ := hc j v n k2 (by rw [k6]; exact y1)
    exact ⟨n, o', y1, y2, z1, z2, z3⟩
   | _ => cases k4
  ·rw [k2] at q
   exact (S.sl i s q).mono mv fun n o q1 q2 => a.keep n o q2 (k1 n q1)
 ·rcases key i with ⟨j, v, s0, k1, k2, k3, k4, k5, k6⟩ | ⟨k1, k2⟩
  ·rw [k3] at q; cases q; cases s <;> first | cases hl; done | cases k4; done
  ·rw [k2]; exact ⟨q, rfl⟩
 ·rcases key i with ⟨j, v, s0, k1, k2, k3, k4, k5, k6⟩ | ⟨k1, k2⟩
  ·rw [k5] at q; cases q; cases s0 <;> first | cases hl; done | cases k4; done
  ·rw [k2] at q; exact ⟨q, rfl⟩
 ·rcases key i with ⟨j, u, s0, k1, k2, k3, k4, k5, k6⟩ | ⟨k1, k2⟩
  ·rw [k5] at q
   cases s0 with
   | mu w => exact ⟨w, k3, rfl⟩
   | ow w => cases q
   | _ => cases k4
  ·rw [k2] at q; exact ⟨v, q, rfl⟩
 ·rcases key i with ⟨j, u, s0, k1, k2, k3, k4, k5, k6⟩ | ⟨k1, k2⟩
  ·rw [k3] at q; cases q; exact ⟨u, k5, rfl⟩
  ·exact ⟨v, by rw [k2]; exact q, rfl⟩
noncomputable def inS : Sl -> Sl
 | .ow v => .mu v
 | .lo v => .lm v
 | s => s
noncomputable def cP (sub : List (Option Nat)) (e : E3) : E3 := sub.map fun o => match o with
 | none => .no
 | some i => match e[i]? with
  | some s => inS s
  | none => .no
noncomputable def lcV (g : MG3) (c : MT3) (F : ME3) : List Val -> List Val -> E3 -> R3 (List Val)
 | [], acc, e => .ok acc e
 | v :: vs, acc, e => if acc.length < 16777216 then (match g v e with
  | none => .stuck
  | some e1 => (c e1).bind fun b e2 => if b = true then (F e2).bind fun t e3 => (match cR e3 t with
    | some (e4, y) => lcV g c F vs (acc ++ [y]) e4
    | none => .stuck) else lcV g c F vs acc e2) else .stuck
noncomputable def vLC (I : MI3) (sub : List (Option Nat)) (g : MG3) (c : MT3) (F : ME3) : ME3 := fun e => (I e).bind fun p e1 => match lcV g c F p.1 [] (cP sub (lockO e1 p.2)) with
 | .ok ys e2 => if ys.length <= 16777216 then .ok (.new (.lst ys)) (eu (bC sub e2 (lockO e1 p.2)) p.2) else .stuck
 | _ => .stuck
noncomputable def lp (sub : List (Option Nat)) : Prop := ∀ (j k : Nat) (i : Nat), sub[j]? = some (some i) -> sub[k]? = some (some i) -> j = k
theorem tT {sub : List (Option Nat)} (h : (sub.filterMap id).Nodup) : lp sub := by
 induction sub with
 | nil => intro j k i q; simp at q
 |
  cons o sub ih =>
  have hsub : (sub.filterMap id).Nodup := by
   cases o with
   | none => simpa using h
   | some i => rw [List.filterMap_cons] at h; simp at h; exact h.2
  have hno : ∀ (i k : Nat), o = some i -> sub[k]? = some (some i) -> False := fun i k z q => by
   subst z
   rw [List.filterMap_cons] at h
   simp at h
   exact h.1 (List.mem_of_getElem? q)
  intro j k i q1 q2
  cases j with
  |
   zero =>
   cases k with
   | zero => rfl
   | succ k => exact (hno i k (by simpa using q1) (by simpa using q2)).elim
  |
   succ j =>
   cases k with
   | zero => exact (hno i j (by simpa using q2) (by simpa using q1)).elim
   | succ k => exact congrArg (· + 1) (ih hsub j k i (by simpa using q1) (by simpa using q2))
noncomputable def Xin (X : Nat -> Prop) (ns : Ns) (sub : List (Option Nat)) (n : Nat) : Prop := X n \/ (some n ∈ ns /\ some n ∉ bW sub ns)
theorem ki {sub : List (Option Nat)} {ns : Ns} {n : Nat} (q : some n ∈ bW sub ns) : some n ∈ ns := by
 obtain ⟨j, q⟩ := bp.mp q
 obtain ⟨i, _, q2⟩ := cA q
 exact bp.mpr ⟨i, q2⟩
theorem iY {sub : List (Option Nat)} {e : E3} {j : Nat} {s : Sl} (q : (cP sub e)[j]? = some s) : (sub[j]? = some none /\ s = .no) \/ (∃ i, sub[j]? = some (some i) /\ ((e[i]? = none /\ s = .no) \/ ∃ t, e[i]? = some t /\ s = inS t)) := by
 unfold cP at q
 rw [List.getElem?_map] at q
 cases z : sub[j]? with
 | none => rw [z] at q; cases q
 |
  some o =>
  rw [z] at q
  cases o with
  | none => cases q; exact .inl ⟨rfl, rfl⟩
  |
   some i =>
   refine .inr ⟨i, rfl, ?_⟩
   have q' := Option.some.inj q
   dsimp only at q'
   cases y : e[i]? with
   | none => rw [y] at q'; exact .inl ⟨rfl, q'.symm⟩
   | some t => rw [y] at q'; exact .inr ⟨t, rfl, q'.symm⟩
theorem
    Sat.inner {X : Nat -> Prop} {h0 : Nat} {ns : Ns} {e : E3} {ae : AE} {h : AH} {sub : List (Option Nat)} (S : Sat X h0 ns e ae h) (hs : lp sub) : Sat (Xin X ns sub) h0 (bW sub ns) (cP sub e) (iZ sub ae) h := by
 refine ⟨by unfold iZ cP; rw [List.length_map, List.length_map], by unfold bW cP; rw [List.length_map, List.length_map], S.lh, fun n z => ?_, fun j k n q1 q2 => ?_, fun j n q z => ?_, fun j s q => ?_⟩
 ·rcases z with z | ⟨z, _⟩
  ·exact S.xl n z
  ·obtain ⟨i, z⟩ := bp.mp z
   obtain ⟨_, _, _, _, _, _, _, q', _⟩ := S.own z
   exact cQ q'
 ·obtain ⟨i, y1, y2⟩ := cA q1
  obtain ⟨i', y3, y4⟩ := cA q2
  have := S.inj i i' n y2 y4
  subst this
  exact hs j k i y1 y3
 ·rcases z with z | ⟨_, z⟩
  ·obtain ⟨i, y1, y2⟩ := cA q
   exact S.nx i n y2 z
  ·exact z (bp.mpr ⟨j, q⟩)
 ·have mv : Mov (Oc X ns) (Oc (Xin X ns sub) (bW sub ns)) h h := fun n o p q => ⟨⟨fun z => by
   rcases z with z | ⟨z, _⟩
   ·exact p.1 z
   ·exact p.2 z, fun z => p.2 (ki z)⟩, q⟩
  have hj : ∀ {o}, sub[j]? = some o -> (bW sub ns)[j]? = some (o.bind fun i => (ns[i]?).bind id) /\ (iZ sub ae)[j]? = some (o.bind fun i => (ae[i]?).bind id) := fun {o} z => by
   unfold bW iZ
   rw [List.getElem?_map, List.getElem?_map, z]
   exact ⟨rfl, rfl⟩
  rcases iY q with ⟨z, rfl⟩ | ⟨i, z, ⟨y, rfl⟩ | ⟨t, y, rfl⟩⟩
  ·rw [(hj z).1]; rfl
  ·rw [(hj z).1]
   show some ((ns[i]?).bind id) = some none
   have : ns[i]? = none := by
    rw [List.getElem?_eq_none_iff] at y ⊢
    rw [S.l2]; exact y
   rw [this]; rfl
  ·have k := (S.sl i t y).mono mv fun _ _ _ q => q
   rw [(hj z).1, (hj z).2]
   show SlR _ h0 (some ((ns[i]?).bind id)) (some ((ae[i]?).bind id)) h (inS t)
   have w1 : ∀ x, ns[i]? = some x -> some ((ns[i]?).bind id) = some x := fun x q => by rw [q]; rfl
   have w2 : ∀ x, ae[i]? = some x -> some ((ae[i]?).bind id) = some x := fun x q => by rw [q]; rfl
   cases t with
   | no => rw [w1 _ k]; rfl
   | sh v => obtain ⟨k1, x, k2, k3⟩ := k; rw [w1 _ k1, w2 _ k2]; exact ⟨rfl, x, rfl, k3⟩
   | ow v => obtain ⟨m, o, k1, k2, _, k3⟩ := k; rw [w1 _ k1, w2 _ k2]; exact ⟨m, o, rfl, rfl, k3⟩
   | lo v => obtain ⟨m, o, k1, k2, _, k3⟩ := k; rw [w1 _ k1, w2 _ k2]; exact ⟨m, o, rfl, rfl, k3⟩
   | mu v => obtain ⟨m, o, k1, k2, k3⟩ := k; rw [w1 _ k1, w2 _ k2]; exact ⟨m, o, rfl, rfl, k3⟩
   | lm v => obtain ⟨m, o, k1, k2, k3⟩ := k; rw [w1 _ k1, w2 _ k2]; exact ⟨m, o, rfl, rfl, k3⟩
theorem pS {sub : List (Option Nat)} {e : E3} (hs : lp sub) : Lnk sub e (cP sub e) := by
 refine ⟨hs, fun j v q => ?_, fun j s q hm => ?_⟩
 ·rcases iY q with ⟨_, z⟩ | ⟨i, z, ⟨_, y⟩ | ⟨t, y, y2⟩⟩
  ·cases z
  ·cases y
  ·refine ⟨i, t, z, y, ?_⟩
   cases t <;> first | rfl | cases y2
 ·rcases iY q with ⟨_, z⟩ | ⟨i, z, ⟨_, y⟩ | ⟨t, y, y2⟩⟩
  ·subst z; cases hm
  ·subst y; cases hm
  ·subst y2
   cases t with
   | ow v => exact ⟨v, rfl⟩
   | mu v => exact ⟨v, rfl⟩
   | _ => cases hm
section
variable {I : MI} {I3 : MI3} {g : MG} {g3 : MG3} {c : MT} {c3 : MT3} {F : ME} {F3 : ME3}
theorem
    zL {X : Nat -> Prop} {h0 : Nat} {ns : Ns} {e : E3} {ae : AE} {h : AH} {G : AH -> Prop} (S : Sat X h0 ns e ae h) (hg : RG g g3) (hc : RT c c3) (hF : RE F F3) (hG : ∀ ns' e' h', Stp ns e h ns' e' h' -> G h') {ys : List Val} {e2 : E3} :
  ∀
   {ds : List D} {vs : List Val}, Rds (Oc X ns) h ds vs -> ∀ {acc : List D} {accv : List Val} {ns1 : Ns} {e1 : E3} {ae1 : AE} {h1 : AH}, Stp ns e h ns1 e1 h1 -> Sat X h0 ns1 e1 ae1 h1 -> Rds (Oc X ns1) h1 acc accv -> lcV g3 c3 F3 vs accv e1 = .ok ys e2 ->
   ∃ dy h2 ns2 ae2, lcL G g c F ds acc ae1 h1 = .ok dy h2 /\ Stp ns e h ns2 e2 h2 /\ Sat X h0 ns2 e2 ae2 h2 /\ Rds (Oc X ns2) h2 dy ys := by
 intro ds
 induction ds with
 |
  nil =>
  intro vs r acc accv ns1 e1 ae1 h1 a1 S1 ra q
  cases r
  unfold lcL
  rw [if_pos (hG _ _ _ a1)]
  cases q
  exact ⟨acc, h1, ns1, ae1, rfl, a1, S1, ra⟩
 |
  cons d0 ds ih =>
  intro vs r acc accv ns1 e1 ae1 h1 a1 S1 ra q
  cases r with
  |
   cons r rr =>
   rename_i v vs
   unfold lcV at q
   unfold lcL
   by_cases hl : accv.length < 16777216
   ·rw [if_pos hl] at q
    rw [if_pos ⟨hG _ _ _ a1, by rw [ra.len]; exact hl⟩]
    cases q1 : g3 v e1 with
    | none => rw [q1] at q; cases q
    |
     some e3 =>
     rw [q1] at q
     dsimp only at q
     obtain ⟨ae3, ns3, p3, S3, a3⟩ := hg _ _ _ _ _ _ _ _ _ S1 (r.mono (a1.mov S)) q1
     rw [p3, gm]
     have a13 := a1.trans S a3
     have pc := hc X h0 ns3 e3 ae3 h1 S3
     cases q4 : c3 e3 with
     | stuck => rw [q4] at q; cases q
     | exc _ _ => rw [q4] at q; cases q
     |
      ok b e4 =>
      rw [q4] at q pc
      obtain ⟨b', h4, ns4, p4, a4, S4, rfl⟩ := pc
      rw [p4, gm]
      have a14 := a13.trans S a4
      have ra4 := (ra.mono (a3.mov S1)).mono (a4.mov S3)
      have q' : (if b' = true then (F3 e4).bind fun t e3 => (match cR e3 t with
       | some (e4, y) => lcV g3 c3 F3 _ (accv ++ [y]) e4
       | none => .stuck) else lcV g3 c3 F3 _ accv e4) = .ok ys e2 := q
      by_cases hb : b' = true
      ·rw [if_pos hb] at q' ⊢
       have pF := hF X h0 0 ns4 e4 ae3 h4 S4 (Nat.zero_le _)
       cases q5 : F3 e4 with
       | stuck => rw [q5] at q'; cases q'
       | exc _ _ => rw [q5] at q'; cases q'
       |
        ok t e5 =>
        rw [q5] at q' pF
        obtain ⟨d5, h5, ns5, p5, a5, S5, r5⟩ := pF
        rw [p5, gm]
        have q'' : (match cR e5 t with
         | some (e4, y) => lcV g3 c3 F3 _ (accv ++ [y]) e4
         | none => .stuck) = .ok ys e2 := q'
        cases q6 : cR e5 t with
        | none => rw [q6] at q''; cases q''
        |
         some w =>
         obtain ⟨e6, y⟩ := w
         rw [q6] at q''
         obtain ⟨ns6, S6, a6, r6⟩ := fj S5 r5 q6
         exact ih rr ((a14.trans S a5).trans S a6) S6 (((ra4.mono (a5.mov S4)).mono (a6.mov S5)).append (.cons r6 .nil)) q''
      ·rw [if_neg hb] at q' ⊢
       exact ih rr a14 S4 ra4 q'
   ·rw [if_neg hl] at q; cases q
theorem
    DM {sub : List (Option Nat)} (hs : (sub.filterMap id).Nodup) (hI : RI I I3) (hg : RG g g3) (hc : RT c c3) (hF : RE F F3) : RE (eLC I sub g c F) (vLC I3 sub g3 c3 F3) := fun X h0 L ns e ae h S hl =>
 Po.bind
     S (hI X h0 ns e ae h S) fun it p h1 ns1 e1 a1 S1 r1 => by
  try dsimp only
  obtain ⟨r2, gd, hk⟩ := r1
  have hs' := tT hs
  have S2 := S1.lockO p.2
  have S3 := S2.inner hs'
  cases q : lcV g3 c3 F3 p.1 [] (cP sub (lockO e1 p.2)) with
  | stuck => trivial
  | exc _ _ => trivial
  |
   ok ys e2 =>
   dsimp only
   split
   ·rename_i hy
    have gd' : ∀ ns' e' h', Stp (bW sub ns1) (cP sub (lockO e1 p.2)) h1 ns' e' h' -> it.guard h' := fun ns' e' h' a => gd h' fun m o qm hm => a.keep m o qm fun ⟨j, s, z1, z2, z3⟩ => by
     obtain ⟨i, y1, y2⟩ := cA z1
     rcases hm with hm | ⟨k, hk1, hk2⟩
     ·exact hm.2 (bp.mpr ⟨i, y2⟩)
     ·have : i = k := S1.inj i k m y2 hk2
      subst this
      obtain ⟨s', w1, w2⟩ := hk i hk1
      rcases iY z2 with ⟨z, _⟩ | ⟨i', z, y⟩
      ·rw [y1] at z; cases z
      ·rw [y1] at z; cases z
       have hl : (lockO e1 p.2)[i]? = some (iR s') := by rw [hk1]; exact mD w1
       rcases y with ⟨y, _⟩ | ⟨t, y, rfl⟩
       ·rw [hl] at y; cases y
       ·rw [hl] at y; cases y
        cases s' <;> first | cases w2; done | cases z3; done
    have mvi : Mov (Oc X ns1) (Oc (Xin X ns1 sub) (bW sub ns1)) h1 h1 := fun n o p q => ⟨⟨fun z => by
     rcases z with z | ⟨z, _⟩
     ·exact p.1 z
     ·exact p.2 z, fun z => p.2 (ki z)⟩, q⟩
    obtain ⟨dy, h2, ns2, ae2, p2, a2, S4, r4⟩ := zL (G := it.guard) S3 hg hc hF gd' (r2.mono mvi) .refl S3 .nil q
    have k3 : ∀ n, Oc (Xin X ns1 sub) ns2 n -> Oc X ns1 n := fun n z => ⟨fun y => z.1 (.inl y), fun y => by
     by_cases w : some n ∈ bW sub ns1
     ·obtain ⟨j, w⟩ := bp.mp w
      obtain ⟨s, v, o, b1, b2, _⟩ := S3.own w
      rcases b2 with b2 | b2
      ·obtain ⟨v', rfl⟩ := (pS (e := lockO e1 p.2) hs').mt j s b1 b2
       obtain ⟨u, c1, c2⟩ := a2.mu' j v' b1
       exact z.2 (bp.mpr ⟨j, by rw [c2]; exact w⟩)
      ·obtain ⟨c1, c2⟩ := a2.lk j s b1 b2
       exact z.2 (bp.mpr ⟨j, by rw [c2]; exact w⟩)
     ·exact z.1 (.inr ⟨y, w⟩)⟩
    have bk := S2.back (Y := X) (pS hs') a2 (fun n z => ⟨Nat.lt_of_lt_of_le (S2.xl n z) a2.len, .inl z⟩) (fun _ z => z) fun j v n q1 q2 => by
     obtain ⟨s, u, o, b1, b2, b3, b4, b5, b6, b7⟩ := S4.own q2
     rw [q1] at b1; cases b1
     cases b3
     exact ⟨o, b5, b6, b7.mono fun m o' z y => ⟨k3 m z, y⟩⟩
    obtain ⟨S5, a5⟩ := bk
    have r5 : Rds (Oc X ns1) h2 dy ys := r4.mono fun m o' z y => ⟨k3 m z, y⟩
    have fin : ∀ (e' : E3), Sat X h0 ns1 e' ae h2 -> Stp ns1 e1 h1 ns1 e' h2 -> Po X h0 ns1 e1 ae h1 (relE X h0 L ae) ((noX (lcL it.guard g c F it.items [] (iZ sub ae) h1)).bind de) (.ok (.new (.lst ys)) e') := fun e' S6 a6 => by
     rw [p2]
     have pp := BvR.po (L := L) (r := de dy h2) (b := .new (.lst ys)) S6 (Nat.le_trans hl (Nat.le_trans a1.len a6.len)) ⟨.lst dy, by unfold de; rw [if_pos (by rw [r5.len]; exact hy)], trivial, .lst r5⟩
     obtain ⟨d, h', ns', y, y1, y2, y3⟩ := pp
     exact ⟨d, h', ns', y, a6.trans S1 y1, y2, y3⟩
    cases hp : p.2 with
    |
     none =>
     rw [hp] at S5 a5
     exact fin _ S5 a5
    |
     some k =>
     rw [hp] at S5 a5
     obtain ⟨s, w1, w2⟩ := hk k hp
     exact fin _ (S5.unlock k) (a5.unlock w1 w2)
   ·trivial
end
end L3
set_option Elab.async false
set_option linter.all false
set_option maxRecDepth 100000
namespace L3
open PySem PySem.Spec PyProof.Rows L2
inductive R3F where
 | ok (r : Rt) (mv : List Val) | exc (c : Str) (mv : List Val) | stuck
abbrev Fn3 := List Val -> R3F
noncomputable def sl1 (b : Bool) (v : Val) : Sl := if b = true then .mu v else .sh v
noncomputable def sls (ms : List Bool) (vs : List Val) : E3 := List.zipWith sl1 ms vs
noncomputable def aZ : List Bool -> List Val -> E3
 | true :: ms, v :: vs => .mu v :: aZ ms vs
 | true :: ms, [] => .no :: aZ ms []
 | false :: ms, vs => .no :: aZ ms vs
 | [], _ => []
noncomputable def muV : List Bool -> E3 -> Option (List Val)
 | true :: ms, .mu v :: e => (muV ms e).map (v :: ·)
 | true :: _, _ => none
 | false :: ms, _ :: e => muV ms e
 | false :: _, [] => none
 | [], _ => some []
noncomputable def RFp (X : Nat -> Prop) (ps : Ns) (ms : List Bool) (vs : List Val) (ds : List D) (h : AH) (r2 : R D) : R3F -> Prop
 | .stuck => True
 | .ok r mv => ∃ d h', r2 = .ok d h' /\ Stp ps (sls ms vs) h ps (aZ ms mv) h' /\ RtR X h.length ps (aZ ms mv) (ds.map some) h' d r
 | .exc c mv => ∃ h', r2 = .exc c h' /\ Stp ps (sls ms vs) h ps (aZ ms mv) h' /\ Sat X h.length ps (aZ ms mv) (ds.map some) h'
noncomputable def RF (ms : List Bool) (G2 : Fn) (G3 : Fn3) : Prop := ∀ X ps ds vs h, vs.length = ms.length -> Sat X h.length ps (sls ms vs) (ds.map some) h -> RFp X ps ms vs ds h (G2 ds h) (G3 vs)
noncomputable def fnV (ms : List Bool) (N : Nat) (F : MS3) : Fn3 := fun vs => if vs.length = ms.length then (match F (sls ms vs ++ List.replicate (N - vs.length) .no) with
 | .nx e => (match muV ms e with | some mv => .ok (.val .non) mv | none => .stuck)
 | .rt r e => (match muV ms e with | some mv => .ok r mv | none => .stuck)
 | .exc c e => (match muV ms e with | some mv => .exc c mv | none => .stuck)
 | _ => .stuck) else .stuck
theorem fq {ms : List Bool} {vs : List Val} {i : Nat} {s : Sl} (q : (sls ms vs)[i]? = some s) : ∃ b v, ms[i]? = some b /\ vs[i]? = some v /\ s = sl1 b v := by
 unfold sls at q
 rw [List.getElem?_zipWith] at q
 cases h1 : ms[i]? with
 | none => rw [h1] at q; cases q
 |
  some b =>
  cases h2 : vs[i]? with
  | none => rw [h1, h2] at q; cases q
  | some v => rw [h1, h2] at q; cases q; exact ⟨b, v, rfl, rfl, rfl⟩
theorem gK : ∀ {ms : List Bool} {e : E3} {mv : List Val} {i : Nat} {s : Sl}, muV ms e = some mv -> (aZ ms mv)[i]? = some s -> (ms[i]? = some false /\ s = .no) \/ (ms[i]? = some true /\ ∃ v, e[i]? = some (.mu v) /\ s = .mu v)
 | [], _, _, _, _, _, q => by unfold aZ at q; simp at q
 |
  true :: ms, .mu v :: e, mv, i, s, q, q2 => by
  obtain ⟨mv', z1, z2⟩ := Option.map_eq_some_iff.mp (show (muV ms e).map (v :: ·) = some mv from q)
  subst z2
  cases i with
  | zero =>
       right; have : Sl.mu v = s := by simpa [aZ] using q2
       subst this; exact ⟨rfl, v, rfl, rfl⟩
  |
   succ i =>
   have := gK (i := i) (s := s) z1 (by simpa [aZ] using q2)
   simpa using this
 | true :: ms, [], mv, i, s, q, q2 => by cases q
 | true :: ms, .no :: e, mv, i, s, q, q2 => by cases q
 | true :: ms, .sh v :: e, mv, i, s, q, q2 => by cases q
 | true :: ms, .ow v :: e, mv, i, s, q, q2 => by cases q
 | true :: ms, .lo v :: e, mv, i, s, q, q2 => by cases q
 | true :: ms, .lm v :: e, mv, i, s, q, q2 => by cases q
 | false :: ms, [], mv, i, s, q, q2 => by cases q
 |
  false :: ms, t :: e, mv, i, s, q, q2 => by
  cases i with
  | zero =>
       left; have : Sl.no = s := by simpa [aZ] using q2
       exact ⟨rfl, this.symm⟩
  |
   succ i =>
   have := gK (i := i) (s := s) (show muV ms e = some mv from q) (by simpa [aZ] using q2)
   simpa using this
theorem mm : ∀ {ms : List Bool} {e : E3} {mv : List Val} {i : Nat}, muV ms e = some mv -> ms[i]? = some true -> ∃ v, e[i]? = some (.mu v) /\ (aZ ms mv)[i]? = some (.mu v)
 | [], _, _, i, _, q => by simp at q
 |
  true :: ms, .mu v :: e, mv, i, q, q2 => by
  obtain ⟨mv', z1, z2⟩ := Option.map_eq_some_iff.mp (show (muV ms e).map (v :: ·) = some mv from q)
  subst z2
  cases i with
  | zero => exact ⟨v, rfl, rfl⟩
  |
   succ i =>
   obtain ⟨u, y1, y2⟩ := mm (i := i) z1 (by simpa using q2)
   exact ⟨u, by simpa using y1, by simpa [aZ] using y2⟩
 | true :: ms, [], mv, i, q, q2 => by cases q
 | true :: ms, .no :: e, mv, i, q, q2 => by cases q
 | true :: ms, .sh v :: e, mv, i, q, q2 => by cases q
 | true :: ms, .ow v :: e, mv, i, q, q2 => by cases q
 | true :: ms, .lo v :: e, mv, i, q, q2 => by cases q
 | true :: ms, .lm v :: e, mv, i, q, q2 => by cases q
 | false :: ms, [], mv, i, q, q2 => by cases q
 |
  false :: ms, t :: e, mv, i, q, q2 => by
  cases i with
  | zero => simp at q2
  |
   succ i =>
   obtain ⟨u, y1, y2⟩ := mm (i := i) (show muV ms e = some mv from q) (by simpa using q2)
   exact ⟨u, by simpa using y1, by simpa [aZ] using y2⟩
theorem gr : ∀ {ms : List Bool} {mv : List Val}, (aZ ms mv).length = ms.length
 | [], _ => rfl
 | true :: ms, v :: mv => by show (aZ ms mv).length + 1 = ms.length + 1; rw [gr]
 | true :: ms, [] => by show (aZ ms []).length + 1 = ms.length + 1; rw [gr]
 | false :: ms, mv => by show (aZ ms mv).length + 1 = ms.length + 1; rw [gr]
theorem
    Ef {ms : List Bool} {N : Nat} {F : MS} {F3 : MS3} (hF : RS F F3) : RF ms (fnD N F) (fnV ms N F3) := fun X ps ds vs h hl S => by
 unfold fnV
 rw [if_pos hl]
 have lS : (sls ms vs).length = vs.length := by unfold sls; rw [List.length_zipWith]; omega
 have lD : ds.length = vs.length := by have := S.l1; rw [List.length_map] at this; omega
 have lP : ps.length = vs.length := by have := S.l2; omega
 have S1
     : Sat X h.length (ps ++ List.replicate (N - vs.length) none) (sls ms vs ++ List.replicate (N - vs.length) .no) (ds.map some ++ List.replicate (N - vs.length) none) h := by
  have mns : ∀ n, some n ∈ ps ++ List.replicate (N - vs.length) (none : Option Nat) ↔ some n ∈ ps := fun n => by
   rw [List.mem_append]
   constructor
   ·rintro (z | z)
    ·exact z
    ·have := List.eq_of_mem_replicate z; cases this
   ·exact .inl
  have gns : ∀ {i n : Nat}, (ps ++ List.replicate (N - vs.length) (none : Option Nat))[i]? = some (some n) -> ps[i]? = some (some n) := fun {i n} q => by
   rw [List.getElem?_append] at q
   split at q
   ·exact q
   ·rw [List.getElem?_replicate] at q; split at q <;> cases q
  refine ⟨?_, ?_, S.lh, S.xl, fun i j n q1 q2 => S.inj i j n (gns q1) (gns q2), fun i n q => S.nx i n (gns q), fun i s q => ?_⟩
  ·rw [List.length_append, List.length_append, List.length_replicate, List.length_replicate, S.l1]
  ·rw [List.length_append, List.length_append, List.length_replicate, List.length_replicate, S.l2]
  ·rw [List.getElem?_append] at q
   split at q
   ·rename_i hi
    have k := S.sl i s q
    rw [List.getElem?_append_left (by omega), List.getElem?_append_left (by rw [List.length_map]; omega)]
    exact k.mono (fun n o p q => ⟨⟨p.1, fun z => p.2 ((mns n).mp z)⟩, q⟩) fun _ _ _ q => q
   ·rename_i hi
    rw [List.getElem?_replicate] at q
    split at q
    ·cases q
     rw [List.getElem?_append_right (by omega), List.getElem?_replicate, if_pos (by omega)]
     rfl
    ·cases q
 have p := hF _ _ _ _ _ _ S1
 have e2 : fnD N F ds h = match F (ds.map some ++ List.replicate (N - vs.length) none) h with
  | .nx _ h' => .ok .non h'
  | .rt d h' => .ok d h'
  | .exc c _ h' => .exc c h'
  | _ => .stuck := by rw [<- lD]; rfl
 rw [e2]
 have fin : ∀ (Y : Nat -> Prop) (ns' : Ns) (e' : E3) (ae' : AE) (h' : AH) (mv : List Val), (∀ n, X n -> Y n) -> Stp (ps ++ List.replicate (N - vs.length) none) (sls ms vs ++ List.replicate (N - vs.length) .no) h ns' e' h' -> Sat Y h.length ns' e' ae' h' -> muV ms e' = some mv ->
   Stp ps (sls ms vs) h ps (aZ ms mv) h' /\ Sat Y h.length ps (aZ ms mv) (ds.map some) h' /\ ∀ n, Oc Y ns' n -> Oc Y ps n := by
  intro Y ns' e' ae' h' mv hXY a S2 qm
  have kmu : ∀ {i : Nat}, ms[i]? = some true -> ∃ v u n o, e'[i]? = some (.mu v) /\ (aZ ms mv)[i]? = some (.mu v) /\ (sls ms vs)[i]? = some (.mu u) /\ ns'[i]? = ps[i]? /\ ps[i]? = some (some n) /\ (ds.map some)[i]? = some (some (.ref n)) /\ h'[n]? = some o /\ bT o /\ Rc (Oc Y ns') h' o v := by
   intro i hi
   obtain ⟨v, y1, y2⟩ := mm qm hi
   have hil : i < ms.length := (List.getElem?_eq_some_iff.mp hi).1
   obtain ⟨u, y3, y4⟩ := a.mu i v y1
   rw [List.getElem?_append_left (by omega)] at y3 y4
   obtain ⟨n, o, z1, z2, _⟩ := S.sl i _ y3
   obtain ⟨n', o', w1, w2, w3, w4, w5⟩ := S2.sl i _ y1
   rw [y4, z1] at w1; cases w1
   exact ⟨v, u, n, o', y1, y2, y3, y4, z1, z2, w3, w4, w5⟩
  have kown : ∀ {i n : Nat}, ps[i]? = some (some n) -> ms[i]? = some true := fun {i n} q => by
   obtain ⟨s, v, o, z1, z2, _⟩ := S.own q
   obtain ⟨b, u, y1, _, y2⟩ := fq z1
   cases b with
   | true => exact y1
   | false => subst y2; rcases z2 with z2 | z2 <;> cases z2
  have koc : ∀ n, Oc Y ns' n -> Oc Y ps n := fun n z => ⟨z.1, fun y => by
   obtain ⟨i, y⟩ := bp.mp y
   obtain ⟨v, u, n', o, _, _, _, k1, k2, _⟩ := kmu (kown y)
   exact z.2 (bp.mpr ⟨i, by rw [k1]; exact y⟩)⟩
  refine ⟨⟨a.len, fun m o q hm => a.keep m o q fun ⟨i, s, z1, z2, z3⟩ => hm ?_, fun _ _ q => .inl q, fun i s q hl' => ?_, fun i s q hl' => ?_, fun i v q => ?_, fun i v q => ?_⟩, ⟨?_, ?_, Nat.le_trans (Nat.le_refl _) a.len, S2.xl, S.inj, fun i n q z => ?_, fun i s q => ?_⟩, koc⟩
  ·rw [List.getElem?_append] at z1
   split at z1
   ·rename_i hi
    rw [List.getElem?_append_left (by omega)] at z2
    exact ⟨i, s, z1, z2, z3⟩
   ·rw [List.getElem?_replicate] at z1; split at z1 <;> cases z1
  ·obtain ⟨b, u, _, _, y⟩ := fq q
   subst y
   cases b <;> cases hl'
  ·rcases gK qm q with ⟨_, z⟩ | ⟨_, v, _, z⟩ <;> subst z <;> cases hl'
  ·rcases gK qm q with ⟨_, z⟩ | ⟨z, _⟩
   ·cases z
   ·obtain ⟨v', u, n, o, _, _, k1, _⟩ := kmu z
    exact ⟨u, k1, rfl⟩
  ·obtain ⟨b, u, y1, _, y2⟩ := fq q
   cases b with
   | false => cases y2
   |
    true =>
    obtain ⟨v', u, n, o, _, k0, k1, _⟩ := kmu y1
    exact ⟨v', k0, rfl⟩
  ·rw [List.length_map, gr]; omega
  ·rw [gr]; omega
  ·obtain ⟨v, u, n', o, _, _, _, k1, k2, _⟩ := kmu (kown q)
   exact S2.nx i n (by rw [k1]; exact q) z
  ·rcases gK qm q with ⟨z, rfl⟩ | ⟨z, v, z2, rfl⟩
   ·have hil : i < ms.length := (List.getElem?_eq_some_iff.mp z).1
    have hi : i < (sls ms vs).length := by omega
    obtain ⟨b, u, y1, _, y2⟩ := fq (List.getElem?_eq_getElem hi)
    rw [z] at y1; cases y1
    have k := S.sl i _ (List.getElem?_eq_getElem hi)
    rw [y2] at k
    exact k.1
   ·obtain ⟨v', u, n, o, k0, _, _, k1, k2, k3, k4, k5, k6⟩ := kmu z
    rw [z2] at k0; cases k0
    exact ⟨n, o, k2, k3, k4, k5, k6.mono fun m o' y q => ⟨koc m y, q⟩⟩
 generalize F3 (sls ms vs ++ List.replicate (N - vs.length) .no) = r3 at *
 cases r3 with
 | stuck => trivial
 | bk _ => trivial
 | ct _ => trivial
 |
  nx e' =>
  obtain ⟨ae', h', ns', q, a, S2⟩ := p
  rw [q]
  dsimp only
  cases qm : muV ms e' with
  | none => trivial
  |
   some mv =>
   obtain ⟨a3, S3, koc⟩ := fin X ns' e' ae' h' mv (fun _ z => z) a S2 qm
   exact ⟨.non, h', rfl, a3, S3, .non⟩
 |
  exc c e' =>
  obtain ⟨ae', h', ns', q, a, S2⟩ := p
  rw [q]
  dsimp only
  cases qm : muV ms e' with
  | none => trivial
  |
   some mv =>
   obtain ⟨a3, S3, koc⟩ := fin X ns' e' ae' h' mv (fun _ z => z) a S2 qm
   exact ⟨h', rfl, a3, S3⟩
 |
  rt r e' =>
  obtain ⟨d, ae', h', ns', q, a, rr⟩ := p
  rw [q]
  dsimp only
  cases qm : muV ms e' with
  | none => trivial
  |
   some mv =>
   cases r with
   |
    val v =>
    obtain ⟨a3, S3, koc⟩ := fin X ns' e' ae' h' mv (fun _ z => z) a rr.1 qm
    exact ⟨d, h', rfl, a3, S3, rr.2.mono fun m o y q => ⟨koc m y, q⟩⟩
   |
    new v =>
    obtain ⟨n, o, z1, z2, z3, z4, z5, z6, z7⟩ := rr
    obtain ⟨a3, S3, koc⟩ := fin (Xn X n) ns' e' ae' h' mv (fun _ z => .inl z) a z6 qm
    exact ⟨d, h', rfl, a3, n, o, z1, z2, z3, z4, z5, S3, z7.mono fun m o y q => ⟨koc m y, q⟩⟩
noncomputable def hX (i : Nat) : List Tm -> Bool
 | .bor j :: ts => (i == j) || hX i ts
 | _ :: ts => hX i ts
 | [] => false
noncomputable def ml (i : Nat) : List Bool -> List Tm -> Bool
 | true :: ms, .bor j :: ts => (i == j) || ml i ms ts
 | _ :: ms, _ :: ts => ml i ms ts
 | _, _ => false
noncomputable def okA (e : E3) : List Bool -> List Tm -> Bool
 | true :: ms, .bor i :: ts => ((e[i]?).bind Sl.mv).isSome && !(hX i ts) && okA e ms ts
 | true :: _, _ :: _ => false
 | false :: ms, .bor i :: ts => !(ml i ms ts) && okA e ms ts
 | false :: ms, _ :: ts => okA e ms ts
 | [], [] => true
 | _, _ => false
noncomputable def mi (b : Bool) (t : Tm) : Option Nat := match b, t with
 | true, .bor i => some i
 | _, _ => none
noncomputable def bU (ms : List Bool) (ts : List Tm) : List (Option Nat) := List.zipWith mi ms ts
noncomputable def bj (e : E3) : List Bool -> List Tm -> List Nat
 | false :: ms, .bor i :: ts => (match e[i]? with
  | some (.sh _) => bj e ms ts
  | _ => i :: bj e ms ts)
 | _ :: ms, _ :: ts => bj e ms ts
 | _, _ => []
mutual
noncomputable def bu : Val -> Bool
 | .tup xs => cC xs
 | .lst _ => false
 | .kl _ => false
 | .dct _ => false
 | .set _ => false
 | _ => true
noncomputable def cC : List Val -> Bool
 | [] => true
 | v :: vs => bu v && cC vs
end
noncomputable def lA : List (Key × Val) -> Bool
 | [] => true
 | (_, v) :: vs => bu v && lA vs
noncomputable def cW : Val -> Bool
 | .lst xs => cC xs
 | .dct xs => lA xs
 | .set _ => true
 | _ => false
noncomputable def jR : Rt -> Bool
 | .val v => bu v
 | .new v => cW v
noncomputable def mM (e : E3) : List Nat -> Option E3
 | [] => some e
 | i :: is => match cR e (.bor i) with
  | some (e1, _) => mM e1 is
  | none => none
noncomputable def Rt.tm : Rt -> Tm
 | .val v => .val v
 | .new v => .new v
noncomputable def nJ (ms : List Bool) (G : Fn3) (A : MA3) : ME3 := fun e => (A e).bind fun ts e1 => match rss e1 ts with
 | none => .stuck
 | some vs => if okA e1 ms ts = true then (match G vs with
  | .stuck => .stuck
  | .ok r mv => if (bj e1 ms ts).isEmpty || (jR r && mv.all cW) then .ok r.tm (bC (bU ms ts) (aZ ms mv) e1) else (match mM e1 (bj e1 ms ts) with
   | some e2 => .ok r.tm (bC (bU ms ts) (aZ ms mv) e2)
   | none => .stuck)
  | .exc c mv => if (bj e1 ms ts).isEmpty || mv.all cW then .exc c (bC (bU ms ts) (aZ ms mv) e1) else .stuck) else .stuck
section
variable {P P' : Nat -> Prop} {h h' : AH}
theorem Rd.flat {d : D} {v : Val} (f : bu v = true) (r : Rd P h d v) : Rd P' h' d v :=
 @Rd.rec P h (fun d v _ => bu v = true -> Rd P' h' d v) (fun o v _ => bu v = true -> Rd P' h' .non v) (fun ds vs _ => cC vs = true -> Rds P' h' ds vs) (fun ws us _ => True) (fun _ => .non) (fun b _ => .bl b) (fun i _ => .int i) (fun x _ => .str x) (fun n _ => .ty n) (fun x _ => .glb x) (fun x _ => .exc x) (fun _ ih f => .tup (ih f)) (fun _ _ f => absurd f Bool.false_ne_true) (fun _ _ r _ f => by cases r <;> exact absurd f Bool.false_ne_true) (fun _ _ f => absurd f Bool.false_ne_true) (fun _ _ f => absurd f Bool.false_ne_true) (fun _ _ f => absurd f Bool.false_ne_true) (fun _ f => absurd f Bool.false_ne_true) (fun _ => .nil) (fun _ _ a b f => .cons (a (Bool.and_eq_true .. ▸ f).1) (b (Bool.and_eq_true .. ▸ f).2)) trivial (fun _ _ _ _ => trivial) d v r f
theorem Rds.flat {d : List D} {v : List Val} (f : cC v = true) (r : Rds P h d v) : Rds P' h' d v :=
 r.ind (M := fun ds vs => cC vs = true -> Rds P' h' ds vs) (fun _ => .nil) (fun r _ ih f => by
  rw [cC, Bool.and_eq_true] at f
  exact .cons (Rd.flat f.1 r) (ih f.2)) f
theorem Rk.flat {d : List (Key × D)} {v : List (Key × Val)} (f : lA v = true) (r : Rk P h d v) : Rk P' h' d v :=
 r.ind (M := fun ds vs => lA vs = true -> Rk P' h' ds vs) (fun _ => .nil) (fun r _ ih f => by
  rw [lA, Bool.and_eq_true] at f
  exact .cons (Rd.flat f.1 r) (ih f.2)) f
theorem Rc.flat {o : Ob} {v : Val} (f : cW v = true) (r : Rc P h o v) : Rc P' h' o v := by
 cases r with
 | lst r => exact .lst (Rds.flat (by simpa [cW] using f) r)
 | fz r => simp [cW] at f
 | dct r => exact .dct (Rk.flat (by simpa [cW] using f) r)
 | set xs => exact .set xs
end
theorem mC {i : Nat} : ∀ {ts : List Tm} {k : Nat}, ts[k]? = some (.bor i) -> hX i ts = true
 | [], _, q => by simp at q
 |
  t :: ts, 0, q => by
  have : t = .bor i := by simpa using q
  subst this; simp [hX]
 |
  t :: ts, k + 1, q => by
  have := mC (ts := ts) (k := k) (by simpa using q)
  cases t <;> simp [hX, this]
theorem qu {i : Nat} : ∀ {ms : List Bool} {ts : List Tm} {k : Nat}, ms[k]? = some true -> ts[k]? = some (.bor i) -> ml i ms ts = true
 | [], _, _, q, _ => by simp at q
 | _ :: _, [], _, _, q => by simp at q
 |
  b :: ms, t :: ts, 0, q1, q => by
  have : t = .bor i := by simpa using q
  have : b = true := by simpa using q1
  subst_vars; simp [ml]
 |
  b :: ms, t :: ts, k + 1, q1, q => by
  have := qu (ms := ms) (ts := ts) (k := k) (by simpa using q1) (by simpa using q)
  cases b <;> cases t <;> simp [ml, this]
theorem lR {e : E3} : ∀ {ms : List Bool} {ts : List Tm} {k : Nat}, okA e ms ts = true -> ms[k]? = some true -> ∃ i, ts[k]? = some (.bor i) /\ ∃ u, (e[i]?).bind Sl.mv = some u
 | [], _, _, _, q => by simp at q
 | b :: ms, [], _, o, _ => by cases b <;> simp [okA] at o
 |
  b :: ms, t :: ts, 0, o, q => by
  have : b = true := by simpa using q
  subst this
  cases t with
  |
   bor i =>
   simp only [okA, Bool.and_eq_true] at o
   exact ⟨i, rfl, Option.isSome_iff_exists.mp o.1.1⟩
  | _ => simp [okA] at o
 |
  b :: ms, t :: ts, k + 1, o, q => by
  have o' : okA e ms ts = true := by
   cases b <;> cases t <;> simp only [okA, Bool.and_eq_true] at o <;> first | exact o.2 | exact o | (simp at o; done)
  obtain ⟨i, y⟩ := lR (k := k) o' (by simpa using q)
  exact ⟨i, by simpa using y⟩
theorem iy {e : E3} : ∀ {ms : List Bool} {ts : List Tm} {k j i : Nat}, okA e ms ts = true -> ms[k]? = some true -> ts[k]? = some (.bor i) -> ts[j]? = some (.bor i) -> j = k
 | [], _, _, _, _, _, q, _, _ => by simp at q
 | b :: ms, [], _, _, _, o, _, _, _ => by cases b <;> simp [okA] at o
 | b :: ms, t :: ts, 0, 0, i, o, q1, q2, q3 => rfl
 |
  b :: ms, t :: ts, 0, j + 1, i, o, q1, q2, q3 => by
  have h1 : b = true := by simpa using q1
  have h2 : t = .bor i := by simpa using q2
  subst h1 h2
  simp only [okA, Bool.and_eq_true] at o
  have := mC (i := i) (ts := ts) (k := j) (by simpa using q3)
  rw [this] at o
  simp at o
 |
  b :: ms, t :: ts, k + 1, 0, i, o, q1, q2, q3 => by
  have h2 : t = .bor i := by simpa using q3
  subst h2
  have hm := qu (i := i) (ms := ms) (ts := ts) (k := k) (by simpa using q1) (by simpa using q2)
  have hb := mC (i := i) (ts := ts) (k := k) (by simpa using q2)
  cases b <;> simp [okA, hm, hb] at o
 |
  b :: ms, t :: ts, k + 1, j + 1, i, o, q1, q2, q3 => by
  have o' : okA e ms ts = true := by
   cases b <;> cases t <;> simp only [okA, Bool.and_eq_true] at o <;> first | exact o.2 | exact o | (simp at o; done)
  exact congrArg (· + 1) (iy (k := k) (j := j) (i := i) o' (by simpa using q1) (by simpa using q2) (by simpa using q3))
theorem ix {e : E3} : ∀ {ms : List Bool} {ts : List Tm}, okA e ms ts = true -> ms.length = ts.length
 | [], [], _ => rfl
 | [], _ :: _, o => by simp [okA] at o
 | b :: ms, [], o => by cases b <;> simp [okA] at o
 |
  b :: ms, t :: ts, o => by
  have o' : okA e ms ts = true := by
   cases b <;> cases t <;> simp only [okA, Bool.and_eq_true] at o <;> first | exact o.2 | exact o | (simp at o; done)
  exact congrArg (· + 1) (ix o')
theorem kF {e : E3} : ∀ {ms : List Bool} {ts : List Tm} {k i : Nat}, ms[k]? = some false -> ts[k]? = some (.bor i) -> (∀ v, e[i]? ≠ some (.sh v)) -> i ∈ bj e ms ts
 | [], _, _, _, q, _, _ => by simp at q
 | _ :: _, [], _, _, _, q, _ => by simp at q
 |
  b :: ms, t :: ts, 0, i, q1, q2, hn => by
  have h1 : b = false := by simpa using q1
  have h2 : t = .bor i := by simpa using q2
  subst h1 h2
  unfold bj
  split
  ·rename_i v q; exact absurd q (hn v)
  ·exact List.mem_cons_self ..
 |
  b :: ms, t :: ts, k + 1, i, q1, q2, hn => by
  have ih := kF (ms := ms) (ts := ts) (k := k) (by simpa using q1) (by simpa using q2) hn
  cases b <;> cases t <;> simp only [bj] <;> first | exact ih | (split; exact ih; exact List.mem_cons_of_mem _ ih)
theorem d9 {ms : List Bool} {ts : List Tm} {k i : Nat} (q : (bU ms ts)[k]? = some (some i)) : ms[k]? = some true /\ ts[k]? = some (.bor i) := by
 unfold bU at q
 rw [List.getElem?_zipWith] at q
 cases h1 : ms[k]? with
 | none => rw [h1] at q; cases q
 |
  some b =>
  cases h2 : ts[k]? with
  | none => rw [h1, h2] at q; cases q
  |
   some t =>
   rw [h1, h2] at q
   have q' : mi b t = some i := Option.some.inj q
   cases b <;> cases t <;> first | (cases q'; done) | (cases q'; exact ⟨rfl, rfl⟩)
theorem xU {ms : List Bool} {ts : List Tm} {k i : Nat} (q1 : ms[k]? = some true) (q2 : ts[k]? = some (.bor i)) : (bU ms ts)[k]? = some (some i) := by
 unfold bU
 rw [List.getElem?_zipWith, q1, q2]; rfl
theorem
    pX {e : E3} : ∀ {ts : List Tm} {vs : List Val} {k : Nat} {v : Val}, rss e ts = some vs -> vs[k]? = some v -> ∃ t, ts[k]? = some t /\ rs e t = some v
 | [], _, _, _, q, q2 => by cases q; simp at q2
 |
  t :: ts, vs, k, v, q, q2 => by
  unfold rss at q
  split at q
  ·rename_i u us e1 e2
   cases q
   cases k with
   | zero =>
        have : u = v := by simpa using q2
        subst this; exact ⟨t, rfl, e1⟩
   |
    succ k =>
    obtain ⟨t', y1, y2⟩ := pX (k := k) e2 (by simpa using q2)
    exact ⟨t', by simpa using y1, y2⟩
  ·cases q
theorem jU {e : E3} : ∀ {ts : List Tm} {vs : List Val}, rss e ts = some vs -> vs.length = ts.length
 | [], _, q => by cases q; rfl
 |
  t :: ts, vs, q => by
  unfold rss at q
  split at q
  ·rename_i u us e1 e2; cases q; exact congrArg (· + 1) (jU e2)
  ·cases q
theorem TsR.get {X : Nat -> Prop} {ns : Ns} {ae : AE} {h : AH} : ∀ {ds : List D} {ts : List Tm} {k : Nat} {t : Tm}, TsR X ns ae h ds ts -> ts[k]? = some t -> ∃ d, ds[k]? = some d /\ ((∃ v, t = .val v /\ Rd (Oc X ns) h d v) \/ ∃ i, t = .bor i /\ ae[i]? = some (some d))
 | _, _, _, _, .nil, q => by simp at q
 | _, _, 0, _, .val r rr, q => by have := (by simpa using q : Tm.val _ = _); subst this; exact ⟨_, rfl, .inl ⟨_, rfl, r⟩⟩
 | _, _, 0, _, .bor r rr, q => by have := (by simpa using q : Tm.bor _ = _); subst this; exact ⟨_, rfl, .inr ⟨_, rfl, r⟩⟩
 | _, _, k + 1, t, .val r rr, q => by obtain ⟨d, y⟩ := rr.get (k := k) (by simpa using q); exact ⟨d, by simpa using y⟩
 | _, _, k + 1, t, .bor r rr, q => by obtain ⟨d, y⟩ := rr.get (k := k) (by simpa using q); exact ⟨d, by simpa using y⟩
noncomputable def Xc (X : Nat -> Prop) (ns : Ns) (e : E3) (ms : List Bool) (ts : List Tm) (n : Nat) : Prop := (X n \/ some n ∈ ns) /\ some n ∉ bW (bU ms ts) ns /\ ∀ i ∈ bj e ms ts, ns[i]? ≠ some (some n)
theorem
    oh {X : Nat -> Prop} {h0 : Nat} {ns : Ns} {e : E3} {ae : AE} {h : AH} {ms : List Bool} {ts : List Tm} {ds : List D} {vs : List Val} (S : Sat X h0 ns e ae h) (rt : TsR X ns ae h ds ts) (qv : rss e ts = some vs) (ok : okA e ms ts = true) :
  Sat (Xc X ns e ms ts) h.length (bW (bU ms ts) ns) (sls ms vs) (ds.map some) h := by
 have l1 := ix ok
 have l2 := jU qv
 have l3 := TsR.len rt
 have hs : lp (bU ms ts) := fun j k i q1 q2 => iy ok (d9 q2).1 (d9 q2).2 (d9 q1).2
 have mv : Mov (Oc X ns) (Oc (Xc X ns e ms ts) (bW (bU ms ts) ns)) h h := fun n o p q => ⟨⟨fun z => by
  rcases z.1 with z | z
  ·exact p.1 z
  ·exact p.2 z, fun z => p.2 (ki z)⟩, q⟩
 refine ⟨?_, ?_, Nat.le_refl _, fun n z => ?_, fun j k n q1 q2 => ?_, fun j n q z => z.2.1 (bp.mpr ⟨j, q⟩), fun k s q => ?_⟩
 ·unfold sls; rw [List.length_map, List.length_zipWith]; omega
 ·unfold bW bU sls; rw [List.length_map, List.length_zipWith, List.length_zipWith]; omega
 ·rcases z.1 with z | z
  ·exact S.xl n z
  ·obtain ⟨i, z⟩ := bp.mp z
   obtain ⟨_, _, _, _, _, _, _, q', _⟩ := S.own z
   exact cQ q'
 ·obtain ⟨i, y1, y2⟩ := cA q1
  obtain ⟨i', y3, y4⟩ := cA q2
  have := S.inj i i' n y2 y4
  subst this
  exact hs j k i y1 y3
 ·obtain ⟨b, v,
         q1, q2, rfl⟩ := fq q
  obtain ⟨t, q3, q4⟩ := pX qv q2
  obtain ⟨d, q5, q6⟩ := rt.get q3
  have qd : (ds.map some)[k]? = some (some d) := by rw [List.getElem?_map, q5]; rfl
  rw [qd]
  have qn : (bW (bU ms ts) ns)[k]? = some ((mi b t).bind fun i => (ns[i]?).bind id) := by
   unfold bW bU
   rw [List.getElem?_map, List.getElem?_zipWith, q1, q3]; rfl
  rw [qn]
  cases b with
  |
   true =>
   obtain ⟨i, y1, u, y2⟩ := lR ok q1
   rw [q3] at y1; cases y1
   have q4' : (e[i]?).bind Sl.val = some v := q4
   obtain ⟨s, z1, z2⟩ := Option.bind_eq_some_iff.mp y2
   rw [z1] at q4'
   have hv : s.val = some v := q4'
   have huv : u = v := by cases s <;> first | cases z2; done | (cases z2; cases hv; rfl)
   subst huv
   have hns : ∃ n, ns[i]? = some (some n) := by
    have y := S.sl i s z1
    cases s with
    | ow v => obtain ⟨n, o, y1, _⟩ := y; exact ⟨n, y1⟩
    | mu v => obtain ⟨n, o, y1, _⟩ := y; exact ⟨n, y1⟩
    | _ => cases z2
   obtain ⟨n, hn⟩ := hns
   obtain ⟨n', o, k1, k2, k3, k4, _⟩ := S.write z1 z2
   rcases q6 with ⟨_, z, _⟩ | ⟨i', z, q6⟩
   ·cases z
   ·cases z
    rw [q6] at k1; cases k1
    obtain ⟨_, _, _, _, _, _, w, _⟩ := S.own hn
    rw [q6] at w; cases w
    exact ⟨n, o, by show some ((ns[i]?).bind id) = _; rw [hn]; rfl, rfl, k2, k3, k4.mono mv⟩
  |
   false =>
   refine ⟨by cases t <;> rfl, d, rfl, ?_⟩
   rcases q6 with ⟨u, rfl, q6⟩ | ⟨i, rfl, q6⟩
   ·cases q4; exact q6.mono mv
   ·have q4' : (
          e[i]?).bind Sl.val = some v := q4
    rcases S.bor q6 q4' with z | ⟨n, o, rfl, z1, z2⟩
    ·exact z.mono mv
    ·refine .cell ⟨fun y => ?_, fun y => ?_⟩ z1 (z2.mono mv)
     ·
      by_cases hsh : ∃ w, e[i]? = some (.sh w)
      ·obtain ⟨w, hsh⟩ := hsh
       obtain ⟨_, x, w1, w2⟩ := S.sl i _ hsh
       rw [q6] at w1; cases w1
       cases w2 with
       | cell p _ _ => rcases y.1 with y | y; exact p.1 y; exact p.2 y
      ·have hl := kF q1 q3 fun w z => hsh ⟨w, z⟩
       cases w : ns[i]? with
       |
        none =>
        have hi : i < e.length := by
         cases z : e[i]? with
         | none => rw [z] at q4'; cases q4'
         | some _ => exact (List.getElem?_eq_some_iff.mp z).1
        rw [List.getElem?_eq_none_iff, S.l2] at w
        omega
       |
        some w' =>
        cases w' with
        |
         none =>
         cases z : e[i]? with
         | none => rw [z] at q4'; cases q4'
         |
          some s =>
          have k := S.sl i s z
          rw [w] at k
          cases s with
          | no => rw [z] at q4'; cases q4'
          | sh w => exact hsh ⟨w, z⟩
          | ow w => obtain ⟨_, _, k, _⟩ := k; cases k
          | lo w => obtain ⟨_, _, k, _⟩ := k; cases k
          | mu w => obtain ⟨_, _, k, _⟩ := k; cases k
          | lm w => obtain ⟨_, _, k, _⟩ := k; cases k
        |
         some n' =>
         obtain ⟨_, _, _, _, _, _, w2, _⟩ := S.own w
         rw [q6] at w2; cases w2
         exact y.2.2 i hl w
     ·obtain ⟨j, y⟩ := bp.mp y
      obtain ⟨i', y1, y2⟩ := cA y
      obtain ⟨y3, y4⟩ := d9 y1
      obtain ⟨_, _, _, _, _, _, w2, _⟩ := S.own y2
      have : i'
           = i := by
       cases w : ns[i]? with
       |
        none =>
        have hi : i < e.length := by
         cases z : e[i]? with
         | none => rw [z] at q4'; cases q4'
         | some _ => exact (List.getElem?_eq_some_iff.mp z).1
        rw [List.getElem?_eq_none_iff, S.l2] at w
        omega
       |
        some w' =>
        cases w' with
        |
         some n' =>
         obtain ⟨_, _, _, _, _, _, w3, _⟩ := S.own w
         rw [q6] at w3; cases w3
         exact S.inj i' i n y2 w
        |
         none =>
         cases z : e[i]? with
         | none => rw [z] at q4'; cases q4'
         |
          some s =>
          have k := S.sl i s z
          rw [w, q6] at k
          cases s with
          | no => rw [z] at q4'; cases q4'
          |
           sh w =>
           obtain ⟨_, x, k1, k2⟩ := k
           cases k1
           cases k2 with
           | cell p _ _ => exact (p.2 (bp.mpr ⟨i', y2⟩)).elim
          | ow w => obtain ⟨_, _, k, _⟩ := k; cases k
          | lo w => obtain ⟨_, _, k, _⟩ := k; cases k
          | mu w => obtain ⟨_, _, k, _⟩ := k; cases k
          | lm w => obtain ⟨_, _, k, _⟩ := k; cases k
      subst this
      have := iy ok y3 y4 q3
      subst this
      rw [q1] at y3; cases y3
end L3
set_option Elab.async false
set_option linter.all false
set_option maxRecDepth 100000
namespace L3
open PySem PySem.Spec PyProof.Rows L2
theorem eX : ∀ {ms : List Bool} {mv : List Val} {j : Nat} {v : Val}, (aZ ms mv)[j]? = some (.mu v) -> v ∈ mv
 | [], _, _, _, q => by simp [aZ] at q
 | true :: ms, u :: mv, 0, v, q => by
                    have : Sl.mu u = .mu v := by simpa [aZ] using q
                    cases this; exact List.mem_cons_self ..
 | true :: ms, u :: mv, j + 1, v, q => List.mem_cons_of_mem _ (eX (ms := ms) (mv := mv) (j := j) (by simpa [aZ] using q))
 | true :: ms, [], 0, v, q => by simp [aZ] at q
 | true :: ms, [], j + 1, v, q => eX (ms := ms) (mv := []) (j := j) (by simpa [aZ] using q)
 | false :: ms, mv, 0, v, q => by simp [aZ] at q
 | false :: ms, mv, j + 1, v, q => eX (ms := ms) (mv := mv) (j := j) (by simpa [aZ] using q)
theorem kf {e : E3} : ∀ {ms : List Bool} {ts : List Tm} {i : Nat}, i ∈ bj e ms ts -> ∃ k : Nat, ms[k]? = some false /\ ts[k]? = some (.bor i)
 | [], _, _, q => by simp [bj] at q
 | _ :: _, [], _, q => by simp [bj] at q
 |
  b :: ms, t :: ts, i, q => by
  have up : i ∈ bj e ms ts -> ∃ k : Nat, (b :: ms)[k]? = some false /\ (t :: ts)[k]? = some (.bor i) := fun z => by
   obtain ⟨k, y1, y2⟩ := kf z
   exact ⟨k + 1, by simpa using y1, by simpa using y2⟩
  cases b <;> cases t <;> simp only [bj] at q <;> first | exact up q | skip
  split at q
  ·exact up q
  ·rcases List.mem_cons.mp q with rfl | q
   ·exact ⟨0, rfl, rfl⟩
   ·exact up q
theorem ym {e e1 : E3} {i : Nat} {v : Val} (q : cR e (.bor i) = some (e1, v)) : (∀ j, j ≠ i -> e1[j]? = e[j]?) /\ e1[i]? = some (.sh v) /\ (e[i]?).bind Sl.val = some v := by
 unfold cR at q
 dsimp only at q
 split at q
 ·rename_i u q1; cases q; exact ⟨fun _ _ => rfl, q1, by rw [q1]; rfl⟩
 ·rename_i u q1; cases q; exact ⟨fun j z => bM z, bS (List.getElem?_eq_some_iff.mp q1).1, by rw [q1]; rfl⟩
 ·cases q
theorem
    o9 {X : Nat -> Prop} {h0 : Nat} {ae : AE} {h : AH} : ∀ {is : List Nat} {ns : Ns} {e e2 : E3}, Sat X h0 ns e ae h -> (∀ i ∈ is, ∃ d, ae[i]? = some (some d)) -> mM e is = some e2 -> ∃ ns2, Sat X h0 ns2 e2 ae h /\ Stp ns e h ns2 e2 h /\ (∀ i, i ∉ is -> e2[i]? = e[i]?) /\ (∀ i ∈ is, ∃ v, e2[i]? = some (.sh v)) /\ ∀ i : Nat, (e2[i]?).bind Sl.val = (e[i]?).bind Sl.val
 | [], ns, e, e2, S, _, q => by cases q; exact ⟨ns, S, .refl, fun _ _ => rfl, (fun _ z => by cases z), fun _ => rfl⟩
 |
  i :: is, ns, e, e2, S, hd, q => by
  unfold mM at q
  split at q
  ·rename_i e1 v q1
   obtain ⟨d, hd0⟩ := hd i (List.mem_cons_self ..)
   obtain ⟨ns1, S1, a1, r1⟩ := fj (L := 0) (t := .bor i) S hd0 q1
   obtain ⟨ns2, S2, a2, k1, k2, k3⟩ := o9 S1 (fun j z => hd j (List.mem_cons_of_mem _ z)) q
   obtain ⟨y1, y2, y3⟩ := ym q1
   refine ⟨ns2, S2, a1.trans S a2, fun j hj => ?_, fun j hj => ?_, fun j => ?_⟩
   ·rw [List.mem_cons, not_or] at hj
    rw [k1 j hj.2, y1 j hj.1]
   ·by_cases z : j ∈ is
    ·exact k2 j z
    ·rcases List.mem_cons.mp hj with rfl | hj
     ·exact ⟨v, by rw [k1 j z]; exact y2⟩
     ·exact absurd hj z
   ·rw [k3 j]
    by_cases z : j = i
    ·subst z; rw [y2, y3]; rfl
    ·rw [y1 j z]
  ·cases q
theorem
    mZ {e e2 : E3} : ∀ {ms : List Bool} {ts : List Tm}, (∀ (k i : Nat), ms[k]? = some true -> ts[k]? = some (.bor i) -> e2[i]? = e[i]?) -> okA e ms ts = true -> okA e2 ms ts = true
 | [], [], _, o => rfl
 | [], _ :: _, _, o => by simp [okA] at o
 | b :: ms, [], _, o => by cases b <;> simp [okA] at o
 |
  b :: ms, t :: ts, hk, o => by
  have o' : okA e ms ts = true := by
   cases b <;> cases t <;> simp only [okA, Bool.and_eq_true] at o <;> first | exact o.2 | exact o | (simp at o; done)
  have ih := mZ (fun k i q1 q2 => hk (k + 1) i (by simpa using q1) (by simpa using q2)) o'
  cases b with
  | false => cases t <;> simp only [okA, Bool.and_eq_true] at o ⊢ <;> first | exact ⟨o.1, ih⟩ | exact ih
  |
   true =>
   cases t with
   |
    bor i =>
    simp only [okA, Bool.and_eq_true] at o ⊢
    rw [hk 0 i rfl rfl]
    exact ⟨o.1, ih⟩
   | _ => simp [okA] at o
theorem n6 {e : E3} : ∀ {ms : List Bool} {ts : List Tm}, (∀ (k i : Nat), ms[k]? = some false -> ts[k]? = some (.bor i) -> ∃ v, e[i]? = some (.sh v)) -> bj e ms ts = []
 | [], _, _ => by simp [bj]
 | _ :: _, [], _ => by simp [bj]
 |
  b :: ms, t :: ts, hk => by
  have ih := n6 (fun k i q1 q2 => hk (k + 1) i (by simpa using q1) (by simpa using q2))
  cases b <;> cases t <;> simp only [bj] <;> first | exact ih | skip
  rename_i i
  obtain ⟨v, q⟩ := hk 0 i rfl rfl
  rw [q]; exact ih
theorem mO {e e2 : E3} (hv : ∀ i : Nat, (e2[i]?).bind Sl.val = (e[i]?).bind Sl.val) : ∀ (ts : List Tm), rss e2 ts = rss e ts
 | [] => rfl
 |
  t :: ts => by
  unfold rss
  rw [mO hv ts]
  have : rs e2 t = rs e t := by
   cases t with
   | bor i => exact hv i
   | _ => rfl
  rw [this]
theorem oU {e : E3} {ms : List Bool} {ts : List Tm} {vs : List Val} (ok : okA e ms ts = true) : Lnk (bU ms ts) e (sls ms vs) := by
 refine ⟨fun j k i q1 q2 => iy ok (d9 q2).1 (d9 q2).2 (d9 q1).2, fun j v q => ?_, fun j s q hm => ?_⟩
 ·obtain ⟨b, u, q1, _, q2⟩ := fq q
  cases b with
  | false => cases q2
  |
   true =>
   obtain ⟨i, y1, w, y2⟩ := lR ok q1
   obtain ⟨s, z1, z2⟩ := Option.bind_eq_some_iff.mp y2
   exact ⟨i, s, xU q1 y1, z1, by cases s <;> first | rfl | cases z2⟩
 ·obtain ⟨b, u, q1, _, q2⟩ := fq q
  cases b with
  | false => subst q2; cases hm
  | true => exact ⟨u, q2⟩
section
variable {X : Nat -> Prop} {h0 L : Nat} {ns : Ns} {e : E3} {ae : AE} {h : AH} {ms : List Bool} {ts : List Tm} {ds : List D} {vs : List Val} {S2 : Fn} {G3 : Fn3}
theorem j5 (Y : Nat -> Prop) (hY : ∀ n, Y n -> X n \/ Y n) {n : Nat} (hl : bj e ms ts = []) (z : ¬ Xc X ns e ms ts n) (z2 : some n ∉ bW (bU ms ts) ns) : Oc X ns n := by
 refine ⟨fun y => z ⟨.inl y, z2, fun i hi => by rw [hl] at hi; cases hi⟩, fun y => z ⟨.inr y, z2, fun i hi => by rw [hl] at hi; cases hi⟩⟩
theorem
    qy {r : Rt} {mv : List Val} (S : Sat X h0 ns e ae h) (hL : L <= h.length) (rt : TsR X ns ae h ds ts) (qv : rss e ts = some vs) (ok : okA e ms ts = true) (hG : RF ms S2 G3) (q : G3 vs = .ok r mv) (hf : bj e ms ts = [] \/ (jR r = true /\ mv.all cW = true)) :
  Po X h0 ns e ae h (relE X h0 L ae) (S2 ds h) (.ok r.tm (bC (bU ms ts) (aZ ms mv) e)) := by
 have p := hG _ _ ds vs h (by rw [jU qv, ix ok]) (oh S rt qv ok)
 rw [q] at p
 obtain ⟨d, h', p1, a, rr⟩ := p
 have K := oU (vs := vs) ok
 have xcl : ∀ n, X n -> n < h.length := S.xl
 cases r with
 |
  val v =>
  obtain ⟨S3, rv⟩ := rr
  obtain ⟨S4, a4⟩ := S.back (Y := X) K a (fun n z => ⟨Nat.lt_of_lt_of_le (xcl n z) a.len, .inl z⟩) (fun _ z => z) fun j w n q1 q2 => by
   obtain ⟨s, u, o, b1, b2, b3, b4, b5, b6, b7⟩ := S3.own q2
   rw [q1] at b1; cases b1; cases b3
   rcases hf with hf | hf
   ·exact ⟨o, b5, b6, b7.mono fun m o' z y => ⟨j5 X (fun _ z => .inl z) hf z.1 z.2, y⟩⟩
   ·exact ⟨o, b5, b6, b7.flat (List.all_eq_true.mp hf.2 w (eX q1))⟩
  refine ⟨d, h', ns, p1, a4, S4, ?_⟩
  rcases hf with hf | hf
  ·exact rv.mono fun m o' z y => ⟨j5 X (fun _ z => .inl z) hf z.1 z.2, y⟩
  ·exact rv.flat hf.1
 |
  new v =>
  obtain ⟨n, o, z1, z2, z3, z4, z5, S3, z7⟩ := rr
  have hnx : ¬ X n := fun y => by have := xcl n y; omega
  have kk : ∀ m, Oc (Xn (Xc X ns e ms ts) n) (bW (bU ms ts) ns) m -> bj e ms ts = [] -> Oc (Xn X n) ns m := fun m z hf => by
   have := j5 X (fun _ z => .inl z) hf (fun y => z.1 (.inl y)) z.2
   exact ⟨fun y => by
    rcases y with y | y
    ·exact this.1 y
    ·exact z.1 (.inr y), this.2⟩
  obtain ⟨S4, a4⟩ := S.back (Y := Xn X n) K a (fun m z => by
    rcases z with z | rfl
    ·exact ⟨Nat.lt_of_lt_of_le (xcl m z) a.len, .inl z⟩
    ·exact ⟨cQ z4, .inr z2⟩) (fun _ z => .inl z) fun j w n' q1 q2 => by
   obtain ⟨s, u, o, b1, b2, b3, b4, b5, b6, b7⟩ := S3.own q2
   rw [q1] at b1; cases b1; cases b3
   rcases hf with hf | hf
   ·exact ⟨o, b5, b6, b7.mono fun m o' z y => ⟨kk m z hf, y⟩⟩
   ·exact ⟨o, b5, b6, b7.flat (List.all_eq_true.mp hf.2 w (eX q1))⟩
  refine ⟨d, h', ns, p1, a4, S4.weak fun _ z => .inl z, n, o, z1, Nat.le_trans hL z2, hnx, z4, z5, S4, ?_⟩
  rcases hf with hf | hf
  ·exact z7.mono fun m o' z y => ⟨kk m z hf, y⟩
  ·exact z7.flat hf.1
theorem vA {c : Str} {mv : List Val} (S : Sat X h0 ns e ae h) (rt : TsR X ns ae h ds ts) (qv : rss e ts = some vs) (ok : okA e ms ts = true) (hG : RF ms S2 G3) (q : G3 vs = .exc c mv) (hf : bj e ms ts = [] \/ mv.all cW = true) :
  Po X h0 ns e ae h (relE X h0 L ae) (S2 ds h) (.exc c (bC (bU ms ts) (aZ ms mv) e)) := by
 have p := hG _ _ ds vs h (by rw [jU qv, ix ok]) (oh S rt qv ok)
 rw [q] at p
 obtain ⟨h', p1, a, S3⟩ := p
 have K := oU (vs := vs) ok
 obtain ⟨S4, a4⟩ := S.back (Y := X) K a (fun n z => ⟨Nat.lt_of_lt_of_le (S.xl n z) a.len, .inl z⟩) (fun _ z => z) fun j w n q1 q2 => by
  obtain ⟨s, u, o, b1, b2, b3, b4, b5, b6, b7⟩ := S3.own q2
  rw [q1] at b1; cases b1; cases b3
  rcases hf with hf | hf
  ·exact ⟨o, b5, b6, b7.mono fun m o' z y => ⟨j5 X (fun _ z => .inl z) hf z.1 z.2, y⟩⟩
  ·exact ⟨o, b5, b6, b7.flat (List.all_eq_true.mp hf w (eX q1))⟩
 exact ⟨h', ns, p1, a4, S4⟩
theorem
    pZ {A : MA} {A3 : MA3} {n : Nat} (hn : n = ms.length) (hG : RF ms S2 G3) (hA : RA A A3) : RE (nB n S2 A) (nJ ms G3 A3) := fun X h0 L ns e ae h S hl =>
 Po.bind
     S (hA X h0 ns e ae h S) fun ds ts h1 ns1 e1 a1 S1 r1 => by
  try dsimp only
  cases qv : rss e1 ts with
  | none => trivial
  |
   some vs =>
   dsimp only
   by_cases ok : okA e1 ms ts = true
   ·rw [if_pos ok]
    have hlen : ds.length = n := by rw [hn, ix ok]; exact TsR.len r1
    rw [if_pos hlen]
    have hL : L <= h1.length := Nat.le_trans hl a1.len
    cases q : G3 vs with
    | stuck => trivial
    |
     exc c mv =>
     dsimp only
     by_cases hf : ((bj e1 ms ts).isEmpty || mv.all cW) = true
     ·rw [if_pos hf]
      refine vA S1 r1 qv ok hG q ?_
      rw [Bool.or_eq_true] at hf
      rcases hf with hf | hf
      ·exact .inl (List.isEmpty_iff.mp hf)
      ·exact .inr hf
     ·rw [if_neg hf]; trivial
    |
     ok r mv =>
     dsimp only
     by_cases hf : ((bj e1 ms ts).isEmpty || (jR r && mv.all cW)) = true
     ·rw [if_pos hf]
      refine qy S1 hL r1 qv ok hG q ?_
      rw [Bool.or_eq_true, Bool.and_eq_true] at hf
      rcases hf with hf | hf
      ·exact .inl (List.isEmpty_iff.mp hf)
      ·exact .inr hf
     ·rw [if_neg hf]
      cases qd : mM e1 (bj e1 ms ts) with
      | none => trivial
      |
       some e2 =>
       dsimp only
       obtain ⟨ns2, S2', a2, k1, k2, k3⟩ := o9 S1 (fun i hi => by
        obtain ⟨k, _, y⟩ := kf hi
        obtain ⟨d, _, z⟩ := r1.get y
        rcases z with ⟨_, z, _⟩ | ⟨j, z, z2⟩
        ·cases z
        ·cases z; exact ⟨d, z2⟩) qd
       have ok2 : okA e2 ms ts = true := mZ (fun k i q1 q2 => k1 i fun z => by
        obtain ⟨k', y1, y2⟩ := kf z
        have := iy ok q1 q2 y2
        subst this
        rw [q1] at y1; cases y1) ok
       have ln : bj e2 ms ts = [] := n6 fun k i q1 q2 => by
        by_cases z : i ∈ bj e1 ms ts
        ·exact k2 i z
        ·rw [k1 i z]
         exact Classical.byContradiction fun w => z (kF q1 q2 fun v y => w ⟨v, y⟩)
       have pp := qy (L := L) S2' hL (r1.stp S1 a2) (by rw [mO k3]; exact qv) ok2 hG q (.inl ln)
       obtain ⟨d, h', ns', y, y1, y2, y3⟩ := pp
       exact ⟨d, h', ns', y, a2.trans S1 y1, y2, y3⟩
   ·rw [if_neg ok]; trivial
end
noncomputable def RMv (m2 : D -> List D -> AH -> R D) (m3 : Val -> List Val -> Bv) : Prop := ∀ P h d v ds vs, ShR P h d v -> isLv v = true -> ShRs P h ds vs -> BvR P h (m2 d ds h) (m3 v vs)
end L3
set_option Elab.async false
set_option linter.all false
set_option maxRecDepth 100000
namespace L3
open PySem PySem.Spec PyProof.Rows L2
noncomputable def aI (f : Int -> Int -> Val) : Val -> Val -> Bv := fun x y => match x, y with
 | .int i, .int j => .val (f i j)
 | _, _ => .stuck
open Classical in
noncomputable def aIc (C : Int -> Int -> Prop) (f : Int -> Int -> Val) : Val -> Val -> Bv := fun x y => match x, y with
 | .int i, .int j => if C i j then .val (f i j) else .stuck
 | _, _ => .stuck
noncomputable def rO : Val -> Val -> Bv := fun x y => match x, y with
 | .lst xs, .lst ys => if xs.length + ys.length <= 16777216 then .new (.lst (xs ++ ys)) else .stuck
 | .tup xs, .tup ys => if xs.length + ys.length <= 16777216 then .val (.tup (xs ++ ys)) else .stuck
 | _, _ => .stuck
noncomputable def uV : Val -> Val -> Bv := fun x y => match x, y with
 | .int i, .int j => .val (.int (i + j))
 | x, y => rO x y
noncomputable def aMin := aI fun i j => .int (i - j)
noncomputable def rb := aIc CMulA fun i j => .int (i * j)
noncomputable def qC := aIc CDivB fun i j => .int (i.fdiv j)
noncomputable def qR := aIc (fun _ j => j ≠ 0) fun i j => .int (i.fmod j)
noncomputable def rL := aIc lV fun i j => .int (i ^ j.toNat)
noncomputable def aLt := aI fun i j => .bl (decide (i < j))
noncomputable def aGt := aI fun i j => .bl (decide (j < i))
noncomputable def aGe := aI fun i j => .bl (decide (j <= i))
noncomputable def vY : Val -> Bv := fun x => match x with
 | .int i => .val (.int (-i))
 | _ => .stuck
noncomputable def aIx : Val -> Val -> Bv := fun x y => match x.items, y with
 | some xs, .int i => (match atI xs i with
  | some v => .val v
  | none => .stuck)
 | _, _ => .stuck
section
theorem nT {f2 : Int -> Int -> D} {f3 : Int -> Int -> Val} (hr : ∀ i j P h, Rd P h (f2 i j) (f3 i j)) : RO (gI f2) (aI f3) := fun P h d1 d2 v1 v2 r1 r2 => by
 unfold aI
 split
 ·obtain rfl := r1.int; obtain rfl := r2.int; exact ⟨_, rfl, hr _ _ P h⟩
 ·trivial
theorem nI {C : Int -> Int -> Prop} {f2 : Int -> Int -> D} {f3 : Int -> Int -> Val} (hr : ∀ i j P h, Rd P h (f2 i j) (f3 i j)) : RO (gIc C f2) (aIc C f3) := fun P h d1 d2 v1 v2 r1 r2 => by
 unfold aIc
 split
 ·obtain rfl := r1.int; obtain rfl := r2.int
  split
  ·rename_i hc; exact ⟨_, by unfold gIc; dsimp only; rw [if_pos hc], hr _ _ P h⟩
  ·trivial
 ·trivial
theorem Ca : RO kM rO := fun P h d1 d2 v1 v2 r1 r2 => by
 unfold rO
 split
 ·obtain ⟨n, ds, rfl, e1, _, q1⟩ := r1.lst
  obtain ⟨m, es, rfl, e2, _, q2⟩ := r2.lst
  split
  ·rename_i hl
   exact ⟨.lst (ds ++ es), by unfold kM; dsimp only; rw [e1, e2]; dsimp only; rw [if_pos (by rw [q1.len, q2.len]; exact hl)], trivial, .lst (q1.append q2)⟩
  ·trivial
 ·obtain ⟨ds, rfl, q1⟩ := r1.tup
  obtain ⟨es, rfl, q2⟩ := r2.tup
  split
  ·rename_i hl
   exact ⟨_, by unfold kM; dsimp only; rw [if_pos (by rw [q1.len, q2.len]; exact hl)], .tup (q1.append q2)⟩
  ·trivial
 ·trivial
theorem ze : RO rD uV := fun P h d1 d2 v1 v2 r1 r2 => by
 unfold uV
 split
 ·obtain rfl := r1.int; obtain rfl := r2.int; exact ⟨_, rfl, .int _⟩
 ·rename_i hn
  have k := Ca P h d1 d2 v1 v2 r1 r2
  have e : rD d1 d2 h = kM d1 d2 h \/ rO v1 v2 = .stuck := by
   cases v1 <;> first | (right; rfl) | (left; skip)
   ·obtain ⟨ds, rfl, _⟩ := r1.tup; rfl
   ·obtain ⟨n, ds, rfl, _⟩ := r1.lst; rfl
  rcases e with e | e
  ·rw [e]; exact k
  ·rw [e]; trivial
theorem Cc : RO ve aMin := nT fun _ _ _ _ => .int _
theorem BK : RO vR rb := nI fun _ _ _ _ => .int _
theorem Ax : RO uz qC := nI fun _ _ _ _ => .int _
theorem Bz : RO uR qR := nI fun _ _ _ _ => .int _
theorem Cd : RO vS rL := nI fun _ _ _ _ => .int _
theorem CV : RO gLt aLt := nT fun _ _ _ _ => .bl _
theorem DB : RO gGt aGt := nT fun _ _ _ _ => .bl _
theorem Ei : RO gGe aGe := nT fun _ _ _ _ => .bl _
theorem An : RU qM vY := fun P h d v r => by
 unfold vY
 split
 ·obtain rfl := r.int; exact ⟨_, rfl, .int _⟩
 ·trivial
theorem CI {P : Nat -> Prop} {h : AH} {ds : List D} {vs : List Val} (r : Rds P h ds vs) {i : Int} {v : Val} (e : atI vs i = some v) : ∃ d, atI ds i = some d /\ Rd P h d v := by
 unfold atI at e ⊢
 rw [r.len]
 cases q : ixN vs.length i with
 | none => rw [q] at e; cases e
 | some j => rw [q] at e; exact r.get e
theorem Ct : RO gIx aIx := fun P h d1 d2 v1 v2 r1 r2 => by
 unfold aIx
 split
 ·rename_i xs i e1
  obtain ⟨ds, e2, q⟩ := r1.items e1
  obtain rfl := r2.int
  split
  ·rename_i v e3
   obtain ⟨d, e4, q2⟩ := CI q e3
   exact ⟨d, by unfold gIx; rw [e2]; dsimp only; rw [e4], q2⟩
  ·trivial
 ·trivial
end
mutual
noncomputable def cK : Nat -> Val -> Option PyData
 | 0, _ => none
 | _ + 1, .non => some .none
 | _ + 1, .bl b => some (.bool b)
 | _ + 1, .int i => some (.int i)
 | _ + 1, .str x => some (.str x)
 | k + 1, .tup xs => (dS k xs).map .tuple
 | k + 1, .lst xs => (dS k xs).map .list
 | _ + 1, _ => none
noncomputable def dS : Nat -> List Val -> Option (List PyData)
 | _, [] => some []
 | k, x :: xs => match cK k x, dS k xs with
  | some a, some b => some (a :: b)
  | _, _ => none
end
theorem
    vF {P : Nat -> Prop} {h : AH} {k : Nat} (hk : ∀ d v pd, Rd P h d v -> cK k v = some pd -> dP k h d = some pd) : ∀ {ds : List D} {vs : List Val} {ps : List PyData}, Rds P h ds vs -> dS k vs = some ps -> ds.mapM (dP k h) = some ps := by
 intro ds
 induction ds with
 |
  nil =>
  intro vs ps r q
  cases r
  unfold dS at q
  cases q
  rfl
 |
  cons d0 ds ih =>
  intro vs ps r q
  cases r with
  |
   cons r rr =>
   unfold dS at q
   split at q
   ·rename_i a b e1 e2
    cases q
    rw [List.mapM_cons, hk _ _ _ r e1, ih rr e2]; rfl
   ·cases q
theorem ma {P : Nat -> Prop} {h : AH} : ∀ (k : Nat) (d : D) (v : Val) (pd : PyData), ShR P h d v -> cK k v = some pd -> dP k h d = some pd
 | 0, _, _, _, _, q => by unfold cK at q; cases q
 |
  k + 1, d, v, pd, r, q => by
  have ih : ∀ {ds : List D} {vs : List Val} {ps : List PyData}, Rds P h ds vs -> dS k vs = some ps -> ds.mapM (dP k h) = some ps := vF fun d v pd r q => ma k d v pd (.inl r) q
  cases v with
  | non => obtain rfl := r.non; simp only [cK] at q; cases q; rfl
  | bl b => obtain rfl := r.bl; simp only [cK] at q; cases q; rfl
  | int b => obtain rfl := r.int; simp only [cK] at q; cases q; rfl
  | str b => obtain rfl := r.str; simp only [cK] at q; cases q; rfl
  |
   tup xs =>
   obtain ⟨ds, rfl, r2⟩ := r.tup
   simp only [cK] at q
   obtain ⟨ps, q1, rfl⟩ := Option.map_eq_some_iff.mp q
   show (ds.mapM (dP k h)).map PyData.tuple = _
   rw [ih r2 q1]; rfl
  |
   lst xs =>
   obtain ⟨n, ds, rfl, _, e1, r2⟩ := r.lst
   simp only [cK] at q
   obtain ⟨ps, q1, rfl⟩ := Option.map_eq_some_iff.mp q
   unfold dP
   rw [e1]
   show (ds.mapM (dP k h)).map PyData.list = _
   rw [ih r2 q1]; rfl
  | _ => simp only [cK] at q; cases q
noncomputable def fm (x y : Val) : Option Bool := match cK 64 x, cK 64 y with
 | some a, some b => if SeqAt.shaped a = true /\ SeqAt.shaped b = true then some (PyData.eqv a b) else none
 | _, _ => none
noncomputable def aEq (neg : Bool) : Val -> Val -> Bv := fun x y => match fm x y with
 | some b => .val (.bl (if neg then !b else b))
 | none => .stuck
theorem BA {P : Nat -> Prop} {h : AH} {d1 d2 : D} {v1 v2 : Val} {b : Bool} (r1 : ShR P h d1 v1) (r2 : ShR P h d2 v2) (q : fm v1 v2 = some b) : pz h d1 d2 = some b := by
 unfold fm at q
 split at q
 ·rename_i a c e1 e2
  unfold pz
  rw [ma 64 _ _ _ r1 e1, ma 64 _ _ _ r2 e2]
  exact q
 ·cases q
theorem wJ (neg : Bool) : RO (gEq neg) (aEq neg) := fun P h d1 d2 v1 v2 r1 r2 => by
 unfold aEq
 split
 ·rename_i b q
  exact ⟨_, by unfold gEq; rw [BA r1 r2 q], .bl _⟩
 ·trivial
noncomputable def nO : Val -> Bool
 | .non => true
 | .bl _ => true
 | .int _ => true
 | .str _ => true
 | _ => false
noncomputable def rT : Val -> V
 | .bl b => .bl b
 | .int i => .int i
 | .str x => .str x
 | _ => .non
noncomputable def eq1 (x y : Val) : Bool := eqV (rT x) (rT y)
noncomputable def aIn (neg : Bool) : Val -> Val -> Bv := fun x y => match y.items with
 | some xs => if nO x = true /\ xs.all nO = true then .val (.bl (if neg then !(xs.any fun d => eq1 d x) else xs.any fun d => eq1 d x)) else .stuck
 | none => .stuck
theorem qg {P : Nat -> Prop} {h : AH} {d : D} {v : Val} (r : ShR P h d v) (f : nO v = true) : j4 d = true /\ toV d = rT v := by
 cases v with
 | non => obtain rfl := r.non; exact ⟨rfl, rfl⟩
 | bl b => obtain rfl := r.bl; exact ⟨rfl, rfl⟩
 | int b => obtain rfl := r.int; exact ⟨rfl, rfl⟩
 | str b => obtain rfl := r.str; exact ⟨rfl, rfl⟩
 | _ => cases f
theorem uN {P : Nat -> Prop} {h : AH} (x : D) (y : Val) (hx : toV x = rT y) : ∀ {ds : List D} {vs : List Val}, Rds P h ds vs -> vs.all nO = true -> ds.all j4 = true /\ (ds.any fun d => eqF d x) = vs.any fun d => eq1 d y := by
 intro ds
 induction ds with
 |
  nil =>
  intro vs r f
  cases r
  exact ⟨rfl, rfl⟩
 |
  cons d0 ds ih =>
  intro vs r f
  cases r with
  |
   cons r rr =>
   rw [List.all_cons, Bool.and_eq_true] at f
   obtain ⟨h1, h2⟩ := qg (.inl r) f.1
   obtain ⟨h3, h4⟩ := ih rr f.2
   refine ⟨by rw [List.all_cons, h1, h3]; rfl, ?_⟩
   rw [List.any_cons, List.any_cons, h4]
   unfold eqF eq1
   rw [h2, hx]
theorem ED (neg : Bool) : RO (gIn neg) (aIn neg) := fun P h d1 d2 v1 v2 r1 r2 => by
 unfold aIn
 split
 ·rename_i xs e
  obtain ⟨ds, e2, q⟩ := r2.items e
  split
  ·rename_i hf
   obtain ⟨f1, f2⟩ := qg r1 hf.1
   obtain ⟨f3, f4⟩ := uN d1 v1 f2 q hf.2
   exact ⟨_, by unfold gIn; rw [e2]; dsimp only; rw [if_pos ⟨f1, f3⟩, f4], .bl _⟩
  ·trivial
 ·trivial
noncomputable def uM (neg : Bool) : Val -> Val -> Bv := fun x y => match x, y with
 | .non, .non => .val (.bl (!neg))
 | _, .non => .val (.bl neg)
 | _, _ => .stuck
theorem Ah (neg : Bool) : RO (uT neg) (uM neg) := fun P h d1 d2 v1 v2 r1 r2 => by
 unfold uM
 split
 ·obtain rfl := r1.non; obtain rfl := r2.non; exact ⟨_, rfl, .bl _⟩
 ·rename_i hn
  obtain rfl := r2.non
  have : d1 ≠ .non := by
   rintro rfl
   rcases r1 with r | ⟨n, o, z, _⟩
   ·cases r; exact hn rfl
   ·cases z
  refine ⟨_, ?_, .bl neg⟩
  unfold uT
  split
  ·exact absurd rfl this
  ·rfl
  ·rename_i h1 h2; exact (h1 rfl).elim
 ·trivial
noncomputable def u3 : List Val -> Bv := fun vs => match vs with
 | [v] => (match v.items with
  | some xs => .val (.int xs.length)
  | none => (match v with
   | .str z => if z.length <= 16777216 then .val (.int z.length) else .stuck
   | _ => .stuck))
 | _ => .stuck
noncomputable def v9 : List Val -> Bv := fun vs => match vs with
 | [.int i] => .val (.int (if i < 0 then -i else i))
 | _ => .stuck
noncomputable def rR : List Val -> Bv := fun vs => match vs with
 | [.int i, .int j] => .val (.int (if j > i then j else i))
 | _ => .stuck
noncomputable def qK : List Val -> Bv := fun vs => match vs with
 | [.int i, .int j] => .val (.int (if j < i then j else i))
 | _ => .stuck
noncomputable def jr : List Val -> Option (List Bool)
 | [] => some []
 | .bl b :: r => (jr r).map (b :: ·)
 | _ => none
noncomputable def nH : List Val -> Option (List Int)
 | [] => some []
 | .int b :: r => (nH r).map (b :: ·)
 | _ => none
noncomputable def we : List Val -> Bv := fun vs => match vs with
 | [.lst xs] => (match jr xs with
  | some bs => .val (.bl (bs.all id))
  | none => .stuck)
 | _ => .stuck
noncomputable def vV : List Val -> Bv := fun vs => match vs with
 | [.lst xs] => (match nH xs with
  | some bs => .val (.int bs.sum)
  | none => .stuck)
 | _ => .stuck
noncomputable def rE : List Val -> Bv := fun vs => match vs with
 | [v] => (match v.items with
  | some xs => .new (.lst xs)
  | none => .stuck)
 | _ => .stuck
noncomputable def oa : List Val -> Bv := fun vs => match vs with
 | [v] => (match v.items with
  | some xs => .val (.tup xs)
  | none => .stuck)
 | _ => .stuck
theorem
    zY : RFn pv u3 := fun P h ds vs r => by
 unfold u3
 split
 ·obtain ⟨d, hd, rr1⟩ := iQ r; subst hd; clear r; have r := rr1
  split
  ·rename_i xs e
   obtain ⟨es, e2, q⟩ := r.items e
   exact ⟨_, by unfold pv; dsimp only; rw [e2], by rw [<- q.len]; exact .int _⟩
  ·split
   ·rename_i z _
    obtain rfl := r.str
    split
    ·rename_i hl; exact ⟨_, by show (if z.length <= 16777216 then _ else _) = _; rw [if_pos hl], .int _⟩
    ·trivial
   ·trivial
 ·trivial
theorem zN : RFn rK v9 := fun P h ds vs r => by
 unfold v9
 split
 ·obtain ⟨d, hd, rr1⟩ := iQ r; subst hd; clear r; have r := rr1; obtain rfl := r.int; exact ⟨_, rfl, .int _⟩
 ·trivial
theorem xB : RFn nC rR := fun P h ds vs r => by
 unfold rR
 split
 ·obtain ⟨d, d', hd, rr1, r'⟩ := qH r; subst hd; clear r; have r := rr1; obtain rfl := r.int; obtain rfl := r'.int; exact ⟨_, rfl, .int _⟩
 ·trivial
theorem xm : RFn ny qK := fun P h ds vs r => by
 unfold qK
 split
 ·obtain ⟨d, d', hd, rr1, r'⟩ := qH r; subst hd; clear r; have r := rr1; obtain rfl := r.int; obtain rfl := r'.int; exact ⟨_, rfl, .int _⟩
 ·trivial
theorem
    Dy {P : Nat -> Prop} {h : AH} : ∀ {ds : List D} {vs : List Val} {bs : List Bool}, Rds P h ds vs -> jr vs = some bs -> gX ds = some bs := by
 intro ds
 induction ds with
 |
  nil =>
  intro vs bs r q
  cases r
  cases q
  rfl
 |
  cons d0 ds ih =>
  intro vs bs r q
  cases r with
  |
   cons r rr =>
   rename_i v vs
   cases v with
   |
    bl b =>
    obtain rfl := ShR.bl (.inl r)
    obtain ⟨b', q1, rfl⟩ := Option.map_eq_some_iff.mp (show (jr vs).map (b :: ·) = some bs from q)
    show (gX _).map (b :: ·) = _
    rw [ih rr q1]; rfl
   | _ => cases q
theorem
    Ck {P : Nat -> Prop} {h : AH} : ∀ {ds : List D} {vs : List Val} {bs : List Int}, Rds P h ds vs -> nH vs = some bs -> fI ds = some bs := by
 intro ds
 induction ds with
 |
  nil =>
  intro vs bs r q
  cases r
  cases q
  rfl
 |
  cons d0 ds ih =>
  intro vs bs r q
  cases r with
  |
   cons r rr =>
   rename_i v vs
   cases v with
   |
    int b =>
    obtain rfl := ShR.int (.inl r)
    obtain ⟨b', q1, rfl⟩ := Option.map_eq_some_iff.mp (show (nH vs).map (b :: ·) = some bs from q)
    show (fI _).map (b :: ·) = _
    rw [ih rr q1]; rfl
   | _ => cases q
theorem za : RFn n8 we := fun P h ds vs r => by
 unfold we
 split
 ·obtain ⟨d, hd, rr1⟩ := iQ r; subst hd; clear r; have r := rr1
  obtain ⟨n, es, rfl, _, e1, q⟩ := r.lst
  split
  ·rename_i bs e2
   exact ⟨_, by unfold n8; dsimp only; rw [e1]; show (match gX es with | some bs => _ | none => _) = _; rw [Dy q e2], .bl _⟩
  ·trivial
 ·trivial
theorem Av : RFn oX vV := fun P h ds vs r => by
 unfold vV
 split
 ·obtain ⟨d, hd, rr1⟩ := iQ r; subst hd; clear r; have r := rr1
  obtain ⟨n, es, rfl, _, e1, q⟩ := r.lst
  split
  ·rename_i bs e2
   exact ⟨_, by unfold oX; dsimp only; rw [e1]; show (match fI es with | some bs => _ | none => _) = _; rw [Ck q e2], .int _⟩
  ·trivial
 ·trivial
theorem xP : RFn lx rE := fun P h ds vs r => by
 unfold rE
 split
 ·obtain ⟨d, hd, rr1⟩ := iQ r; subst hd; clear r; have r := rr1
  split
  ·rename_i xs e
   obtain ⟨es, e2, q⟩ := r.items e
   exact ⟨.lst es, by unfold lx; dsimp only; rw [e2], trivial, .lst q⟩
  ·trivial
 ·trivial
theorem vz : RFn jv oa := fun P h ds vs r => by
 unfold oa
 split
 ·obtain ⟨d, hd, rr1⟩ := iQ r; subst hd; clear r; have r := rr1
  split
  ·rename_i xs e
   obtain ⟨es, e2, q⟩ := r.items e
   exact ⟨_, by unfold jv; dsimp only; rw [e2], .tup q⟩
  ·trivial
 ·trivial
noncomputable def tyC : Val -> Option Cl
 | .non => some (.b "NoneType")
 | .bl _ => some (.b "bool")
 | .int _ => some (.b "int")
 | .str _ => some (.b "str")
 | .tup _ => some (.b "tuple")
 | .exc x => some (.o x)
 | .lst _ => some (.b "list")
 | .dct _ => some (.b "dict")
 | _ => none
noncomputable def clV : Val -> Option Cl
 | .ty n => some (.b n)
 | .glb x => some (.o x)
 | _ => none
noncomputable def qD : List Val -> Option (List Cl)
 | [] => some []
 | v :: vs => match clV v, qD vs with
  | some c, some cs => some (c :: cs)
  | _, _ => none
noncomputable def Eo : Val -> Option (List Cl)
 | .tup cs => qD cs
 | v => (clV v).map ([·])
noncomputable def vo (kt : eL) : List Val -> Bv := fun vs => match vs with
 | [v, c] => (match tyC v, Eo c with
  | some t, some (c0 :: cr) => (match eY kt t (c0 :: cr), kit kt t c0 with
   | some b, some _ => .val (.bl b)
   | _, _ => .stuck)
  | _, _ => .stuck)
 | _ => .stuck
theorem EB {P : Nat -> Prop} {h : AH} {d : D} {v : Val} {t : Cl} (r : ShR P h d v) (q : tyC v = some t) : tyD h d = some t := by
 cases v with
 | non => obtain rfl := r.non; exact q
 | bl b => obtain rfl := r.bl; exact q
 | int b => obtain rfl := r.int; exact q
 | str b => obtain rfl := r.str; exact q
 | exc b => obtain rfl := r.exc; exact q
 | tup b => obtain ⟨ds, rfl, _⟩ := r.tup; exact q
 | lst b => obtain ⟨n, ds, rfl, e, _⟩ := r.lst; unfold tyD; dsimp only; rw [e]; exact q
 | dct b => obtain ⟨n, ds, rfl, e, _⟩ := r.dct; unfold tyD; dsimp only; rw [e]; exact q
 | _ => cases q
theorem w9 {P : Nat -> Prop} {h : AH} {d : D} {v : Val} {c : Cl} (r : ShR P h d v) (q : clV v = some c) : clD d = some c := by
 cases v with
 | ty b => obtain rfl := r.ty; exact q
 | glb b => obtain rfl := r.glb; exact q
 | _ => cases q
theorem
    AD {P : Nat -> Prop} {h : AH} : ∀ {ds : List D} {vs : List Val} {cs : List Cl}, Rds P h ds vs -> qD vs = some cs -> ds.mapM clD = some cs := by
 intro ds
 induction ds with
 |
  nil =>
  intro vs cs r q
  cases r
  cases q
  rfl
 |
  cons d0 ds ih =>
  intro vs cs r q
  cases r with
  |
   cons r rr =>
   unfold qD at q
   split at q
   ·rename_i c cs' e1 e2
    cases q
    rw [List.mapM_cons, w9 (.inl r) e1, ih rr e2]; rfl
   ·cases q
theorem
    A7 (kt : eL) : RFn (nR kt) (vo kt) := fun P h ds vs r => by
 unfold vo
 split
 ·rename_i v c
  obtain ⟨d, d', rfl, r1, r2⟩ := qH r
  split
  ·rename_i t c0 cr e1 e2
   have e3 := EB r1 e1
   split
   ·rename_i b b' e4 e5
    refine ⟨.bl b, ?_, .bl b⟩
    unfold nR
    dsimp only
    rw [e3]
    dsimp only
    by_cases ht : ∃ cs, c = .tup cs
    ·obtain ⟨cs, rfl⟩ := ht
     obtain ⟨es, rfl, q⟩ := r2.tup
     dsimp only
     rw [AD q e2]
     dsimp only
     rw [e4, e5]
    ·have e2' : (clV c).map ([·]) = some (c0 :: cr) := by
      cases c with
      | tup cs => exact absurd ⟨cs, rfl⟩ ht
      | _ => exact e2
     obtain ⟨cl, y1, y2⟩ := Option.map_eq_some_iff.mp e2'
     cases y2
     have y3 := w9 r2 y1
     have hd : ∀ cs, d' ≠ .tup cs := fun cs z => by subst z; cases y3
     split
     ·rename_i cs; exact absurd rfl (hd cs)
     ·rw [y3]
      dsimp only
      have : kit kt t c0 = some b := by
       unfold eY at e4
       rw [e5] at e4 ⊢
       cases b' with
       | true => exact e4
       | false => unfold eY at e4; exact e4
      rw [this]
   ·trivial
  ·trivial
 ·trivial
noncomputable def qP (xs : List Val) (lo hi : Option Int) : List Val := (xs.drop (HT.sIx xs.length 0 lo)).take (HT.sIx xs.length xs.length hi - HT.sIx xs.length 0 lo)
abbrev MO3 := E3 -> R3 (Option Int)
noncomputable def uJ (_ : Ns) (_ : E3) (_ : AH) (b c : Option Int) : Prop := b = c
noncomputable def ROp (F : MO) (G : MO3) : Prop := ∀ X h0 ns e ae h, Sat X h0 ns e ae h -> Po X h0 ns e ae h uJ (F ae h) (G e)
noncomputable def tq : MO3 := fun e => .ok none e
noncomputable def t4 (F : ME3) : MO3 := fun e => (F e).bind fun t e1 => match rs e1 t with
 | some (.int i) => .ok (some i) e1
 | _ => .stuck
noncomputable def aSl (x : Val) (lo hi : Option Int) : Bv := match x with
 | .tup xs => if HT.sIx xs.length 0 lo = 0 /\ HT.sIx xs.length xs.length hi = xs.length then .stuck else .val (.tup (qP xs lo hi))
 | .lst xs => .new (.lst (qP xs lo hi))
 | _ => .stuck
noncomputable def vSl (F : ME3) (L U : MO3) : ME3 := fun e => (F e).bind fun t e1 => (L e1).bind fun lo e2 => (U e2).bind fun hi e3 => match rs e3 t.drop with
 | some v => (aSl v lo hi).at e3
 | none => .stuck
theorem yj : ROp rf tq := fun X h0 ns e ae h S => Po.ret S rfl
theorem
    xw {F : ME} {F3 : ME3} (hF : RE F F3) : ROp (qZ F) (t4 F3) := fun X h0 ns e ae h S =>
 Po.bind S (hF X h0 0 ns e ae h S (Nat.zero_le _)) fun d t h1 ns1 e1 a1 S1 r1 => by
  by_cases hq : ∃ i, rs e1 t = some (.int i)
  ·obtain ⟨i, hq⟩ := hq
   have hd := (r1.sh S1 hq).int
   subst hd
   show Po X h0 ns1 e1 ae h1 uJ (R.ok (some i) h1) (match rs e1 t with | some (.int i) => R3.ok (some i) e1 | _ => .stuck)
   rw [hq]
   exact Po.ret S1 rfl
  ·have : (match rs e1 t with | some (.int i) => R3.ok (some i) e1 | _ => .stuck) = (.stuck : R3 (Option Int)) := by
    split
    ·rename_i i q; exact absurd ⟨i, q⟩ hq
    ·rfl
   show Po X h0 ns1 e1 ae h1 uJ _ (match rs e1 t with | some (.int i) => R3.ok (some i) e1 | _ => .stuck)
   rw [this]; trivial
theorem
    DR {F : ME} {F3 : ME3} {L U : MO} {L3' U3 : MO3} (hF : RE F F3) (hL : ROp L L3') (hU : ROp U U3) : RE (eSl F L U) (vSl F3 L3' U3) := fun X h0 LL ns e ae h S hl =>
 Po.bind
     S (hF X h0 LL ns e ae h S hl) fun d t h1 ns1 e1 a1 S1 r1 => Po.bind S1 (hL X h0 ns1 e1 ae h1 S1) fun lo lo' h2 ns2 e2 a2 S2 r2 => Po.bind S2 (hU X h0 ns2 e2 ae h2 S2) fun hi hi' h3 ns3 e3 a3 S3 r3 => by
  cases r2; cases r3
  obtain ⟨r1', hn⟩ := r1.drop
  have r4 := (r1'.stp S1 a2 hn).stp S2 a3 hn
  try dsimp only
  split
  ·rename_i v q
   have rr := r4.sh S3 q
   refine BvR.po S3 (Nat.le_trans hl (Nat.le_trans a1.len (Nat.le_trans a2.len a3.len))) ?_
   unfold aSl
   split
   ·rename_i xs
    obtain ⟨ds, rfl, q1⟩ := rr.tup
    split
    ·trivial
    ·rename_i hne
     refine ⟨_, by unfold gSl; dsimp only; rw [if_neg (by rw [q1.len]; exact hne)], .tup ?_⟩
     unfold L2.cutD qP
     rw [q1.len]
     exact (q1.drop _).take _
   ·rename_i xs
    obtain ⟨n, ds, rfl, _, e1, q1⟩ := rr.lst
    refine ⟨.lst (L2.cutD ds lo hi), by unfold gSl; dsimp only; rw [e1], trivial, .lst ?_⟩
    unfold L2.cutD qP
    rw [q1.len]
    exact (q1.drop _).take _
   ·trivial
  ·trivial
noncomputable def mr : Val -> List Val -> Option (Val × Val) := fun u vs => match u, vs with
 | .lst xs, [v] => if xs.length < 16777216 then some (.lst (xs ++ [v]), .non) else none
 | _, _ => none
section
variable {P : Nat -> Prop} {h : AH}
theorem wU {n : Nat} {o : Ob} {xs : List Val} (e : h[n]? = some o) (r : Rc P h o (.lst xs)) : lL h (.ref n) = true /\ ∃ ds, h[n]? = some (.lst ds) /\ Rds P h ds xs /\ ∀ f, k8 h (.ref n) f = f n ds := by
 obtain ⟨ds, e1, e2, q⟩ := Rc.seq e r
 refine ⟨by show (bD h n).isSome = true; rw [e2]; rfl, ds, e1, q, fun f => ?_⟩
 unfold k8; dsimp only; rw [e1]
theorem rds1 {ds : List D} {v : Val} (r : Rds P h ds [v]) : ∃ d, ds = [d] /\ Rd P h d v := by
 cases r with | cons r rr => cases rr; exact ⟨_, rfl, r⟩
end
theorem tE : RM jI mr := fun P h n o u ds vs u' v e hf r rs q => by
 unfold mr at q
 split at q
 ·split at q
  ·rename_i hl
   cases q
   obtain ⟨q1, es, q2, q3, q4⟩ := wU e r
   obtain ⟨d, rfl, rd⟩ := rds1 rs
   refine ⟨q1, .lst (es ++ [d]), .non, ?_, trivial, .lst (q3.append (.cons rd .nil)), .non⟩
   unfold jI; rw [q4]; dsimp only; rw [if_pos (by rw [q3.len]; exact hl)]
  ·cases q
 ·cases q
noncomputable def sL : Val -> Val -> Val -> Option Val := fun u i v => match u, i with
 | .lst xs, .int k => (match ixN xs.length k with
  | some j => some (.lst (xs.set j v))
  | none => none)
 | _, _ => none
theorem B5 : va wL sL := fun P h n o u di vi d v u' _ e hf r ri rd q => by
 unfold sL at q
 split at q
 ·split at q
  ·rename_i j hj
   cases q
   obtain ⟨q1, es, q2, q3, q4⟩ := wU e r
   obtain rfl := ri.int
   refine ⟨.lst (es.set j d), ?_, trivial, .lst (q3.set rd j)⟩
   unfold wL; dsimp only; rw [q2]; dsimp only; rw [q3.len, hj]
  ·cases q
 ·cases q
noncomputable def vD0 : ME3 := fun e => .ok (.new (.dct [])) e
theorem Dk : RE eD0 vD0 := fun X h0 L ns e ae h S hl => BvR.po (r := eD0 ae h) (b := .new (.dct [])) S hl ⟨.dct [], rfl, trivial, .dct .nil⟩
end L3
set_option Elab.async false
set_option linter.all false
set_option maxRecDepth 100000
namespace L3
open PySem PySem.Spec PyProof.Rows L2
structure PEx where
 F : ME
 G : ME3
 ok : RE F G
structure PTs where
 F : MT
 G : MT3
 ok : RT F G
structure PAs where
 F : MA
 G : MA3
 ok : RA F G
structure PSt where
 F : MS
 G : MS3
 ok : RS F G
structure PGt where
 F : MG
 G : MG3
 ok : RG F G
structure PGs where
 F : MGs
 G : kL
 ok : RGs F G
structure PIt where
 F : MI
 G : MI3
 ok : RI F G
structure POp where
 F : MO
 G : MO3
 ok : ROp F G
structure PO2 where
 F : D -> D -> AH -> R D
 G : Val -> Val -> Bv
 ok : RO F G
structure PU1 where
 F : D -> AH -> R D
 G : Val -> Bv
 ok : RU F G
structure PBf where
 F : Fn
 G : List Val -> Bv
 ok : RFn F G
structure PMm where
 F : D -> List D -> AH -> R D
 G : Val -> List Val -> Option (Val × Val)
 ok : RM F G
structure PMv where
 F : D -> List D -> AH -> R D
 G : Val -> List Val -> Bv
 ok : RMv F G
structure PSe where
 F : D -> D -> D -> AH -> R Unit
 G : Val -> Val -> Val -> Option Val
 ok : va F G
structure PFn where
 ms : List Bool
 F : Fn
 G : Fn3
 ok : RF ms F G
structure PFx (ms : List Bool) where
 F : Fn
 G : Fn3
 ok : RF ms F G
noncomputable section
noncomputable def PFx.fn {ms : List Bool} (p : PFx ms) : PFn := ⟨ms, p.F, p.G, p.ok⟩
noncomputable def ah (i : Nat) : PEx := ⟨dj i, uH i, Bs i⟩
noncomputable def ao (i : Int) : PEx := ⟨eC (.int i), vC (.int i), kJ fun _ _ => .int i⟩
noncomputable def pBl (i : Bool) : PEx := ⟨eC (.bl i), vC (.bl i), kJ fun _ _ => .bl i⟩
noncomputable def dw (i : Str) : PEx := ⟨eC (.str i), vC (.str i), kJ fun _ _ => .str i⟩
noncomputable def kH : PEx := ⟨eC .non, vC .non, kJ fun _ _ => .non⟩
noncomputable def pTy (i : String) : PEx := ⟨eC (.ty i), vC (.ty i), kJ fun _ _ => .ty i⟩
noncomputable def fQ (i : Str) : PEx := ⟨eC (.glb i), vC (.glb i), kJ fun _ _ => .glb i⟩
noncomputable def pk (d : D) (v : Val) (r : ∀ P h, Rd P h d v) : PEx := ⟨eC d, vC v, kJ r⟩
noncomputable def pUn (o : PU1) (a : PEx) : PEx := ⟨eUn o.F a.F, vUn o.G a.G, DZ o.ok a.ok⟩
noncomputable def pOp (o : PO2) (a b : PEx) : PEx := ⟨eOp o.F a.F b.F, vOp o.G a.G b.G, C2 o.ok a.ok b.ok⟩
noncomputable def ak : PAs := ⟨vW, vNil, By⟩
noncomputable def af (a : PEx) (r : PAs) : PAs := ⟨rn a.F r.F, xi a.G r.G, xF a.ok r.ok⟩
noncomputable def pFn (o : PBf) (a : PAs) : PEx := ⟨eFn o.F a.F, vFn o.G a.G, D1 o.ok a.ok⟩
noncomputable def bc (a : PAs) : PEx := ⟨eFn la a.F, vTup a.G, Aq a.ok⟩
noncomputable def en (a : PAs) : PEx := ⟨eFn de a.F, vLst a.G, BF a.ok⟩
noncomputable def ic (a b : PEx) : PEx := ⟨vb a.F b.F, vAnd a.G b.G, zp a.ok b.ok⟩
noncomputable def rq (a : PEx) : PEx := ⟨uI a.F, vNot a.G, zr a.ok⟩
noncomputable def pIf (c : PTs) (a b : PEx) : PEx := ⟨eIf c.F a.F b.F, vIf c.G a.G b.G, DP c.ok a.ok b.ok⟩
noncomputable def qOf (a : PEx) : PTs := ⟨tOf a.F, cOf a.G, D5 a.ok⟩
noncomputable def qTr (a : PEx) : PTs := ⟨tTr a.F, cTr a.G, D7 a.ok⟩
noncomputable def qAn (a b : PTs) : PTs := ⟨tAn a.F b.F, cAn a.G b.G, DY a.ok b.ok⟩
noncomputable def qO (a b : PTs) : PTs := ⟨tO a.F b.F, cO a.G b.G, rt_o a.ok b.ok⟩
noncomputable def qNo (a : PTs) : PTs := ⟨tNo a.F, cNo a.G, D9 a.ok⟩
noncomputable def qY : PTs := ⟨tY, cY, rt_y⟩
noncomputable def xNx : PSt := ⟨sNx, wNx, DC⟩
noncomputable def aP (a : PEx) : PSt := ⟨wx a.F, wRet a.G, Ap a.ok⟩
noncomputable def dY (a : PEx) : PSt := ⟨rJ a.F, xa a.G, yH a.ok⟩
noncomputable def aE (a b : PSt) : PSt := ⟨vp a.F b.F, wSeq a.G b.G, Af a.ok b.ok⟩
noncomputable def xIf (c : PTs) (a b : PSt) : PSt := ⟨sIf c.F a.F b.F, wIf c.G a.G b.G, Ex c.ok a.ok b.ok⟩
noncomputable def bh (o : Bool) (i : Nat) (a : PEx) : PSt := ⟨jw a.F (gN i), wAsg o i a.G, zy o i a.ok⟩
noncomputable def gtN (i : Nat) : PGt := ⟨gN i, pN i, qT i⟩
noncomputable def jG : PGs := ⟨gsN, psN, DL⟩
noncomputable def da (a : PGt) (b : PGs) : PGs := ⟨gsC a.F b.F, psC a.G b.G, Eh a.ok b.ok⟩
noncomputable def gtT (n : Nat) (a : PGs) : PGt := ⟨gT fun ds ae h => if ds.length = n then a.F ds ae h else .stuck, pT n a.G, rg_t n a.ok⟩
noncomputable def gtX (a : PGt) : PGt := ⟨fun d ae h => noX (a.F d ae h), a.G, z9 a.ok⟩
noncomputable def jN (a : PEx) (g : PGt) : PSt := ⟨jw a.F g.F, wZ a.G g.G, yf a.ok g.ok⟩
noncomputable def fY (i j : Nat) (a : PAs) : PSt := ⟨uW i j a.F, wPar i j a.G, zW i j a.ok⟩
noncomputable def xAug (i : Nat) (o : PO2) (a : PEx) : PSt := ⟨pB i o.F a.F, uB i o.G a.G, A8 i o.ok a.ok⟩
noncomputable def fE (c : Str) (a : PAs) : PSt := ⟨oJ c a.F, tw c a.G, uS c a.ok⟩
noncomputable def qV (i : Nat) (w : PSe) (k a : PEx) : PSt := ⟨jw a.F (gS (dj i) k.F w.F), wSet i k.G a.G w.G, Bg i w.ok k.ok a.ok⟩
noncomputable def vJ (mro : List Str) (i : Nat) (b u : PSt) : PSt := ⟨oV mro i b.F u.F, iP mro i b.G u.G, AW mro i b.ok u.ok⟩
noncomputable def rh (mro : List Str) (b u : PSt) : PSt := ⟨kS mro b.F u.F, jJ mro b.G u.G, x5 mro b.ok u.ok⟩
noncomputable def pMut (i : Nat) (m : PMm) (a : PAs) : PEx := ⟨eM m.F (dj i) a.F, wB i m.G a.G, z0 i m.ok a.ok⟩
noncomputable def fC (a : PEx) : PIt := ⟨vM a.F, wX a.G, Au a.ok⟩
noncomputable def lF (a : PAs) : PIt := ⟨uG a.F, uC ie a.G, BH a.ok⟩
noncomputable def l9 (i : PIt) (g : PGt) (b : PSt) : PSt := ⟨wg i.F g.F b.F, wFor i.G g.G b.G, zB i.ok g.ok b.ok⟩
noncomputable def xWh (c : PTs) (b : PSt) : PSt := ⟨sWh c.F b.F, wWh c.G b.G, CT c.ok b.ok⟩
noncomputable def pLC (i : PIt) (sub : List (Option Nat)) (hs : (sub.filterMap id).Nodup) (g : PGt) (c : PTs) (a : PEx) : PEx := ⟨eLC i.F sub g.F c.F a.F, vLC i.G sub g.G c.G a.G, DM hs i.ok g.ok c.ok a.ok⟩
noncomputable def ay (f : PFn) (a : PAs) : PEx := ⟨nB f.ms.length f.F a.F, nJ f.ms f.G a.G, pZ rfl f.ok a.ok⟩
noncomputable def oN : POp := ⟨rf, tq, yj⟩
noncomputable def oS (a : PEx) : POp := ⟨qZ a.F, t4 a.G, xw a.ok⟩
noncomputable def pSl (a : PEx) (l u : POp) : PEx := ⟨eSl a.F l.F u.F, vSl a.G l.G u.G, DR a.ok l.ok u.ok⟩
noncomputable def pD0 : PEx := ⟨eD0, vD0, Dk⟩
noncomputable def fnP (ms : List Bool) (N : Nat) (c : PSt) : PFn := ⟨ms, fnD N c.F, fnV ms N c.G, Ef c.ok⟩
noncomputable def bf : PO2 := ⟨rD, uV, ze⟩
noncomputable def dR : PO2 := ⟨ve, aMin, Cc⟩
noncomputable def cj : PO2 := ⟨vR, rb, BK⟩
noncomputable def kq : PO2 := ⟨uz, qC, Ax⟩
noncomputable def cM : PO2 := ⟨uR, qR, Bz⟩
noncomputable def gq : PO2 := ⟨vS, rL, Cd⟩
noncomputable def bLt : PO2 := ⟨gLt, aLt, CV⟩
noncomputable def bGt : PO2 := ⟨gGt, aGt, DB⟩
noncomputable def bGe : PO2 := ⟨gGe, aGe, Ei⟩
noncomputable def bIx : PO2 := ⟨gIx, aIx, Ct⟩
noncomputable def bEq : PO2 := ⟨gEq false, aEq false, wJ false⟩
noncomputable def bNe : PO2 := ⟨gEq true, aEq true, wJ true⟩
noncomputable def bIn : PO2 := ⟨gIn false, aIn false, ED false⟩
noncomputable def bIs : PO2 := ⟨uT false, uM false, Ah false⟩
noncomputable def bAug : PO2 := ⟨gI fun i j => .int (i + j), aI fun i j => .int (i + j), nT fun _ _ _ _ => .int _⟩
noncomputable def vZ : PU1 := ⟨qM, vY, An⟩
noncomputable def dF : PBf := ⟨pv, u3, zY⟩
noncomputable def eO : PBf := ⟨rK, v9, zN⟩
noncomputable def iB : PBf := ⟨nC, rR, xB⟩
noncomputable def pq : PBf := ⟨ny, qK, xm⟩
noncomputable def jL : PBf := ⟨n8, we, za⟩
noncomputable def wM : PBf := ⟨oX, vV, Av⟩
noncomputable def oB : PBf := ⟨lx, rE, xP⟩
noncomputable def mE : PBf := ⟨jv, oa, vz⟩
noncomputable def bt (kt : eL) : PBf := ⟨nR kt, vo kt, A7 kt⟩
noncomputable def o8 : PMm := ⟨jI, mr, tE⟩
noncomputable def seL : PSe := ⟨wL, sL, B5⟩
end
theorem l0 {P : Nat -> Prop} {h : AH} : ∀ (ns : List Int), Rds P h (ns.map D.int) (ns.map Val.int)
 | [] => .nil
 | _ :: r => .cons (.int _) (l0 r)
theorem
    law3 (p : PFn) (hm : p.ms = [false]) (hG : ∀ ns : List Int, ns.length <= 63 -> p.G [.kl (ns.map .int)] = .ok (.val (.bl true)) []) (d : D) (h : AH) (ns : List Int) (hl : ns.length <= 63) (sc : Script h d ns) : ∃ h', p.F [d] h = .ok (.bl true) h' := by
 have hp := p.ok
 rw [hm] at hp
 have rd : Rd (Oc (fun _ => False) [none]) h d (.kl (ns.map .int)) := by
  rcases sc.form with ⟨n, rfl, e⟩ | rfl
  ·exact .cell ⟨fun z => z, by simp⟩ e (.fz (l0 ns))
  ·exact .kl (l0 ns)
 have S : Sat (fun _ => False) h.length [none] (sls [false] [.kl (ns.map .int)]) ([d].map some) h := by
  refine ⟨rfl, rfl, Nat.le_refl _, fun _ z => z.elim, fun i j n q => ?_, fun i n q z => z, fun i s q => ?_⟩
  ·cases i with
   | zero => simp at q
   | succ i => simp at q
  ·cases i with
   |
    zero =>
    have : sl1 false (.kl (ns.map .int)) = s := by simpa [sls] using q
    subst this
    exact ⟨rfl, d, rfl, rd⟩
   | succ i => simp [sls] at q
 have := hp _ _ [d] [.kl (ns.map .int)] h rfl S
 rw [hG ns hl] at this
 obtain ⟨d', h', e, _, _, r⟩ := this
 cases r with
 | bl => exact ⟨h', e⟩
 | cell p e r => cases r
section
variable (e : E3)
@[simp] theorem lq {α β : Type} (a : α) (f : α -> E3 -> R3 β) : (R3.ok a e).bind f = f a e := rfl
@[simp] theorem zV {α β : Type} (c : Str) (f : α -> E3 -> R3 β) : (R3.exc c e : R3 α).bind f = .exc c e := rfl
@[simp] theorem CF {α : Type} (a : α) (f : α -> E3 -> SR3) : (R3.ok a e).toS f = f a e := rfl
@[simp] theorem zg {α : Type} (c : Str) (f : α -> E3 -> SR3) : (R3.exc c e : R3 α).toS f = .exc c e := rfl
@[simp] theorem C6 (f : E3 -> SR3) : (SR3.nx e).then f = f e := rfl
@[simp] theorem CQ (r : Rt) (f : E3 -> SR3) : (SR3.rt r e).then f = .rt r e := rfl
@[simp] theorem As (c : Str) (f : E3 -> SR3) : (SR3.exc c e).then f = .exc c e := rfl
@[simp] theorem wK (f : E3 -> SR3) : (SR3.nx e).loop f = f e := rfl
@[simp] theorem Ec (f : E3 -> SR3) : (SR3.ct e).loop f = f e := rfl
@[simp] theorem En (r : Rt) (f : E3 -> SR3) : (SR3.rt r e).loop f = .rt r e := rfl
@[simp] theorem Dr (r : SR3) : r.unl none = r := by cases r <;> rfl
@[simp] theorem wb : lockO e none = e := rfl
@[simp] theorem rX : eu e none = e := rfl
@[simp] theorem Ae (v : Val) : (Bv.val v).at e = .ok (.val v) e := rfl
@[simp] theorem Ci (v : Val) : (Bv.new v).at e = .ok (.new v) e := rfl
@[simp] theorem Bk (v : Val) : rs e (.val v) = some v := rfl
@[simp] theorem AU (v : Val) : rs e (.new v) = some v := rfl
@[simp] theorem zu (i : Nat) : rs e (.bor i) = (e[i]?).bind Sl.val := rfl
@[simp] theorem zE (v : Val) : (Tm.val v).drop = .val v := rfl
@[simp] theorem Ac (v : Val) : (Tm.new v).drop = .val v := rfl
@[simp] theorem A9 (i : Nat) : (Tm.bor i).drop = .bor i := rfl
@[simp] theorem yh : rss e [] = some [] := rfl
@[simp] theorem wA (t : Tm) (ts : List Tm) : rss e (t :: ts) = match rs e t, rss e ts with
  | some v, some vs => some (v :: vs)
  | _, _ => none := rfl
@[simp] theorem B7 (v : Val) : cR e (.val v) = some (e, v) := rfl
@[simp] theorem zf : dem e [] = some (e, []) := rfl
@[simp] theorem yF (t : Tm) (ts : List Tm) : dem e (t :: ts) = match cR e t with
  | some (e1, v) => match dem e1 ts with
   | some (e2, vs) => some (e2, v :: vs)
   | none => none
  | none => none := rfl
@[simp] theorem A2 (b : Bool) : bOf (some (.bl b)) = some b := rfl
@[simp] theorem D0 (i : Nat) : (ah i).G e = match e[i]? with
 | some (.sh v) => .ok (.val v) e
 | some .no => .stuck
 | some _ => .ok (.bor i) e
 | none => .stuck := rfl
@[simp] theorem Cw (i : Int) : (ao i).G e = .ok (.val (.int i)) e := rfl
@[simp] theorem v_bl (i : Bool) : (pBl i).G e = .ok (.val (.bl i)) e := rfl
@[simp] theorem DD (i : Str) : (dw i).G e = .ok (.val (.str i)) e := rfl
@[simp] theorem Dn : kH.G e = .ok (.val .non) e := rfl
@[simp] theorem v_ty (i : String) : (pTy i).G e = .ok (.val (.ty i)) e := rfl
@[simp] theorem CW (i : Str) : (fQ i).G e = .ok (.val (.glb i)) e := rfl
@[simp] theorem v_un (o : PU1) (a : PEx) : (pUn o a).G e = (a.G e).bind fun t e1 => match rs e1 t with
 | some v => (o.G v).at e1
 | none => .stuck := rfl
@[simp] theorem v_op (o : PO2) (a b : PEx) : (pOp o a b).G e = (a.G e).bind fun t1 e1 => (b.G e1).bind fun t2 e2 => match rs e2 t1.drop, rs e2 t2 with
 | some v1, some v2 => (o.G v1 v2).at e2
 | _, _ => .stuck := rfl
@[simp] theorem Dz : ak.G e = .ok [] e := rfl
@[simp] theorem AG (a : PEx) (r : PAs) : (af a r).G e = (a.G e).bind fun t e1 => (r.G e1).bind fun ts e2 => .ok (t.drop :: ts) e2 := rfl
@[simp] theorem v_fn (o : PBf) (a : PAs) : (pFn o a).G e = (a.G e).bind fun ts e1 => match rss e1 ts with
 | some vs => (o.G vs).at e1
 | none => .stuck := rfl
@[simp] theorem Eg (a : PAs) : (bc a).G e = (a.G e).bind fun ts e1 => match dem e1 ts with
 | some (e2, vs) => if vs.length <= 16777216 then .ok (.val (.tup vs)) e2 else .stuck
 | none => .stuck := rfl
@[simp] theorem CH (a : PAs) : (en a).G e = (a.G e).bind fun ts e1 => match dem e1 ts with
 | some (e2, vs) => if vs.length <= 16777216 then .ok (.new (.lst vs)) e2 else .stuck
 | none => .stuck := rfl
@[simp] theorem D8 (a b : PEx) : (ic a b).G e = (a.G e).bind fun t e1 => match bOf (rs e1 t) with
 | some true => b.G e1
 | some false => .ok (.val (.bl false)) e1
 | none => .stuck := rfl
@[simp] theorem Dt (a : PEx) : (rq a).G e = (a.G e).bind fun t e1 => match bOf (rs e1 t) with
 | some b => .ok (.val (.bl (!b))) e1
 | none => .stuck := rfl
@[simp] theorem v_if (c : PTs) (a b : PEx) : (pIf c a b).G e = (c.G e).bind fun k e1 => if k = true then a.G e1 else b.G e1 := rfl
@[simp] theorem c_of (a : PEx) : (qOf a).G e = (a.G e).bind fun t e1 => match bOf (rs e1 t) with
 | some b => .ok b e1
 | none => .stuck := rfl
@[simp] theorem c_tr (a : PEx) : (qTr a).G e = (a.G e).bind fun t e1 => match (rs e1 t).bind se with
 | some b => .ok b e1
 | none => .stuck := rfl
@[simp] theorem c_an (a b : PTs) : (qAn a b).G e = (a.G e).bind fun k e1 => if k = true then b.G e1 else .ok false e1 := rfl
@[simp] theorem c_o (a b : PTs) : (qO a b).G e = (a.G e).bind fun k e1 => if k = true then .ok true e1 else b.G e1 := rfl
@[simp] theorem c_no (a : PTs) : (qNo a).G e = (a.G e).bind fun k e1 => .ok (!k) e1 := rfl
@[simp] theorem c_y : qY.G e = .ok true e := rfl
@[simp] theorem x_nx : xNx.G e = .nx e := rfl
@[simp] theorem D6 (a : PEx) : (aP a).G e = (a.G e).toS oZ := rfl
@[simp] theorem xY (v : Val) : oZ (.val v) e = .rt (.val v) e := rfl
@[simp] theorem xV (v : Val) : oZ (.new v) e = .rt (.new v) e := rfl
@[simp] theorem y8 (a : PEx) : (dY a).G e = (a.G e).toS fun _ e1 => .nx e1 := rfl
@[simp] theorem xf (a b : PSt) : (aE a b).G e = (a.G e).then b.G := rfl
@[simp] theorem x_if (c : PTs) (a b : PSt) : (xIf c a b).G e = (c.G e).toS fun k e1 => if k = true then a.G e1 else b.G e1 := rfl
@[simp] theorem Cu (o : Bool) (i : Nat) (a : PEx) : (bh o i a).G e = (a.G e).toS (il o i) := rfl
@[simp] theorem DJ : Sl.no.pl = true := rfl
@[simp] theorem C5 (v : Val) : (Sl.sh v).pl = true := rfl
@[simp] theorem xk (o : Bool) (i : Nat) (v : Val) : il o i (.val v) e = match e[i]? with
 | some s0 => if s0.pl = true then .nx (e.set i (.sh v)) else .stuck
 | none => .stuck := by unfold il; rfl
@[simp] theorem vv (i : Nat) (v : Val) : il true i (.new v) e = match e[i]? with
 | some s0 => if s0.pl = true then .nx (e.set i (.ow v)) else .stuck
 | none => .stuck := by unfold il; rfl
@[simp] theorem uA (i : Nat) (v : Val) : il false i (.new v) e = match e[i]? with
 | some s0 => if s0.pl = true then .nx (e.set i (.sh v)) else .stuck
 | none => .stuck := by unfold il; rfl
@[simp] theorem g_n (i : Nat) (v : Val) : (gtN i).G v e = match e[i]? with
 | some s => if s.pl = true then some (e.set i (.sh v)) else none
 | none => none := rfl
@[simp] theorem g_sn : jG.G [] e = some e := rfl
@[simp] theorem g_sc (a : PGt) (b : PGs) (v : Val) (vs : List Val) : (da a b).G (v :: vs) e = (a.G v e).bind fun e1 => b.G vs e1 := rfl
@[simp] theorem g_t (n : Nat) (a : PGs) (vs : List Val) : (gtT n a).G (.tup vs) e = if vs.length = n then a.G vs e else none := rfl
@[simp] theorem g_x (a : PGt) (v : Val) : (gtX a).G v e = a.G v e := rfl
@[simp] theorem AR (a : PEx) (g : PGt) : (jN a g).G e = (a.G e).toS fun t e1 => match cR e1 t with
 | some (e2, v) => match g.G v e2 with
  | some e3 => .nx e3
  | none => .stuck
 | none => .stuck := rfl
@[simp] theorem Ek (i j : Nat) (a : PAs) : (fY i j a).G e = (a.G e).toS fun ts e1 => match dem e1 ts with
 | some (e2, [v, u]) => match (pN i v e2).bind (pN j u) with
  | some e3 => .nx e3
  | none => .stuck
 | _ => .stuck := rfl
@[simp] theorem Es (i : Nat) (v : Val) : pN i v e = match e[i]? with
 | some s => if s.pl = true then some (e.set i (.sh v)) else none
 | none => none := rfl
@[simp] theorem xT (c : Str) (a : PAs) : (fE c a).G e = (a.G e).toS fun ts e1 => if ts.length <= 16777216 then .exc c e1 else .stuck := rfl
@[simp] theorem Ep (i : Nat) (w : PSe) (k a : PEx) : (qV i w k a).G e = (a.G e).toS fun t e1 => match (e1[i]?).bind Sl.mv with
 | none => .stuck
 | some _ => (k.G e1).toS fun t2 e2 => match rs e2 t2 with
  | none => .stuck
  | some vi => match cR e2 t.drop with
   | none => .stuck
   | some (e3, v) => match e3[i]? with
    | none => .stuck
    | some s => match s.mv with
     | none => .stuck
     | some u => match w.G u vi v with
      | some u' => .nx (e3.set i (s.re u'))
      | none => .stuck := rfl
@[simp] theorem Ea (v : Val) : (Sl.ow v).mv = some v := rfl
@[simp] theorem El (v : Val) : (Sl.mu v).mv = some v := rfl
@[simp] theorem CD (v u : Val) : (Sl.ow v).re u = .ow u := rfl
@[simp] theorem DK (v u : Val) : (Sl.mu v).re u = .mu u := rfl
@[simp] theorem AX (v : Val) : (Sl.ow v).val = some v := rfl
@[simp] theorem zZ (v : Val) : (Sl.mu v).val = some v := rfl
@[simp] theorem Dl (mro : List Str) (i : Nat) (b u : PSt) : (vJ mro i b u).G e = iP mro i b.G u.G e := rfl
@[simp] theorem BI (mro : List Str) (b u : PSt) : (rh mro b u).G e = jJ mro b.G u.G e := rfl
@[simp] theorem CL (a : PEx) : (fC a).G e = (a.G e).bind fun t e1 => match mx t e1 with
 | some p => .ok p e1
 | none => .stuck := rfl
@[simp] theorem Cb (v : Val) : mx (.val v) e = (jP v).map fun xs => (xs, none) := rfl
@[simp] theorem BN (xs : List Val) : jP (.tup xs) = some xs := rfl
@[simp] theorem Di (a : PAs) : (lF a).G e = (a.G e).bind fun ts e1 => match (rss e1 ts).bind ie with
 | some xs => .ok (xs, none) e1
 | none => .stuck := rfl
@[simp] theorem Df (i : PIt) (g : PGt) (b : PSt) : (l9 i g b).G e = (i.G e).toS fun p e1 => (iW g.G b.G p.1 (lockO e1 p.2)).unl p.2 := rfl
@[simp] theorem yY (g : MG3) (B : MS3) : iW g B [] e = .nx e := rfl
theorem eR (g : MG3) (B : MS3) (v : Val) (vs : List Val) : iW g B (v :: vs) e = match g v e with
  | some e1 => (B e1).loop (iW g B vs)
  | none => .stuck := rfl
theorem sr (c : PTs) (b : PSt) : (xWh c b).G e = (c.G e).toS fun k e1 => if k = true then (b.G e1).loop (xWh c b).G else .nx e1 := uF c.G b.G e
@[simp] theorem v_lc (i : PIt) (sub : List (Option Nat)) (hs : (sub.filterMap id).Nodup) (g : PGt) (c : PTs) (a : PEx) : (pLC i sub hs g c a).G e = (i.G e).bind fun p e1 => match lcV g.G c.G a.G p.1 [] (cP sub (lockO e1 p.2)) with
 | .ok ys e2 => if ys.length <= 16777216 then .ok (.new (.lst ys)) (eu (bC sub e2 (lockO e1 p.2)) p.2) else .stuck
 | _ => .stuck := rfl
@[simp] theorem zA (f : PFn) (a : PAs) : (ay f a).G e = (a.G e).bind fun ts e1 => match rss e1 ts with
 | none => .stuck
 | some vs => if okA e1 f.ms ts = true then (match f.G vs with
  | .stuck => .stuck
  | .ok r mv => if (bj e1 f.ms ts).isEmpty || (jR r && mv.all cW) then .ok r.tm (bC (bU f.ms ts) (aZ f.ms mv) e1) else (match mM e1 (bj e1 f.ms ts) with
   | some e2 => .ok r.tm (bC (bU f.ms ts) (aZ f.ms mv) e2)
   | none => .stuck)
  | .exc c mv => if (bj e1 f.ms ts).isEmpty || mv.all cW then .exc c (bC (bU f.ms ts) (aZ f.ms mv) e1) else .stuck) else .stuck := rfl
@[simp] theorem B1 (v : Val) : (Rt.val v).tm = .val v := rfl
@[simp] theorem zF (v : Val) : (Rt.new v).tm = .new v := rfl
@[simp] theorem o_n : oN.G e = .ok none e := rfl
@[simp] theorem o_s (a : PEx) : (oS a).G e = (a.G e).bind fun t e1 => match rs e1 t with
 | some (.int i) => .ok (some i) e1
 | _ => .stuck := rfl
@[simp] theorem v_sl (a : PEx) (l u : POp) : (pSl a l u).G e = (a.G e).bind fun t e1 => (l.G e1).bind fun lo e2 => (u.G e2).bind fun hi e3 => match rs e3 t.drop with
 | some v => (aSl v lo hi).at e3
 | none => .stuck := rfl
@[simp] theorem v_d0 : pD0.G e = .ok (.new (.dct [])) e := rfl
theorem cB (ms : List Bool) (N : Nat) (c : PSt) (vs : List Val) : (fnP ms N c).G vs = if vs.length = ms.length then (match c.G (sls ms vs ++ List.replicate (N - vs.length) .no) with
 | .nx e => (match muV ms e with | some mv => .ok (.val .non) mv | none => .stuck)
 | .rt r e => (match muV ms e with | some mv => .ok r mv | none => .stuck)
 | .exc c e => (match muV ms e with | some mv => .exc c mv | none => .stuck)
 | _ => .stuck) else .stuck := rfl
end
@[simp] theorem DF (i j : Int) : bf.G (.int i) (.int j) = .val (.int (i + j)) := rfl
@[simp] theorem EC (i j : Int) : dR.G (.int i) (.int j) = .val (.int (i - j)) := rfl
@[simp] theorem k_lt (i j : Int) : bLt.G (.int i) (.int j) = .val (.bl (decide (i < j))) := rfl
@[simp] theorem k_gt (i j : Int) : bGt.G (.int i) (.int j) = .val (.bl (decide (j < i))) := rfl
@[simp] theorem k_ge (i j : Int) : bGe.G (.int i) (.int j) = .val (.bl (decide (j <= i))) := rfl
@[simp] theorem CA (i : Int) : vZ.G (.int i) = .val (.int (-i)) := rfl
theorem iU {i j : Int} (c : CMulA i j) : cj.G (.int i) (.int j) = .val (.int (i * j)) := by show rb (.int i) (.int j) = _; unfold rb aIc; dsimp only; rw [if_pos c]
theorem sj {i j : Int} (c : CDivB i j) : kq.G (.int i) (.int j) = .val (.int (i.fdiv j)) := by show qC (.int i) (.int j) = _; unfold qC aIc; dsimp only; rw [if_pos c]
theorem f9 {i j : Int} (c : j ≠ 0) : cM.G (.int i) (.int j) = .val (.int (i.fmod j)) := by show qR (.int i) (.int j) = _; unfold qR aIc; dsimp only; rw [if_pos c]
theorem nF {i j : Int} (c : lV i j) : gq.G (.int i) (.int j) = .val (.int (i ^ j.toNat)) := by show rL (.int i) (.int j) = _; unfold rL aIc; dsimp only; rw [if_pos c]
@[simp] theorem k_ix (x : Val) (i : Int) : bIx.G x (.int i) = match x.items with
 | some xs => (match atI xs i with
  | some v => .val v
  | none => .stuck)
 | none => .stuck := by show aIx x (.int i) = _; unfold aIx; cases x.items <;> rfl
@[simp] theorem BS (xs : List Val) : (Val.tup xs).items = some xs := rfl
@[simp] theorem B4 (xs : List Val) : (Val.lst xs).items = some xs := rfl
@[simp] theorem DH (xs : List Val) : (Val.kl xs).items = some xs := rfl
@[simp] theorem k_eq (x y : Val) : bEq.G x y = match fm x y with
 | some b => .val (.bl b)
 | none => .stuck := by show aEq false x y = _; unfold aEq; cases fm x y <;> rfl
@[simp] theorem k_ne (x y : Val) : bNe.G x y = match fm x y with
 | some b => .val (.bl (!b))
 | none => .stuck := by show aEq true x y = _; unfold aEq; cases fm x y <;> rfl
@[simp] theorem D4 (x y : Int) : fm (.int x) (.int y) = some (x == y) := rfl
@[simp] theorem EA (x y : Bool) : fm (.bl x) (.bl y) = some (x == y) := by cases x <;> cases y <;> rfl
@[simp] theorem k_is (x : Val) : bIs.G x .non = match x with
 | .non => .val (.bl true)
 | _ => .val (.bl false) := by cases x <;> rfl
@[simp] theorem Dh (v : Val) : dF.G [v] = match v.items with
  | some xs => .val (.int xs.length)
  | none => (match v with
   | .str z => if z.length <= 16777216 then .val (.int z.length) else .stuck
   | _ => .stuck) := rfl
@[simp] theorem C1 (i : Int) : eO.G [.int i] = .val (.int (if i < 0 then -i else i)) := rfl
@[simp] theorem rV (i j : Int) : iB.G [.int i, .int j] = .val (.int (if j > i then j else i)) := rfl
@[simp] theorem CO (i j : Int) : pq.G [.int i, .int j] = .val (.int (if j < i then j else i)) := rfl
@[simp] theorem Er (xs : List Val) : jL.G [.lst xs] = match jr xs with
  | some bs => .val (.bl (bs.all id))
  | none => .stuck := rfl
end L3
set_option Elab.async false
set_option linter.all false
set_option maxRecDepth 100000
namespace L3
open PySem PySem.Spec PyProof.Rows L2
section
variable {K : PySem.W.Frag} {mg : Str -> Option Value} {X : Cx} {ES : L2.St -> XK} {e a b c o i tg iter elt : Expr} {es : List Expr} {st : Stmt} {sts sts' : List Stmt} {p q r : PEx} {A : PAs} {t u : PTs} {x y : PSt} {g : PGt} {gs : PGs} {I : PIt} {pos : Pos}
theorem ag (i : Nat) {x : Str} (hN : X.N[i]? = some x := by rfl) (hv : Vis X.env.scope x := by first | exact Or.inl rfl | exact Or.inr (Or.inl rfl) | exact Or.inr (Or.inr rfl)) (hd : (x == ("__debug__" : Str)) = false := by decide) (hcd : (x == ("__classdict__" : Str)) = false := by decide) : DE K mg X ES (.Name x pos) (ah i).F := Ag i hN hv hd hcd
theorem ai {i : Int} {j : Nat} : DE K mg X ES (.Constant (.int i) j pos) (ao i).F := BW
theorem cG {i : Bool} {j : Nat} : DE K mg X ES (.Constant (.bool i) j pos) (pBl i).F := C8
theorem jo {j : Nat} : DE K mg X ES (.Constant .none j pos) kH.F := AZ
theorem cw {i : Str} {j : Nat} : DE K mg X ES (.Constant (.str i) j pos) (dw i).F := AS
theorem dU {x : Str} (hg : Gl X x) (ha : ∃ a, mg x = some (.ref a)) (hm : X.mg = mg := by rfl) (hd : (x == ("__debug__" : Str)) = false := by decide) : DE K mg X ES (.Name x pos) (fQ x).F := zP hg ha hm hd
theorem wV {x : Str} {d : D} {v : Val} {r : ∀ P h, Rd P h d v} (hg : Gl X x) (ha : GC K mg x d) (hm : X.mg = mg := by rfl) (hd : (x == ("__debug__" : Str)) = false := by decide) : DE K mg X ES (.Name x pos) (pk d v r).F := CJ hg ha hm hd
theorem dc {x : Str} {n : String} (hg : Gl X x) (hm : mg x = none) (hv : bootBuiltins x = some (.type n)) (he : X.mg = mg := by rfl) (hn : x ≠ "__name__" := by decide) (hd : (x == ("__debug__" : Str)) = false := by decide) : DE K mg X ES (.Name x pos) (pTy n).F := CG hg hm hv he hn hd
theorem aB {op : Operator} {r' : R2} {k : PO2} (ho : OpR X (binaryOp op) r') (hd : OpD K mg r' k.F) (ha : DE K mg X ES a p.F) (hb : DE K mg X ES b q.F) : DE K mg X ES (.BinOp a op b pos) (pOp k p q).F := CY ho hd ha hb
theorem az {r' : R2} {k : PO2} (hr : IxR X r') (hd : OpD K mg r' k.F) (ha : DE K mg X ES a p.F) (hb : DE K mg X ES b q.F) (hs : mn b) : DE K mg X ES (.Subscript a b pos) (pOp k p q).F := Ez hr hd ha hb hs
theorem dB {op : CmpOp} {r' : R2} {k : PO2} (ho : OpR X (compareOp op) r') (hd : OpD K mg r' k.F) (ha : DE K mg X ES a p.F) (hb : DE K mg X ES b q.F) (hm : behindInMarks op b = false) : DE K mg X ES (.Compare a [op] [b] pos) (pOp k p q).F := Al ho hd ha hb hm
theorem aW {op : CmpOp} {r' : R2} {k : PO2} (ho : OpR X (compareOp op) r') (hd : OpD K mg r' k.F) (ha : DE K mg X ES a p.F) (hb : DE K mg X ES b q.F) (hm : behindInMarks op b = false) : DT K mg X ES (.Compare a [op] [b] pos) (qOf (pOp k p q)).F := Ba ho hd ha hb hm
theorem bB (ha : DE K mg X ES a p.F) (he : ∀ whole, isTrue a X.env whole = (do let v <- whole; standAt a.pos; holding [v] (truthy v)) := by intro _; rfl) : DT K mg X ES a (qOf p).F := A5 ha he
theorem oi (hK : X.K = K) (ha : DE K mg X ES a p.F) (he : ∀ whole, isTrue a X.env whole = (do let v <- whole; standAt a.pos; holding [v] (truthy v)) := by intro _; rfl) : DT K mg X ES a (qTr p).F := uQ hK ha he
theorem bL (ha : DT K mg X ES a t.F) : DT K mg X ES (.UnaryOp .Not a pos) (qNo t).F := BV ha
theorem jZ (ha : DT K mg X ES a t.F) : DW K mg X ES (.BoolOp .And [a] pos) t.F := yt ha
theorem eN (ha : DT K mg X ES a t.F) : DW K mg X ES (.BoolOp .Or [a] pos) t.F := Be ha
theorem ll (ha : DT K mg X ES a t.F) (hb : DW K mg X ES (.BoolOp .And (b :: es) pos) u.F) : DW K mg X ES (.BoolOp .And (a :: b :: es) pos) (qAn t u).F := Cg ha hb
theorem fv (ha : DT K mg X ES a t.F) (hb : DW K mg X ES (.BoolOp .Or (b :: es) pos) u.F) : DW K mg X ES (.BoolOp .Or (a :: b :: es) pos) (qO t u).F := Dx ha hb
theorem ZW.dt (h : DW K mg X ES a t.F) : DT K mg X ES a t.F := DW.dt h
theorem fJ {op} (h : DE K mg X ES a p.F) : DE K mg X ES (.BoolOp op [a] pos) p.F := Ao h
theorem fH (ha : DE K mg X ES a p.F) (hb : DE K mg X ES (.BoolOp .And (b :: es) pos) q.F) : DE K mg X ES (.BoolOp .And (a :: b :: es) pos) (ic p q).F := zK ha hb
theorem tQ (ha : DE K mg X ES a p.F) : DE K mg X ES (.UnaryOp .Not a pos) (rq p).F := BM ha
theorem Et (hc : DT K mg X ES c t.F) (ha : DE K mg X ES a p.F) (hb : DE K mg X ES b q.F) : DE K mg X ES (.IfExp c a b pos) (pIf t p q).F := CC hc ha hb
theorem C7 {op : UnaryOp} {r' : V -> Hp -> VK -> Prop} {k : PU1} (ho : UnR X (unaryOp op) r') (hd : UnD K mg r' k.F) (ha : DE K mg X ES a p.F) : DE K mg X ES (.UnaryOp op a pos) (pUn k p).F := C3 ho hd ha
theorem aj : DA K mg X ES [] ak.F := AB
theorem aa (ha : DE K mg X ES e p.F) (hr : DA K mg X ES es A.F) (hs : starEach (e :: es) X.env = (false, eval e X.env) :: starEach es X.env := by rfl) : DA K mg X ES (e :: es) (af p A).F := yc ha hr hs
theorem aL {x1} (h : DA K mg X ES es A.F) : DE K mg X ES (.Tuple es x1 pos) (bc A).F := AF h
theorem cN (h : DA K mg X ES es A.F) : DE K mg X ES (.List es pos) (en A).F := zG h
theorem aD {id : String} {r' : List V -> Hp -> VK -> Prop} {k : PBf} {x : Str} {p0 : Pos} (hc : CallR X (.builtin id) r') (hd : bG K mg r' k.F) (hg : Gl X x) (hm : mg x = none) (hv : bootBuiltins x = some (.builtin id)) (ha : DA K mg X ES (e :: es) A.F) (hk : X.mg = mg := by rfl) (hn : x ≠ "__name__" := by decide) (hdb : (x == ("__debug__" : Str)) = false := by decide) (he : starEach (e :: es) X.env = (false, eval e X.env) :: starEach es X.env := by rfl) (hpl : (backTo pos (starEach es X.env)).any (·.1) = false := by rfl) : DE K mg X ES (.Call (.Name x p0) (e :: es) [] pos) (pFn k A).F := vP hc hd hg hm hv ha hk hn hdb he hpl
theorem mV {id : String} {r' : List V -> Hp -> VK -> Prop} {k : PBf} {x : Str} {p0 : Pos} (hc : CallR X (.type id) r') (hd : bG K mg r' k.F) (hg : Gl X x) (hm : mg x = none) (hv : bootBuiltins x = some (.type id)) (ha : DA K mg X ES (e :: es) A.F) (hk : X.mg = mg := by rfl) (hn : x ≠ "__name__" := by decide) (hdb : (x == ("__debug__" : Str)) = false := by decide) (he : starEach (e :: es) X.env = (false, eval e X.env) :: starEach es X.env := by rfl) (hpl : (backTo pos (starEach es X.env)).any (·.1) = false := by rfl) : DE K mg X ES (.Call (.Name x p0) (e :: es) [] pos) (pFn k A).F := sI hc hd hg hm hv ha hk hn hdb he hpl
theorem au {f : PFn} {x : Str} {p0 : Pos} {k n : Nat} {ps : List Str} (C : Callee X.prog X.w X.K X.mg X.base x k ps (spD K mg n f.F)) (hr : Room k X.A) (hg : Gl X x) (hx : dH X ES) (ha : DA K mg X ES (e :: es) A.F) (hn : f.ms.length = n := by rfl) (hdb : (x == ("__debug__" : Str)) = false := by decide) (he : starEach (e :: es) X.env = (false, eval e X.env) :: starEach es X.env := by rfl) (hpl : (backTo pos (starEach es X.env)).any (·.1) = false := by rfl) : DE K mg X ES (.Call (.Name x p0) (e :: es) [] pos) (ay f A).F := by
 subst hn
 exact vd C hr hg hx ha hdb he hpl
theorem aJ : DSs K mg X ES [] xNx.F := xJ
theorem aw (h1 : DS K mg X ES st x.F) : DSs K mg X ES [st] x.F := xv h1
theorem ar (h1 : DS K mg X ES st x.F) (h2 : DSs K mg X ES sts y.F) : DSs K mg X ES (st :: sts) (aE x y).F := uU h1 h2
theorem aF (he : DE K mg X ES e p.F) : DS K mg X ES (.Return (some e) pos) (aP p).F := zS he
theorem c9 (he : DE K mg X ES e p.F) (hs : swapsWith e none pos.line X.env = pure false := by rfl) : DS K mg X ES (.Expr e pos) (dY p).F := xD he hs
theorem aX (hc : DT K mg X ES c t.F) (ha : DSs K mg X ES sts x.F) (hb : DSs K mg X ES sts' y.F) : DS K mg X ES (.If c sts sts' pos) (xIf t x y).F := C4 hc ha hb
theorem aU {i : Nat} {x : Str} (hN : X.N.Nodup) (hi : X.N[i]? = some x) (hx : Loc X.env.scope x) (hf : X.fn x = true \/ X.env.scope.names.lookup x = some .local := by first | exact .inl rfl | exact .inr rfl | assumption) : DG K mg X ES (.Name x pos) (gtN i).F := xW hN hi hx hf
theorem gk : DGs K mg X ES [] jG.F := yD
theorem bw (h1 : DG K mg X (fun _ => E0) e g.F) (h2 : DGs K mg X (fun _ => E0) es gs.F) (hs : (assignEach (e :: es) X.env).map (·.2) = assign e X.env :: (assignEach es X.env).map (·.2) := by rfl) : DGs K mg X (fun _ => E0) (e :: es) (da g gs).F := u4 h1 h2 hs
theorem ir {k n : Nat} (hK : X.K = K) (hc : X.calm = true) (h : DGs K mg X (fun _ => E0) es gs.F) (hn : (assignEach es X.env).length = n := by rfl) (hst : (assignEach es X.env).findIdx? (·.1) = none := by rfl) : DG K mg X (fun _ => E0) (.Tuple es k pos) (gtT n gs).F := zb hK hc h hn hst
theorem ZG.weak (hg : DG K mg X (fun _ => E0) e g.F) : DG K mg X ES e (gtX g).F := DG.weak hg
theorem jW (he : DE K mg X ES e p.F) (hg : DG K mg X ES a g.F) (hs : swapsWithSole [a] e pos.line X.env = pure false := by rfl) (hw : swappedStores [a] e X.env = pure none := by rfl) (h1 : (assignEach [a] X.env).map (·.2) = [assign a X.env] := by rfl) : DS K mg X ES (.Assign [a] e pos) (jN p g).F := sM he hg hs hw h1
theorem pU {j : Nat} {w : PSe} {r' : mj} {p1 : Pos} (he : DE K mg X ES e p.F) (ho : DE K mg X ES o (ah j).F) (hi : DE K mg X ES i q.F) (hs' : so X r') (hd : rS K mg r' w.F) (hs : swapsWithSole [.Subscript o i p1] e pos.line X.env = pure false := by rfl) (hw : swappedStores [.Subscript o i p1] e X.env = pure none := by rfl) (h1 : (assignEach [.Subscript o i p1] X.env).map (·.2) = [assign (.Subscript o i p1) X.env] := by rfl)
  (ha : ∀ v, assign (.Subscript o i p1) X.env v = (do
   let ov <- holding [v] (eval o X.env)
   let iv <- holding [v, ov] (eval i X.env)
   standAt p1
   holding [v, ov, iv] (setItem ov iv v)
   release [v, ov, iv] []) := by intro _; rfl) : DS K mg X ES (.Assign [.Subscript o i p1] e pos) (qV j w q p).F := sM he (zi ho hi hs' hd ha) hs hw h1
theorem aM {ow : Bool} {i : Nat} {x : Str} {pos' : Pos} (hN : X.N.Nodup) (hi : X.N[i]? = some x) (hx : Loc X.env.scope x) (he : DE K mg X ES e p.F) (hs : swapsWith e (some (.Name x pos')) pos.line X.env = pure false := by rfl) (hf : X.fn x = true \/ X.env.scope.names.lookup x = some .local := by first | exact .inl rfl | exact .inr rfl | assumption) : DS K mg X ES (.Assign [.Name x pos'] e pos) (bh ow i p).F := B0 hN hi hx he hs hf
theorem dW {i j : Nat} {x y : Str} {px py pt : Pos} {kt k2 pt2} (hc : X.calm = true) (hN : X.N.Nodup) (hi : X.N[i]? = some x) (hj : X.N[j]? = some y) (hij : i ≠ j) (hx : X.env.scope.names.lookup x = some .local) (hy : X.env.scope.names.lookup y = some .local) (ha : DA K mg X ES [a, b] A.F) (hw : swappedStores [.Tuple [.Name x px, .Name y py] kt pt] (.Tuple [a, b] k2 pt2) X.env = pure (some [x, y])) (hs : swapsWithSole [.Tuple [.Name x px, .Name y py] kt pt] (.Tuple [a, b] k2 pt2) pos.line X.env = pure false := by rfl) : DS K mg X ES (.Assign [.Tuple [.Name x px, .Name y py] kt pt] (.Tuple [a, b] k2 pt2) pos) (fY i j A).F := BE hc hN hi hj hij hx hy ha hw hs
theorem zT {i : Nat} {x : Str} {op : Operator} {ti : TIp} {pos' : Pos} {k : PO2} (hN : X.N.Nodup) (hi : X.N[i]? = some x) (hx : Loc X.env.scope x) (he : DE K mg X ES e p.F) (ho : PIp X op ti) (hd : IpD K mg ti k.F) (hf : X.fn x = true \/ X.env.scope.names.lookup x = some .local := by first | exact .inl rfl | exact .inr rfl | assumption) : DS K mg X ES (.AugAssign (.Name x pos') op e pos) (xAug i k p).F := AV hN hi hx he ho hd hf
theorem eU {x : Str} {C : Addr} {E : XK} {np cpos : Pos} (hc : X.calm = true) (hR : Rz X E) (hg : Gl X x) (hm : mg x = some (.ref C)) (hq : PySem.W.excIn X.K C d7 "ValueError.__new__" = true) (ha : DA K mg X (fun _ => E) (e :: es) A.F) (hk : X.mg = mg := by rfl) (he : starEach (e :: es) X.env = (false, eval e X.env) :: starEach es X.env := by rfl) (hplain : (backTo cpos (starEach es X.env)).any (·.1) = false := by rfl) (hd : (x == ("__debug__" : Str)) = false := by decide) : DS K mg X (fun _ => E) (.Raise (some (.Call (.Name x np) (e :: es) [] cpos)) none pos) (fE x A).F := wd hc hR hg hm hq ha hk he hplain hd
theorem fL (hK : X.K = K) (he : DE K mg X ES e p.F) : DI K mg X ES tg e (fC p).F := Bm hK he
theorem jD {p0 : Pos} (hg : Gl X "range") (hm : mg "range" = none) (ha : DA K mg X ES [a] A.F) (hk : X.mg = mg := by rfl) (hs : starEach [a] X.env = [(false, eval a X.env)] := by rfl) : DI K mg X ES tg (.Call (.Name "range" p0) [a] [] pos) (lF A).F := ua hg hm ha hk hs
theorem kW (hp : PassesOwn (model X.prog X.w) X.A X.env X.xe) (hc : X.calm = true) (hi : DI K mg X ES tg iter I.F) (hg : DG K mg X ES tg g.F) (hb : DSs K mg X ES sts x.F) (hs : ∀ x, foldedSetIterable iter X.env x = pure x := by intro _; rfl) : DS K mg X ES (.For tg iter sts [] pos) (l9 I g x).F := Co hp hc hi hg hb hs
theorem o7 (hp : PassesOwn (model X.prog X.w) X.A X.env X.xe) (hc : DT K mg X ES c t.F) (hb : DSs K mg X ES sts x.F) : DS K mg X ES (.While c sts [] pos) (xWh t x).F := vn hp hc hb
theorem iX {scope : Scope} (M : List Str) (kn : List (Str × NameKind)) (N : List Str) (sub : List (Option Nat)) {hsb : (sub.filterMap id).Nodup} (hc : X.calm = true) (hi : DI K mg X ES tg iter I.F) (hg : ∀ cl C s₂ H fp, DG K mg (dk X N scope cl C s₂ H fp) (fun _ => E0) tg g.F) (he : ∀ cl C s₂ H fp, DE K mg (dk X N scope cl C s₂ H fp) (fun _ => E0) elt p.F) (hM : X.N = M := by rfl) (hkn : X.env.scope.names = kn := by rfl) (hsub : kR M scope.names sub N = true := by decide +kernel) (hk : scope.kind = .function := by rfl) (hnc : ∀ x ∈ scope.names, x.2 ≠ .cell := by decide +kernel) (hnames : ∀ x ∈ scope.names, x.2 = .local -> scope.names.lookup x.1 = some .local := by decide +kernel) (hfr : oy kn scope.names = true := by decide +kernel) (hsl : sub.length = N.length := by rfl) (hs : ∀ x, foldedSetIterable iter X.env x = pure x := by intro _; rfl) : DE K mg X ES (.ListComp elt [⟨tg, iter, [], 0⟩] scope pos) (pLC I sub hsb g qY p).F := Ds M kn N sub hc hi hg he hM hkn hsub hk hnc hnames hfr hsl hs
theorem zU {j : Nat} {name : Str} {id : String} {apos cpos : Pos} {r' : V -> List V -> Hp -> VK -> Prop} {k : PMm} (hK : X.K = K) (slot : Slot "list" name id) (hty : typeOf (.builtin id) = pure (.type "method_descriptor")) (hm : MtM X id r') (hd : MtD K mg r' k.F) (ho : DE K mg X ES o (ah j).F) (ha : DA K mg X ES (e :: es) A.F) (hbase : attributeBase o name X.env (eval o X.env) = eval o X.env := by rfl) (hfew : ((backTo cpos (starEach (e :: es) X.env)).all (fun x => !x.1) && (backToKw cpos (keywordEach [] X.env)).all (fun x => x.1.isSome) && decide ((e :: es).length + ([] : List Keyword).length + (if ([] : List Keyword).isEmpty then 0 else 1) < 30)) = true := by rfl) (hline : (apos.endLine == cpos.line) = true := by rfl) (hs : starEach (e :: es) X.env = (false, eval e X.env) :: starEach es X.env := by rfl) (hplain : (backTo cpos (starEach es X.env)).any (·.1) = false := by rfl) : DE K mg X ES (.Call (.Attribute o name apos) (e :: es) [] cpos) (pMut j k A).F := de_m hK slot hty hm hd ho ha hbase hfew hline hs hplain
theorem jQ : DO K mg X ES none oN.F := ya
theorem jY (he : DE K mg X ES e p.F) : DO K mg X ES (some e) (oS p).F := yK he
theorem iK {l u : POp} {lo hi : Option Expr} {p2 : Pos} (hK : X.K = K) (he : DE K mg X ES e p.F) (hl : DO K mg X ES lo l.F) (hu : DO K mg X ES hi u.F) : DE K mg X ES (.Subscript e (.Slice lo hi none p2) pos) (pSl p l u).F := vL hK he hl hu
theorem Ej : DE K mg X ES (.Dict [] [] pos) pD0.F := Dp
theorem Ad {cn n : Str} {C : Addr} {i : Nat} {body suite : List Stmt} {b₀ : Stmt} {np hpos : Pos} {mro : List Str} (T : X.Top) (hN : X.N.Nodup) (hi : X.N[i]? = some n) (hl : X.env.kindOf n = some .local) (hg : Gl X cn) (hm : mg cn = some (.ref C)) (hh : XHand K C) (hmro : ∀ c ∈ mro, ∀ Ce, mg c = some (.ref Ce) -> PySem.W.mroIn K Ce (.ref C) = some true) (hb : ∀ (pn : List (Addr × Obj)) (xe : Value -> Shared -> Prop) (ES' : L2.St -> XK), dH (cxT X pn xe) ES' -> DSs K mg (cxT X pn xe) ES' body x.F) (hs : ∀ ea, DSs K mg (dE X ea) (fun _ => E0) (b₀ :: suite) y.F) (hK : X.K = K := by rfl) (hk : X.mg = mg := by rfl) (hd : (cn == ("__debug__" : Str)) = false := by decide) : DS K mg X ES (.Try body [.ExceptHandler (some (.Name cn np)) (some n) (b₀ :: suite) hpos] [] [] pos) (vJ mro i x y).F := BJ T hN hi hl hg hm hh hmro hb hs hK hk hd
theorem x2 {cn : Str} {C : Addr} {body suite : List Stmt} {b₀ : Stmt} {np hpos : Pos} {mro : List Str} (T : X.Top) (hg : Gl X cn) (hm : mg cn = some (.ref C)) (hh : XHand K C) (hmro : ∀ c ∈ mro, ∀ Ce, mg c = some (.ref Ce) -> PySem.W.mroIn K Ce (.ref C) = some true) (hb : ∀ (pn : List (Addr × Obj)) (xe : Value -> Shared -> Prop) (ES' : L2.St -> XK), dH (cxT X pn xe) ES' -> DSs K mg (cxT X pn xe) ES' body x.F) (hs : ∀ ea, DSs K mg (dE X ea) (fun _ => E0) (b₀ :: suite) y.F) (hK : X.K = K := by rfl) (hk : X.mg = mg := by rfl) (hd : (cn == ("__debug__" : Str)) = false := by decide) : DS K mg X ES (.Try body [.ExceptHandler (some (.Name cn np)) none (b₀ :: suite) hpos] [] [] pos) (rh mro x y).F := xC T hg hm hh hmro hb hs hK hk hd
theorem a9 : OpD K mg (fun x y H Q => rI0 (fun i j => .int (i + j)) x y H Q \/ (mw x y H Q \/ (jK K x y H Q \/ jT K x y H Q))) bf.F := BZ
theorem cE : OpD K mg (rI0 fun i j => .int (i - j)) dR.F := Aw
theorem bP : OpD K mg (rI CMulA fun i j => .int (i * j)) cj.F := BU
theorem jt : OpD K mg (rI CDivB fun i j => .int (i.fdiv j)) kq.F := zH
theorem dX : OpD K mg (rI (fun _ j => j ≠ 0) fun i j => .int (i.fmod j)) cM.F := Cs
theorem jE : OpD K mg (rI lV fun i j => .int (i ^ j.toNat)) gq.F := y7
theorem nQ : OpD K mg (rI0 fun i j => .bl (decide (i < j))) bLt.F := Eb
theorem gW : OpD K mg (rI0 fun i j => .bl (decide (j < i))) bGt.F := Dw
theorem sk : OpD K mg (rI0 fun i j => .bl (decide (j <= i))) bGe.F := Dg
theorem aA : OpD K mg (fun x y H Q => qI K x y H Q \/ qG K x y H Q) bIx.F := zR
theorem cD : OpD K mg (rp K) bEq.F := zd
theorem jb : OpD K mg (rM K) bNe.F := A1
theorem D3 : OpD K mg (rIn K false) bIn.F := (Bq false)
theorem dD : bG K mg (fun xs H Q => (∃ p ys, xs = [.ref p] /\ (SqL K H p ys \/ SqT K H p ys) /\ Q (.int ys.length) H) \/ (∃ z, xs = [.str z] /\ z.length <= sizeLine /\ Q (.int z.length) H)) dF.F := z8
theorem eD : bG K mg (fun xs H Q => ∃ i, xs = [.int i] /\ Q (.int (if i < 0 then -i else i)) H) eO.F := Aa
theorem mI : bG K mg (fun xs H Q => ∃ i j, xs = [.int i, .int j] /\ Q (.int (if j > i then j else i)) H) iB.F := yn
theorem xA : bG K mg (fun xs H Q => ∃ i j, xs = [.int i, .int j] /\ Q (.int (if j < i then j else i)) H) pq.F := yC
theorem kY : bG K mg (fun xs H Q => ∃ (a : Addr) (bs : List Bool), xs = [.ref a] /\ SqL K H a (bs.map V.bl) /\ Q (.bl (bs.all id)) H) jL.F := A0
theorem A6 : bG K mg (fun xs H Q => ∃ (a : Addr) (ns : List Int), xs = [.ref a] /\ SqL K H a (ns.map V.int) /\ Q (.int ns.sum) H) wM.F := Bh
theorem yx : bG K mg (fun xs H Q => ∃ p ys, xs = [.ref p] /\ (SqL K H p ys \/ SqT K H p ys) /\ ∀ l, H l = none -> Q (.ref l) (upd H l (.lst ys))) oB.F := yU
theorem vm : bG K mg (fun xs H Q => ∃ p ys, xs = [.ref p] /\ ((SqL K H p ys /\ ∀ l, H l = none -> Q (.ref l) (upd H l (.tup ys))) \/ (SqT K H p ys /\ Q (.ref p) H))) mE.F := vB
theorem bZ {kt : eL} (ok : KitsOk K mg kt) : bG K mg (fun xs H Q => (∃ x c t v b, xs = [x, c] /\ TyX K H x t /\ eB c = some v /\ PySem.W.kitOne K t v = some b /\ Q (.bl b) H) \/
  (∃ x tp cs t vs b, xs = [x, .ref tp] /\ SqT K H tp cs /\ TyX K H x t /\ cs.mapM eB = some vs /\ PySem.W.kitAny K t vs = some b /\ Q (.bl b) H)) (bt kt).F := Bp ok
theorem sJ : MtD K mg mK o8.F := ub
theorem pW : rS K mg rm seL.F := ye
theorem zm : IpD K mg (ipI fun i j => i + j) bAug.F := yp
theorem zq : UnD K mg (rU fun i => .int (-i)) vZ.F := BP
variable {P : Program} {w : World} {base : Heap} {fx : Str} {fst : Stmt} {k n m : Nat} {ps N : List Str} {ms : List Bool}
theorem okP (D : Def K mg fx fst) (S : FnScope N ps (ax fst))
  (hb : ∀ (kV doc pm : Value) (an : Option Addr) (cdv ct : Value) (us : List Value), us.length = ps.length -> bindArgs (PySem.W.fnOf fx fx (dG fst) (cm fst) (ax fst) .none kV doc pm an cdv ct) ⟨us, []⟩ = pure (ps.zip us))
  (hbody : ∀ (f : Addr) (cdv : Value) (A : Around) (outer : List Env) (s : Shared) (H : Hp) (E : XK), Room k (A.deeper (envOfC fx (ax fst) s.heap.objs.size f cdv)) ->
   DSs K mg (d8 (CX1 P w) P w K mg base N fx (ax fst) f cdv A outer s H E) (fun _ => E) (cm fst) x.F) (hn : ps.length = n := by rfl) (hm : N.length = m := by rfl) : Callee P w K mg base fx (k + 1) ps (spD K mg n (fnP ms m x).F) := by
 subst hn hm
 exact D.okD S hb hbody
end
end L3
set_option Elab.async false
set_option linter.all false
set_option maxRecDepth 100000
namespace L3
open PySem PySem.Spec PyProof.Rows L2
theorem AO (b : Bool) (ms : List Bool) (v : Val) (vs : List Val) : sls (b :: ms) (v :: vs) = sl1 b v :: sls ms vs := rfl
theorem xS : sls [] [] = [] := rfl
theorem CB (v : Val) : sl1 true v = .mu v := rfl
theorem Cv (v : Val) : sl1 false v = .sh v := rfl
section
variable (e : E3)
theorem xH : okA e [] [] = true := rfl
theorem Cj (i : Nat) (ms : List Bool) (ts : List Tm) : okA e (true :: ms) (.bor i :: ts) = (((e[i]?).bind Sl.mv).isSome && !(hX i ts) && okA e ms ts) := rfl
theorem B2 (v : Val) (ms : List Bool) (ts : List Tm) : okA e (false :: ms) (.val v :: ts) = okA e ms ts := rfl
theorem vQ (i : Nat) : hX i [] = false := rfl
theorem BR (i : Nat) (v : Val) (ts : List Tm) : hX i (.val v :: ts) = hX i ts := rfl
theorem sR : bj e [] [] = [] := rfl
theorem yS (v : Val) (ms : List Bool) (ts : List Tm) : bj e (false :: ms) (.val v :: ts) = bj e ms ts := rfl
theorem zJ (t : Tm) (ms : List Bool) (ts : List Tm) : bj e (true :: ms) (t :: ts) = bj e ms ts := by cases t <;> rfl
end
theorem sO : bU [] [] = [] := rfl
theorem yX (b : Bool) (t : Tm) (ms : List Bool) (ts : List Tm) : bU (b :: ms) (t :: ts) = mi b t :: bU ms ts := rfl
theorem xn (i : Nat) : mi true (.bor i) = some i := rfl
theorem BO (t : Tm) : mi false t = none := by cases t <;> rfl
theorem vK (e : E3) : bC [] [] e = e := rfl
theorem zl (o : Option Nat) (sub : List (Option Nat)) (s : Sl) (i e : E3) : bC (o :: sub) (s :: i) e = bC sub i (eT o s e) := rfl
theorem yu (i : Nat) (v : Val) (e : E3) : eT (some i) (.mu v) e = match e[i]? with
  | some t => e.set i (t.re v)
  | none => e := rfl
theorem zM (s : Sl) (e : E3) : eT none s e = e := rfl
theorem u5 (vs : List Val) : aZ [] vs = [] := rfl
theorem zQ (ms : List Bool) (v : Val) (vs : List Val) : aZ (true :: ms) (v :: vs) = .mu v :: aZ ms vs := rfl
theorem Bl (ms : List Bool) (vs : List Val) : aZ (false :: ms) vs = .no :: aZ ms vs := by cases vs <;> rfl
theorem yV (e : E3) : muV [] e = some [] := by cases e <;> rfl
theorem Dc (ms : List Bool) (v : Val) (e : E3) : muV (true :: ms) (.mu v :: e) = (muV ms e).map (v :: ·) := rfl
theorem CN (ms : List Bool) (s : Sl) (e : E3) : muV (false :: ms) (s :: e) = muV ms e := by cases s <;> rfl
theorem tN (v : Val) : jR (.val v) = bu v := rfl
theorem sE (v : Val) : jR (.new v) = cW v := rfl
theorem ug (xs : List Val) : cW (.lst xs) = cC xs := rfl
theorem qW : cC [] = true := by simp [cC]
theorem pI (v : Val) (vs : List Val) : cC (v :: vs) = (bu v && cC vs) := by simp [cC]
theorem sF (i : Int) : bu (.int i) = true := by simp [bu]
theorem uZ (i : Bool) : bu (.bl i) = true := by simp [bu]
theorem tf : bu .non = true := by simp [bu]
theorem tH (xs : List Val) : bu (.tup xs) = cC xs := by simp [bu]
theorem gc {α : Type} {l : List α} {i : Int} {x : α} (h0 : 0 <= i) (h : l[i.toNat]? = some x) : atI l i = some x := by
 have hl := (List.getElem?_eq_some_iff.mp h).1
 unfold atI ixN
 rw [if_pos h0, if_pos (by omega)]
 exact h
theorem t6 {n : Nat} {i : Int} (h0 : 0 <= i) (h : i.toNat < n) : ixN n i = some i.toNat := by
 unfold ixN
 rw [if_pos h0, if_pos (by omega)]
section
variable {α : Type} (a b c d e f g h : α) (l : List α)
theorem vI : atI (a :: l) 0 = some a := gc (by decide) rfl
theorem vh : atI (a :: b :: l) 1 = some b := gc (by decide) rfl
theorem vN : atI (a :: b :: c :: l) 2 = some c := gc (by decide) rfl
theorem uY : atI (a :: b :: c :: d :: l) 3 = some d := gc (by decide) rfl
theorem ati4 : atI (a :: b :: c :: d :: e :: l) 4 = some e := gc (by decide) rfl
theorem ati5 : atI (a :: b :: c :: d :: e :: f :: l) 5 = some f := gc (by decide) rfl
theorem ati6 : atI (a :: b :: c :: d :: e :: f :: g :: l) 6 = some g := gc (by decide) rfl
end
theorem ixn0 (n : Nat) : ixN (n + 1) 0 = some 0 := t6 (i := 0) (by decide) (by show 0 < n + _; omega)
theorem ixn1 (n : Nat) : ixN (n + 2) 1 = some 1 := t6 (i := 1) (by decide) (by show 1 < n + _; omega)
theorem Dq (xs : List Val) (k : Int) (v : Val) : seL.G (.lst xs) (.int k) v = match ixN xs.length k with
  | some j => some (.lst (xs.set j v))
  | none => none := rfl
end L3
set_option Elab.async false
set_option linter.all false
set_option maxRecDepth 100000
namespace L3
open PySem PySem.Spec PyProof.Rows L2
mutual
noncomputable def vq : Val -> Val -> Bool
 | .non, .non => true
 | .bl a, .bl b => a == b
 | .bl a, .int j => (if a then 1 else 0) == j
 | .int i, .bl b => i == (if b then 1 else 0)
 | .int i, .int j => i == j
 | .str x, .str y => x == y
 | .tup xs, .tup ys => vqs xs ys
 | .lst xs, .lst ys => vqs xs ys
 | _, _ => false
noncomputable def vqs : List Val -> List Val -> Bool
 | [], [] => true
 | x :: xs, y :: ys => vq x y && vqs xs ys
 | _, _ => false
end
mutual
noncomputable def wfV : Nat -> Val -> Bool
 | _, .non => true
 | _, .bl _ => true
 | _, .int _ => true
 | _, .str x => PyData.strOk x
 | k + 1, .tup xs => gC k xs
 | k + 1, .lst xs => gC k xs
 | _, _ => false
noncomputable def gC : Nat -> List Val -> Bool
 | _, [] => true
 | k, x :: xs => wfV k x && gC k xs
end
mutual
noncomputable def fO : Val -> PyData
 | .bl b => .bool b
 | .int i => .int i
 | .str x => .str x
 | .tup xs => .tuple (dM xs)
 | .lst xs => .list (dM xs)
 | _ => .none
noncomputable def dM : List Val -> List PyData
 | [] => []
 | x :: xs => fO x :: dM xs
end
mutual
theorem mh : ∀ (k : Nat) (v : Val), wfV k v = true -> (∀ j, k < j -> cK j v = some (fO v)) /\ (fO v).canLay0 = true /\ (fO v).depth <= k
 | k, .non, _ => ⟨fun j hj => by cases j with | zero => exact absurd hj (Nat.not_lt_zero _) | succ j => rfl, rfl, Nat.zero_le _⟩
 | k, .bl b, _ => ⟨fun j hj => by cases j with | zero => exact absurd hj (Nat.not_lt_zero _) | succ j => rfl, rfl, Nat.zero_le _⟩
 | k, .int b, _ => ⟨fun j hj => by cases j with | zero => exact absurd hj (Nat.not_lt_zero _) | succ j => rfl, rfl, Nat.zero_le _⟩
 | k, .str b, w => ⟨fun j hj => by cases j with | zero => exact absurd hj (Nat.not_lt_zero _) | succ j => rfl, by cases k <;> exact w, Nat.zero_le _⟩
 | 0, .tup xs, w => absurd w Bool.false_ne_true
 | 0, .lst xs, w => absurd w Bool.false_ne_true
 |
  k + 1, .tup xs, w => by
  obtain ⟨h1, h2, h3⟩ := kh k xs w
  exact ⟨fun j hj => by cases j with | zero => exact absurd hj (Nat.not_lt_zero _) | succ j => simp only [cK, fO, h1 j (Nat.lt_of_succ_lt_succ hj), Option.map_some], h2, by simpa [fO, PyData.depth] using h3⟩
 |
  k + 1, .lst xs, w => by
  obtain ⟨h1, h2, h3⟩ := kh k xs w
  exact ⟨fun j hj => by cases j with | zero => exact absurd hj (Nat.not_lt_zero _) | succ j => simp only [cK, fO, h1 j (Nat.lt_of_succ_lt_succ hj), Option.map_some], h2, by simpa [fO, PyData.depth] using h3⟩
 | k, .ty _, w => by cases k <;> exact absurd w Bool.false_ne_true
 | k, .glb _, w => by cases k <;> exact absurd w Bool.false_ne_true
 | k, .exc _, w => by cases k <;> exact absurd w Bool.false_ne_true
 | k, .kl _, w => by cases k <;> exact absurd w Bool.false_ne_true
 | k, .dct _, w => by cases k <;> exact absurd w Bool.false_ne_true
 | k, .set _, w => by cases k <;> exact absurd w Bool.false_ne_true
theorem kh : ∀ (k : Nat) (vs : List Val), gC k vs = true -> (∀ j, k < j -> dS j vs = some (dM vs)) /\ PyData.canLayAll0 (dM vs) = true /\ PyData.depthAll (dM vs) <= k
 | k, [], _ => ⟨fun j hj => by simp [dS, dM], rfl, Nat.zero_le _⟩
 |
  k, v :: vs, w => by
  have w' : (wfV k v && gC k vs) = true := w
  rw [Bool.and_eq_true] at w'
  obtain ⟨h1, h2, h3⟩ := mh k v w'.1
  obtain ⟨i1, i2, i3⟩ := kh k vs w'.2
  exact ⟨fun j hj => by simp [dS, dM, h1 j hj, i1 j hj], by simp [dM, PyData.canLayAll0, h2, i2], Nat.max_le.mpr ⟨h3, i3⟩⟩
end
mutual
theorem t5 : ∀ (k : Nat) (v u : Val), wfV k v = true -> wfV k u = true -> PyData.eqv (fO v) (fO u) = vq v u
 |
  k, v, u, hv, hu => by
  cases v <;> first | (cases k <;> exact absurd hv Bool.false_ne_true) | skip
  all_goals (cases u <;> first | (cases k <;> exact absurd hu Bool.false_ne_true) | rfl | (cases k with | zero => exact absurd hv Bool.false_ne_true | succ k => exact pR k _ _ hv hu))
theorem pR : ∀ (k : Nat) (v u : List Val), gC k v = true -> gC k u = true -> PyData.eqvAll (dM v) (dM u) = vqs v u
 | _, [], [], _, _ => rfl
 | _, [], _ :: _, _, _ => rfl
 | _, _ :: _, [], _, _ => rfl
 |
  k, x :: xs, y :: ys, hv, hu => by
  have h1 : (wfV k x && gC k xs) = true := hv
  have h2 : (wfV k y && gC k ys) = true := hu
  rw [Bool.and_eq_true] at h1 h2
  show (PyData.eqv (fO x) (fO y) && PyData.eqvAll (dM xs) (dM ys)) = (vq x y && vqs xs ys)
  rw [t5 k x y h1.1 h2.1, pR k xs ys h1.2 h2.2]
end
theorem wN {x y : Val} (hx : wfV 60 x = true) (hy : wfV 60 y = true) : fm x y = some (vq x y) := by
 obtain ⟨h1, h2, h3⟩ := mh 60 x hx
 obtain ⟨i1, i2, i3⟩ := mh 60 y hy
 unfold fm
 rw [h1 64 (by omega), i1 64 (by omega)]
 dsimp only
 rw [if_pos ⟨m5 h2 (by omega), m5 i2 (by omega)⟩, t5 60 x y hx hy]
mutual
theorem pV : ∀ (k : Nat) (v : Val), wfV k v = true -> vq v v = true
 |
  k, v, hv => by
  cases v <;> first | (cases k <;> exact absurd hv Bool.false_ne_true) | rfl | exact beq_self_eq_true _ | (cases k with | zero => exact absurd hv Bool.false_ne_true | succ k => exact oj k _ hv)
theorem oj : ∀ (k : Nat) (v : List Val), gC k v = true -> vqs v v = true
 | _, [], _ => rfl
 |
  k, x :: xs, hv => by
  have h1 : (wfV k x && gC k xs) = true := hv
  rw [Bool.and_eq_true] at h1
  show (vq x x && vqs xs xs) = true
  rw [pV k x h1.1, oj k xs h1.2]
  rfl
end
noncomputable def fV (q : Rat) : Val := .tup [.int q.num, .int q.den]
structure Bx where
 l : Rat
 t : Rat
 w : Rat
 h : Rat
structure Bx.Ok (b : Bx) : Prop where
 w : 0 < b.w
 h : 0 < b.h
structure Bx.Sz (n : Nat) (b : Bx) : Prop where
 l : L2.Sz n b.l
 t : L2.Sz n b.t
 w : L2.Sz n b.w
 h : L2.Sz n b.h
noncomputable def bV (b : Bx) : Val := .tup [fV b.l, fV b.t, fV b.w, fV b.h]
noncomputable def knV : Val -> Bool
 | .exc _ => false
 | v => (tyC v).isSome
noncomputable def aR : Nat -> Val -> Bool
 | k + 1, .tup xs => xs.all (aR k)
 | _, v => knV v
noncomputable def eI : Val -> Bool
 | .int _ => true
 | _ => false
noncomputable def aQ : Val -> Bool
 | .tup [.int a, .int b] => decide (1 <= b) && decide (Int.gcd a b = 1)
 | _ => false
noncomputable def gv : Val -> Bool
 | .tup (.int a :: _) => decide (0 < a)
 | _ => false
noncomputable def aY : Val -> Bool
 | .tup [a, b, c, d] => aQ a && (aQ b && (aQ c && (aQ d && (gv c && gv d))))
 | _ => false
noncomputable def bK : Val -> Bool
 | .tup _ => true
 | _ => false
theorem wQ {a b : Int} (h1 : 1 <= b) (h2 : Int.gcd a b = 1) : Val.tup [.int a, .int b] = fV ((a : Rat) / (b : Rat)) := by
 have hb : b ≠ 0 := by omega
 have h := nN (a := a) hb
 have s := Fr.self (by omega) h2
 unfold fV
 rw [<- h.1, <- h.2, s.1, s.2]
theorem fM {d : Val} (h : aQ d = true) : ∃ q, d = fV q := by
 unfold aQ at h
 split at h
 ·simp only [Bool.and_eq_true, decide_eq_true_eq] at h
  exact ⟨_, wQ h.1 h.2⟩
 ·cases h
theorem x6 (q : Rat) : gv (fV q) = decide (0 < q) := by
 show decide (0 < q.num) = decide (0 < q)
 rw [decide_eq_decide]
 exact xO
theorem A4 {d : Val} (h : aY d = true) : ∃ b : Bx, b.Ok /\ d = bV b := by
 unfold aY at h
 split at h
 ·simp only [Bool.and_eq_true] at h
  obtain ⟨h1, h2, h3, h4, h5, h6⟩ := h
  obtain ⟨l, rfl⟩ := fM h1
  obtain ⟨t, rfl⟩ := fM h2
  obtain ⟨w, rfl⟩ := fM h3
  obtain ⟨hh, rfl⟩ := fM h4
  rw [x6] at h5 h6
  exact ⟨⟨l, t, w, hh⟩, ⟨of_decide_eq_true h5, of_decide_eq_true h6⟩, rfl⟩
 ·cases h
theorem lQ {g : MG3} {F : ME3} {f : Val -> Val} (P : E3 -> Prop) : ∀ (vs acc : List Val) (e : E3), P e -> (∀ v ∈ vs, ∀ e, P e -> ∃ e1 t e2, g v e = some e1 /\ F e1 = .ok t e2 /\ cR e2 t = some (e2, f v) /\ P e2) -> acc.length + vs.length <= 16777216 -> ∃ e', P e' /\ lcV g cY F vs acc e = .ok (acc ++ vs.map f) e'
 | [], acc, e, hp, _, _ => ⟨e, hp, by simp [lcV]⟩
 |
  v :: vs, acc, e, hp, hf, hl => by
  obtain ⟨e1, t, e2, q1, q2, q3, q4⟩ := hf v (List.mem_cons_self ..) e hp
  obtain ⟨e', p', q5⟩ := lQ P vs (acc ++ [f v]) e2 q4 (fun u hu => hf u (List.mem_cons_of_mem _ hu)) (by simp at hl ⊢; omega)
  refine ⟨e', p', ?_⟩
  unfold lcV
  rw [if_pos (by simp at hl; omega), q1]
  simp only [cY, lq, if_true, q2, q3, q5]
  simp
theorem oM {g : MG3} {B : MS3} (P : E3 -> Prop) : ∀ (vs : List Val) (e : E3), P e -> (∀ v ∈ vs, ∀ e, P e -> ∃ e1 e2, g v e = some e1 /\ (B e1 = .nx e2 \/ B e1 = .ct e2) /\ P e2) -> ∃ e', P e' /\ iW g B vs e = .nx e'
 | [], e, hp, _ => ⟨e, hp, rfl⟩
 |
  v :: vs, e, hp, hf => by
  obtain ⟨e1, e2, q1, q2, q3⟩ := hf v (List.mem_cons_self ..) e hp
  obtain ⟨e', p', q4⟩ := oM P vs e2 q3 fun u hu => hf u (List.mem_cons_of_mem _ hu)
  refine ⟨e', p', ?_⟩
  rw [eR, q1]
  rcases q2 with q2 | q2 <;> simp only [q2, wK, Ec, q4]
end L3
set_option Elab.async false
set_option linter.all false
set_option maxRecDepth 100000
namespace L3
open PySem PySem.Spec PyProof.Rows L2
noncomputable def rgV (k : Nat) : List Val := (List.range k).map fun j => Val.int (j : Nat)
theorem yI {k : Nat} (h : k < 1000000) : ie [.int (k : Nat)] = some (rgV k) := by
 simp only [ie]
 rw [if_pos (⟨by omega, by omega⟩ : RgB _), Int.toNat_natCast]
 unfold rA rgV
 simp only [Int.zero_add]
theorem l8 {i : Int} (h0 : 0 <= i) (h : i < 1000000) : ie [.int i] = some (rgV i.toNat) := by
 have := yI (k := i.toNat) (by omega)
 rwa [show ((i.toNat : Nat) : Int) = i from by omega] at this
theorem AK (v : Val) : inS (.sh v) = .sh v := rfl
theorem yr (i : Nat) (v : Val) (e : E3) : eT (some i) (.sh v) e = e := rfl
theorem BL (b : Bool) : se (.bl b) = some b := rfl
noncomputable def oP (ms : List Bool) (r : SR3) : R3F := match r with
 | .nx e => (match muV ms e with | some mv => .ok (.val .non) mv | none => .stuck)
 | .rt r e => (match muV ms e with | some mv => .ok r mv | none => .stuck)
 | .exc c e => (match muV ms e with | some mv => .exc c mv | none => .stuck)
 | _ => .stuck
theorem sg {ms : List Bool} {N : Nat} {c : PSt} {vs : List Val} (h : vs.length = ms.length) : (fnP ms N c).G vs = oP ms (c.G (sls ms vs ++ List.replicate (N - vs.length) .no)) := by
 rw [cB, if_pos h]; rfl
theorem gf (ms : List Bool) (r : Rt) (e : E3) : oP ms (.rt r e) = match muV ms e with | some mv => .ok r mv | none => .stuck := rfl
theorem b8 {Q : SR3 -> Prop} (I : E3 -> Prop) {a b : PSt} {e : E3} (h1 : ∃ e1, a.G e = .nx e1 /\ I e1) (h2 : ∀ e1, I e1 -> Q (b.G e1)) : Q ((aE a b).G e) := by
 obtain ⟨e1, q, i⟩ := h1
 rw [xf, q]
 exact h2 e1 i
theorem iV (i : Int) : Val.tup [.int i, .int 1] = fV (i : Rat) := rfl
theorem sm8 {m : Int} (h : m.natAbs < 1099511627776) : Sm 8000 m := Nat.lt_of_lt_of_le (show m.natAbs < 2 ^ 40 from h) (Nat.pow_le_pow_right (by decide) (by decide))
theorem lg {m : Int} (h : m.natAbs <= 2000000000000000000000000000000) : Sm 101 m := by unfold Sm; exact Nat.lt_of_le_of_lt h (by decide)
theorem fK {m : Int} (h : m.natAbs <= 2000000000000000000000000000000) : Sz 101 (m : Rat) := ⟨lg h, lg (by show (1 : Int).natAbs <= _; decide)⟩
theorem gn {a b : Int} (hb : b ≠ 0) (h1 : a.natAbs <= 2000000000000000000000000000000) (h2 : b.natAbs <= 2000000000000000000000000000000) : Sz 101 ((a : Rat) / (b : Rat)) := Sz.div hb (lg h1) (lg h2) 101 (Nat.le_refl _) (Nat.le_refl _)
theorem fo {m : Int} (h : 0 < m) : (0 : Rat) < (m : Rat) := Rat.intCast_pos.mpr h
theorem kr {a b : Int} (h1 : 0 < a) (h2 : 0 < b) : (0 : Rat) < (a : Rat) / (b : Rat) := by
 rw [Rat.div_def]
 exact Rat.mul_pos (fo h1) (Rat.inv_pos.mpr (fo h2))
structure Good (b : Bx) : Prop where
 ok : b.Ok
 sz : b.Sz 101
theorem jH {m : Int} (h : m.natAbs <= 2000000000000000000000000000000) : Sm 8000 m := (lg h).mono (by decide)
end L3
set_option Elab.async false
set_option linter.all false
set_option maxRecDepth 100000
namespace L3
open PySem PySem.Spec PyProof.Rows L2
noncomputable def uj (cs : List (Str × PFn)) (F : ME3) (A : MA3) : ME3 := fun e => (F e).bind fun t e1 => match rs e1 t with
 | some (.glb x) => (match cs.lookup x with
  | some p => nJ p.ms p.G A e1
  | none => .stuck)
 | _ => .stuck
noncomputable def cs2 (cs : List (Str × PFn)) : List (Str × Nat × Fn) := cs.map fun c => (c.1, c.2.ms.length, c.2.F)
theorem lI {x : Str} : ∀ (cs : List (Str × PFn)), (cs2 cs).lookup x = (cs.lookup x).map fun p => (p.ms.length, p.F)
 | [] => rfl
 |
  (y, p) :: cs => by
  show List.lookup x ((y, p.ms.length, p.F) :: cs2 cs) = _
  rw [List.lookup_cons, List.lookup_cons]
  split
  ·rfl
  ·exact lI cs
theorem
    vO {F : ME} {F3 : ME3} {A : MA} {A3 : MA3} (cs : List (Str × PFn)) (hF : RE F F3) (hA : RA A A3) : RE (ph (cs2 cs) F A) (uj cs F3 A3) := fun X h0 L ns e ae h S hl =>
 Po.bind S (hF X h0 L ns e ae h S hl) fun d1 t1 h1 ns1 e1 a1 S1 r1 => by
  show Po X h0 ns1 e1 ae h1 (relE X h0 L ae) _ (match rs e1 t1 with
   | some (.glb x) => (match cs.lookup x with
    | some p => nJ p.ms p.G A3 e1
    | none => .stuck)
   | _ => .stuck)
  cases q : rs e1 t1 with
  | none => trivial
  |
   some v =>
   cases v with
   |
    glb x =>
    obtain rfl := (r1.sh S1 q).glb
    dsimp only
    rw [lI]
    cases cs.lookup x with
    | none => trivial
    | some p => exact pZ rfl p.ok hA X h0 L ns1 e1 ae h1 S1 (Nat.le_trans hl a1.len)
   | _ => trivial
noncomputable def oD (cs : List (Str × PFn)) (f : PEx) (a : PAs) : PEx := ⟨ph (cs2 cs) f.F a.F, uj cs f.G a.G, vO cs f.ok a.ok⟩
theorem yw (e : E3) (cs : List (Str × PFn)) (f : PEx) (a : PAs) : (oD cs f a).G e = (f.G e).bind fun t e1 => match rs e1 t with
 | some (.glb x) => (match cs.lookup x with
  | some p => (ay p a).G e1
  | none => .stuck)
 | _ => .stuck := rfl
section
variable {K : PySem.W.Frag} {mg : Str -> Option Value} {X : Cx} {ES : L2.St -> XK} {e : Expr} {es : List Expr} {A : PAs} {pos : Pos}
noncomputable def rB (K : PySem.W.Frag) (mg : Str -> Option Value) (X : Cx) (cs : List (Str × PFn)) : Prop := ∀ c ∈ cs2 cs, ∃ k ps, Callee X.prog X.w X.K X.mg X.base c.1 k ps (spD K mg c.2.1 c.2.2) /\ Room k X.A
theorem Ay : rB K mg X [] := fun _ h => nomatch h
theorem jX {f : PFn} {x : Str} {k n : Nat} {ps : List Str} {cs : List (Str × PFn)} (C : Callee X.prog X.w X.K X.mg X.base x k ps (spD K mg n f.F)) (hr : Room k X.A) (h : rB K mg X cs) (hn : f.ms.length = n := by rfl) : rB K mg X ((x, f) :: cs) := by
 subst hn
 intro c hc
 rcases List.mem_cons.mp (show c ∈ (x, f.ms.length, f.F) :: cs2 cs from hc) with rfl | hc
 ·exact ⟨k, ps, C, hr⟩
 ·exact h c hc
theorem wq {ef : Expr} {cs : List (Str × PFn)} {p : PEx} (hc : rB K mg X cs) (hf : DE K mg X ES ef p.F) (hx : dH X ES) (ha : DA K mg X ES (e :: es) A.F) (hm : X.mg = mg := by rfl)
  (harm : eval (.Call ef (e :: es) [] pos) X.env = (do callWith pos (<- eval ef X.env) [] (backTo pos (starEach (e :: es) X.env)) (backToKw pos (keywordEach [] X.env))) := by rfl)
  (he : starEach (e :: es) X.env = (false, eval e X.env) :: starEach es X.env := by rfl) (hpl : (backTo pos (starEach es X.env)).any (·.1) = false := by rfl) : DE K mg X ES (.Call ef (e :: es) [] pos) (oD cs p A).F := vk hc hf hx ha hm harm he hpl
end
theorem AA (xs ys : List Val) : bf.G (.lst xs) (.lst ys) = if xs.length + ys.length <= 16777216 then .new (.lst (xs ++ ys)) else .stuck := rfl
end L3
set_option Elab.async false
set_option linter.all false
set_option maxRecDepth 100000
namespace L3
open PySem PySem.Spec PyProof.Rows L2
section
variable {K : PySem.W.Frag} {mg : Str -> Option Value} {X : Cx} {ES : L2.St -> XK} {e a b c o lo hi : Expr} {p q r : PEx} {pos p1 p2 : Pos}
end
theorem ar1 {α : Type} {P : List α -> Prop} (h : ∀ a, P [a]) : ∀ us : List α, us.length = 1 -> P us
 | [a], _ => h a
theorem ar2 {α : Type} {P : List α -> Prop} (h : ∀ a b, P [a, b]) : ∀ us : List α, us.length = 2 -> P us
 | [a, b], _ => h a b
theorem ar3 {α : Type} {P : List α -> Prop} (h : ∀ a b c, P [a, b, c]) : ∀ us : List α, us.length = 3 -> P us
 | [a, b, c], _ => h a b c
theorem ar4 {α : Type} {P : List α -> Prop} (h : ∀ a b c d, P [a, b, c, d]) : ∀ us : List α, us.length = 4 -> P us
 | [a, b, c, d], _ => h a b c d
end L3
set_option Elab.async false
set_option linter.all false
set_option maxRecDepth 100000
set_option maxHeartbeats 4000000
namespace KK
open PySem PySem.Spec PyProof.Rows L2 L3
theorem eJ : bootBuiltins "abs" = some (.builtin "abs") := by decide +kernel
theorem lM : bootBuiltins "all" = some (.builtin "all") := by decide +kernel
theorem jV : bootBuiltins "bool" = some (.type "bool") := by decide +kernel
theorem oQ : bootBuiltins "int" = some (.type "int") := by decide +kernel
theorem aN : bootBuiltins "isinstance" = some (.builtin "isinstance") := by decide +kernel
theorem dC : bootBuiltins "len" = some (.builtin "len") := by decide +kernel
theorem qr : bootBuiltins "list" = some (.type "list") := by decide +kernel
theorem oG : bootBuiltins "max" = some (.builtin "max") := by decide +kernel
theorem Bi : bootBuiltins "min" = some (.builtin "min") := by decide +kernel
theorem zw : bootBuiltins "str" = some (.type "str") := by decide +kernel
theorem AI : bootBuiltins "sum" = some (.builtin "sum") := by decide +kernel
theorem eW : bootBuiltins "tuple" = some (.type "tuple") := by decide +kernel
noncomputable def top (i : Nat) : Stmt := PySem.Challenge.pw_weightrooms_k04_what_is_no_box.main.body.getD i (.Pass ⟨0, 0, 0, 0⟩)
abbrev iM : Stmt := top 35
theorem pM : FnScope ["_law_script", "_law_k"] ["_law_script", "_law_k"] (ax iM) := ⟨rfl, rfl, rfl, by decide +kernel, rfl, by decide +kernel, by decide +kernel⟩
abbrev iD : Stmt := top 36
theorem fB : FnScope ["_law_feed_here", "_law_many", "_law_digit", "_law_mixed"] ["_law_feed_here", "_law_many"] (ax iD) := ⟨rfl, rfl, rfl, by decide +kernel, rfl, by decide +kernel, by decide +kernel⟩
abbrev jl : Stmt := top 42
theorem cT : FnScope ["_law_feed_here", "_law_number", "_law_by", "_law_some"] ["_law_feed_here", "_law_number"] (ax jl) := ⟨rfl, rfl, rfl, by decide +kernel, rfl, by decide +kernel, by decide +kernel⟩
abbrev fP : Stmt := top 43
theorem fc : FnScope ["_law_feed_here", "_law_box", "_law_at", "_law_below"] ["_law_feed_here", "_law_box"] (ax fP) := ⟨rfl, rfl, rfl, by decide +kernel, rfl, by decide +kernel, by decide +kernel⟩
abbrev jA : Stmt := top 38
theorem gj : FnScope ["_law_top", "_law_bottom", "_law_one", "_law_two"] ["_law_top", "_law_bottom"] (ax jA) := ⟨rfl, rfl, rfl, by decide +kernel, rfl, by decide +kernel, by decide +kernel⟩
abbrev ip : Stmt := top 37
theorem eG : FnScope ["_law_feed_here", "_law_far", "_law_number", "_law_k"] ["_law_feed_here", "_law_far"] (ax ip) := ⟨rfl, rfl, rfl, by decide +kernel, rfl, by decide +kernel, by decide +kernel⟩
abbrev iS : Stmt := top 39
theorem br : FnScope ["_law_feed_here", "_law_way", "_law_left", "_law_top", "_law_wide", "_law_high", "_law_far"] ["_law_feed_here"] (ax iS) := ⟨rfl, rfl, rfl, by decide +kernel, rfl, by decide +kernel, by decide +kernel⟩
abbrev eE : Stmt := top 40
theorem gM : FnScope ["_law_thing", "_law_one"] ["_law_thing"] (ax eE) := ⟨rfl, rfl, rfl, by decide +kernel, rfl, by decide +kernel, by decide +kernel⟩
abbrev eA : Stmt := top 41
theorem ng : FnScope ["_law_thing"] ["_law_thing"] (ax eA) := ⟨rfl, rfl, rfl, by decide +kernel, rfl, by decide +kernel, by decide +kernel⟩
abbrev jc : Stmt := top 9
theorem pG : FnScope ["thing"] ["thing"] (ax jc) := ⟨rfl, rfl, rfl, by decide +kernel, rfl, by decide +kernel, by decide +kernel⟩
abbrev ek : Stmt := top 10
theorem dQ : FnScope ["one", "other"] ["one", "other"] (ax ek) := ⟨rfl, rfl, rfl, by decide +kernel, rfl, by decide +kernel, by decide +kernel⟩
abbrev fU : Stmt := top 11
theorem eS : FnScope ["thing", "top", "bottom"] ["thing"] (ax fU) := ⟨rfl, rfl, rfl, by decide +kernel, rfl, by decide +kernel, by decide +kernel⟩
abbrev iG : Stmt := top 20
theorem sT : FnScope ["thing"] ["thing"] (ax iG) := ⟨rfl, rfl, rfl, by decide +kernel, rfl, by decide +kernel, by decide +kernel⟩
abbrev ik : Stmt := top 21
theorem oT : FnScope ["thing"] ["thing"] (ax ik) := ⟨rfl, rfl, rfl, by decide +kernel, rfl, by decide +kernel, by decide +kernel⟩
abbrev kD : Stmt := top 22
theorem uf : FnScope ["thing"] ["thing"] (ax kD) := ⟨rfl, rfl, rfl, by decide +kernel, rfl, by decide +kernel, by decide +kernel⟩
abbrev ig : Stmt := top 23
theorem pb : FnScope ["way"] ["way"] (ax ig) := ⟨rfl, rfl, rfl, by decide +kernel, rfl, by decide +kernel, by decide +kernel⟩
abbrev ij : Stmt := top 24
theorem og : FnScope ["thing"] ["thing"] (ax ij) := ⟨rfl, rfl, rfl, by decide +kernel, rfl, by decide +kernel, by decide +kernel⟩
abbrev dh : Stmt := top 25
theorem kI : FnScope ["thing"] ["thing"] (ax dh) := ⟨rfl, rfl, rfl, by decide +kernel, rfl, by decide +kernel, by decide +kernel⟩
abbrev iC : Stmt := top 12
theorem g7 : FnScope ["top", "bottom", "divisor"] ["top", "bottom"] (ax iC) := ⟨rfl, rfl, rfl, by decide +kernel, rfl, by decide +kernel, by decide +kernel⟩
abbrev me : Stmt := top 13
theorem wc : FnScope ["one", "other"] ["one", "other"] (ax me) := ⟨rfl, rfl, rfl, by decide +kernel, rfl, by decide +kernel, by decide +kernel⟩
abbrev lY : Stmt := top 14
theorem uv : FnScope ["one", "other"] ["one", "other"] (ax lY) := ⟨rfl, rfl, rfl, by decide +kernel, rfl, by decide +kernel, by decide +kernel⟩
abbrev kK : Stmt := top 32
theorem dA : FnScope ["start", "length", "weights", "whole", "ahead", "found", "weight", "begin"] ["start", "length", "weights"] (ax kK) := ⟨rfl, rfl, rfl, by decide +kernel, rfl, by decide +kernel, by decide +kernel⟩
abbrev gE : Stmt := top 33
theorem fN : FnScope ["box", "way", "weights", "left", "top", "wide", "high"] ["box", "way", "weights"] (ax gE) := ⟨rfl, rfl, rfl, by decide +kernel, rfl, by decide +kernel, by decide +kernel⟩
abbrev o3 : Stmt := top 28
theorem yg : FnScope ["box"] ["box"] (ax o3) := ⟨rfl, rfl, rfl, by decide +kernel, rfl, by decide +kernel, by decide +kernel⟩
abbrev jz : Stmt := top 16
theorem rj : FnScope ["one", "other"] ["one", "other"] (ax jz) := ⟨rfl, rfl, rfl, by decide +kernel, rfl, by decide +kernel, by decide +kernel⟩
abbrev iE : Stmt := top 29
theorem pJ : FnScope ["box"] ["box"] (ax iE) := ⟨rfl, rfl, rfl, by decide +kernel, rfl, by decide +kernel, by decide +kernel⟩
abbrev oW : Stmt := top 15
theorem yo : FnScope ["one", "other"] ["one", "other"] (ax oW) := ⟨rfl, rfl, rfl, by decide +kernel, rfl, by decide +kernel, by decide +kernel⟩
abbrev mL : Stmt := top 30
theorem vg : FnScope ["box"] ["box"] (ax mL) := ⟨rfl, rfl, rfl, by decide +kernel, rfl, by decide +kernel, by decide +kernel⟩
abbrev kA : Stmt := top 31
theorem fG : FnScope ["box", "left", "top", "wide", "high"] ["box"] (ax kA) := ⟨rfl, rfl, rfl, by decide +kernel, rfl, by decide +kernel, by decide +kernel⟩
abbrev fR : Stmt := top 44
theorem dJ : FnScope ["_law_way", "_law_thing", "_law_caught", "e"] ["_law_way", "_law_thing"] (ax fR) := ⟨rfl, rfl, rfl, by decide +kernel, rfl, by decide +kernel, by decide +kernel⟩
abbrev fS : Stmt := top 26
theorem mF : FnScope ["thing"] ["thing"] (ax fS) := ⟨rfl, rfl, rfl, by decide +kernel, rfl, by decide +kernel, by decide +kernel⟩
abbrev ku : Stmt := top 27
theorem mP : FnScope ["left", "top", "wide", "high", "box"] ["left", "top", "wide", "high"] (ax ku) := ⟨rfl, rfl, rfl, by decide +kernel, rfl, by decide +kernel, by decide +kernel⟩
abbrev hE : Stmt := top 45
theorem dm : FnScope ["_law_thing", "_law_found", "_law_is_refused"] ["_law_thing"] (ax hE) := ⟨rfl, rfl, rfl, by decide +kernel, rfl, by decide +kernel, by decide +kernel⟩
abbrev jO : Stmt := top 46
theorem fF : FnScope ["_law_script", "_law_k", "_law_feed_here", "_law_thing", "_law_due", "_law_some", "_law_found", "_law_is_refused"] ["_law_script"] (ax jO) := ⟨rfl, rfl, rfl, by decide +kernel, rfl, by decide +kernel, by decide +kernel⟩
noncomputable def kits : eL := [((.o "NoFraction"), (.o "NoBox"), false), ((.o "NoBox"), (.o "NoBox"), true), ((.o "NoWay"), (.o "NoBox"), false), ((.o "NoWeights"), (.o "NoBox"), false), ((.o "TooMany"), (.o "NoBox"), false), ((.o "NoFraction"), (.o "NoFraction"), true), ((.o "NoBox"), (.o "NoFraction"), false), ((.o "NoWay"), (.o "NoFraction"), false), ((.o "NoWeights"), (.o "NoFraction"), false), ((.o "TooMany"), (.o "NoFraction"), false), ((.o "NoFraction"), (.o "NoText"), false), ((.o "NoBox"), (.o "NoText"), false), ((.o "NoWay"), (.o "NoText"), false), ((.o "NoWeights"), (.o "NoText"), false), ((.o "TooMany"), (.o "NoText"), false), ((.o "NoFraction"), (.o "NoWay"), false), ((.o "NoBox"), (.o "NoWay"), false), ((.o "NoWay"), (.o "NoWay"), true), ((.o "NoWeights"), (.o "NoWay"), false), ((.o "TooMany"), (.o "NoWay"), false), ((.o "NoFraction"), (.o "NoWeights"), false), ((.o "NoBox"), (.o "NoWeights"), false), ((.o "NoWay"), (.o "NoWeights"), false), ((.o "NoWeights"), (.o "NoWeights"), true), ((.o "TooMany"), (.o "NoWeights"), false), ((.o "NoFraction"), (.o "TooMany"), false), ((.o "NoBox"), (.o "TooMany"), false), ((.o "NoWay"), (.o "TooMany"), false), ((.o "NoWeights"), (.o "TooMany"), false), ((.o "TooMany"), (.o "TooMany"), true), ((.b "NoneType"), (.b "bool"), false), ((.b "bool"), (.b "bool"), true), ((.b "int"), (.b "bool"), false), ((.b "str"), (.b "bool"), false), ((.b "tuple"), (.b "bool"), false), ((.b "list"), (.b "bool"), false), ((.b "dict"), (.b "bool"), false), ((.b "NoneType"), (.b "int"), false), ((.b "bool"), (.b "int"), true), ((.b "int"), (.b "int"), true), ((.b "str"), (.b "int"), false), ((.b "tuple"), (.b "int"), false), ((.b "list"), (.b "int"), false), ((.b "dict"), (.b "int"), false), ((.b "NoneType"), (.b "list"), false), ((.b "bool"), (.b "list"), false), ((.b "int"), (.b "list"), false), ((.b "str"), (.b "list"), false), ((.b "tuple"), (.b "list"), false), ((.b "list"), (.b "list"), true), ((.b "dict"), (.b "list"), false), ((.b "NoneType"), (.b "str"), false), ((.b "bool"), (.b "str"), false), ((.b "int"), (.b "str"), false), ((.b "str"), (.b "str"), true), ((.b "tuple"), (.b "str"), false), ((.b "list"), (.b "str"), false), ((.b "dict"), (.b "str"), false), ((.b "NoneType"), (.b "tuple"), false), ((.b "bool"), (.b "tuple"), false), ((.b "int"), (.b "tuple"), false), ((.b "str"), (.b "tuple"), false), ((.b "tuple"), (.b "tuple"), true), ((.b "list"), (.b "tuple"), false), ((.b "dict"), (.b "tuple"), false)]
noncomputable def g0 : List Str := ["NoBox"]
noncomputable def d4 : List Str := ["NoFraction", "NoBox", "NoWay", "NoWeights", "TooMany"]
noncomputable def eZ : D := (.int 40)
noncomputable def oK : D := (.tup [(.str "across"), (.str "down")])
structure Txt (K : PySem.W.Frag) (mg : Str -> Option Value) (a_RoomError : Addr) (a_NoFraction : Addr) (a_NoBox : Addr) (a_NoWay : Addr) (a_NoWeights : Addr) (a_TooMany : Addr) (a_NoText : Addr) : Prop where
 g_MOST_WEIGHTS : GC K mg "MOST_WEIGHTS" eZ
 m_NoBox : mg "NoBox" = some (.ref a_NoBox)
 m_NoFraction : mg "NoFraction" = some (.ref a_NoFraction)
 m_NoText : mg "NoText" = some (.ref a_NoText)
 m_NoWay : mg "NoWay" = some (.ref a_NoWay)
 m_NoWeights : mg "NoWeights" = some (.ref a_NoWeights)
 m_RoomError : mg "RoomError" = some (.ref a_RoomError)
 m_TooMany : mg "TooMany" = some (.ref a_TooMany)
 g_WAYS : GC K mg "WAYS" oK
 n_abs : mg "abs" = none
 n_all : mg "all" = none
 n_bool : mg "bool" = none
 n_int : mg "int" = none
 n_isinstance : mg "isinstance" = none
 n_len : mg "len" = none
 n_list : mg "list" = none
 n_max : mg "max" = none
 n_min : mg "min" = none
 n_range : mg "range" = none
 n_str : mg "str" = none
 n_sum : mg "sum" = none
 n_tuple : mg "tuple" = none
 f_area : ∃ a, mg "area" = some (.ref a)
 f_long_way : ∃ a, mg "long_way" = some (.ref a)
 f_shape : ∃ a, mg "shape" = some (.ref a)
 f_turned : ∃ a, mg "turned" = some (.ref a)
 h_RoomError : XHand K a_RoomError
 r_RoomError : ∀ c ∈ d4, ∀ Ce, mg c = some (.ref Ce) -> PySem.W.mroIn K Ce (.ref a_RoomError) = some true
 x_NoFraction : PySem.W.excIn K a_NoFraction d7 "ValueError.__new__" = true
 x_NoBox : PySem.W.excIn K a_NoBox d7 "ValueError.__new__" = true
 h_NoBox : XHand K a_NoBox
 r_NoBox : ∀ c ∈ g0, ∀ Ce, mg c = some (.ref Ce) -> PySem.W.mroIn K Ce (.ref a_NoBox) = some true
 x_NoWay : PySem.W.excIn K a_NoWay d7 "ValueError.__new__" = true
 x_NoWeights : PySem.W.excIn K a_NoWeights d7 "ValueError.__new__" = true
 x_TooMany : PySem.W.excIn K a_TooMany d7 "ValueError.__new__" = true
 kits : KitsOk K mg kits
section
variable {P : Program} {w : World} {K : PySem.W.Frag} {mg : Str -> Option Value} {base : Heap} {a_RoomError a_NoFraction a_NoBox a_NoWay a_NoWeights a_TooMany a_NoText : Addr}
noncomputable def gY : PEx := pk eZ (.int 40) (fun _ _ => .int _)
noncomputable def qe : PEx := pk oK (.tup [(.str "across"), (.str "down")]) (fun _ _ => .tup (.cons (.str _) (.cons (.str _) .nil)))
noncomputable def iF : PSt :=
 (aE (xIf (qOf (pOp bEq (pFn dF (af (ah 0) ak)) (ao 0))) (aP (en (af (ao 0) (af (ao 0) (af (ah 1) ak))))) xNx)
  (aP (en (af (pOp bIx (ah 0) (pOp cM (ah 1) (pFn dF (af (ah 0) ak)))) (af (ao 0) (af (ah 1) ak))))))
noncomputable def cU : PFn := fnP [false, false] 2 iF
theorem pH : cU.ms = [false, false] := rfl
theorem n1 (T : Txt K mg a_RoomError a_NoFraction a_NoBox a_NoWay a_NoWeights a_TooMany a_NoText) (D : Def K mg "_law_feed" iM)  : Callee P w K mg base "_law_feed" (0 + 1) ["_law_script", "_law_k"] (spD K mg 2 cU.F) := by
 unfold cU iF
 exact okP D pM (fun _ _ _ _ _ _ => ar2 fun _ _ => rfl) fun f cdv A outer s H E hr =>
  (ar (aX (aW (dq (K := K) rfl hr.units) cD (aD (eQ (K := K) rfl) dD rfl T.n_len dC (aa (ag 0) aj)) ai (aK _)) (aw (aF (cN (aa ai (aa ai (aa (ag 1) aj)))))) aJ)
   (aw (aF (cN (aa (az (ixK (K := K) rfl) aA (ag 0) (aB c7 dX (ag 1) (aD (eQ (K := K) rfl) dD rfl T.n_len dC (aa (ag 0) aj))) (fun _ _ => rfl)) (aa ai (aa (ag 1) aj)))))))
noncomputable def iL : PSt :=
 (aE (qV 0 seL (ao 1) (pOp bf (pOp bIx (ah 0) (ao 1)) (ao 1)))
  (aE (xIf (qOf (pOp bGe (pOp bIx (ah 0) (ao 0)) (pOp gq (ao 10) (ao 18)))) (aE (bh false 2 (pOp cM (pOp bIx (ah 0) (ao 0)) (ah 1)))
  (aE (qV 0 seL (ao 0) (pOp kq (pOp bIx (ah 0) (ao 0)) (ah 1)))
  (aP (ah 2)))) xNx)
  (aE (bh false 3 (pOp bf (pOp bf (pOp cM (pOp bIx (ah 0) (ao 0)) (ao 1000003)) (pOp cj (ao 7919) (pOp bIx (ah 0) (ao 2)))) (pOp cj (ao 104729) (pOp bIx (ah 0) (ao 1)))))
  (aE (bh false 3 (pOp cM (pOp cj (ah 3) (ao 48271)) (ao 2147483647)))
  (aP (pOp cM (pOp cM (pOp cj (ah 3) (pOp bf (pOp cM (ah 3) (ao 65521)) (pOp bIx (ah 0) (ao 1)))) (ao 2147483629)) (ah 1)))))))
noncomputable def aG : PFn := fnP [true, false] 4 iL
theorem pE : aG.ms = [true, false] := rfl
theorem pw (T : Txt K mg a_RoomError a_NoFraction a_NoBox a_NoWay a_NoWeights a_TooMany a_NoText) (D : Def K mg "_law_next" iD)  : Callee P w K mg base "_law_next" (0 + 1) ["_law_feed_here", "_law_many"] (spD K mg 2 aG.F) := by
 unfold aG iL
 exact okP D fB (fun _ _ _ _ _ _ => ar2 fun _ _ => rfl) fun f cdv A outer s H E hr =>
  (ar (pU (aB (ba (K := K) rfl) a9 (az (ixK (K := K) rfl) aA (ag 0) ai (fun _ _ => rfl)) ai) (ag 0) ai o6 pW)
   (ar (aX (aW rH sk (az (ixK (K := K) rfl) aA (ag 0) ai (fun _ _ => rfl)) (aB jB jE ai ai) (aK _)) (ar (aM (i := 2) fB.nd rfl (by first | exact Or.inl rfl | exact Or.inr rfl) (aB c7 dX (az (ixK (K := K) rfl) aA (ag 0) ai (fun _ _ => rfl)) (ag 1)))
   (ar (pU (aB gD jt (az (ixK (K := K) rfl) aA (ag 0) ai (fun _ _ => rfl)) (ag 1)) (ag 0) ai o6 pW)
   (aw (aF (ag 2))))) aJ)
   (ar (aM (i := 3) fB.nd rfl (by first | exact Or.inl rfl | exact Or.inr rfl) (aB (ba (K := K) rfl) a9 (aB (ba (K := K) rfl) a9 (aB c7 dX (az (ixK (K := K) rfl) aA (ag 0) ai (fun _ _ => rfl)) ai) (aB bR bP ai (az (ixK (K := K) rfl) aA (ag 0) ai (fun _ _ => rfl)))) (aB bR bP ai (az (ixK (K := K) rfl) aA (ag 0) ai (fun _ _ => rfl)))))
   (ar (aM (i := 3) fB.nd rfl (by first | exact Or.inl rfl | exact Or.inr rfl) (aB c7 dX (aB bR bP (ag 3) ai) ai))
   (aw (aF (aB c7 dX (aB c7 dX (aB bR bP (ag 3) (aB (ba (K := K) rfl) a9 (aB c7 dX (ag 3) ai) (az (ixK (K := K) rfl) aA (ag 0) ai (fun _ _ => rfl)))) ai) (ag 1))))))))
noncomputable def gP : PSt :=
 (aE (bh false 2 (pOp bf (ao 2) (ay aG (af (ah 0) (af (ao 5) ak)))))
  (aE (xIf (qOf (pOp bGt (pFn iB (af (pFn eO (af (pOp bIx (ah 1) (ao 0)) ak)) (af (pOp bIx (ah 1) (ao 1)) ak))) (pOp gq (ao 10) (ao 28)))) (bh false 2 (ao 1)) xNx)
  (aE (bh false 3 (en (af (pBl true) (af (dw "1") (af kH (af (en (af (pOp bIx (ah 1) (ao 0)) (af (pOp bIx (ah 1) (ao 1)) ak))) (af (bc (af (pOp cj (pOp bIx (ah 1) (ao 0)) (ah 2)) (af (pOp cj (pOp bIx (ah 1) (ao 1)) (ah 2)) ak))) (af (bc (af (pOp bIx (ah 1) (ao 0)) (af (ao 0) ak))) (af (bc (af (pOp bIx (ah 1) (ao 0)) ak)) ak)))))))))
  (aE (bh false 3 (pOp bf (ah 3) (en (af (bc (af (pOp dR (ao 0) (pOp bIx (ah 1) (ao 0))) (af (pOp dR (ao 0) (pOp bIx (ah 1) (ao 1))) ak))) (af (pOp bf (ah 1) (bc (af (ao 1) ak))) (af (pOp bIx (ah 1) (ao 0)) (af (bc (af (ao 0) (af (ao 1) ak))) ak)))))))
  (aE (bh false 3 (pOp bf (ah 3) (en (af (bc (af (pOp dR (ao 0) (pFn iB (af (ao 1) (af (pFn eO (af (pOp bIx (ah 1) (ao 0)) ak)) ak)))) (af (pOp bIx (ah 1) (ao 1)) ak))) ak))))
  (aE (bh false 3 (pOp bf (ah 3) (en (af (bc (af (pBl true) (af (ao 1) ak))) (af (bc (af (ao 1) (af (pBl true) ak))) (af (bc (af (pOp bIx (ah 1) (ao 0)) (af (dw "1") ak))) (af (bc (af kH (af (ao 1) ak))) (af (bc ak) (af (dw "") (af (ah 1) ak))))))))))
  (aP (pOp bIx (ah 3) (ay aG (af (ah 0) (af (pFn dF (af (ah 3) ak)) ak)))))))))))
noncomputable def dn : PFn := fnP [true, false] 4 gP
theorem sf : dn.ms = [true, false] := rfl
theorem pD (T : Txt K mg a_RoomError a_NoFraction a_NoBox a_NoWay a_NoWeights a_TooMany a_NoText) (D : Def K mg "_law_odd" jl) (c_law_next : Callee P w K mg base "_law_next" 1 ["_law_feed_here", "_law_many"] (spD K mg 2 aG.F)) : Callee P w K mg base "_law_odd" (1 + 1) ["_law_feed_here", "_law_number"] (spD K mg 2 dn.F) := by
 unfold dn gP
 exact okP D cT (fun _ _ _ _ _ _ => ar2 fun _ _ => rfl) fun f cdv A outer s H E hr =>
  (ar (aM (i := 2) cT.nd rfl (by first | exact Or.inl rfl | exact Or.inr rfl) (aB (ba (K := K) rfl) a9 ai (au c_law_next (hr.mono (by omega)) rfl (aq aC) (aa (ag 0) (aa ai aj)))))
   (ar (aX (aW gU gW (aD (ju rfl) mI rfl T.n_max oG (aa (aD cV eD rfl T.n_abs eJ (aa (az (ixK (K := K) rfl) aA (ag 1) ai (fun _ _ => rfl)) aj)) (aa (az (ixK (K := K) rfl) aA (ag 1) ai (fun _ _ => rfl)) aj))) (aB jB jE ai ai) (aK _)) (aw (aM (i := 2) cT.nd rfl (by first | exact Or.inl rfl | exact Or.inr rfl) ai)) aJ)
   (ar (aM (i := 3) cT.nd rfl (by first | exact Or.inl rfl | exact Or.inr rfl) (cN (aa cG (aa cw (aa jo (aa (cN (aa (az (ixK (K := K) rfl) aA (ag 1) ai (fun _ _ => rfl)) (aa (az (ixK (K := K) rfl) aA (ag 1) ai (fun _ _ => rfl)) aj))) (aa (aL (aa (aB bR bP (az (ixK (K := K) rfl) aA (ag 1) ai (fun _ _ => rfl)) (ag 2)) (aa (aB bR bP (az (ixK (K := K) rfl) aA (ag 1) ai (fun _ _ => rfl)) (ag 2)) aj))) (aa (aL (aa (az (ixK (K := K) rfl) aA (ag 1) ai (fun _ _ => rfl)) (aa ai aj))) (aa (aL (aa (az (ixK (K := K) rfl) aA (ag 1) ai (fun _ _ => rfl)) aj)) aj)))))))))
   (ar (aM (i := 3) cT.nd rfl (by first | exact Or.inl rfl | exact Or.inr rfl) (aB (ba (K := K) rfl) a9 (ag 3) (cN (aa (aL (aa (aB cF cE ai (az (ixK (K := K) rfl) aA (ag 1) ai (fun _ _ => rfl))) (aa (aB cF cE ai (az (ixK (K := K) rfl) aA (ag 1) ai (fun _ _ => rfl))) aj))) (aa (aB (ba (K := K) rfl) a9 (ag 1) (aL (aa ai aj))) (aa (az (ixK (K := K) rfl) aA (ag 1) ai (fun _ _ => rfl)) (aa (aL (aa ai (aa ai aj))) aj)))))))
   (ar (aM (i := 3) cT.nd rfl (by first | exact Or.inl rfl | exact Or.inr rfl) (aB (ba (K := K) rfl) a9 (ag 3) (cN (aa (aL (aa (aB cF cE ai (aD (ju rfl) mI rfl T.n_max oG (aa ai (aa (aD cV eD rfl T.n_abs eJ (aa (az (ixK (K := K) rfl) aA (ag 1) ai (fun _ _ => rfl)) aj)) aj)))) (aa (az (ixK (K := K) rfl) aA (ag 1) ai (fun _ _ => rfl)) aj))) aj))))
   (ar (aM (i := 3) cT.nd rfl (by first | exact Or.inl rfl | exact Or.inr rfl) (aB (ba (K := K) rfl) a9 (ag 3) (cN (aa (aL (aa cG (aa ai aj))) (aa (aL (aa ai (aa cG aj))) (aa (aL (aa (az (ixK (K := K) rfl) aA (ag 1) ai (fun _ _ => rfl)) (aa cw aj))) (aa (aL (aa jo (aa ai aj))) (aa (aL aj) (aa cw (aa (ag 1) aj))))))))))
   (aw (aF (az (ixK (K := K) rfl) aA (ag 3) (au c_law_next (hr.mono (by omega)) rfl (aq aC) (aa (ag 0) (aa (aD (eQ (K := K) rfl) dD rfl T.n_len dC (aa (ag 3) aj)) aj))) (fun _ _ => rfl))))))))))
noncomputable def dZ : PSt :=
 (aE (bh false 2 (ay aG (af (ah 0) (af (ao 7) ak))))
  (aE (xIf (qOf (pOp bLt (ah 2) (ao 4))) (aP (pOp bf (pOp bf (pSl (ah 1) oN (oS (ah 2))) (bc (af (ay dn (af (ah 0) (af (pOp bIx (ah 1) (ah 2)) ak))) ak))) (pSl (ah 1) (oS (pOp bf (ah 2) (ao 1))) oN))) xNx)
  (aE (xIf (qOf (pOp bEq (ah 2) (ao 4))) (aE (bh false 3 (pOp bf (pSl (ah 1) oN (oS (ao 2))) (bc (af (bc (af (pOp dR (ao 0) (pOp bIx (pOp bIx (ah 1) (ao 2)) (ao 0))) (af (pOp bIx (pOp bIx (ah 1) (ao 2)) (ao 1)) ak))) (af (bc (af (pOp dR (ao 0) (pOp bIx (pOp bIx (ah 1) (ao 3)) (ao 0))) (af (pOp bIx (pOp bIx (ah 1) (ao 3)) (ao 1)) ak))) ak)))))
  (aP (pOp bIx (en (af (pFn oB (af (ah 1) ak)) (af (pSl (ah 1) oN (oS (ao 3))) (af (pOp bf (ah 1) (bc (af (pOp bIx (ah 1) (ao 0)) ak))) (af (en (af (ah 1) ak)) (af (bc ak) (af (ah 3) (af (ah 3) ak)))))))) (ay aG (af (ah 0) (af (ao 7) ak)))))) xNx)
  (aE (xIf (qOf (pOp bEq (ah 2) (ao 5))) (aP (pOp bIx (en (af kH (af (dw "box") (af (ao 7) (af (pBl false) (af pD0 (af (pOp bIx (ah 1) (ao 0)) ak))))))) (ay aG (af (ah 0) (af (ao 6) ak))))) xNx)
  (aP (ah 1))))))
noncomputable def bY : PFn := fnP [true, false] 4 dZ
theorem mJ : bY.ms = [true, false] := rfl
theorem lB (T : Txt K mg a_RoomError a_NoFraction a_NoBox a_NoWay a_NoWeights a_TooMany a_NoText) (D : Def K mg "_law_spoiled" fP) (c_law_next : Callee P w K mg base "_law_next" 1 ["_law_feed_here", "_law_many"] (spD K mg 2 aG.F)) (c_law_odd : Callee P w K mg base "_law_odd" 2 ["_law_feed_here", "_law_number"] (spD K mg 2 dn.F)) : Callee P w K mg base "_law_spoiled" (2 + 1) ["_law_feed_here", "_law_box"] (spD K mg 2 bY.F) := by
 unfold bY dZ
 exact okP D fc (fun _ _ _ _ _ _ => ar2 fun _ _ => rfl) fun f cdv A outer s H E hr =>
  (ar (aM (i := 2) fc.nd rfl (by first | exact Or.inl rfl | exact Or.inr rfl) (au c_law_next (hr.mono (by omega)) rfl (aq aC) (aa (ag 0) (aa ai aj))))
   (ar (aX (aW nz nQ (ag 2) ai (aK _)) (aw (aF (aB (ba (K := K) rfl) a9 (aB (ba (K := K) rfl) a9 (iK rfl (ag 1) jQ (jY (ag 2))) (aL (aa (au c_law_odd (hr.mono (by omega)) rfl (aq aC) (aa (ag 0) (aa (az (ixK (K := K) rfl) aA (ag 1) (ag 2) (fun _ _ => rfl)) aj))) aj))) (iK rfl (ag 1) (jY (aB (ba (K := K) rfl) a9 (ag 2) ai)) jQ)))) aJ)
   (ar (aX (aW (dq (K := K) rfl hr.units) cD (ag 2) ai (aK _)) (ar (aM (i := 3) fc.nd rfl (by first | exact Or.inl rfl | exact Or.inr rfl) (aB (ba (K := K) rfl) a9 (iK rfl (ag 1) jQ (jY ai)) (aL (aa (aL (aa (aB cF cE ai (az (ixK (K := K) rfl) aA (az (ixK (K := K) rfl) aA (ag 1) ai (fun _ _ => rfl)) ai (fun _ _ => rfl))) (aa (az (ixK (K := K) rfl) aA (az (ixK (K := K) rfl) aA (ag 1) ai (fun _ _ => rfl)) ai (fun _ _ => rfl)) aj))) (aa (aL (aa (aB cF cE ai (az (ixK (K := K) rfl) aA (az (ixK (K := K) rfl) aA (ag 1) ai (fun _ _ => rfl)) ai (fun _ _ => rfl))) (aa (az (ixK (K := K) rfl) aA (az (ixK (K := K) rfl) aA (ag 1) ai (fun _ _ => rfl)) ai (fun _ _ => rfl)) aj))) aj)))))
   (aw (aF (az (ixK (K := K) rfl) aA (cN (aa (mV (Bu (K := K) rfl) yx rfl T.n_list qr (aa (ag 1) aj)) (aa (iK rfl (ag 1) jQ (jY ai)) (aa (aB (ba (K := K) rfl) a9 (ag 1) (aL (aa (az (ixK (K := K) rfl) aA (ag 1) ai (fun _ _ => rfl)) aj))) (aa (cN (aa (ag 1) aj)) (aa (aL aj) (aa (ag 3) (aa (ag 3) aj)))))))) (au c_law_next (hr.mono (by omega)) rfl (aq aC) (aa (ag 0) (aa ai aj))) (fun _ _ => rfl))))) aJ)
   (ar (aX (aW (dq (K := K) rfl hr.units) cD (ag 2) ai (aK _)) (aw (aF (az (ixK (K := K) rfl) aA (cN (aa jo (aa cw (aa ai (aa cG (aa Ej (aa (az (ixK (K := K) rfl) aA (ag 1) ai (fun _ _ => rfl)) aj))))))) (au c_law_next (hr.mono (by omega)) rfl (aq aC) (aa (ag 0) (aa ai aj))) (fun _ _ => rfl)))) aJ)
   (aw (aF (ag 1)))))))
noncomputable def eH : PSt :=
 (fY 2 3 (af (ah 3) (af (pOp cM (ah 2) (ah 3)) ak)))
noncomputable def jm : PSt :=
 (aE (fY 2 3 (af (pFn eO (af (ah 0) ak)) (af (pFn eO (af (ah 1) ak)) ak)))
  (aE (xWh (qOf (pOp bGt (ah 3) (ao 0))) (eH))
  (aE (xIf (qOf (pOp bLt (ah 1) (ao 0))) (bh false 2 (pOp dR (ao 0) (ah 2))) xNx)
  (aP (bc (af (pOp kq (ah 0) (ah 2)) (af (pOp kq (ah 1) (ah 2)) ak)))))))
noncomputable def bz : PFn := fnP [false, false] 4 jm
theorem qN : bz.ms = [false, false] := rfl
theorem pK (T : Txt K mg a_RoomError a_NoFraction a_NoBox a_NoWay a_NoWeights a_TooMany a_NoText) (D : Def K mg "_law_low" jA)  : Callee P w K mg base "_law_low" (0 + 1) ["_law_top", "_law_bottom"] (spD K mg 2 bz.F) := by
 unfold bz jm eH
 exact okP D gj (fun _ _ _ _ _ _ => ar2 fun _ _ => rfl) fun f cdv A outer s H E hr =>
  (ar (dW (i := 2) (j := 3) rfl gj.nd rfl rfl (by decide) rfl rfl (aa (aD cV eD rfl T.n_abs eJ (aa (ag 0) aj)) (aa (aD cV eD rfl T.n_abs eJ (aa (ag 1) aj)) aj)) rfl)
   (ar (o7 lU (aW gU gW (ag 3) ai (aK _)) (aw (dW (i := 2) (j := 3) rfl gj.nd rfl rfl (by decide) rfl rfl (aa (ag 3) (aa (aB c7 dX (ag 2) (ag 3)) aj)) rfl)))
   (ar (aX (aW nz nQ (ag 1) ai (aK _)) (aw (aM (i := 2) gj.nd rfl (by first | exact Or.inl rfl | exact Or.inr rfl) (aB cF cE ai (ag 2)))) aJ)
   (aw (aF (aL (aa (aB gD jt (ag 0) (ag 2)) (aa (aB gD jt (ag 1) (ag 2)) aj))))))))
noncomputable def gF : PSt :=
 (bh false 2 (pOp bf (pOp cj (ah 2) (pOp gq (ao 10) (ao 6))) (ay aG (af (ah 0) (af (pOp gq (ao 10) (ao 6)) ak)))))
noncomputable def g9 : PSt :=
 (aE (bh false 2 (ao 0))
  (aE (l9 (lF (af (ao 6) ak)) (gtN 3) (gF))
  (aP (pOp dR (pOp cM (ah 2) (pOp bf (pOp cj (ao 2) (ah 1)) (ao 1))) (ah 1)))))
noncomputable def bA : PFn := fnP [true, false] 4 g9
theorem pC : bA.ms = [true, false] := rfl
theorem m9 (T : Txt K mg a_RoomError a_NoFraction a_NoBox a_NoWay a_NoWeights a_TooMany a_NoText) (D : Def K mg "_law_great" ip) (c_law_next : Callee P w K mg base "_law_next" 1 ["_law_feed_here", "_law_many"] (spD K mg 2 aG.F)) : Callee P w K mg base "_law_great" (1 + 1) ["_law_feed_here", "_law_far"] (spD K mg 2 bA.F) := by
 unfold bA g9 gF
 exact okP D eG (fun _ _ _ _ _ _ => ar2 fun _ _ => rfl) fun f cdv A outer s H E hr =>
  (ar (aM (i := 2) eG.nd rfl (by first | exact Or.inl rfl | exact Or.inr rfl) ai)
   (ar (kW lU rfl (jD rfl T.n_range (aa ai aj)) (aU (i := 3) eG.nd rfl (by first | exact Or.inl rfl | exact Or.inr rfl)) (aw (aM (i := 2) eG.nd rfl (by first | exact Or.inl rfl | exact Or.inr rfl) (aB (ba (K := K) rfl) a9 (aB bR bP (ag 2) (aB jB jE ai ai)) (au c_law_next (hr.mono (by omega)) rfl (aq aC) (aa (ag 0) (aa (aB jB jE ai ai) aj)))))))
   (aw (aF (aB cF cE (aB c7 dX (ag 2) (aB (ba (K := K) rfl) a9 (aB bR bP ai (ag 1)) ai)) (ag 1))))))
noncomputable def f6 : PSt :=
 (aE (bh false 1 (ay aG (af (ah 0) (af (ao 6) ak))))
  (aE (fY 2 3 (af (bc (af (pOp dR (ay aG (af (ah 0) (af (ao 19) ak))) (ao 9)) (af (ao 1) ak))) (af (bc (af (pOp dR (ay aG (af (ah 0) (af (ao 19) ak))) (ao 9)) (af (ao 1) ak))) ak)))
  (aE (fY 4 5 (af (bc (af (pOp bf (ao 1) (ay aG (af (ah 0) (af (ao 12) ak)))) (af (ao 1) ak))) (af (bc (af (pOp bf (ao 1) (ay aG (af (ah 0) (af (ao 12) ak)))) (af (ao 1) ak))) ak)))
  (aE (xIf (qOf (pOp bEq (ah 1) (ao 1))) (bh false 5 (ah 4)) xNx)
  (aE (xIf (qOf (pOp bEq (ah 1) (ao 2))) (bh false 4 (bc (af (pOp bf (ao 1) (ay aG (af (ah 0) (af (ao 99) ak)))) (af (ao 1) ak)))) xNx)
  (aE (xIf (qOf (pOp bEq (ah 1) (ao 3))) (bh false 5 (bc (af (pOp bf (ao 1) (ay aG (af (ah 0) (af (ao 99) ak)))) (af (ao 1) ak)))) xNx)
  (aE (xIf (qOf (pOp bEq (ah 1) (ao 4))) (aE (fY 2 3 (af (ay bz (af (pOp dR (ay aG (af (ah 0) (af (ao 199) ak))) (ao 99)) (af (pOp bf (ao 1) (ay aG (af (ah 0) (af (ao 30) ak)))) ak))) (af (ay bz (af (ay aG (af (ah 0) (af (ao 9) ak))) (af (ao 7) ak))) ak)))
  (fY 4 5 (af (ay bz (af (pOp bf (ao 1) (ay aG (af (ah 0) (af (ao 99) ak)))) (af (pOp bf (ao 1) (ay aG (af (ah 0) (af (ao 30) ak)))) ak))) (af (ay bz (af (pOp bf (ao 1) (ay aG (af (ah 0) (af (ao 99) ak)))) (af (ao 11) ak))) ak)))) xNx)
  (aE (xIf (qOf (pOp bEq (ah 1) (ao 5))) (aE (bh false 6 (pOp dR (pOp gq (ao 10) (ao 30)) (ao 1)))
  (aE (fY 2 3 (af (ay bz (af (ay bA (af (ah 0) (af (ah 6) ak))) (af (pOp bf (ao 1) (pFn eO (af (ay bA (af (ah 0) (af (pOp dR (ah 6) (ao 1)) ak))) ak))) ak))) (af (bc (af (ay bA (af (ah 0) (af (ah 6) ak))) (af (ao 1) ak))) ak)))
  (fY 4 5 (af (bc (af (pOp bf (ao 1) (pFn eO (af (ay bA (af (ah 0) (af (pOp dR (ah 6) (ao 1)) ak))) ak))) (af (ao 1) ak))) (af (ay bz (af (pOp bf (ao 1) (pFn eO (af (ay bA (af (ah 0) (af (pOp dR (ah 6) (ao 1)) ak))) ak))) (af (ah 6) ak))) ak))))) xNx)
  (aP (bc (af (ah 2) (af (ah 3) (af (ah 4) (af (ah 5) ak))))))))))))))
noncomputable def cX : PFn := fnP [true] 7 f6
theorem pL : cX.ms = [true] := rfl
theorem pf (T : Txt K mg a_RoomError a_NoFraction a_NoBox a_NoWay a_NoWeights a_TooMany a_NoText) (D : Def K mg "_law_room" iS) (c_law_next : Callee P w K mg base "_law_next" 1 ["_law_feed_here", "_law_many"] (spD K mg 2 aG.F)) (c_law_low : Callee P w K mg base "_law_low" 1 ["_law_top", "_law_bottom"] (spD K mg 2 bz.F)) (c_law_great : Callee P w K mg base "_law_great" 2 ["_law_feed_here", "_law_far"] (spD K mg 2 bA.F)) : Callee P w K mg base "_law_room" (2 + 1) ["_law_feed_here"] (spD K mg 1 cX.F) := by
 unfold cX f6
 exact okP D br (fun _ _ _ _ _ _ => ar1 fun _ => rfl) fun f cdv A outer s H E hr =>
  (ar (aM (i := 1) br.nd rfl (by first | exact Or.inl rfl | exact Or.inr rfl) (au c_law_next (hr.mono (by omega)) rfl (aq aC) (aa (ag 0) (aa ai aj))))
   (ar (dW (i := 2) (j := 3) rfl br.nd rfl rfl (by decide) rfl rfl (aa (aL (aa (aB cF cE (au c_law_next (hr.mono (by omega)) rfl (aq aC) (aa (ag 0) (aa ai aj))) ai) (aa ai aj))) (aa (aL (aa (aB cF cE (au c_law_next (hr.mono (by omega)) rfl (aq aC) (aa (ag 0) (aa ai aj))) ai) (aa ai aj))) aj)) rfl)
   (ar (dW (i := 4) (j := 5) rfl br.nd rfl rfl (by decide) rfl rfl (aa (aL (aa (aB (ba (K := K) rfl) a9 ai (au c_law_next (hr.mono (by omega)) rfl (aq aC) (aa (ag 0) (aa ai aj)))) (aa ai aj))) (aa (aL (aa (aB (ba (K := K) rfl) a9 ai (au c_law_next (hr.mono (by omega)) rfl (aq aC) (aa (ag 0) (aa ai aj)))) (aa ai aj))) aj)) rfl)
   (ar (aX (aW (dq (K := K) rfl hr.units) cD (ag 1) ai (aK _)) (aw (aM (i := 5) br.nd rfl (by first | exact Or.inl rfl | exact Or.inr rfl) (ag 4))) aJ)
   (ar (aX (aW (dq (K := K) rfl hr.units) cD (ag 1) ai (aK _)) (aw (aM (i := 4) br.nd rfl (by first | exact Or.inl rfl | exact Or.inr rfl) (aL (aa (aB (ba (K := K) rfl) a9 ai (au c_law_next (hr.mono (by omega)) rfl (aq aC) (aa (ag 0) (aa ai aj)))) (aa ai aj))))) aJ)
   (ar (aX (aW (dq (K := K) rfl hr.units) cD (ag 1) ai (aK _)) (aw (aM (i := 5) br.nd rfl (by first | exact Or.inl rfl | exact Or.inr rfl) (aL (aa (aB (ba (K := K) rfl) a9 ai (au c_law_next (hr.mono (by omega)) rfl (aq aC) (aa (ag 0) (aa ai aj)))) (aa ai aj))))) aJ)
   (ar (aX (aW (dq (K := K) rfl hr.units) cD (ag 1) ai (aK _)) (ar (dW (i := 2) (j := 3) rfl br.nd rfl rfl (by decide) rfl rfl (aa (au c_law_low (hr.mono (by omega)) rfl (aq aC) (aa (aB cF cE (au c_law_next (hr.mono (by omega)) rfl (aq aC) (aa (ag 0) (aa ai aj))) ai) (aa (aB (ba (K := K) rfl) a9 ai (au c_law_next (hr.mono (by omega)) rfl (aq aC) (aa (ag 0) (aa ai aj)))) aj))) (aa (au c_law_low (hr.mono (by omega)) rfl (aq aC) (aa (au c_law_next (hr.mono (by omega)) rfl (aq aC) (aa (ag 0) (aa ai aj))) (aa ai aj))) aj)) rfl)
   (aw (dW (i := 4) (j := 5) rfl br.nd rfl rfl (by decide) rfl rfl (aa (au c_law_low (hr.mono (by omega)) rfl (aq aC) (aa (aB (ba (K := K) rfl) a9 ai (au c_law_next (hr.mono (by omega)) rfl (aq aC) (aa (ag 0) (aa ai aj)))) (aa (aB (ba (K := K) rfl) a9 ai (au c_law_next (hr.mono (by omega)) rfl (aq aC) (aa (ag 0) (aa ai aj)))) aj))) (aa (au c_law_low (hr.mono (by omega)) rfl (aq aC) (aa (aB (ba (K := K) rfl) a9 ai (au c_law_next (hr.mono (by omega)) rfl (aq aC) (aa (ag 0) (aa ai aj)))) (aa ai aj))) aj)) rfl))) aJ)
   (ar (aX (aW (dq (K := K) rfl hr.units) cD (ag 1) ai (aK _)) (ar (aM (i := 6) br.nd rfl (by first | exact Or.inl rfl | exact Or.inr rfl) (aB cF cE (aB jB jE ai ai) ai))
   (ar (dW (i := 2) (j := 3) rfl br.nd rfl rfl (by decide) rfl rfl (aa (au c_law_low (hr.mono (by omega)) rfl (aq aC) (aa (au c_law_great (hr.mono (by omega)) rfl (aq aC) (aa (ag 0) (aa (ag 6) aj))) (aa (aB (ba (K := K) rfl) a9 ai (aD cV eD rfl T.n_abs eJ (aa (au c_law_great (hr.mono (by omega)) rfl (aq aC) (aa (ag 0) (aa (aB cF cE (ag 6) ai) aj))) aj))) aj))) (aa (aL (aa (au c_law_great (hr.mono (by omega)) rfl (aq aC) (aa (ag 0) (aa (ag 6) aj))) (aa ai aj))) aj)) rfl)
   (aw (dW (i := 4) (j := 5) rfl br.nd rfl rfl (by decide) rfl rfl (aa (aL (aa (aB (ba (K := K) rfl) a9 ai (aD cV eD rfl T.n_abs eJ (aa (au c_law_great (hr.mono (by omega)) rfl (aq aC) (aa (ag 0) (aa (aB cF cE (ag 6) ai) aj))) aj))) (aa ai aj))) (aa (au c_law_low (hr.mono (by omega)) rfl (aq aC) (aa (aB (ba (K := K) rfl) a9 ai (aD cV eD rfl T.n_abs eJ (aa (au c_law_great (hr.mono (by omega)) rfl (aq aC) (aa (ag 0) (aa (aB cF cE (ag 6) ai) aj))) aj))) (aa (ag 6) aj))) aj)) rfl)))) aJ)
   (aw (aF (aL (aa (ag 2) (aa (ag 3) (aa (ag 4) (aa (ag 5) aj)))))))))))))))
noncomputable def ec : PSt :=
 (xIf (qO (qNo (qOf (pFn (bt kits) (af (ah 1) (af (pTy "int") ak))))) (qOf (pFn (bt kits) (af (ah 1) (af (pTy "bool") ak))))) (aP (pBl false)) xNx)
noncomputable def eP : PSt :=
 (aE (xIf (qO (qNo (qOf (pFn (bt kits) (af (ah 0) (af (pTy "tuple") ak))))) (qOf (pOp bNe (pFn dF (af (ah 0) ak)) (ao 2)))) (aP (pBl false)) xNx)
  (aE (l9 (fC (ah 0)) (gtN 1) (ec))
  (aP (ic (pOp bGt (pOp bIx (ah 0) (ao 1)) (ao 0)) (pOp bEq (ay bz (af (pOp bIx (ah 0) (ao 0)) (af (pOp bIx (ah 0) (ao 1)) ak))) (ah 0))))))
noncomputable def bH : PFn := fnP [false] 2 eP
theorem kE : bH.ms = [false] := rfl
theorem j8 (T : Txt K mg a_RoomError a_NoFraction a_NoBox a_NoWay a_NoWeights a_TooMany a_NoText) (D : Def K mg "_law_is_number" eE) (c_law_low : Callee P w K mg base "_law_low" 1 ["_law_top", "_law_bottom"] (spD K mg 2 bz.F)) : Callee P w K mg base "_law_is_number" (1 + 1) ["_law_thing"] (spD K mg 1 bH.F) := by
 unfold bH eP ec
 exact okP D gM (fun _ _ _ _ _ _ => ar1 fun _ => rfl) fun f cdv A outer s H E hr =>
  (ar (aX (ZW.dt (fv (bL (bB (aD (cL (K := K) rfl) (bZ T.kits) rfl T.n_isinstance aN (aa (ag 0) (aa (dc rfl T.n_tuple eW) aj))))) (eN (aW (kP (K := K) rfl hr.units) jb (aD (eQ (K := K) rfl) dD rfl T.n_len dC (aa (ag 0) aj)) ai (aK _))))) (aw (aF cG)) aJ)
   (ar (kW lU rfl (fL rfl (ag 0)) (aU (i := 1) gM.nd rfl (by first | exact Or.inl rfl | exact Or.inr rfl)) (aw (aX (ZW.dt (fv (bL (bB (aD (cL (K := K) rfl) (bZ T.kits) rfl T.n_isinstance aN (aa (ag 1) (aa (dc rfl T.n_int oQ) aj))))) (eN (bB (aD (cL (K := K) rfl) (bZ T.kits) rfl T.n_isinstance aN (aa (ag 1) (aa (dc rfl T.n_bool jV) aj))))))) (aw (aF cG)) aJ)))
   (aw (aF (fH (dB gU gW (az (ixK (K := K) rfl) aA (ag 0) ai (fun _ _ => rfl)) ai (aK _)) (fJ (dB (dq (K := K) rfl hr.units) cD (au c_law_low (hr.mono (by omega)) rfl (aq aC) (aa (az (ixK (K := K) rfl) aA (ag 0) ai (fun _ _ => rfl)) (aa (az (ixK (K := K) rfl) aA (ag 0) ai (fun _ _ => rfl)) aj))) (ag 0) (aK _))))))))
noncomputable def gH : PSt :=
 (aE (xIf (qO (qNo (qOf (pFn (bt kits) (af (ah 0) (af (pTy "tuple") ak))))) (qO (qOf (pOp bNe (pFn dF (af (ah 0) ak)) (ao 4))) (qNo (qOf (pFn jL (af (pLC (fC (ah 0)) [none] (by decide) (gtN 0) qY (ay bH (af (ah 0) ak))) ak)))))) (aP (pBl false)) xNx)
  (aP (ic (pOp bGt (pOp bIx (pOp bIx (ah 0) (ao 2)) (ao 0)) (ao 0)) (pOp bGt (pOp bIx (pOp bIx (ah 0) (ao 3)) (ao 0)) (ao 0)))))
noncomputable def bQ : PFn := fnP [false] 1 gH
theorem nt : bQ.ms = [false] := rfl
theorem l7 (T : Txt K mg a_RoomError a_NoFraction a_NoBox a_NoWay a_NoWeights a_TooMany a_NoText) (D : Def K mg "_law_is_box" eA) (c_law_is_number : Callee P w K mg base "_law_is_number" 2 ["_law_thing"] (spD K mg 1 bH.F)) : Callee P w K mg base "_law_is_box" (2 + 1) ["_law_thing"] (spD K mg 1 bQ.F) := by
 unfold bQ gH
 exact okP D ng (fun _ _ _ _ _ _ => ar1 fun _ => rfl) fun f cdv A outer s H E hr =>
  (ar (aX (ZW.dt (fv (bL (bB (aD (cL (K := K) rfl) (bZ T.kits) rfl T.n_isinstance aN (aa (ag 0) (aa (dc rfl T.n_tuple eW) aj))))) (fv (aW (kP (K := K) rfl hr.units) jb (aD (eQ (K := K) rfl) dD rfl T.n_len dC (aa (ag 0) aj)) ai (aK _)) (eN (bL (bB (aD (rQ (K := K) rfl rfl) kY rfl T.n_all lM (aa (iX ["_law_thing"] (ax eA).names ["_law_one"] [none] rfl (fL rfl (ag 0)) (fun _ _ _ _ _ => (aU (i := 0) (show List.Nodup (["_law_one"] : List Str) from by decide +kernel) rfl (by first | exact Or.inl rfl | exact Or.inr rfl))) (fun _ _ _ _ _ => (au c_law_is_number (hr.mono (by omega)) rfl iJ (aa (ag 0) aj)))) aj)))))))) (aw (aF cG)) aJ)
   (aw (aF (fH (dB gU gW (az (ixK (K := K) rfl) aA (az (ixK (K := K) rfl) aA (ag 0) ai (fun _ _ => rfl)) ai (fun _ _ => rfl)) ai (aK _)) (fJ (dB gU gW (az (ixK (K := K) rfl) aA (az (ixK (K := K) rfl) aA (ag 0) ai (fun _ _ => rfl)) ai (fun _ _ => rfl)) ai (aK _)))))))
noncomputable def jj : PSt :=
 (aP (ic (pFn (bt kits) (af (ah 0) (af (pTy "int") ak))) (rq (pFn (bt kits) (af (ah 0) (af (pTy "bool") ak))))))
noncomputable def bE : PFn := fnP [false] 1 jj
theorem pP : bE.ms = [false] := rfl
theorem oF (T : Txt K mg a_RoomError a_NoFraction a_NoBox a_NoWay a_NoWeights a_TooMany a_NoText) (D : Def K mg "is_whole" jc)  : Callee P w K mg base "is_whole" (0 + 1) ["thing"] (spD K mg 1 bE.F) := by
 unfold bE jj
 exact okP D pG (fun _ _ _ _ _ _ => ar1 fun _ => rfl) fun f cdv A outer s H E hr =>
  (aw (aF (fH (aD (cL (K := K) rfl) (bZ T.kits) rfl T.n_isinstance aN (aa (ag 0) (aa (dc rfl T.n_int oQ) aj))) (fJ (tQ (aD (cL (K := K) rfl) (bZ T.kits) rfl T.n_isinstance aN (aa (ag 0) (aa (dc rfl T.n_bool jV) aj))))))))
noncomputable def b0 : PSt :=
 (fY 0 1 (af (ah 1) (af (pOp cM (ah 0) (ah 1)) ak)))
noncomputable def et : PSt :=
 (aE (fY 0 1 (af (pFn eO (af (ah 0) ak)) (af (pFn eO (af (ah 1) ak)) ak)))
  (aE (xWh (qOf (pOp bNe (ah 1) (ao 0))) (b0))
  (aP (ah 0))))
noncomputable def bg : PFn := fnP [false, false] 2 et
theorem j7 : bg.ms = [false, false] := rfl
theorem jy (T : Txt K mg a_RoomError a_NoFraction a_NoBox a_NoWay a_NoWeights a_TooMany a_NoText) (D : Def K mg "common_divisor" ek)  : Callee P w K mg base "common_divisor" (0 + 1) ["one", "other"] (spD K mg 2 bg.F) := by
 unfold bg et b0
 exact okP D dQ (fun _ _ _ _ _ _ => ar2 fun _ _ => rfl) fun f cdv A outer s H E hr =>
  (ar (dW (i := 0) (j := 1) rfl dQ.nd rfl rfl (by decide) rfl rfl (aa (aD cV eD rfl T.n_abs eJ (aa (ag 0) aj)) (aa (aD cV eD rfl T.n_abs eJ (aa (ag 1) aj)) aj)) rfl)
   (ar (o7 lU (aW (kP (K := K) rfl hr.units) jb (ag 1) ai (aK _)) (aw (dW (i := 0) (j := 1) rfl dQ.nd rfl rfl (by decide) rfl rfl (aa (ag 1) (aa (aB c7 dX (ag 0) (ag 1)) aj)) rfl)))
   (aw (aF (ag 0)))))
noncomputable def fX : PSt :=
 (aE (xIf (qO (qNo (qOf (pFn (bt kits) (af (ah 0) (af (pTy "tuple") ak))))) (qOf (pOp bNe (pFn dF (af (ah 0) ak)) (ao 2)))) (aP (pBl false)) xNx)
  (aE (jN (ah 0) (gtX (gtT 2 (da (gtN 1) (da (gtN 2) jG)))))
  (aE (xIf (qO (qNo (qOf (ay bE (af (ah 1) ak)))) (qNo (qOf (ay bE (af (ah 2) ak))))) (aP (pBl false)) xNx)
  (aP (ic (pOp bGe (ah 2) (ao 1)) (pOp bEq (ay bg (af (ah 1) (af (ah 2) ak))) (ao 1)))))))
noncomputable def bJ : PFn := fnP [false] 3 fX
theorem lO : bJ.ms = [false] := rfl
theorem lE (T : Txt K mg a_RoomError a_NoFraction a_NoBox a_NoWay a_NoWeights a_TooMany a_NoText) (D : Def K mg "is_fraction" fU) (c_is_whole : Callee P w K mg base "is_whole" 1 ["thing"] (spD K mg 1 bE.F)) (c_common_divisor : Callee P w K mg base "common_divisor" 1 ["one", "other"] (spD K mg 2 bg.F)) : Callee P w K mg base "is_fraction" (1 + 1) ["thing"] (spD K mg 1 bJ.F) := by
 unfold bJ fX
 exact okP D eS (fun _ _ _ _ _ _ => ar1 fun _ => rfl) fun f cdv A outer s H E hr =>
  (ar (aX (ZW.dt (fv (bL (bB (aD (cL (K := K) rfl) (bZ T.kits) rfl T.n_isinstance aN (aa (ag 0) (aa (dc rfl T.n_tuple eW) aj))))) (eN (aW (kP (K := K) rfl hr.units) jb (aD (eQ (K := K) rfl) dD rfl T.n_len dC (aa (ag 0) aj)) ai (aK _))))) (aw (aF cG)) aJ)
   (ar (jW (ag 0) (ZG.weak (ir rfl rfl (bw (aU (i := 1) eS.nd rfl (by first | exact Or.inl rfl | exact Or.inr rfl)) (bw (aU (i := 2) eS.nd rfl (by first | exact Or.inl rfl | exact Or.inr rfl)) gk)))))
   (ar (aX (ZW.dt (fv (bL (bB (au c_is_whole (hr.mono (by omega)) rfl (aq aC) (aa (ag 1) aj)))) (eN (bL (bB (au c_is_whole (hr.mono (by omega)) rfl (aq aC) (aa (ag 2) aj))))))) (aw (aF cG)) aJ)
   (aw (aF (fH (dB rH sk (ag 2) ai (aK _)) (fJ (dB (dq (K := K) rfl hr.units) cD (au c_common_divisor (hr.mono (by omega)) rfl (aq aC) (aa (ag 1) (aa (ag 2) aj))) ai (aK _)))))))))
noncomputable def kz : PSt :=
 (aE (xIf (qO (qNo (qOf (pFn (bt kits) (af (ah 0) (af (pTy "tuple") ak))))) (qOf (pOp bNe (pFn dF (af (ah 0) ak)) (ao 4)))) (aP (pBl false)) xNx)
  (aE (xIf (qNo (qOf (pFn jL (af (pLC (fC (ah 0)) [none] (by decide) (gtN 0) qY (ay bJ (af (ah 0) ak))) ak)))) (aP (pBl false)) xNx)
  (aP (ic (pOp bGt (pOp bIx (pOp bIx (ah 0) (ao 2)) (ao 0)) (ao 0)) (pOp bGt (pOp bIx (pOp bIx (ah 0) (ao 3)) (ao 0)) (ao 0))))))
noncomputable def cJ : PFn := fnP [false] 1 kz
theorem ur : cJ.ms = [false] := rfl
theorem rZ (T : Txt K mg a_RoomError a_NoFraction a_NoBox a_NoWay a_NoWeights a_TooMany a_NoText) (D : Def K mg "is_box" iG) (c_is_fraction : Callee P w K mg base "is_fraction" 2 ["thing"] (spD K mg 1 bJ.F)) : Callee P w K mg base "is_box" (2 + 1) ["thing"] (spD K mg 1 cJ.F) := by
 unfold cJ kz
 exact okP D sT (fun _ _ _ _ _ _ => ar1 fun _ => rfl) fun f cdv A outer s H E hr =>
  (ar (aX (ZW.dt (fv (bL (bB (aD (cL (K := K) rfl) (bZ T.kits) rfl T.n_isinstance aN (aa (ag 0) (aa (dc rfl T.n_tuple eW) aj))))) (eN (aW (kP (K := K) rfl hr.units) jb (aD (eQ (K := K) rfl) dD rfl T.n_len dC (aa (ag 0) aj)) ai (aK _))))) (aw (aF cG)) aJ)
   (ar (aX (bL (bB (aD (rQ (K := K) rfl rfl) kY rfl T.n_all lM (aa (iX ["thing"] (ax iG).names ["part"] [none] rfl (fL rfl (ag 0)) (fun _ _ _ _ _ => (aU (i := 0) (show List.Nodup (["part"] : List Str) from by decide +kernel) rfl (by first | exact Or.inl rfl | exact Or.inr rfl))) (fun _ _ _ _ _ => (au c_is_fraction (hr.mono (by omega)) rfl iJ (aa (ag 0) aj)))) aj)))) (aw (aF cG)) aJ)
   (aw (aF (fH (dB gU gW (az (ixK (K := K) rfl) aA (az (ixK (K := K) rfl) aA (ag 0) ai (fun _ _ => rfl)) ai (fun _ _ => rfl)) ai (aK _)) (fJ (dB gU gW (az (ixK (K := K) rfl) aA (az (ixK (K := K) rfl) aA (ag 0) ai (fun _ _ => rfl)) ai (fun _ _ => rfl)) ai (aK _))))))))
noncomputable def h9 : PSt :=
 (xIf (qNo (qOf (ay cJ (af (ah 0) ak)))) (fE "NoBox" (af (dw "this is no box") ak)) xNx)
noncomputable def a7 : PFn := fnP [false] 1 h9
theorem oI : a7.ms = [false] := rfl
theorem nq (T : Txt K mg a_RoomError a_NoFraction a_NoBox a_NoWay a_NoWeights a_TooMany a_NoText) (D : Def K mg "check_box" ik) (c_is_box : Callee P w K mg base "is_box" 3 ["thing"] (spD K mg 1 cJ.F)) : Callee P w K mg base "check_box" (3 + 1) ["thing"] (spD K mg 1 a7.F) := by
 unfold a7 h9
 exact okP D oT (fun _ _ _ _ _ _ => ar1 fun _ => rfl) fun f cdv A outer s H E hr =>
  (aw (aX (bL (bB (au c_is_box (hr.mono (by omega)) rfl (aq aC) (aa (ag 0) aj)))) (aw (eU rfl rz1 rfl T.m_NoBox T.x_NoBox (aa cw aj))) aJ))
noncomputable def n9 : PSt :=
 (aP (ic (pFn (bt kits) (af (ah 0) (af (pTy "str") ak))) (pOp bIn (ah 0) qe)))
noncomputable def iT : PFn := fnP [false] 1 n9
theorem sm (T : Txt K mg a_RoomError a_NoFraction a_NoBox a_NoWay a_NoWeights a_TooMany a_NoText) (D : Def K mg "is_way" kD)  : Callee P w K mg base "is_way" (0 + 1) ["thing"] (spD K mg 1 iT.F) := by
 unfold iT n9 qe
 exact okP D uf (fun _ _ _ _ _ _ => ar1 fun _ => rfl) fun f cdv A outer s H E hr =>
  (aw (aF (fH (aD (cL (K := K) rfl) (bZ T.kits) rfl T.n_isinstance aN (aa (ag 0) (aa (dc rfl T.n_str zw) aj))) (fJ (dB (inK (K := K) rfl) D3 (ag 0) (wV rfl T.g_WAYS) (by with_unfolding_all rfl))))))
noncomputable def ke : PSt :=
 (xIf (qNo (qOf (ay iT (af (ah 0) ak)))) (fE "NoWay" (af (dw "this is no way") ak)) xNx)
noncomputable def fA : PFn := fnP [false] 1 ke
theorem ni (T : Txt K mg a_RoomError a_NoFraction a_NoBox a_NoWay a_NoWeights a_TooMany a_NoText) (D : Def K mg "check_way" ig) (c_is_way : Callee P w K mg base "is_way" 1 ["thing"] (spD K mg 1 iT.F)) : Callee P w K mg base "check_way" (1 + 1) ["way"] (spD K mg 1 fA.F) := by
 unfold fA ke
 exact okP D pb (fun _ _ _ _ _ _ => ar1 fun _ => rfl) fun f cdv A outer s H E hr =>
  (aw (aX (bL (bB (au c_is_way (hr.mono (by omega)) rfl (aq aC) (aa (ag 0) aj)))) (aw (eU rfl rz1 rfl T.m_NoWay T.x_NoWay (aa cw aj))) aJ))
noncomputable def kc : PSt :=
 (aP (ic (ay bE (af (ah 0) ak)) (pOp bGe (ah 0) (ao 1))))
noncomputable def fD : PFn := fnP [false] 1 kc
theorem nj (T : Txt K mg a_RoomError a_NoFraction a_NoBox a_NoWay a_NoWeights a_TooMany a_NoText) (D : Def K mg "is_weight" ij) (c_is_whole : Callee P w K mg base "is_whole" 1 ["thing"] (spD K mg 1 bE.F)) : Callee P w K mg base "is_weight" (1 + 1) ["thing"] (spD K mg 1 fD.F) := by
 unfold fD kc
 exact okP D og (fun _ _ _ _ _ _ => ar1 fun _ => rfl) fun f cdv A outer s H E hr =>
  (aw (aF (fH (au c_is_whole (hr.mono (by omega)) rfl (aq aC) (aa (ag 0) aj)) (fJ (dB rH sk (ag 0) ai (aK _))))))
noncomputable def g6 : PSt :=
 (aE (xIf (qO (qNo (qOf (pFn (bt kits) (af (ah 0) (af (pTy "list") ak))))) (qOf (pOp bEq (pFn dF (af (ah 0) ak)) (ao 0)))) (fE "NoWeights" (af (dw "this is no list of weights") ak)) xNx)
  (aE (xIf (qNo (qOf (pFn jL (af (pLC (fC (ah 0)) [none] (by decide) (gtN 0) qY (ay fD (af (ah 0) ak))) ak)))) (fE "NoWeights" (af (dw "a weight is a whole number from 1 on") ak)) xNx)
  (xIf (qOf (pOp bGt (pFn dF (af (ah 0) ak)) gY)) (fE "TooMany" (af (dw "these are more weights than forty") ak)) xNx)))
noncomputable def df : PFn := fnP [false] 1 g6
theorem j9 (T : Txt K mg a_RoomError a_NoFraction a_NoBox a_NoWay a_NoWeights a_TooMany a_NoText) (D : Def K mg "check_weights" dh) (c_is_weight : Callee P w K mg base "is_weight" 2 ["thing"] (spD K mg 1 fD.F)) : Callee P w K mg base "check_weights" (2 + 1) ["thing"] (spD K mg 1 df.F) := by
 unfold df g6 gY
 exact okP D kI (fun _ _ _ _ _ _ => ar1 fun _ => rfl) fun f cdv A outer s H E hr =>
  (ar (aX (ZW.dt (fv (bL (bB (aD (cL (K := K) rfl) (bZ T.kits) rfl T.n_isinstance aN (aa (ag 0) (aa (dc rfl T.n_list qr) aj))))) (eN (aW (dq (K := K) rfl hr.units) cD (aD (eQ (K := K) rfl) dD rfl T.n_len dC (aa (ag 0) aj)) ai (aK _))))) (aw (eU rfl rz1 rfl T.m_NoWeights T.x_NoWeights (aa cw aj))) aJ)
   (ar (aX (bL (bB (aD (rQ (K := K) rfl rfl) kY rfl T.n_all lM (aa (iX ["thing"] (ax dh).names ["weight"] [none] rfl (fL rfl (ag 0)) (fun _ _ _ _ _ => (aU (i := 0) (show List.Nodup (["weight"] : List Str) from by decide +kernel) rfl (by first | exact Or.inl rfl | exact Or.inr rfl))) (fun _ _ _ _ _ => (au c_is_weight (hr.mono (by omega)) rfl iJ (aa (ag 0) aj)))) aj)))) (aw (eU rfl rz1 rfl T.m_NoWeights T.x_NoWeights (aa cw aj))) aJ)
   (aw (aX (aW gU gW (aD (eQ (K := K) rfl) dD rfl T.n_len dC (aa (ag 0) aj)) (wV rfl T.g_MOST_WEIGHTS) (aK _)) (aw (eU rfl rz1 rfl T.m_TooMany T.x_TooMany (aa cw aj))) aJ))))
noncomputable def lu : PSt :=
 (aE (xIf (qOf (pOp bEq (ah 1) (ao 0))) (fE "NoFraction" (af (dw "a fraction has no bottom of 0") ak)) xNx)
  (aE (bh false 2 (ay bg (af (ah 0) (af (ah 1) ak))))
  (aE (xIf (qOf (pOp bLt (ah 1) (ao 0))) (bh false 2 (pUn vZ (ah 2))) xNx)
  (aP (bc (af (pOp kq (ah 0) (ah 2)) (af (pOp kq (ah 1) (ah 2)) ak)))))))
noncomputable def bI : PFn := fnP [false, false] 3 lu
theorem oR (T : Txt K mg a_RoomError a_NoFraction a_NoBox a_NoWay a_NoWeights a_TooMany a_NoText) (D : Def K mg "fraction" iC) (c_common_divisor : Callee P w K mg base "common_divisor" 1 ["one", "other"] (spD K mg 2 bg.F)) : Callee P w K mg base "fraction" (1 + 1) ["top", "bottom"] (spD K mg 2 bI.F) := by
 unfold bI lu
 exact okP D g7 (fun _ _ _ _ _ _ => ar2 fun _ _ => rfl) fun f cdv A outer s H E hr =>
  (ar (aX (aW (dq (K := K) rfl hr.units) cD (ag 1) ai (aK _)) (aw (eU rfl rz1 rfl T.m_NoFraction T.x_NoFraction (aa cw aj))) aJ)
   (ar (aM (i := 2) g7.nd rfl (by first | exact Or.inl rfl | exact Or.inr rfl) (au c_common_divisor (hr.mono (by omega)) rfl (aq aC) (aa (ag 0) (aa (ag 1) aj))))
   (ar (aX (aW nz nQ (ag 1) ai (aK _)) (aw (aM (i := 2) g7.nd rfl (by first | exact Or.inl rfl | exact Or.inr rfl) (C7 Ar zq (ag 2)))) aJ)
   (aw (aF (aL (aa (aB gD jt (ag 0) (ag 2)) (aa (aB gD jt (ag 1) (ag 2)) aj))))))))
noncomputable def qa : PSt :=
 (aP (ay bI (af (pOp bf (pOp cj (pOp bIx (ah 0) (ao 0)) (pOp bIx (ah 1) (ao 1))) (pOp cj (pOp bIx (ah 1) (ao 0)) (pOp bIx (ah 0) (ao 1)))) (af (pOp cj (pOp bIx (ah 0) (ao 1)) (pOp bIx (ah 1) (ao 1))) ak))))
noncomputable def j3 : PFn := fnP [false, false] 2 qa
theorem uu (T : Txt K mg a_RoomError a_NoFraction a_NoBox a_NoWay a_NoWeights a_TooMany a_NoText) (D : Def K mg "added" me) (c_fraction : Callee P w K mg base "fraction" 2 ["top", "bottom"] (spD K mg 2 bI.F)) : Callee P w K mg base "added" (2 + 1) ["one", "other"] (spD K mg 2 j3.F) := by
 unfold j3 qa
 exact okP D wc (fun _ _ _ _ _ _ => ar2 fun _ _ => rfl) fun f cdv A outer s H E hr =>
  (aw (aF (au c_fraction (hr.mono (by omega)) rfl (aq aC) (aa (aB (ba (K := K) rfl) a9 (aB bR bP (az (ixK (K := K) rfl) aA (ag 0) ai (fun _ _ => rfl)) (az (ixK (K := K) rfl) aA (ag 1) ai (fun _ _ => rfl))) (aB bR bP (az (ixK (K := K) rfl) aA (ag 1) ai (fun _ _ => rfl)) (az (ixK (K := K) rfl) aA (ag 0) ai (fun _ _ => rfl)))) (aa (aB bR bP (az (ixK (K := K) rfl) aA (ag 0) ai (fun _ _ => rfl)) (az (ixK (K := K) rfl) aA (ag 1) ai (fun _ _ => rfl))) aj)))))
noncomputable def qt : PSt :=
 (aP (ay bI (af (pOp cj (pOp bIx (ah 0) (ao 0)) (pOp bIx (ah 1) (ao 0))) (af (pOp cj (pOp bIx (ah 0) (ao 1)) (pOp bIx (ah 1) (ao 1))) ak))))
noncomputable def fi : PFn := fnP [false, false] 2 qt
theorem ud (T : Txt K mg a_RoomError a_NoFraction a_NoBox a_NoWay a_NoWeights a_TooMany a_NoText) (D : Def K mg "times" lY) (c_fraction : Callee P w K mg base "fraction" 2 ["top", "bottom"] (spD K mg 2 bI.F)) : Callee P w K mg base "times" (2 + 1) ["one", "other"] (spD K mg 2 fi.F) := by
 unfold fi qt
 exact okP D uv (fun _ _ _ _ _ _ => ar2 fun _ _ => rfl) fun f cdv A outer s H E hr =>
  (aw (aF (au c_fraction (hr.mono (by omega)) rfl (aq aC) (aa (aB bR bP (az (ixK (K := K) rfl) aA (ag 0) ai (fun _ _ => rfl)) (az (ixK (K := K) rfl) aA (ag 1) ai (fun _ _ => rfl))) (aa (aB bR bP (az (ixK (K := K) rfl) aA (ag 0) ai (fun _ _ => rfl)) (az (ixK (K := K) rfl) aA (ag 1) ai (fun _ _ => rfl))) aj)))))
noncomputable def mU : PSt :=
 (aE (bh false 7 (ay j3 (af (ah 0) (af (ay fi (af (ah 1) (af (ay bI (af (ah 4) (af (ah 3) ak))) ak))) ak))))
  (aE (dY (pMut 5 o8 (af (bc (af (ah 7) (af (ay fi (af (ah 1) (af (ay bI (af (ah 6) (af (ah 3) ak))) ak))) ak))) ak)))
  (xAug 4 bAug (ah 6))))
noncomputable def nW : PSt :=
 (aE (bh false 3 (pFn wM (af (ah 2) ak)))
  (aE (bh false 4 (ao 0))
  (aE (bh true 5 (en ak))
  (aE (l9 (fC (ah 2)) (gtN 6) (mU))
  (aP (ah 5))))))
noncomputable def gp : PFn := fnP [false, false, false] 8 nW
theorem rF (T : Txt K mg a_RoomError a_NoFraction a_NoBox a_NoWay a_NoWeights a_TooMany a_NoText) (D : Def K mg "shares" kK) (c_added : Callee P w K mg base "added" 3 ["one", "other"] (spD K mg 2 j3.F)) (c_times : Callee P w K mg base "times" 3 ["one", "other"] (spD K mg 2 fi.F)) (c_fraction : Callee P w K mg base "fraction" 2 ["top", "bottom"] (spD K mg 2 bI.F)) : Callee P w K mg base "shares" (3 + 1) ["start", "length", "weights"] (spD K mg 3 gp.F) := by
 unfold gp nW mU
 exact okP D dA (fun _ _ _ _ _ _ => ar3 fun _ _ _ => rfl) fun f cdv A outer s H E hr =>
  (ar (aM (i := 3) dA.nd rfl (by first | exact Or.inl rfl | exact Or.inr rfl) (aD (uk (K := K) rfl rfl) A6 rfl T.n_sum AI (aa (ag 2) aj)))
   (ar (aM (i := 4) dA.nd rfl (by first | exact Or.inl rfl | exact Or.inr rfl) ai)
   (ar (aM (i := 5) dA.nd rfl (by first | exact Or.inl rfl | exact Or.inr rfl) (cN aj))
   (ar (kW lU rfl (fL rfl (ag 2)) (aU (i := 6) dA.nd rfl (by first | exact Or.inl rfl | exact Or.inr rfl)) (ar (aM (i := 7) dA.nd rfl (by first | exact Or.inl rfl | exact Or.inr rfl) (au c_added (hr.mono (by omega)) rfl (aq aC) (aa (ag 0) (aa (au c_times (hr.mono (by omega)) rfl (aq aC) (aa (ag 1) (aa (au c_fraction (hr.mono (by omega)) rfl (aq aC) (aa (ag 4) (aa (ag 3) aj))) aj))) aj))))
   (ar (c9 (zU rfl PySem.F.slot_list_append PySem.F.type_list_append uc sJ (ag 5) (aa (aL (aa (ag 7) (aa (au c_times (hr.mono (by omega)) rfl (aq aC) (aa (ag 1) (aa (au c_fraction (hr.mono (by omega)) rfl (aq aC) (aa (ag 6) (aa (ag 3) aj))) aj))) aj))) aj)))
   (aw (zT (i := 4) dA.nd rfl (by first | exact Or.inl rfl | exact Or.inr rfl) (ag 6) Bn zm)))))
   (aw (aF (ag 5)))))))
noncomputable def ky : PSt :=
 (aE (dY (ay a7 (af (ah 0) ak)))
  (aE (dY (ay fA (af (ah 1) ak)))
  (aE (dY (ay df (af (ah 2) ak)))
  (aE (jN (ah 0) (gtX (gtT 4 (da (gtN 3) (da (gtN 4) (da (gtN 5) (da (gtN 6) jG)))))))
  (aE (xIf (qOf (pOp bEq (ah 1) (dw "across"))) (aP (pLC (fC (ay gp (af (ah 3) (af (ah 5) (af (ah 2) ak))))) [none, none, some 4, some 6] (by decide) (gtT 2 (da (gtN 0) (da (gtN 1) jG))) qY (bc (af (ah 0) (af (ah 2) (af (ah 1) (af (ah 3) ak))))))) xNx)
  (aP (pLC (fC (ay gp (af (ah 4) (af (ah 6) (af (ah 2) ak))))) [none, none, some 3, some 5] (by decide) (gtT 2 (da (gtN 0) (da (gtN 1) jG))) qY (bc (af (ah 2) (af (ah 0) (af (ah 3) (af (ah 1) ak))))))))))))
noncomputable def d6 : PFn := fnP [false, false, false] 7 ky
theorem tJ : d6.ms = [false, false, false] := rfl
theorem r9 (T : Txt K mg a_RoomError a_NoFraction a_NoBox a_NoWay a_NoWeights a_TooMany a_NoText) (D : Def K mg "parted" gE) (c_check_box : Callee P w K mg base "check_box" 4 ["thing"] (spD K mg 1 a7.F)) (c_check_way : Callee P w K mg base "check_way" 2 ["way"] (spD K mg 1 fA.F)) (c_check_weights : Callee P w K mg base "check_weights" 3 ["thing"] (spD K mg 1 df.F)) (c_shares : Callee P w K mg base "shares" 4 ["start", "length", "weights"] (spD K mg 3 gp.F)) : Callee P w K mg base "parted" (4 + 1) ["box", "way", "weights"] (spD K mg 3 d6.F) := by
 unfold d6 ky
 exact okP D fN (fun _ _ _ _ _ _ => ar3 fun _ _ _ => rfl) fun f cdv A outer s H E hr =>
  (ar (c9 (au c_check_box (hr.mono (by omega)) rfl (aq aC) (aa (ag 0) aj)))
   (ar (c9 (au c_check_way (hr.mono (by omega)) rfl (aq aC) (aa (ag 1) aj)))
   (ar (c9 (au c_check_weights (hr.mono (by omega)) rfl (aq aC) (aa (ag 2) aj)))
   (ar (jW (ag 0) (ZG.weak (ir rfl rfl (bw (aU (i := 3) fN.nd rfl (by first | exact Or.inl rfl | exact Or.inr rfl)) (bw (aU (i := 4) fN.nd rfl (by first | exact Or.inl rfl | exact Or.inr rfl)) (bw (aU (i := 5) fN.nd rfl (by first | exact Or.inl rfl | exact Or.inr rfl)) (bw (aU (i := 6) fN.nd rfl (by first | exact Or.inl rfl | exact Or.inr rfl)) gk)))))))
   (ar (aX (aW (dq (K := K) rfl hr.units) cD (ag 1) cw (aK _)) (aw (aF (iX ["box", "way", "weights", "left", "top", "wide", "high"] (ax gE).names ["begin", "length", "top", "high"] [none, none, some 4, some 6] rfl (fL rfl (au c_shares (hr.mono (by omega)) rfl (aq aC) (aa (ag 3) (aa (ag 5) (aa (ag 2) aj))))) (fun _ _ _ _ _ => (ir rfl rfl (bw (aU (i := 0) (show List.Nodup (["begin", "length", "top", "high"] : List Str) from by decide +kernel) rfl (by first | exact Or.inl rfl | exact Or.inr rfl)) (bw (aU (i := 1) (show List.Nodup (["begin", "length", "top", "high"] : List Str) from by decide +kernel) rfl (by first | exact Or.inl rfl | exact Or.inr rfl)) gk)))) (fun _ _ _ _ _ => (aL (aa (ag 0) (aa (ag 2) (aa (ag 1) (aa (ag 3) aj))))))))) aJ)
   (aw (aF (iX ["box", "way", "weights", "left", "top", "wide", "high"] (ax gE).names ["begin", "length", "left", "wide"] [none, none, some 3, some 5] rfl (fL rfl (au c_shares (hr.mono (by omega)) rfl (aq aC) (aa (ag 4) (aa (ag 6) (aa (ag 2) aj))))) (fun _ _ _ _ _ => (ir rfl rfl (bw (aU (i := 0) (show List.Nodup (["begin", "length", "left", "wide"] : List Str) from by decide +kernel) rfl (by first | exact Or.inl rfl | exact Or.inr rfl)) (bw (aU (i := 1) (show List.Nodup (["begin", "length", "left", "wide"] : List Str) from by decide +kernel) rfl (by first | exact Or.inl rfl | exact Or.inr rfl)) gk)))) (fun _ _ _ _ _ => (aL (aa (ag 2) (aa (ag 0) (aa (ag 3) (aa (ag 1) aj))))))))))))))
noncomputable def pj : PSt :=
 (aE (dY (ay a7 (af (ah 0) ak)))
  (aP (ay fi (af (pOp bIx (ah 0) (ao 2)) (af (pOp bIx (ah 0) (ao 3)) ak)))))
noncomputable def gO : PFn := fnP [false] 1 pj
theorem yA : gO.ms = [false] := rfl
theorem vT (T : Txt K mg a_RoomError a_NoFraction a_NoBox a_NoWay a_NoWeights a_TooMany a_NoText) (D : Def K mg "area" o3) (c_check_box : Callee P w K mg base "check_box" 4 ["thing"] (spD K mg 1 a7.F)) (c_times : Callee P w K mg base "times" 3 ["one", "other"] (spD K mg 2 fi.F)) : Callee P w K mg base "area" (4 + 1) ["box"] (spD K mg 1 gO.F) := by
 unfold gO pj
 exact okP D yg (fun _ _ _ _ _ _ => ar1 fun _ => rfl) fun f cdv A outer s H E hr =>
  (ar (c9 (au c_check_box (hr.mono (by omega)) rfl (aq aC) (aa (ag 0) aj)))
   (aw (aF (au c_times (hr.mono (by omega)) rfl (aq aC) (aa (az (ixK (K := K) rfl) aA (ag 0) ai (fun _ _ => rfl)) (aa (az (ixK (K := K) rfl) aA (ag 0) ai (fun _ _ => rfl)) aj))))))
noncomputable def mT : PSt :=
 (aP (pOp bLt (pOp cj (pOp bIx (ah 0) (ao 0)) (pOp bIx (ah 1) (ao 1))) (pOp cj (pOp bIx (ah 1) (ao 0)) (pOp bIx (ah 0) (ao 1)))))
noncomputable def gQ : PFn := fnP [false, false] 2 mT
theorem pQ (T : Txt K mg a_RoomError a_NoFraction a_NoBox a_NoWay a_NoWeights a_TooMany a_NoText) (D : Def K mg "is_less" jz)  : Callee P w K mg base "is_less" (0 + 1) ["one", "other"] (spD K mg 2 gQ.F) := by
 unfold gQ mT
 exact okP D rj (fun _ _ _ _ _ _ => ar2 fun _ _ => rfl) fun f cdv A outer s H E hr =>
  (aw (aF (dB nz nQ (aB bR bP (az (ixK (K := K) rfl) aA (ag 0) ai (fun _ _ => rfl)) (az (ixK (K := K) rfl) aA (ag 1) ai (fun _ _ => rfl))) (aB bR bP (az (ixK (K := K) rfl) aA (ag 1) ai (fun _ _ => rfl)) (az (ixK (K := K) rfl) aA (ag 0) ai (fun _ _ => rfl))) (aK _))))
noncomputable def ja : PSt :=
 (aE (dY (ay a7 (af (ah 0) ak)))
  (aE (xIf (qOf (ay gQ (af (pOp bIx (ah 0) (ao 2)) (af (pOp bIx (ah 0) (ao 3)) ak)))) (aP (dw "down")) xNx)
  (aP (dw "across"))))
noncomputable def b9 : PFn := fnP [false] 1 ja
theorem pO : b9.ms = [false] := rfl
theorem oY (T : Txt K mg a_RoomError a_NoFraction a_NoBox a_NoWay a_NoWeights a_TooMany a_NoText) (D : Def K mg "long_way" iE) (c_check_box : Callee P w K mg base "check_box" 4 ["thing"] (spD K mg 1 a7.F)) (c_is_less : Callee P w K mg base "is_less" 1 ["one", "other"] (spD K mg 2 gQ.F)) : Callee P w K mg base "long_way" (4 + 1) ["box"] (spD K mg 1 b9.F) := by
 unfold b9 ja
 exact okP D pJ (fun _ _ _ _ _ _ => ar1 fun _ => rfl) fun f cdv A outer s H E hr =>
  (ar (c9 (au c_check_box (hr.mono (by omega)) rfl (aq aC) (aa (ag 0) aj)))
   (ar (aX (bB (au c_is_less (hr.mono (by omega)) rfl (aq aC) (aa (az (ixK (K := K) rfl) aA (ag 0) ai (fun _ _ => rfl)) (aa (az (ixK (K := K) rfl) aA (ag 0) ai (fun _ _ => rfl)) aj)))) (aw (aF cw)) aJ)
   (aw (aF cw))))
noncomputable def tF : PSt :=
 (aP (ay bI (af (pOp cj (pOp bIx (ah 0) (ao 0)) (pOp bIx (ah 1) (ao 1))) (af (pOp cj (pOp bIx (ah 0) (ao 1)) (pOp bIx (ah 1) (ao 0))) ak))))
noncomputable def iu : PFn := fnP [false, false] 2 tF
theorem xM : iu.ms = [false, false] := rfl
theorem uX (T : Txt K mg a_RoomError a_NoFraction a_NoBox a_NoWay a_NoWeights a_TooMany a_NoText) (D : Def K mg "over" oW) (c_fraction : Callee P w K mg base "fraction" 2 ["top", "bottom"] (spD K mg 2 bI.F)) : Callee P w K mg base "over" (2 + 1) ["one", "other"] (spD K mg 2 iu.F) := by
 unfold iu tF
 exact okP D yo (fun _ _ _ _ _ _ => ar2 fun _ _ => rfl) fun f cdv A outer s H E hr =>
  (aw (aF (au c_fraction (hr.mono (by omega)) rfl (aq aC) (aa (aB bR bP (az (ixK (K := K) rfl) aA (ag 0) ai (fun _ _ => rfl)) (az (ixK (K := K) rfl) aA (ag 1) ai (fun _ _ => rfl))) (aa (aB bR bP (az (ixK (K := K) rfl) aA (ag 0) ai (fun _ _ => rfl)) (az (ixK (K := K) rfl) aA (ag 1) ai (fun _ _ => rfl))) aj)))))
noncomputable def lZ : PSt :=
 (aE (xIf (qOf (pOp bEq (ay b9 (af (ah 0) ak)) (dw "across"))) (aP (ay iu (af (pOp bIx (ah 0) (ao 2)) (af (pOp bIx (ah 0) (ao 3)) ak)))) xNx)
  (aP (ay iu (af (pOp bIx (ah 0) (ao 3)) (af (pOp bIx (ah 0) (ao 2)) ak)))))
noncomputable def fg : PFn := fnP [false] 1 lZ
theorem vD : fg.ms = [false] := rfl
theorem sV (T : Txt K mg a_RoomError a_NoFraction a_NoBox a_NoWay a_NoWeights a_TooMany a_NoText) (D : Def K mg "shape" mL) (c_long_way : Callee P w K mg base "long_way" 5 ["box"] (spD K mg 1 b9.F)) (c_over : Callee P w K mg base "over" 3 ["one", "other"] (spD K mg 2 iu.F)) : Callee P w K mg base "shape" (5 + 1) ["box"] (spD K mg 1 fg.F) := by
 unfold fg lZ
 exact okP D vg (fun _ _ _ _ _ _ => ar1 fun _ => rfl) fun f cdv A outer s H E hr =>
  (ar (aX (aW (dq (K := K) rfl hr.units) cD (au c_long_way (hr.mono (by omega)) rfl (aq aC) (aa (ag 0) aj)) cw (aK _)) (aw (aF (au c_over (hr.mono (by omega)) rfl (aq aC) (aa (az (ixK (K := K) rfl) aA (ag 0) ai (fun _ _ => rfl)) (aa (az (ixK (K := K) rfl) aA (ag 0) ai (fun _ _ => rfl)) aj))))) aJ)
   (aw (aF (au c_over (hr.mono (by omega)) rfl (aq aC) (aa (az (ixK (K := K) rfl) aA (ag 0) ai (fun _ _ => rfl)) (aa (az (ixK (K := K) rfl) aA (ag 0) ai (fun _ _ => rfl)) aj))))))
noncomputable def kN : PSt :=
 (aE (dY (ay a7 (af (ah 0) ak)))
  (aE (jN (ah 0) (gtX (gtT 4 (da (gtN 1) (da (gtN 2) (da (gtN 3) (da (gtN 4) jG)))))))
  (aP (bc (af (ah 2) (af (ah 1) (af (ah 4) (af (ah 3) ak))))))))
noncomputable def eh : PFn := fnP [false] 5 kN
theorem t9 : eh.ms = [false] := rfl
theorem rY (T : Txt K mg a_RoomError a_NoFraction a_NoBox a_NoWay a_NoWeights a_TooMany a_NoText) (D : Def K mg "turned" kA) (c_check_box : Callee P w K mg base "check_box" 4 ["thing"] (spD K mg 1 a7.F)) : Callee P w K mg base "turned" (4 + 1) ["box"] (spD K mg 1 eh.F) := by
 unfold eh kN
 exact okP D fG (fun _ _ _ _ _ _ => ar1 fun _ => rfl) fun f cdv A outer s H E hr =>
  (ar (c9 (au c_check_box (hr.mono (by omega)) rfl (aq aC) (aa (ag 0) aj)))
   (ar (jW (ag 0) (ZG.weak (ir rfl rfl (bw (aU (i := 1) fG.nd rfl (by first | exact Or.inl rfl | exact Or.inr rfl)) (bw (aU (i := 2) fG.nd rfl (by first | exact Or.inl rfl | exact Or.inr rfl)) (bw (aU (i := 3) fG.nd rfl (by first | exact Or.inl rfl | exact Or.inr rfl)) (bw (aU (i := 4) fG.nd rfl (by first | exact Or.inl rfl | exact Or.inr rfl)) gk)))))))
   (aw (aF (aL (aa (ag 2) (aa (ag 1) (aa (ag 4) (aa (ag 3) aj)))))))))
noncomputable def fW : PSt :=
 (aE (bh false 2 kH)
  (aE (vJ d4 3 (xIf (qOf (pOp bEq (ah 0) (ao 4))) (dY (ay d6 (af (ah 1) (af (dw "no way") (af (en ak) ak))))) (dY (oD [("area", gO), ("shape", fg), ("long_way", b9), ("turned", eh)] (pOp bIx (en (af (fQ "area") (af (fQ "shape") (af (fQ "long_way") (af (fQ "turned") ak))))) (ah 0)) (af (ah 1) ak)))) (bh false 2 (ah 3)))
  (aP (ic (pFn (bt kits) (af (ah 2) (af (fQ "NoBox") ak))) (rq (pFn (bt kits) (af (ah 2) (af (bc (af (fQ "NoFraction") (af (fQ "NoText") (af (fQ "NoWay") (af (fQ "NoWeights") (af (fQ "TooMany") ak)))))) ak))))))))
noncomputable def bX : PFn := fnP [false, false] 4 fW
theorem mG : bX.ms = [false, false] := rfl
theorem lH (T : Txt K mg a_RoomError a_NoFraction a_NoBox a_NoWay a_NoWeights a_TooMany a_NoText) (D : Def K mg "_law_refused" fR) (c_parted : Callee P w K mg base "parted" 5 ["box", "way", "weights"] (spD K mg 3 d6.F)) (c_area : Callee P w K mg base "area" 5 ["box"] (spD K mg 1 gO.F)) (c_shape : Callee P w K mg base "shape" 6 ["box"] (spD K mg 1 fg.F)) (c_long_way : Callee P w K mg base "long_way" 5 ["box"] (spD K mg 1 b9.F)) (c_turned : Callee P w K mg base "turned" 5 ["box"] (spD K mg 1 eh.F)) : Callee P w K mg base "_law_refused" (6 + 1) ["_law_way", "_law_thing"] (spD K mg 2 bX.F) := by
 unfold bX fW
 exact okP D dJ (fun _ _ _ _ _ _ => ar2 fun _ _ => rfl) fun f cdv A outer s H E hr =>
  (ar (aM (i := 2) dJ.nd rfl (by first | exact Or.inl rfl | exact Or.inr rfl) jo)
   (ar (Ad (i := 3) nD dJ.nd rfl rfl rfl T.m_RoomError T.h_RoomError T.r_RoomError (fun _ _ _ hx => (aw (aX (aW (dq (K := K) rfl hr.units) cD (ag 0) ai (aK _)) (aw (c9 (au c_parted (hr.mono (by omega)) rfl hx (aa (ag 1) (aa cw (aa (cN aj) aj)))))) (aw (c9 (wq (jX c_area (hr.mono (by omega)) (jX c_shape (hr.mono (by omega)) (jX c_long_way (hr.mono (by omega)) (jX c_turned (hr.mono (by omega)) Ay)))) (az (ixK (K := K) rfl) aA (cN (aa (dU rfl T.f_area) (aa (dU rfl T.f_shape) (aa (dU rfl T.f_long_way) (aa (dU rfl T.f_turned) aj))))) (ag 0) (fun _ _ => rfl)) hx (aa (ag 1) aj))))))) (fun _ => (aw (aM (i := 2) dJ.nd rfl (by first | exact Or.inl rfl | exact Or.inr rfl) (ag 3)))))
   (aw (aF (fH (aD (cL (K := K) rfl) (bZ T.kits) rfl T.n_isinstance aN (aa (ag 2) (aa (dU rfl ⟨_, T.m_NoBox⟩) aj))) (fJ (tQ (aD (cL (K := K) rfl) (bZ T.kits) rfl T.n_isinstance aN (aa (ag 2) (aa (aL (aa (dU rfl ⟨_, T.m_NoFraction⟩) (aa (dU rfl ⟨_, T.m_NoText⟩) (aa (dU rfl ⟨_, T.m_NoWay⟩) (aa (dU rfl ⟨_, T.m_NoWeights⟩) (aa (dU rfl ⟨_, T.m_TooMany⟩) aj)))))) aj))))))))))
noncomputable def fT : PSt :=
 (aE (xIf (qOf (ay bE (af (ah 0) ak))) (aP (bc (af (ah 0) (af (ao 1) ak)))) xNx)
  (aP (ah 0)))
noncomputable def bq : PFn := fnP [false] 1 fT
theorem md : bq.ms = [false] := rfl
theorem lj (T : Txt K mg a_RoomError a_NoFraction a_NoBox a_NoWay a_NoWeights a_TooMany a_NoText) (D : Def K mg "as_fraction" fS) (c_is_whole : Callee P w K mg base "is_whole" 1 ["thing"] (spD K mg 1 bE.F)) : Callee P w K mg base "as_fraction" (1 + 1) ["thing"] (spD K mg 1 bq.F) := by
 unfold bq fT
 exact okP D mF (fun _ _ _ _ _ _ => ar1 fun _ => rfl) fun f cdv A outer s H E hr =>
  (ar (aX (bB (au c_is_whole (hr.mono (by omega)) rfl (aq aC) (aa (ag 0) aj))) (aw (aF (aL (aa (ag 0) (aa ai aj))))) aJ)
   (aw (aF (ag 0))))
noncomputable def km : PSt :=
 (aE (bh false 4 (bc (af (ay bq (af (ah 0) ak)) (af (ay bq (af (ah 1) ak)) (af (ay bq (af (ah 2) ak)) (af (ay bq (af (ah 3) ak)) ak))))))
  (aE (dY (ay a7 (af (ah 4) ak)))
  (aP (ah 4))))
noncomputable def eg : PFn := fnP [false, false, false, false] 5 km
theorem sA : eg.ms = [false, false, false, false] := rfl
theorem qX (T : Txt K mg a_RoomError a_NoFraction a_NoBox a_NoWay a_NoWeights a_TooMany a_NoText) (D : Def K mg "box_of" ku) (c_as_fraction : Callee P w K mg base "as_fraction" 2 ["thing"] (spD K mg 1 bq.F)) (c_check_box : Callee P w K mg base "check_box" 4 ["thing"] (spD K mg 1 a7.F)) : Callee P w K mg base "box_of" (4 + 1) ["left", "top", "wide", "high"] (spD K mg 4 eg.F) := by
 unfold eg km
 exact okP D mP (fun _ _ _ _ _ _ => ar4 fun _ _ _ _ => rfl) fun f cdv A outer s H E hr =>
  (ar (aM (i := 4) mP.nd rfl (by first | exact Or.inl rfl | exact Or.inr rfl) (aL (aa (au c_as_fraction (hr.mono (by omega)) rfl (aq aC) (aa (ag 0) aj)) (aa (au c_as_fraction (hr.mono (by omega)) rfl (aq aC) (aa (ag 1) aj)) (aa (au c_as_fraction (hr.mono (by omega)) rfl (aq aC) (aa (ag 2) aj)) (aa (au c_as_fraction (hr.mono (by omega)) rfl (aq aC) (aa (ag 3) aj)) aj))))))
   (ar (c9 (au c_check_box (hr.mono (by omega)) rfl (aq aC) (aa (ag 4) aj)))
   (aw (aF (ag 4)))))
noncomputable def g8 : PSt :=
 (aE (bh false 1 kH)
  (aE (bh false 2 (pBl false))
  (aE (rh g0 (bh false 1 (ay eg (af (pOp bIx (ah 0) (ao 0)) (af (pOp bIx (ah 0) (ao 1)) (af (pOp bIx (ah 0) (ao 2)) (af (pOp bIx (ah 0) (ao 3)) ak)))))) (bh false 2 (pBl true)))
  (aP (bc (af (ah 1) (af (ah 2) ak)))))))
noncomputable def cI : PFn := fnP [false] 3 g8
theorem oC : cI.ms = [false] := rfl
theorem nr (T : Txt K mg a_RoomError a_NoFraction a_NoBox a_NoWay a_NoWeights a_TooMany a_NoText) (D : Def K mg "_law_boxed" hE) (c_box_of : Callee P w K mg base "box_of" 5 ["left", "top", "wide", "high"] (spD K mg 4 eg.F)) : Callee P w K mg base "_law_boxed" (5 + 1) ["_law_thing"] (spD K mg 1 cI.F) := by
 unfold cI g8
 exact okP D dm (fun _ _ _ _ _ _ => ar1 fun _ => rfl) fun f cdv A outer s H E hr =>
  (ar (aM (i := 1) dm.nd rfl (by first | exact Or.inl rfl | exact Or.inr rfl) jo)
   (ar (aM (i := 2) dm.nd rfl (by first | exact Or.inl rfl | exact Or.inr rfl) cG)
   (ar (x2 nD rfl T.m_NoBox T.h_NoBox T.r_NoBox (fun _ _ _ hx => (aw (aM (i := 1) dm.nd rfl (by first | exact Or.inl rfl | exact Or.inr rfl) (au c_box_of (hr.mono (by omega)) rfl hx (aa (az (ixK (K := K) rfl) aA (ag 0) ai (fun _ _ => rfl)) (aa (az (ixK (K := K) rfl) aA (ag 0) ai (fun _ _ => rfl)) (aa (az (ixK (K := K) rfl) aA (ag 0) ai (fun _ _ => rfl)) (aa (az (ixK (K := K) rfl) aA (ag 0) ai (fun _ _ => rfl)) aj)))))))) (fun _ => (aw (aM (i := 2) dm.nd rfl (by first | exact Or.inl rfl | exact Or.inr rfl) cG))))
   (aw (aF (aL (aa (ag 1) (aa (ag 2) aj))))))))
noncomputable def jn : PSt :=
 (aE (bh true 2 (ay cU (af (ah 0) (af (ah 1) ak))))
  (aE (bh false 3 (ay bY (af (ah 2) (af (ay cX (af (ah 2) ak)) ak))))
  (aE (bh false 4 (ay bQ (af (ah 3) ak)))
  (aE (xIf (qO (qNo (qOf (pFn (bt kits) (af (ay cJ (af (ah 3) ak)) (af (pTy "bool") ak))))) (qOf (pOp bNe (ay cJ (af (ah 3) ak)) (ah 4)))) (aP (pBl false)) xNx)
  (aE (xIf (qAn (qNo (qTr (ah 4))) (qNo (qOf (pFn jL (af (pLC (lF (af (ao 5) ak)) [none, some 3] (by decide) (gtN 0) qY (ay bX (af (ah 0) (af (ah 1) ak)))) ak))))) (aP (pBl false)) xNx)
  (xIf (qAn (qOf (pFn (bt kits) (af (ah 3) (af (pTy "tuple") ak)))) (qOf (pOp bEq (pFn dF (af (ah 3) ak)) (ao 4)))) (aE (bh false 5 (pFn mE (af (pLC (fC (ah 3)) [none] (by decide) (gtN 0) qY (pIf (qAn (qOf (pFn (bt kits) (af (ah 0) (af (pTy "int") ak)))) (qNo (qOf (pFn (bt kits) (af (ah 0) (af (pTy "bool") ak)))))) (bc (af (ah 0) (af (ao 1) ak))) (ah 0))) ak)))
  (aE (jN (ay cI (af (ah 3) ak)) (gtX (gtT 2 (da (gtN 6) (da (gtN 7) jG)))))
  (xIf (qO (qOf (pOp bEq (ah 7) (ay bQ (af (ah 5) ak)))) (qAn (qNo (qTr (ah 7))) (qOf (pOp bNe (ah 6) (ah 5))))) (aP (pBl false)) xNx))) xNx))))))
noncomputable def rG : PSt :=
 (aE (l9 (lF (af (pFn iB (af (ao 1) (af (pFn pq (af (ao 24) (af (pFn dF (af (ah 0) ak)) ak))) ak))) ak)) (gtN 1) (jn))
  (aP (pBl true)))
noncomputable def lz : PFn := fnP [false] 8 rG
theorem xr (T : Txt K mg a_RoomError a_NoFraction a_NoBox a_NoWay a_NoWeights a_TooMany a_NoText) (D : Def K mg "law" jO) (c_law_feed : Callee P w K mg base "_law_feed" 1 ["_law_script", "_law_k"] (spD K mg 2 cU.F)) (c_law_spoiled : Callee P w K mg base "_law_spoiled" 3 ["_law_feed_here", "_law_box"] (spD K mg 2 bY.F)) (c_law_room : Callee P w K mg base "_law_room" 3 ["_law_feed_here"] (spD K mg 1 cX.F)) (c_law_is_box : Callee P w K mg base "_law_is_box" 3 ["_law_thing"] (spD K mg 1 bQ.F)) (c_is_box : Callee P w K mg base "is_box" 3 ["thing"] (spD K mg 1 cJ.F)) (c_law_refused : Callee P w K mg base "_law_refused" 7 ["_law_way", "_law_thing"] (spD K mg 2 bX.F)) (c_law_boxed : Callee P w K mg base "_law_boxed" 6 ["_law_thing"] (spD K mg 1 cI.F)) : Callee P w K mg base "law" (7 + 1) ["_law_script"] (spD K mg 1 lz.F) := by
 unfold lz rG jn
 exact okP D fF (fun _ _ _ _ _ _ => ar1 fun _ => rfl) fun f cdv A outer s H E hr =>
  (ar (kW lU rfl (jD rfl T.n_range (aa (aD (ju rfl) mI rfl T.n_max oG (aa ai (aa (aD (tW rfl) xA rfl T.n_min Bi (aa ai (aa (aD (eQ (K := K) rfl) dD rfl T.n_len dC (aa (ag 0) aj)) aj))) aj))) aj)) (aU (i := 1) fF.nd rfl (by first | exact Or.inl rfl | exact Or.inr rfl)) (ar (aM (i := 2) fF.nd rfl (by first | exact Or.inl rfl | exact Or.inr rfl) (au c_law_feed (hr.mono (by omega)) rfl (aq aC) (aa (ag 0) (aa (ag 1) aj))))
   (ar (aM (i := 3) fF.nd rfl (by first | exact Or.inl rfl | exact Or.inr rfl) (au c_law_spoiled (hr.mono (by omega)) rfl (aq aC) (aa (ag 2) (aa (au c_law_room (hr.mono (by omega)) rfl (aq aC) (aa (ag 2) aj)) aj))))
   (ar (aM (i := 4) fF.nd rfl (by first | exact Or.inl rfl | exact Or.inr rfl) (au c_law_is_box (hr.mono (by omega)) rfl (aq aC) (aa (ag 3) aj)))
   (ar (aX (ZW.dt (fv (bL (bB (aD (cL (K := K) rfl) (bZ T.kits) rfl T.n_isinstance aN (aa (au c_is_box (hr.mono (by omega)) rfl (aq aC) (aa (ag 3) aj)) (aa (dc rfl T.n_bool jV) aj))))) (eN (aW (kP (K := K) rfl hr.units) jb (au c_is_box (hr.mono (by omega)) rfl (aq aC) (aa (ag 3) aj)) (ag 4) (aK _))))) (aw (aF cG)) aJ)
   (ar (aX (ZW.dt (ll (bL (oi rfl (ag 4))) (jZ (bL (bB (aD (rQ (K := K) rfl rfl) kY rfl T.n_all lM (aa (iX ["_law_script", "_law_k", "_law_feed_here", "_law_thing", "_law_due", "_law_some", "_law_found", "_law_is_refused"] (ax jO).names ["_law_way", "_law_thing"] [none, some 3] rfl (jD rfl T.n_range (aa ai aj)) (fun _ _ _ _ _ => (aU (i := 0) (show List.Nodup (["_law_way", "_law_thing"] : List Str) from by decide +kernel) rfl (by first | exact Or.inl rfl | exact Or.inr rfl))) (fun _ _ _ _ _ => (au c_law_refused (hr.mono (by omega)) rfl iJ (aa (ag 0) (aa (ag 1) aj))))) aj))))))) (aw (aF cG)) aJ)
   (aw (aX (ZW.dt (ll (bB (aD (cL (K := K) rfl) (bZ T.kits) rfl T.n_isinstance aN (aa (ag 3) (aa (dc rfl T.n_tuple eW) aj)))) (jZ (aW (dq (K := K) rfl hr.units) cD (aD (eQ (K := K) rfl) dD rfl T.n_len dC (aa (ag 3) aj)) ai (aK _))))) (ar (aM (i := 5) fF.nd rfl (by first | exact Or.inl rfl | exact Or.inr rfl) (mV (yb (K := K) rfl) vm rfl T.n_tuple eW (aa (iX ["_law_script", "_law_k", "_law_feed_here", "_law_thing", "_law_due", "_law_some", "_law_found", "_law_is_refused"] (ax jO).names ["_law_one"] [none] rfl (fL rfl (ag 3)) (fun _ _ _ _ _ => (aU (i := 0) (show List.Nodup (["_law_one"] : List Str) from by decide +kernel) rfl (by first | exact Or.inl rfl | exact Or.inr rfl))) (fun _ _ _ _ _ => (Et (ZW.dt (ll (bB (aD (cL (K := K) rfl) (bZ T.kits) rfl T.n_isinstance aN (aa (ag 0) (aa (dc rfl T.n_int oQ) aj)))) (jZ (bL (bB (aD (cL (K := K) rfl) (bZ T.kits) rfl T.n_isinstance aN (aa (ag 0) (aa (dc rfl T.n_bool jV) aj)))))))) (aL (aa (ag 0) (aa ai aj))) (ag 0)))) aj)))
   (ar (jW (au c_law_boxed (hr.mono (by omega)) rfl (aq aC) (aa (ag 3) aj)) (ZG.weak (ir rfl rfl (bw (aU (i := 6) fF.nd rfl (by first | exact Or.inl rfl | exact Or.inr rfl)) (bw (aU (i := 7) fF.nd rfl (by first | exact Or.inl rfl | exact Or.inr rfl)) gk)))))
   (aw (aX (ZW.dt (fv (aW (dq (K := K) rfl hr.units) cD (ag 7) (au c_law_is_box (hr.mono (by omega)) rfl (aq aC) (aa (ag 5) aj)) (aK _)) (eN (ZW.dt (ll (bL (oi rfl (ag 7))) (jZ (aW (kP (K := K) rfl hr.units) jb (ag 6) (ag 5) (aK _)))))))) (aw (aF cG)) aJ)))) aJ))))))))
   (aw (aF cG)))
end
noncomputable def fdV (a b k : Int) : Val := .lst [.int a, .int b, .int k]
theorem wI : gq.G (.int 10) (.int 18) = .val (.int (10 ^ 18)) := nF ⟨by decide, by decide, by decide⟩
theorem ff {a m : Int} (h : 0 < m) : 0 <= a.fmod m /\ a.fmod m < m := ⟨Int.fmod_nonneg_of_pos a h, Int.fmod_lt_of_pos a h⟩
set_option hygiene false in
local macro_rules | `(tactic| simp! [$args,*]) => `(tactic| simp only [lq, zV, CF, zg, C6, CQ, As, wK, En, Dr, wb, rX, Ae, Ci, Bk, AU, zu, zE, Ac, A9, yh, wA, B7, zf, yF, A2, D0, Cw, v_bl, DD, Dn, v_ty, CW, v_un, v_op, Dz, AG, v_fn, Eg, CH, D8, Dt, v_if, c_of, c_tr, c_an, c_o, c_no, c_y, x_nx, D6, xY, xV, y8, xf, x_if, Cu, DJ, C5, xk, vv, uA, g_n, g_sn, g_sc, g_t, g_x, AR, Ek, Es, xT, Ep, Ea, El, CD, DK, AX, zZ, Dl, BI, CL, Cb, BN, Di, Df, yY, v_lc, zA, B1, zF, o_n, o_s, v_sl, v_d0, DF, EC, k_lt, k_gt, k_ge, CA, k_ix, BS, B4, DH, k_eq, k_ne, D4, EA, Dh, C1, rV, CO, Er, List.getElem?_cons_zero, List.getElem?_cons_succ, List.set_cons_zero, List.set_cons_succ, List.length_cons, List.length_nil, Option.bind_some, Option.map_some, Option.isSome_some, if_true, if_false, Bool.not_true, Bool.not_false, Bool.and_true, Bool.true_and, Bool.false_and, Bool.or_true, Bool.true_or, Bool.or_false, Nat.reduceLeDiff, Nat.reduceLT, Nat.reduceAdd, Nat.reduceSub, Nat.zero_add, Nat.sub_self, List.cons_append, List.nil_append, List.append_nil, List.replicate, decide_true, decide_false, Bool.false_eq_true, List.all_cons, List.all_nil, List.isEmpty_nil, List.map_cons, List.map_nil, Int.reduceBEq, Int.reduceLT, Int.reduceAdd, Int.reduceSub, Int.reduceMul, Int.cast_ofNat_Int, AO, xS, Cj, B2, xH, vQ, BR, sR, yS, zJ, yX, sO, xn, BO, vK, zl, yu, zM, u5, zQ, Bl, yV, Dc, CN, CB, Cv, tN, sE, ug, qW, pI, sF, uZ, tf, tH, vI, vh, vN, uY, ixn0, ixn1, Dq, cP, AK, yr, BL, yw, List.lookup_cons, List.lookup_nil, AA, pH, pE, sf, mJ, qN, pC, pL, kE, nt, pP, j7, lO, ur, oI, tJ, yA, pO, xM, vD, t9, mG, md, sA, oC, $args,*])
theorem a8 {a b k m : Int} (h0 : 0 < m) (hm : Sm 8000 m) : ∃ r a' b', aG.G [fdV a b k, .int m] = .ok (.val (.int r)) [fdV a' b' k] /\ 0 <= r /\ r < m := by
 unfold aG
 rw [cB]
 unfold iL fdV
 have m0 : m ≠ 0 := by omega
 have d1 := fun i => f9 (i := i) m0
 have d2 := fun i => sj (i := i) (CDivB.of m0 hm)
 have ca : ∀ x : Int, CMulA 7919 x := fun x => CMulA.left (by decide) (by decide)
 have cb : ∀ x : Int, CMulA 104729 x := fun x => CMulA.left (by decide) (by decide)
 have cc : ∀ x : Int, CMulA x 48271 := fun x => CMulA.right (by decide) (by decide)
 have e1 : cM.G (.int a) (.int 1000003) = .val (.int (a.fmod 1000003)) := f9 (by decide)
 have e2 : cj.G (.int 7919) (.int k) = .val (.int (7919 * k)) := iU (ca k)
 have e3 := fun x => iU (cb x)
 have e4 := fun x => iU (cc x)
 have e5 : ∀ x : Int, cM.G (.int x) (.int 2147483647) = .val (.int (x.fmod 2147483647)) := fun x => f9 (by decide)
 have e6 : ∀ x : Int, cM.G (.int x) (.int 65521) = .val (.int (x.fmod 65521)) := fun x => f9 (by decide)
 have e7 : ∀ x y : Int, cj.G (.int (x.fmod 2147483647)) (.int y) = .val (.int (x.fmod 2147483647 * y)) := fun x y => iU (CMulA.left (by have := (ff (a := x) (m := 2147483647) (by decide)).1; omega) (by have := (ff (a := x) (m := 2147483647) (by decide)).2; omega))
 have e8 : ∀ x : Int, cM.G (.int x) (.int 2147483629) = .val (.int (x.fmod 2147483629)) := fun x => f9 (by decide)
 by_cases hc : (10 ^ 18 : Int) <= a
 ·have hc' : decide ((10 ^ 18 : Int) <= a) = true := decide_eq_true hc
  refine ⟨a.fmod m, a.fdiv m, b + 1, ?_, ff h0⟩
  simp! [wI, hc', d1, d2]
  done
 ·have hc' : decide ((10 ^ 18 : Int) <= a) = false := decide_eq_false hc
  refine ⟨Int.fmod (Int.fmod (Int.fmod ((Int.fmod a 1000003 + 7919 * k + 104729 * (b + 1)) * 48271) 2147483647 * (Int.fmod (Int.fmod ((Int.fmod a 1000003 + 7919 * k + 104729 * (b + 1)) * 48271) 2147483647) 65521 + (b + 1))) 2147483629) m, a, b + 1, ?_, ff h0⟩
  simp! [wI, hc', d1, e1, e2, e3, e4, e5, e6, e7, e8]
theorem dO (a : Int) : (if a < 0 then -a else a) = ((a.natAbs : Nat) : Int) := by split <;> omega
theorem ot : ∀ (n one other : Nat), other <= n -> (xWh (qOf (pOp bNe (ah 1) (ao 0))) b0).G [.sh (.int (one : Nat)), .sh (.int (other : Nat))] = .nx [.sh (.int (Nat.gcd one other : Nat)), .sh (.int 0)]
 |
  n, one, 0, _ => by
  rw [sr]
  simp! [lq]
  rw [Nat.gcd_zero_right]
  try rfl
 | 0, one, other + 1, hl => absurd hl (by omega)
 |
  n + 1, one, other + 1, hl => by
  rw [sr]
  have e : ((((other + 1 : Nat) : Int) == 0)) = false := by rw [beq_eq_false_iff_ne]; omega
  have e1 : cM.G (.int (one : Nat)) (.int ((other + 1 : Nat) : Int)) = .val (.int (((one : Nat) : Int).fmod ((other + 1 : Nat) : Int))) := f9 (by omega)
  have e2 : ((one : Nat) : Int).fmod ((other + 1 : Nat) : Int) = ((one % (other + 1) : Nat) : Int) := by
   rw [Int.fmod_eq_emod_of_nonneg _ (by omega)]; rfl
  have ih := ot n (other + 1) (one % (other + 1)) (by have := Nat.mod_lt one (show other + 1 > 0 by omega); omega)
  rw [Fr.euc] at ih
  rw [e2] at e1
  have bb : b0.G [.sh (.int (one : Nat)), .sh (.int ((other + 1 : Nat) : Int))] = .nx [.sh (.int ((other + 1 : Nat) : Int)), .sh (.int ((one % (other + 1) : Nat) : Int))] := by
   unfold b0
   simp! [e1]
  simp! [e, bb, ih]
theorem fZ (a b : Int) : bg.G [.int a, .int b] = .ok (.val (.int (Int.gcd a b : Nat))) [] := by
 unfold bg
 rw [cB]
 unfold et
 have := ot b.natAbs a.natAbs b.natAbs (Nat.le_refl _)
 simp! [dO, this]
 rfl
theorem dI {v : Val} (hk : knV v = true) : (bt kits).G [v, .ty "tuple"] = .val (.bl (bK v)) := by
 cases v <;> first | rfl | cases hk
theorem ia {v : Val} (hk : knV v = true) : bE.G [v] = .ok (.val (.bl (eI v))) [] := by
 unfold bE
 rw [cB]
 unfold jj
 cases v <;> first | rfl | cases hk
theorem jf (v : Val) : bK v = false \/ ∃ xs, v = .tup xs := by
 cases v <;> first | exact .inr ⟨_, rfl⟩ | exact .inl rfl
theorem fb (v : Val) : eI v = false \/ ∃ i, v = .int i := by
 cases v <;> first | exact .inr ⟨_, rfl⟩ | exact .inl rfl
theorem wW {v : Val} (h : bK v = false) : aQ v = false := by
 cases v <;> first | rfl | cases h
theorem xj {v : Val} (h : bK v = false) : aY v = false := by
 cases v <;> first | rfl | cases h
theorem tX {a b : Val} (h : eI a = false) : aQ (.tup [a, b]) = false := by
 cases a <;> first | rfl | cases h
theorem sv {i : Int} {b : Val} (h : eI b = false) : aQ (.tup [.int i, b]) = false := by
 cases b <;> first | rfl | cases h
theorem xb {xs : List Val} (hl : xs.length ≠ 2) : aQ (.tup xs) = false := by
 unfold aQ
 split
 ·rename_i e; injection e with e; subst e; exact absurd rfl hl
 ·rfl
theorem xh {xs : List Val} (hl : xs.length ≠ 4) : aY (.tup xs) = false := by
 unfold aY
 split
 ·rename_i e; injection e with e; subst e; exact absurd rfl hl
 ·rfl
theorem nG {k : Nat} {v : Val} (ha : aR k v = true) (h : bK v = false) : knV v = true := by
 cases v with
 | tup xs => cases h
 | _ => cases k <;> exact ha
theorem
    l6 {v : Val} (ha : aR 1 v = true) : bJ.G [v] = .ok (.val (.bl (aQ v))) [] := by
 unfold bJ
 rw [cB]
 unfold fX
 rcases jf v with ht | ⟨xs, rfl⟩
 ·have it := dI (nG ha ht)
  rw [ht] at it
  simp! [it, wW ht]
 have it := dI (v := .tup xs) rfl
 by_cases hl : xs.length = 2
 ·match xs, hl, ha with
  |
   [a, b], _, ha =>
   have ha' : (knV a && (knV b && true)) = true := by simpa [aR] using ha
   simp only [Bool.and_eq_true] at ha'
   have w1 := ia ha'.1
   have w2 := ia ha'.2.1
   rcases fb a with h1 | ⟨i, rfl⟩
   ·rw [h1] at w1
    simp! [it, bK, w1, tX h1]
   rcases fb b with h2 | ⟨j, rfl⟩
   ·rw [h2] at w2
    simp! [it, bK, w1, eI, w2, sv h2]
   have f : aQ (.tup [.int i, .int j]) = (decide (1 <= j) && decide (Int.gcd i j = 1)) := rfl
   have g : ((((Int.gcd i j : Nat) : Int) == 1) : Bool) = decide (Int.gcd i j = 1) := by
    rw [Bool.eq_iff_iff, beq_iff_eq, decide_eq_true_eq]; omega
   by_cases hj : 1 <= j
   ·simp! [it, bK, w1, w2, eI, fZ, decide_eq_true hj, f, g]
   ·simp! [it, bK, w1, w2, eI, fZ, decide_eq_false hj, f, g]
 ·have e : (((xs.length : Nat) : Int) == 2) = false := by rw [beq_eq_false_iff_ne]; omega
  simp! [it, bK, e, xb hl]
theorem
    js {v : Val} (ha : aR 2 v = true) : cJ.G [v] = .ok (.val (.bl (aY v))) [] := by
 unfold cJ
 rw [cB]
 unfold kz
 rcases jf v with ht | ⟨xs, rfl⟩
 ·have it := dI (nG ha ht)
  rw [ht] at it
  simp! [it, xj ht]
 have it := dI (v := .tup xs) rfl
 by_cases hl : xs.length = 4
 ·match
     xs, hl, ha with
  |
   [a, b, c, d], _, ha =>
   have e1 : aY (.tup [a, b, c, d]) = (aQ a && (aQ b && (aQ c && (aQ d && (gv c && gv d))))) := rfl
   have bl4 : ∀ x y z w : Bool, jr [.bl x, .bl y, .bl z, .bl w] = some [x, y, z, w] := fun _ _ _ _ => rfl
   obtain ⟨e', ⟨s', rfl, _⟩, lc⟩ := lQ (g := (gtN 0).G) (F := (ay bJ (af (ah 0) ak)).G) (f := fun v => .bl (aQ v)) (fun e => ∃ s, e = [s] /\ s.pl = true) [a, b, c, d] [] [.no] ⟨.no, rfl, rfl⟩ (by
    rintro v hv e ⟨s, rfl, hs⟩
    have hv' : aR 1 v = true := List.all_eq_true.mp (by simpa [aR] using ha) v hv
    refine ⟨[.sh v], .val (.bl (aQ v)), [.sh v], ?_, ?_, rfl, ⟨_, rfl, rfl⟩⟩
    ·simp! [hs]
    ·simp! [l6 hv']) (by simp)
   have cy : cY = qY.G := rfl
   rw [cy, List.nil_append] at lc
   simp only [List.map_cons, List.map_nil] at lc
   cases hA : (aQ a && (aQ b && (aQ c && aQ d))) with
   |
    true =>
    simp only [Bool.and_eq_true] at hA
    obtain ⟨p, rfl⟩ := fM hA.2.2.1
    obtain ⟨q, rfl⟩ := fM hA.2.2.2
    rw [hA.1, hA.2.1, hA.2.2.1, hA.2.2.2] at e1 lc
    have e2 : aY (.tup [a, b, fV p, fV q]) = (decide (0 < p.num) && decide (0 < q.num)) := by rw [e1]; rfl
    rw [e2]
    have i1 : (fV p).items = some [.int p.num, .int p.den] := rfl
    have i2 : (fV q).items = some [.int q.num, .int q.den] := rfl
    by_cases hp : 0 < p.num
    ·simp! [it, bK, lc, cP, bl4, id, i1, i2, decide_eq_true hp]
    ·simp! [it, bK, lc, cP, bl4, id, i1, decide_eq_false hp]
   |
    false =>
    have e2 : aY (.tup [a, b, c, d]) = false := by
     rw [e1]
     revert hA
     generalize aQ a = a', aQ b = b', aQ c = c', aQ d = d', (gv c && gv d) = z
     revert a' b' c' d' z
     decide
    rw [e2]
    simp! [it, bK, lc, cP, bl4, id, hA]
 ·have e : (((xs.length : Nat) : Int) == 4) = false := by rw [beq_eq_false_iff_ne]; omega
  simp! [it, bK, e, xh hl]
theorem du {v : Val} (ha : aR 2 v = true) : a7.G [v] = if aY v = true then .ok (.val .non) [] else .exc "NoBox" [] := by
 unfold a7
 rw [cB]
 unfold h9
 cases h : aY v with
 | true => simp! [js ha, h]
 | false => simp! [js ha, h]
theorem yd {v : Val} (ha : aR 2 v = true) (hb : aY v = false) : gO.G [v] = .exc "NoBox" [] := by
 have c := du ha
 rw [hb] at c
 unfold gO
 rw [cB]
 unfold pj
 simp! [c]
theorem kd {v : Val} (ha : aR 2 v = true) (hb : aY v = false) : b9.G [v] = .exc "NoBox" [] := by
 have c := du ha
 rw [hb] at c
 unfold b9
 rw [cB]
 unfold ja
 simp! [c]
theorem vX {v : Val} (ha : aR 2 v = true) (hb : aY v = false) : fg.G [v] = .exc "NoBox" [] := by
 have c := kd ha hb
 unfold fg
 rw [cB]
 unfold lZ
 simp! [c]
theorem sC {v : Val} (ha : aR 2 v = true) (hb : aY v = false) : eh.G [v] = .exc "NoBox" [] := by
 have c := du ha
 rw [hb] at c
 unfold eh
 rw [cB]
 unfold kN
 simp! [c]
theorem tM {v w x : Val} (ha : aR 2 v = true) (hb : aY v = false) : d6.G [v, w, x] = .exc "NoBox" [] := by
 have c := du ha
 rw [hb] at c
 unfold d6
 rw [cB]
 unfold ky
 simp! [c]
noncomputable def aH : Val -> Val
 | .int i => .tup [.int i, .int 1]
 | v => v
theorem wY {v : Val} (h : eI v = false) : aH v = v := by
 cases v <;> first | rfl | cases h
theorem dN {v : Val} (hk : knV v = true) : bq.G [v] = .ok (.val (aH v)) [] := by
 have w := ia hk
 unfold bq
 rw [cB]
 unfold fT
 rcases fb v with h | ⟨i, rfl⟩
 ·rw [h] at w
  simp! [w, wY h]
 ·simp! [w, eI, aH]
theorem xp {ns : List Int} {k : Int} (hk : 0 <= k) : ∃ a, cU.G [.kl (ns.map .int), .int k] = .ok (.new (fdV a 0 k)) [] := by
 unfold cU
 rw [cB]
 unfold iF fdV
 by_cases h0 : ns.length = 0
 ·have e : ((((ns.map Val.int).length : Nat) : Int) == 0) = true := by rw [beq_iff_eq, List.length_map]; omega
  exact ⟨0, by simp! [e]⟩
 ·have e : ((((ns.map Val.int).length : Nat) : Int) == 0) = false := by rw [beq_eq_false_iff_ne, List.length_map]; omega
  have e1 : cM.G (.int k) (.int ((ns.map Val.int).length : Nat)) = .val (.int (k.fmod ((ns.map Val.int).length : Nat))) := f9 (by rw [List.length_map]; omega)
  have r := ff (a := k) (m := ((ns.map Val.int).length : Nat)) (by rw [List.length_map]; omega)
  rw [List.length_map] at r e1
  have hi : (k.fmod (ns.length : Nat)).toNat < ns.length := by omega
  have at1 : atI (ns.map Val.int) (k.fmod (ns.length : Nat)) = some (.int ns[(k.fmod (ns.length : Nat)).toNat]) := gc r.1 (by rw [List.getElem?_map, List.getElem?_eq_getElem hi]; rfl)
  rw [List.length_map] at e
  exact ⟨ns[(k.fmod (ns.length : Nat)).toNat], by simp! [List.length_map, e, e1, at1]⟩
theorem pow6 : gq.G (.int 10) (.int 6) = .val (.int 1000000) := nF ⟨by decide, by decide, by decide⟩
theorem DQ : ie [.int 6] = some [.int 0, .int 1, .int 2, .int 3, .int 4, .int 5] := l8 (i := 6) (by decide) (by decide)
theorem gB {a b k far : Int} (h0 : 0 <= far) (hf : far.natAbs <= 2000000000000000000000000000000) : ∃ r a' b', bA.G [fdV a b k, .int far] = .ok (.val (.int r)) [fdV a' b' k] /\ -far <= r /\ r <= far := by
 obtain ⟨r1, a1, b1, e1, _, _⟩ := a8 (a := a) (b := b) (k := k) (m := 1000000) (by decide) (sm8 (by decide))
 obtain ⟨r2, a2, b2, e2, _, _⟩ := a8 (a := a1) (b := b1) (k := k) (m := 1000000) (by decide) (sm8 (by decide))
 obtain ⟨r3, a3, b3, e3, _, _⟩ := a8 (a := a2) (b := b2) (k := k) (m := 1000000) (by decide) (sm8 (by decide))
 obtain ⟨r4, a4, b4, e4, _, _⟩ := a8 (a := a3) (b := b3) (k := k) (m := 1000000) (by decide) (sm8 (by decide))
 obtain ⟨r5, a5, b5, e5, _, _⟩ := a8 (a := a4) (b := b4) (k := k) (m := 1000000) (by decide) (sm8 (by decide))
 obtain ⟨r6, a6, b6, e6, _, _⟩ := a8 (a := a5) (b := b5) (k := k) (m := 1000000) (by decide) (sm8 (by decide))
 have c6 : ∀ x : Int, cj.G (.int x) (.int 1000000) = .val (.int (x * 1000000)) := fun x => iU (CMulA.right (by decide) (by decide))
 have c2 : cj.G (.int 2) (.int far) = .val (.int (2 * far)) := iU (CMulA.left (by decide) (by decide))
 have c3 : ∀ x : Int, cM.G (.int x) (.int (2 * far + 1)) = .val (.int (x.fmod (2 * far + 1))) := fun x => f9 (by omega)
 have fr := ff (a := (((((0 * 1000000 + r1) * 1000000 + r2) * 1000000 + r3) * 1000000 + r4) * 1000000 + r5) * 1000000 + r6) (m := 2 * far + 1) (by omega)
 refine ⟨((((((0 * 1000000 + r1) * 1000000 + r2) * 1000000 + r3) * 1000000 + r4) * 1000000 + r5) * 1000000 + r6).fmod (2 * far + 1) - far, a6, b6, ?_, by omega, by omega⟩
 unfold bA
 rw [cB]
 unfold g9 gF
 unfold fdV at *
 simp! [DQ, eR, pow6, c6, e1, e2, e3, e4, e5, e6, c2, c3, Int.reduceMul]
theorem oz (x y : Val) : ∀ (n one other : Nat), other <= n -> (xWh (qOf (pOp bGt (ah 3) (ao 0))) eH).G [.sh x, .sh y, .sh (.int (one : Nat)), .sh (.int (other : Nat))] = .nx [.sh x, .sh y, .sh (.int (Nat.gcd one other : Nat)), .sh (.int 0)]
 |
  n, one, 0, _ => by
  rw [sr]
  simp! [Nat.gcd_zero_right, Int.natCast_zero, Int.lt_irrefl]
 | 0, one, other + 1, hl => absurd hl (by omega)
 |
  n + 1, one, other + 1, hl => by
  rw [sr]
  have e : decide ((0 : Int) < ((other + 1 : Nat) : Int)) = true := decide_eq_true (by omega)
  have e1 : cM.G (.int (one : Nat)) (.int ((other + 1 : Nat) : Int)) = .val (.int (((one : Nat) : Int).fmod ((other + 1 : Nat) : Int))) := f9 (by omega)
  have e2 : ((one : Nat) : Int).fmod ((other + 1 : Nat) : Int) = ((one % (other + 1) : Nat) : Int) := by
   rw [Int.fmod_eq_emod_of_nonneg _ (by omega)]; rfl
  have ih := oz x y n (other + 1) (one % (other + 1)) (by have := Nat.mod_lt one (show other + 1 > 0 by omega); omega)
  rw [Fr.euc] at ih
  rw [e2] at e1
  have bb : eH.G [.sh x, .sh y, .sh (.int (one : Nat)), .sh (.int ((other + 1 : Nat) : Int))] = .nx [.sh x, .sh y, .sh (.int ((other + 1 : Nat) : Int)), .sh (.int ((one % (other + 1) : Nat) : Int))] := by
   unfold eH
   simp! [e1]
  simp! [e, bb, ih]
theorem gJ {a b : Int} (hb : b ≠ 0) (hs : Sm 8000 b) : bz.G [.int a, .int b] = .ok (.val (fV ((a : Rat) / (b : Rat)))) [] := by
 unfold bz
 rw [cB]
 unfold jm
 have lo := oz (.int a) (.int b) b.natAbs a.natAbs b.natAbs (Nat.le_refl _)
 rw [show Nat.gcd a.natAbs b.natAbs = Int.gcd a b from rfl] at lo
 have c : ∀ x, CDivB x (Fr.dv a b) := fun x => CDivB.of (Fr.dv_ne hb) (hs.of_le (by
   rw [Fr.dv_abs]
   exact Nat.le_of_dvd (by omega) (Nat.gcd_dvd_right a.natAbs b.natAbs)))
 have k1 := sj (c a)
 have k2 := sj (c b)
 have hh := nN (a := a) hb
 have fin : Val.tup [.int (a.fdiv (Fr.dv a b)), .int (b.fdiv (Fr.dv a b))] = fV ((a : Rat) / (b : Rat)) := by
  unfold fV
  rw [<- hh.1, <- hh.2]
  rfl
 by_cases hn : b < 0
 ·have hd : Fr.dv a b = 0 - ((Int.gcd a b : Nat) : Int) := by unfold Fr.dv; rw [if_pos hn]; omega
  rw [hd] at k1 k2 fin
  simp! [dO, lo, decide_eq_true hn, k1, k2, fin]
 ·have hd : Fr.dv a b = ((Int.gcd a b : Nat) : Int) := by unfold Fr.dv; rw [if_neg hn]
  rw [hd] at k1 k2 fin
  simp! [dO, lo, decide_eq_false hn, k1, k2, fin]
theorem p30 : gq.G (.int 10) (.int 30) = .val (.int 1000000000000000000000000000000) := nF ⟨by decide, by decide, by decide⟩
noncomputable def rmQ (k : Int) (r : SR3) : Prop := ∃ b a c, Good b /\ oP [true] r = .ok (.val (bV b)) [fdV a c k]
noncomputable def rmI (k way : Int) (e : E3) : Prop := ∃ b x a c, Good b /\ x.pl = true /\ e = [.mu (fdV a c k), .sh (.int way), .sh (fV b.l), .sh (fV b.t), .sh (fV b.w), .sh (fV b.h), x]
theorem yB (a c k : Int) : ∃ b a' c', Good b /\ cX.G [fdV a c k] = .ok (.val (bV b)) [fdV a' c' k] := by
 unfold cX
 rw [sg rfl]
 show rmQ k (f6.G [.mu (fdV a c k), .no, .no, .no, .no, .no, .no])
 unfold f6
 obtain ⟨way, a1, c1, e1, hw0, hw1⟩ := a8 (a := a) (b := c) (k := k) (m := 6) (by decide) (sm8 (by decide))
 refine b8 (fun e => e = [.mu (fdV a1 c1 k), .sh (.int way), .no, .no, .no, .no, .no]) ⟨_, by simp! [e1], rfl⟩ ?_
 rintro _ rfl
 obtain ⟨l, a2, c2, e2, hl0, hl1⟩ := a8 (a := a1) (b := c1) (k := k) (m := 19) (by decide) (sm8 (by decide))
 obtain ⟨t, a3, c3, e3, ht0, ht1⟩ := a8 (a := a2) (b := c2) (k := k) (m := 19) (by decide) (sm8 (by decide))
 refine b8 (fun e => e = [.mu (fdV a3 c3 k), .sh (.int way), .sh (fV ((l - 9 : Int) : Rat)), .sh (fV ((t - 9 : Int) : Rat)), .no, .no, .no]) ⟨_, by simp! [e2, e3, iV], rfl⟩ ?_
 rintro _ rfl
 obtain ⟨w, a4, c4, e4, hww0, hww1⟩ := a8 (a := a3) (b := c3) (k := k) (m := 12) (by decide) (sm8 (by decide))
 obtain ⟨hh, a5, c5, e5, hh0, hh1⟩ := a8 (a := a4) (b := c4) (k := k) (m := 12) (by decide) (sm8 (by decide))
 refine b8 (rmI k way) ⟨[.mu (fdV a5 c5 k), .sh (.int way), .sh (fV ((l - 9 : Int) : Rat)), .sh (fV ((t - 9 : Int) : Rat)), .sh (fV ((1 + w : Int) : Rat)), .sh (fV ((1 + hh : Int) : Rat)), .no], by simp! [e4, e5, iV], ⟨_, _, _, _⟩, .no, a5, c5, ⟨⟨fo (by omega), fo (by omega)⟩, ⟨fK (by omega), fK (by omega), fK (by omega), fK (by omega)⟩⟩, rfl, rfl⟩ ?_
 rintro _ ⟨b, x, a, c, gb, hx, rfl⟩
 refine b8 (rmI k way) ?_ ?_
 ·by_cases hw : way = 1
  ·subst hw
   exact ⟨[.mu (fdV a c k), .sh (.int 1), .sh (fV b.l), .sh (fV b.t), .sh (fV b.w), .sh (fV b.w), x], by simp! [lq], ⟨b.l, b.t, b.w, b.w⟩, x, a, c, ⟨⟨gb.ok.w, gb.ok.w⟩, ⟨gb.sz.l, gb.sz.t, gb.sz.w, gb.sz.w⟩⟩, hx, rfl⟩
  ·exact ⟨_, by simp! [beq_eq_false_iff_ne.mpr hw], b, x, a, c, gb, hx, rfl⟩
 rintro _ ⟨b, x, a, c, gb, hx, rfl⟩
 refine b8 (rmI k way) ?_ ?_
 ·by_cases hw : way = 2
  ·subst hw
   obtain ⟨r, a1, c1, e1, h0, h1⟩ := a8 (a := a) (b := c) (k := k) (m := 99) (by decide) (sm8 (by decide))
   exact ⟨[.mu (fdV a1 c1 k), .sh (.int 2), .sh (fV b.l), .sh (fV b.t), .sh (fV ((1 + r : Int) : Rat)), .sh (fV b.h), x], by simp! [e1, iV], ⟨b.l, b.t, ((1 + r : Int) : Rat), b.h⟩, x, a1, c1, ⟨⟨fo (by omega), gb.ok.h⟩, ⟨gb.sz.l, gb.sz.t, fK (by omega), gb.sz.h⟩⟩, hx, rfl⟩
  ·exact ⟨_, by simp! [beq_eq_false_iff_ne.mpr hw], b, x, a, c, gb, hx, rfl⟩
 rintro _ ⟨b, x, a, c, gb, hx, rfl⟩
 refine b8 (rmI k way) ?_ ?_
 ·by_cases hw : way = 3
  ·subst hw
   obtain ⟨r, a1, c1, e1, h0, h1⟩ := a8 (a := a) (b := c) (k := k) (m := 99) (by decide) (sm8 (by decide))
   exact ⟨[.mu (fdV a1 c1 k), .sh (.int 3), .sh (fV b.l), .sh (fV b.t), .sh (fV b.w), .sh (fV ((1 + r : Int) : Rat)), x], by simp! [e1, iV], ⟨b.l, b.t, b.w, ((1 + r : Int) : Rat)⟩, x, a1, c1, ⟨⟨gb.ok.w, fo (by omega)⟩, ⟨gb.sz.l, gb.sz.t, gb.sz.w, fK (by omega)⟩⟩, hx, rfl⟩
  ·exact ⟨_, by simp! [beq_eq_false_iff_ne.mpr hw], b, x, a, c, gb, hx, rfl⟩
 rintro _ ⟨b, x, a, c, gb, hx, rfl⟩
 refine b8 (rmI k way) ?_ ?_
 ·by_cases hw : way = 4
  ·subst hw
   obtain ⟨r1, a1, c1, e1, h10, h11⟩ := a8 (a := a) (b := c) (k := k) (m := 199) (by decide) (sm8 (by decide))
   obtain ⟨r2, a2, c2, e2, h20, h21⟩ := a8 (a := a1) (b := c1) (k := k) (m := 30) (by decide) (sm8 (by decide))
   obtain ⟨r3, a3, c3, e3, h30, h31⟩ := a8 (a := a2) (b := c2) (k := k) (m := 9) (by decide) (sm8 (by decide))
   obtain ⟨r4, a4, c4, e4, h40, h41⟩ := a8 (a := a3) (b := c3) (k := k) (m := 99) (by decide) (sm8 (by decide))
   obtain ⟨r5, a5, c5, e5, h50, h51⟩ := a8 (a := a4) (b := c4) (k := k) (m := 30) (by decide) (sm8 (by decide))
   obtain ⟨r6, a6, c6, e6, h60, h61⟩ := a8 (a := a5) (b := c5) (k := k) (m := 99) (by decide) (sm8 (by decide))
   have l1 := gJ (a := r1 - 99) (b := 1 + r2) (by omega) (jH (by omega))
   have l2 := gJ (a := r3) (b := 7) (by omega) (jH (by omega))
   have l3 := gJ (a := 1 + r4) (b := 1 + r5) (by omega) (jH (by omega))
   have l4 := gJ (a := 1 + r6) (b := 11) (by omega) (jH (by omega))
   exact ⟨[.mu (fdV a6 c6 k), .sh (.int 4), .sh (fV (((r1 - 99 : Int) : Rat) / ((1 + r2 : Int) : Rat))), .sh (fV (((r3 : Int) : Rat) / ((7 : Int) : Rat))), .sh (fV (((1 + r4 : Int) : Rat) / ((1 + r5 : Int) : Rat))), .sh (fV (((1 + r6 : Int) : Rat) / ((11 : Int) : Rat))), x], by simp! [e1, e2, e3, e4, e5, e6, l1, l2, l3, l4], ⟨_, _, _, _⟩, x, a6, c6, ⟨⟨kr (by omega) (by omega), kr (by omega) (by omega)⟩, ⟨gn (by omega) (by omega) (by omega), gn (by omega) (by omega) (by omega), gn (by omega) (by omega) (by omega), gn (by omega) (by omega) (by omega)⟩⟩, hx, rfl⟩
  ·exact ⟨_, by simp! [beq_eq_false_iff_ne.mpr hw], b, x, a, c, gb, hx, rfl⟩
 rintro _ ⟨b, x, a, c, gb, hx, rfl⟩
 refine b8 (rmI k way) ?_ ?_
 ·by_cases hw : way = 5
  ·subst hw
   obtain ⟨r1, a1, c1, e1, h10, h11⟩ := gB (a := a) (b := c) (k := k) (far := 999999999999999999999999999999) (by decide) (by decide)
   obtain ⟨r2, a2, c2, e2, h20, h21⟩ := gB (a := a1) (b := c1) (k := k) (far := 999999999999999999999999999998) (by decide) (by decide)
   obtain ⟨r3, a3, c3, e3, h30, h31⟩ := gB (a := a2) (b := c2) (k := k) (far := 999999999999999999999999999999) (by decide) (by decide)
   obtain ⟨r4, a4, c4, e4, h40, h41⟩ := gB (a := a3) (b := c3) (k := k) (far := 999999999999999999999999999998) (by decide) (by decide)
   obtain ⟨r5, a5, c5, e5, h50, h51⟩ := gB (a := a4) (b := c4) (k := k) (far := 999999999999999999999999999998) (by decide) (by decide)
   have n2 := dO r2
   have n4 := dO r4
   have n5 := dO r5
   have l1 := gJ (a := r1) (b := 1 + ((r2.natAbs : Nat) : Int)) (by omega) (jH (by omega))
   have l4 := gJ (a := 1 + ((r5.natAbs : Nat) : Int)) (b := 999999999999999999999999999999) (by omega) (jH (by omega))
   exact ⟨[.mu (fdV a5 c5 k), .sh (.int 5), .sh (fV (((r1 : Int) : Rat) / ((1 + ((r2.natAbs : Nat) : Int) : Int) : Rat))), .sh (fV ((r3 : Int) : Rat)), .sh (fV ((1 + ((r4.natAbs : Nat) : Int) : Int) : Rat)), .sh (fV (((1 + ((r5.natAbs : Nat) : Int) : Int) : Rat) / ((999999999999999999999999999999 : Int) : Rat))), .sh (.int 999999999999999999999999999999)], by simp! [hx, p30, e1, e2, e3, e4, e5, n2, n4, n5, l1, l4, iV], ⟨_, _, _, _⟩, _, a5, c5, ⟨⟨fo (by omega), kr (by omega) (by omega)⟩, ⟨gn (by omega) (by omega) (by omega), fK (by omega), fK (by omega), gn (by omega) (by omega) (by omega)⟩⟩, rfl, rfl⟩
  ·exact ⟨_, by simp! [beq_eq_false_iff_ne.mpr hw], b, x, a, c, gb, hx, rfl⟩
 rintro _ ⟨b, x, a, c, gb, hx, rfl⟩
 refine ⟨b, a, c, gb, ?_⟩
 simp! [gf, bV]
noncomputable def gh : Val -> Bool
 | .bl _ => true
 | _ => false
theorem mH {v : Val} (hk : knV v = true) : (bt kits).G [v, .ty "int"] = .val (.bl (eI v || gh v)) := by
 cases v <;> first | rfl | cases hk
theorem kj {v : Val} (hk : knV v = true) : (bt kits).G [v, .ty "bool"] = .val (.bl (gh v)) := by
 cases v <;> first | rfl | cases hk
noncomputable def smP (v : Val) : Prop := ∀ a b : Int, v = .tup [.int a, .int b] -> Sm 8000 b
theorem Dm {a b : Int} (hb : 0 < b) : vq (fV ((a : Rat) / (b : Rat))) (.tup [.int a, .int b]) = decide (Int.gcd a b = 1) := by
 by_cases h : Int.gcd a b = 1
 ·rw [<- wQ (by omega) h, decide_eq_true h]
  simp [vq, vqs]
 ·rw [decide_eq_false h]
  have hh : ¬ (((a : Rat) / (b : Rat)).num = a /\ ((((a : Rat) / (b : Rat)).den : Nat) : Int) = b) := by
   rintro ⟨h1, h2⟩
   have := qp ((a : Rat) / (b : Rat))
   rw [h1, h2] at this
   exact h this
  unfold fV
  simp only [vq, vqs, Bool.and_true]
  rw [Bool.and_eq_false_iff, beq_eq_false_iff_ne, beq_eq_false_iff_ne]
  by_cases h1 : ((a : Rat) / (b : Rat)).num = a
  ·exact .inr fun h2 => hh ⟨h1, h2⟩
  ·exact .inl h1
theorem
    lJ {v : Val} (ha : aR 1 v = true) (hs : smP v) : bH.G [v] = .ok (.val (.bl (aQ v))) [] := by
 unfold bH
 rw [cB]
 unfold eP ec
 rcases jf v with ht | ⟨xs, rfl⟩
 ·have it := dI (nG ha ht)
  rw [ht] at it
  simp! [it, wW ht]
 have it := dI (v := .tup xs) rfl
 by_cases hl : xs.length = 2
 ·match
     xs, hl, ha, hs with
  |
   [a, b], _, ha, hs =>
   have ha' : (knV a && (knV b && true)) = true := by simpa [aR] using ha
   simp only [Bool.and_eq_true] at ha'
   have w1 := mH ha'.1
   have w2 := mH ha'.2.1
   have w3 := kj ha'.1
   have w4 := kj ha'.2.1
   rcases fb a with h1 | ⟨i, rfl⟩
   ·rw [h1] at w1
    cases h3 : gh a <;> (rw [h3] at w1 w3; simp! [it, bK, w1, w3, eR, tX h1])
   rcases fb b with h2 | ⟨j, rfl⟩
   ·rw [h2] at w2
    cases h4 : gh b <;> (rw [h4] at w2 w4; simp! [it, bK, w1, w3, eI, gh, w2, w4, eR, sv h2])
   have f : aQ (.tup [.int i, .int j]) = (decide (1 <= j) && decide (Int.gcd i j = 1)) := rfl
   by_cases hj : 0 < j
   ·have lo := gJ (a := i) (b := j) (by omega) (hs i j rfl)
    have eq1 : fm (fV ((i : Rat) / (j : Rat))) (.tup [.int i, .int j]) = some (decide (Int.gcd i j = 1)) := by
     rw [wN rfl rfl, Dm hj]
    simp! [it, bK, w1, w2, w3, w4, eI, gh, eR, decide_eq_true hj, lo, eq1, f, decide_eq_true (show 1 <= j by omega)]
   ·simp! [it, bK, w1, w2, w3, w4, eI, gh, eR, decide_eq_false hj, f, decide_eq_false (show ¬ 1 <= j by omega)]
 ·have e : (((xs.length : Nat) : Int) == 2) = false := by rw [beq_eq_false_iff_ne]; omega
  simp! [it, bK, e, xb hl]
noncomputable def smB (v : Val) : Prop := ∀ xs, v = .tup xs -> ∀ x ∈ xs, smP x
theorem
    su {v : Val} (ha : aR 2 v = true) (hs : smB v) : bQ.G [v] = .ok (.val (.bl (aY v))) [] := by
 unfold bQ
 rw [cB]
 unfold gH
 rcases jf v with ht | ⟨xs, rfl⟩
 ·have it := dI (nG ha ht)
  rw [ht] at it
  simp! [it, xj ht]
 have it := dI (v := .tup xs) rfl
 by_cases hl : xs.length = 4
 ·match
     xs, hl, ha, hs with
  |
   [a, b, c, d], _, ha, hs =>
   have ha' : (aR 1 a && (aR 1 b && (aR 1 c && (aR 1 d && true)))) = true := by simpa [aR] using ha
   simp only [Bool.and_eq_true] at ha'
   have hs' := hs _ rfl
   have w1 := lJ ha'.1 (hs' _ (by simp))
   have w2 := lJ ha'.2.1 (hs' _ (by simp))
   have w3 := lJ ha'.2.2.1 (hs' _ (by simp))
   have w4 := lJ ha'.2.2.2.1 (hs' _ (by simp))
   have e1 : aY (.tup [a, b, c, d]) = (aQ a && (aQ b && (aQ c && (aQ d && (gv c && gv d))))) := rfl
   have bl4 : ∀ x y z w : Bool, jr [.bl x, .bl y, .bl z, .bl w] = some [x, y, z, w] := fun _ _ _ _ => rfl
   cases hA : (aQ a && (aQ b && (aQ c && aQ d))) with
   |
    true =>
    simp only [Bool.and_eq_true] at hA
    obtain ⟨p, rfl⟩ := fM hA.2.2.1
    obtain ⟨q, rfl⟩ := fM hA.2.2.2
    rw [hA.1, hA.2.1, hA.2.2.1, hA.2.2.2] at e1
    rw [hA.1] at w1; rw [hA.2.1] at w2; rw [hA.2.2.1] at w3; rw [hA.2.2.2] at w4
    have e2 : aY (.tup [a, b, fV p, fV q]) = (decide (0 < p.num) && decide (0 < q.num)) := by rw [e1]; rfl
    rw [e2]
    have i1 : (fV p).items = some [.int p.num, .int p.den] := rfl
    have i2 : (fV q).items = some [.int q.num, .int q.den] := rfl
    by_cases hp : 0 < p.num
    ·simp! [it, bK, lcV, cP, w1, w2, w3, w4, bl4, id, i1, i2, decide_eq_true hp]
    ·simp! [it, bK, lcV, cP, w1, w2, w3, w4, bl4, id, i1, i2, decide_eq_false hp]
   |
    false =>
    have e2 : aY (.tup [a, b, c, d]) = false := by
     rw [e1]
     revert hA
     generalize aQ a = a', aQ b = b', aQ c = c', aQ d = d', (gv c && gv d) = z
     revert a' b' c' d' z
     decide
    rw [e2]
    simp! [it, bK, lcV, cP, w1, w2, w3, w4, bl4, id, hA]
 ·have e : (((xs.length : Nat) : Int) == 4) = false := by rw [beq_eq_false_iff_ne]; omega
  simp! [it, bK, e, xh hl]
theorem p28 : gq.G (.int 10) (.int 28) = .val (.int 10000000000000000000000000000) := nF ⟨by decide, by decide, by decide⟩
noncomputable def odQ (k : Int) (r : SR3) : Prop := ∃ v a c, (aR 1 v = true /\ smP v) /\ oP [true, false] r = .ok (.val v) [fdV a c k]
theorem tD {v : Val} (h : ∀ a b : Int, v ≠ .tup [.int a, .int b]) : smP v := fun a b e => absurd e (h a b)
theorem eF {a b : Int} (h : Sm 8000 b) : smP (.tup [.int a, .int b]) := fun a' b' e => by cases e; exact h
theorem lC {q : Rat} (hq : Sz 101 q) (a c k : Int) : ∃ v a' c', (aR 1 v = true /\ smP v) /\ dn.G [fdV a c k, fV q] = .ok (.val v) [fdV a' c' k] := by
 unfold dn
 rw [sg rfl]
 show odQ k (gP.G [.mu (fdV a c k), .sh (fV q), .no, .no])
 unfold gP
 have iq : (fV q).items = some [.int q.num, .int q.den] := rfl
 obtain ⟨r1, a1, c1, e1, h10, h11⟩ := a8 (a := a) (b := c) (k := k) (m := 5) (by decide) (sm8 (by decide))
 refine b8 (fun e => e = [.mu (fdV a1 c1 k), .sh (fV q), .sh (.int (2 + r1)), .no]) ⟨_, by simp! [e1], rfl⟩ ?_
 rintro _ rfl
 refine b8 (fun e => ∃ y : Int, 1 <= y /\ y <= 6 /\ e = [.mu (fdV a1 c1 k), .sh (fV q), .sh (.int y), .no]) ?_ ?_
 ·have : ∃ m : Int, iB.G [.int ((q.num.natAbs : Nat) : Int), .int (q.den : Nat)] = .val (.int m) := ⟨_, rV _ _⟩
  obtain ⟨m, em⟩ := this
  rw [rV] at em
  by_cases hm : 10000000000000000000000000000 < m
  ·exact ⟨_, by simp! [iq, p28, dO, em, decide_eq_true hm], 1, by omega, by omega, rfl⟩
  ·exact ⟨_, by simp! [iq, p28, dO, em, decide_eq_false hm], 2 + r1, by omega, by omega, rfl⟩
 rintro _ ⟨y, hy1, hy6, rfl⟩
 have m1 : ∀ x : Int, cj.G (.int x) (.int y) = .val (.int (x * y)) := fun x => iU (CMulA.right (by omega) (by omega))
 have ad : bf.G (fV q) (.tup [.int 1]) = .val (.tup [.int q.num, .int q.den, .int 1]) := rfl
 obtain ⟨r2, a2, c2, e2, h20, h21⟩ := a8 (a := a1) (b := c1) (k := k) (m := 19) (by decide) (sm8 (by decide))
 have sy : Sm 8000 y := sm8 (by omega)
 have sd : Sm 101 (q.den : Int) := hq.bot
 generalize hM : (0 - (if ((q.num.natAbs : Nat) : Int) > 1 then ((q.num.natAbs : Nat) : Int) else 1)) = M
 obtain ⟨v, ev, hv⟩ : ∃ v, atI [Val.bl true, .str "1", .non, .lst [.int q.num, .int q.den], .tup [.int (q.num * y), .int (q.den * y)], .tup [.int q.num, .int 0], .tup [.int q.num], .tup [.int (0 - q.num), .int (0 - q.den)], .tup [.int q.num, .int q.den, .int 1], .int q.num, .tup [.int 0, .int 1], .tup [.int M, .int q.den], .tup [.bl true, .int 1], .tup [.int 1, .bl true], .tup [.int q.num, .str "1"], .tup [.non, .int 1], .tup [], .str "", fV q] r2 = some v /\ aR 1 v = true /\ smP v := by
  generalize hL : [Val.bl true, .str "1", .non, .lst [.int q.num, .int q.den], .tup [.int (q.num * y), .int (q.den * y)], .tup [.int q.num, .int 0], .tup [.int q.num], .tup [.int (0 - q.num), .int (0 - q.den)], .tup [.int q.num, .int q.den, .int 1], .int q.num, .tup [.int 0, .int 1], .tup [.int M, .int q.den], .tup [.bl true, .int 1], .tup [.int 1, .bl true], .tup [.int q.num, .str "1"], .tup [.non, .int 1], .tup [], .str "", fV q] = L
  have hl : L.length = 19 := by rw [<- hL]; rfl
  have hlt : r2.toNat < L.length := by omega
  refine ⟨L[r2.toNat], gc h20 (List.getElem?_eq_getElem hlt), ?_⟩
  have hmem : L[r2.toNat] ∈ L := List.getElem_mem hlt
  generalize L[r2.toNat] = v at hmem
  subst hL
  have s0 : Sm 8000 (0 : Int) := sm8 (by decide)
  have s1 : Sm 8000 (1 : Int) := sm8 (by decide)
  have sD : Sm 8000 (q.den : Int) := sd.mono (by decide)
  have sN : Sm 8000 (0 - (q.den : Int)) := by
   have : (0 - (q.den : Int)).natAbs = (q.den : Int).natAbs := by omega
   unfold Sm; rw [this]; exact sD
  have sY : Sm 8000 ((q.den : Int) * y) := (sd.mul (show Sm 40 y from by unfold Sm; omega)).mono (by decide)
  simp only [List.mem_cons, List.not_mem_nil, or_false] at hmem
  rcases hmem with rfl | rfl | rfl | rfl | rfl | rfl | rfl | rfl | rfl | rfl | rfl | rfl | rfl | rfl | rfl | rfl | rfl | rfl | rfl
  all_goals first
   | exact ⟨rfl, eF sY⟩
   | exact ⟨rfl, eF s0⟩
   | exact ⟨rfl, eF sN⟩
   | exact ⟨rfl, eF s1⟩
   | exact ⟨rfl, eF sD⟩
   | exact ⟨rfl, tD (by intro a b e; cases e)⟩
 refine ⟨v, a2, c2, hv, ?_⟩
 simp! [iq, m1, ad, dO, hM, e2, ev, gf]
noncomputable def Th (v : Val) : Prop := aR 2 v = true /\ smB v
noncomputable def spQ (k : Int) (r : SR3) : Prop := ∃ v a c, Th v /\ oP [true, false] r = .ok (.val v) [fdV a c k]
theorem jg {v : Val} (hk : knV v = true) (h : bK v = false) : Th v := ⟨(by cases v <;> first | (cases h; done) | exact hk), (fun xs e => by subst e; cases h)⟩
theorem cZ {xs : List Val} (h : ∀ x ∈ xs, aR 1 x = true /\ smP x) : Th (.tup xs) := by
 refine ⟨?_, fun ys e x hx => by cases e; exact (h x hx).2⟩
 unfold aR
 rw [List.all_eq_true]
 exact fun x hx => (h x hx).1
theorem nE {q : Rat} (h : Sz 101 q) : aR 1 (fV q) = true /\ smP (fV q) := ⟨rfl, eF (h.bot.mono (by decide))⟩
theorem uo {i : Int} (h0 : 0 <= i) (h1 : i < 7) : i = 0 \/ i = 1 \/ i = 2 \/ i = 3 \/ i = 4 \/ i = 5 \/ i = 6 := by omega
theorem
    rW {b : Bx} (hb : Good b) (a c k : Int) : ∃ v a' c', Th v /\ bY.G [fdV a c k, bV b] = .ok (.val v) [fdV a' c' k] := by
 unfold bY
 rw [sg rfl]
 show spQ k (dZ.G [.mu (fdV a c k), .sh (bV b), .no, .no])
 unfold dZ
 obtain ⟨w, a1, c1, e1, h10, h11⟩ := a8 (a := a) (b := c) (k := k) (m := 7) (by decide) (sm8 (by decide))
 refine b8 (fun e => e = [.mu (fdV a1 c1 k), .sh (bV b), .sh (.int w), .no]) ⟨_, by simp! [e1], rfl⟩ ?_
 rintro _ rfl
 have ib : (bV b).items = some [fV b.l, fV b.t, fV b.w, fV b.h] := rfl
 have iw : (fV b.w).items = some [.int b.w.num, .int b.w.den] := rfl
 have ih : (fV b.h).items = some [.int b.h.num, .int b.h.den] := rfl
 have fl := nE hb.sz.l
 have ft := nE hb.sz.t
 have fw := nE hb.sz.w
 have fh := nE hb.sz.h
 rcases uo h10 h11 with rfl | rfl | rfl | rfl | rfl | rfl | rfl
 ·obtain ⟨v, a2, c2, hv, e2⟩ := lC hb.sz.l a1 c1 k
  have s1 : aSl (bV b) none (some 0) = .val (.tup []) := rfl
  have s2 : aSl (bV b) (some 1) none = .val (.tup [fV b.t, fV b.w, fV b.h]) := rfl
  have d1 : bf.G (.tup []) (.tup [v]) = .val (.tup [v]) := rfl
  have d2 : bf.G (.tup [v]) (.tup [fV b.t, fV b.w, fV b.h]) = .val (.tup [v, fV b.t, fV b.w, fV b.h]) := rfl
  refine ⟨_, a2, c2, cZ (xs := [v, fV b.t, fV b.w, fV b.h]) ?_, by simp! [ib, s1, s2, d1, d2, e2, gf]⟩
  intro x hx
  simp only [List.mem_cons, List.not_mem_nil, or_false] at hx
  rcases hx with rfl | rfl | rfl | rfl <;> assumption
 ·obtain ⟨v, a2, c2, hv, e2⟩ := lC hb.sz.t a1 c1 k
  have s1 : aSl (bV b) none (some 1) = .val (.tup [fV b.l]) := rfl
  have s2 : aSl (bV b) (some 2) none = .val (.tup [fV b.w, fV b.h]) := rfl
  have d1 : bf.G (.tup [fV b.l]) (.tup [v]) = .val (.tup [fV b.l, v]) := rfl
  have d2 : bf.G (.tup [fV b.l, v]) (.tup [fV b.w, fV b.h]) = .val (.tup [fV b.l, v, fV b.w, fV b.h]) := rfl
  refine ⟨_, a2, c2, cZ (xs := [fV b.l, v, fV b.w, fV b.h]) ?_, by simp! [ib, s1, s2, d1, d2, e2, gf]⟩
  intro x hx
  simp only [List.mem_cons, List.not_mem_nil, or_false] at hx
  rcases hx with rfl | rfl | rfl | rfl <;> assumption
 ·obtain ⟨v, a2, c2, hv, e2⟩ := lC hb.sz.w a1 c1 k
  have s1 : aSl (bV b) none (some 2) = .val (.tup [fV b.l, fV b.t]) := rfl
  have s2 : aSl (bV b) (some 3) none = .val (.tup [fV b.h]) := rfl
  have d1 : bf.G (.tup [fV b.l, fV b.t]) (.tup [v]) = .val (.tup [fV b.l, fV b.t, v]) := rfl
  have d2 : bf.G (.tup [fV b.l, fV b.t, v]) (.tup [fV b.h]) = .val (.tup [fV b.l, fV b.t, v, fV b.h]) := rfl
  refine ⟨_, a2, c2, cZ (xs := [fV b.l, fV b.t, v, fV b.h]) ?_, by simp! [ib, s1, s2, d1, d2, e2, gf]⟩
  intro x hx
  simp only [List.mem_cons, List.not_mem_nil, or_false] at hx
  rcases hx with rfl | rfl | rfl | rfl <;> assumption
 ·obtain ⟨v, a2, c2, hv, e2⟩ := lC hb.sz.h a1 c1 k
  have s1 : aSl (bV b) none (some 3) = .val (.tup [fV b.l, fV b.t, fV b.w]) := rfl
  have s2 : aSl (bV b) (some 4) none = .val (.tup []) := rfl
  have d1 : bf.G (.tup [fV b.l, fV b.t, fV b.w]) (.tup [v]) = .val (.tup [fV b.l, fV b.t, fV b.w, v]) := rfl
  have d2 : bf.G (.tup [fV b.l, fV b.t, fV b.w, v]) (.tup []) = .val (.tup [fV b.l, fV b.t, fV b.w, v]) := rfl
  refine ⟨_, a2, c2, cZ (xs := [fV b.l, fV b.t, fV b.w, v]) ?_, by simp! [ib, s1, s2, d1, d2, e2, gf]⟩
  intro x hx
  simp only [List.mem_cons, List.not_mem_nil, or_false] at hx
  rcases hx with rfl | rfl | rfl | rfl <;> assumption
 ·obtain ⟨q, a2, c2, e2, h20, h21⟩ := a8 (a := a1) (b := c1) (k := k) (m := 7) (by decide) (sm8 (by decide))
  have s1 : aSl (bV b) none (some 2) = .val (.tup [fV b.l, fV b.t]) := rfl
  have s2 : aSl (bV b) none (some 3) = .val (.tup [fV b.l, fV b.t, fV b.w]) := rfl
  have ls : oB.G [bV b] = .new (.lst [fV b.l, fV b.t, fV b.w, fV b.h]) := rfl
  have d1 : ∀ x y, bf.G (.tup [fV b.l, fV b.t]) (.tup [x, y]) = .val (.tup [fV b.l, fV b.t, x, y]) := fun _ _ => rfl
  have d2 : bf.G (bV b) (.tup [fV b.l]) = .val (.tup [fV b.l, fV b.t, fV b.w, fV b.h, fV b.l]) := rfl
  have g1 : aR 1 (.tup [.int (0 - b.w.num), .int b.w.den]) = true /\ smP (.tup [.int (0 - b.w.num), .int b.w.den]) := ⟨rfl, eF (hb.sz.w.bot.mono (by decide))⟩
  have g2 : aR 1 (.tup [.int (0 - b.h.num), .int b.h.den]) = true /\ smP (.tup [.int (0 - b.h.num), .int b.h.den]) := ⟨rfl, eF (hb.sz.h.bot.mono (by decide))⟩
  obtain ⟨v, ev, hv⟩ : ∃ v, atI [.lst [fV b.l, fV b.t, fV b.w, fV b.h], .tup [fV b.l, fV b.t, fV b.w], .tup [fV b.l, fV b.t, fV b.w, fV b.h, fV b.l], .lst [bV b], .tup [], .tup [fV b.l, fV b.t, .tup [.int (0 - b.w.num), .int b.w.den], .tup [.int (0 - b.h.num), .int b.h.den]], .tup [fV b.l, fV b.t, .tup [.int (0 - b.w.num), .int b.w.den], .tup [.int (0 - b.h.num), .int b.h.den]]] q = some v /\ Th v := by
   rcases uo h20 h21 with rfl | rfl | rfl | rfl | rfl | rfl | rfl
   ·exact ⟨_, vI .., jg rfl rfl⟩
   ·refine ⟨_, vh .., cZ fun x hx => ?_⟩
    simp only [List.mem_cons, List.not_mem_nil, or_false] at hx
    rcases hx with rfl | rfl | rfl <;> assumption
   ·refine ⟨_, vN .., cZ fun x hx => ?_⟩
    simp only [List.mem_cons, List.not_mem_nil, or_false] at hx
    rcases hx with rfl | rfl | rfl | rfl | rfl <;> assumption
   ·exact ⟨_, uY .., jg rfl rfl⟩
   ·exact ⟨_, ati4 .., cZ fun x hx => nomatch hx⟩
   ·refine ⟨_, ati5 .., cZ fun x hx => ?_⟩
    simp only [List.mem_cons, List.not_mem_nil, or_false] at hx
    rcases hx with rfl | rfl | rfl | rfl <;> assumption
   ·refine ⟨_, ati6 .., cZ fun x hx => ?_⟩
    simp only [List.mem_cons, List.not_mem_nil, or_false] at hx
    rcases hx with rfl | rfl | rfl | rfl <;> assumption
  refine ⟨v, a2, c2, hv, ?_⟩
  simp! [ib, iw, ih, s1, s2, ls, d1, d2, e2, ev, gf]
 ·obtain ⟨q, a2, c2, e2, h20, h21⟩ := a8 (a := a1) (b := c1) (k := k) (m := 6) (by decide) (sm8 (by decide))
  obtain ⟨v, ev, hv⟩ : ∃ v, atI [.non, .str "box", .int 7, .bl false, .dct [], fV b.l] q = some v /\ Th v := by
   rcases (show q = 0 \/ q = 1 \/ q = 2 \/ q = 3 \/ q = 4 \/ q = 5 by omega) with rfl | rfl | rfl | rfl | rfl | rfl
   ·exact ⟨_, vI .., jg rfl rfl⟩
   ·exact ⟨_, vh .., jg rfl rfl⟩
   ·exact ⟨_, vN .., jg rfl rfl⟩
   ·exact ⟨_, uY .., jg rfl rfl⟩
   ·exact ⟨_, ati4 .., jg rfl rfl⟩
   ·refine ⟨_, ati5 .., cZ fun x hx => ?_⟩
    simp only [List.mem_cons, List.not_mem_nil, or_false] at hx
    rcases hx with rfl | rfl <;> exact ⟨rfl, tD (by intro a b e; cases e)⟩
  refine ⟨v, a2, c2, hv, ?_⟩
  simp! [ib, e2, ev, gf]
 ·refine ⟨bV b, a1, c1, cZ (fun x hx => ?_), by simp! [gf]⟩
  simp only [List.mem_cons, List.not_mem_nil, or_false] at hx
  rcases hx with rfl | rfl | rfl | rfl <;> assumption
theorem eK {v : Val} (ha : aR 2 v = true) (hb : aY v = false) {j : Int} (h0 : 0 <= j) (h1 : j < 5) : bX.G [.int j, v] = .ok (.val (.bl true)) [] := by
 unfold bX
 rw [cB]
 unfold fW
 have m : ("NoBox" : Str) ∈ d4 := by decide +kernel
 have i1 : (bt kits).G [.exc "NoBox", .glb "NoBox"] = .val (.bl true) := rfl
 have i2 : (bt kits).G [.exc "NoBox", .tup [.glb "NoFraction", .glb "NoText", .glb "NoWay", .glb "NoWeights", .glb "TooMany"]] = .val (.bl false) := rfl
 have p1 := yd ha hb
 have p2 := vX ha hb
 have p3 := kd ha hb
 have p4 := sC ha hb
 have p5 := tM (w := .str "no way") (x := .lst []) ha hb
 have z1 : (("shape" : Str) == "area") = false := by decide +kernel
 have z2 : (("long_way" : Str) == "area") = false := by decide +kernel
 have z3 : (("long_way" : Str) == "shape") = false := by decide +kernel
 have z4 : (("turned" : Str) == "area") = false := by decide +kernel
 have z5 : (("turned" : Str) == "shape") = false := by decide +kernel
 have z6 : (("turned" : Str) == "long_way") = false := by decide +kernel
 rcases (show j = 0 \/ j = 1 \/ j = 2 \/ j = 3 \/ j = 4 by omega) with rfl | rfl | rfl | rfl | rfl
 ·simp! [iP, beq_self_eq_true, p1, m, i1, i2]
 ·simp! [iP, beq_self_eq_true, z1, p2, m, i1, i2]
 ·simp! [iP, beq_self_eq_true, z2, z3, p3, m, i1, i2]
 ·simp! [iP, beq_self_eq_true, z4, z5, z6, p4, m, i1, i2]
 ·simp! [iP, p5, m, i1, i2]
theorem gu {k : Nat} {v : Val} (h : aR k v = true) : knV v = true := by
 cases v with
 | tup xs => rfl
 | _ => cases k <;> exact h
theorem kU {v : Val} (h : aR 1 v = true /\ smP v) : aR 1 (aH v) = true /\ smP (aH v) := by
 cases v with
 | int i => exact ⟨rfl, eF (sm8 (by decide))⟩
 | _ => exact h
theorem sQ {a b c d : Val} (ha : aR 1 a = true) (hb : aR 1 b = true) (hc : aR 1 c = true) (hd : aR 1 d = true) (hT : aR 2 (.tup [aH a, aH b, aH c, aH d]) = true) : eg.G [a, b, c, d] = if aY (.tup [aH a, aH b, aH c, aH d]) = true then .ok (.val (.tup [aH a, aH b, aH c, aH d])) [] else .exc "NoBox" [] := by
 have f1 := dN (gu ha)
 have f2 := dN (gu hb)
 have f3 := dN (gu hc)
 have f4 := dN (gu hd)
 have ck := du hT
 unfold eg
 rw [cB]
 unfold km
 cases h : aY (.tup [aH a, aH b, aH c, aH d]) with
 |
  true =>
  rw [h] at ck
  simp! [f1, f2, f3, f4, ck]
 |
  false =>
  rw [h] at ck
  simp! [f1, f2, f3, f4, ck]
theorem uy {a b c d : Val} (ha : aR 1 a = true) (hb : aR 1 b = true) (hc : aR 1 c = true) (hd : aR 1 d = true) (hT : aR 2 (.tup [aH a, aH b, aH c, aH d]) = true) : cI.G [.tup [a, b, c, d]] = .ok (.val (.tup [if aY (.tup [aH a, aH b, aH c, aH d]) = true then .tup [aH a, aH b, aH c, aH d] else .non, .bl (!aY (.tup [aH a, aH b, aH c, aH d]))])) [] := by
 have bo := sQ ha hb hc hd hT
 have m : ("NoBox" : Str) ∈ g0 := by decide +kernel
 unfold cI
 rw [cB]
 unfold g8
 cases h : aY (.tup [aH a, aH b, aH c, aH d]) with
 |
  true =>
  rw [h] at bo
  simp! [jJ, bo]
 |
  false =>
  rw [h] at bo
  simp! [jJ, bo, m]
structure LwE (ns : List Int) (s1 s2 s3 s4 s5 s6 s7 : Sl) (e : E3) : Prop where
 eq : e = [.sh (.kl (ns.map .int)), s1, s2, s3, s4, s5, s6, s7]
 h1 : s1.pl = true
 h2 : s2.pl = true
 h3 : s3.pl = true
 h4 : s4.pl = true
 h5 : s5.pl = true
 h6 : s6.pl = true
 h7 : s7.pl = true
noncomputable def lwP (ns : List Int) (e : E3) : Prop := ∃ s1 s2 s3 s4 s5 s6 s7, LwE ns s1 s2 s3 s4 s5 s6 s7 e
noncomputable def lwQ (ns : List Int) (r : SR3) : Prop := ∃ e, r = .nx e /\ lwP ns e
theorem rg5 : ie [.int 5] = some [.int 0, .int 1, .int 2, .int 3, .int 4] := l8 (i := 5) (by decide) (by decide)
theorem
    yP {ns : List Int} {k : Int} (hk : 0 <= k) {s1 s2 s3 s4 s5 s6 s7 : Sl} (H : LwE ns s1 s2 s3 s4 s5 s6 s7 [.sh (.kl (ns.map .int)), s1, s2, s3, s4, s5, s6, s7]) (hs1 : s1 = .sh (.int k)) : lwQ ns (jn.G [.sh (.kl (ns.map .int)), s1, s2, s3, s4, s5, s6, s7]) := by
 subst hs1
 obtain ⟨_, _, h2, h3, h4, h5, h6, h7⟩ := H
 unfold jn
 obtain ⟨a0, fe⟩ := xp (ns := ns) hk
 refine b8 (fun e => e = [.sh (.kl (ns.map .int)), .sh (.int k), .ow (fdV a0 0 k), s3, s4, s5, s6, s7]) ⟨_, by simp! [fe, h2], rfl⟩ ?_
 rintro _ rfl
 obtain ⟨b, a1, c1, gb, er⟩ := yB a0 0 k
 obtain ⟨v, a2, c2, ⟨ha, hs⟩, es⟩ := rW gb a1 c1 k
 refine b8 (fun e => e = [.sh (.kl (ns.map .int)), .sh (.int k), .ow (fdV a2 c2 k), .sh v, s4, s5, s6, s7]) ⟨_, by simp! [er, es, h3], rfl⟩ ?_
 rintro _ rfl
 have ib := js ha
 have lb := su ha hs
 refine b8 (fun e => e = [.sh (.kl (ns.map .int)), .sh (.int k), .ow (fdV a2 c2 k), .sh v, .sh (.bl (aY v)), s5, s6, s7]) ⟨_, by simp! [lb, h4], rfl⟩ ?_
 rintro _ rfl
 have it : (bt kits).G [.bl (aY v), .ty "bool"] = .val (.bl true) := rfl
 refine b8 (fun e => e = [.sh (.kl (ns.map .int)), .sh (.int k), .ow (fdV a2 c2 k), .sh v, .sh (.bl (aY v)), s5, s6, s7]) ⟨_, by simp! [ib, it, beq_self_eq_true], rfl⟩ ?_
 rintro _ rfl
 refine b8 (fun e => e = [.sh (.kl (ns.map .int)), .sh (.int k), .ow (fdV a2 c2 k), .sh v, .sh (.bl (aY v)), s5, s6, s7]) ?_ ?_
 ·cases h : aY v with
  | true => exact ⟨_, by simp! [lq], rfl⟩
  |
   false =>
   have r0 := eK ha h (j := 0) (by decide) (by decide)
   have r1 := eK ha h (j := 1) (by decide) (by decide)
   have r2 := eK ha h (j := 2) (by decide) (by decide)
   have r3 := eK ha h (j := 3) (by decide) (by decide)
   have r4 := eK ha h (j := 4) (by decide) (by decide)
   have bl5 : jr [.bl true, .bl true, .bl true, .bl true, .bl true] = some [true, true, true, true, true] := rfl
   exact ⟨_, by simp! [rg5, lcV, cP, r0, r1, r2, r3, r4, bl5, id], rfl⟩
 rintro _ rfl
 have itv := dI (gu ha)
 by_cases h4' : ∃ x y z w, v = .tup [x, y, z, w]
 ·obtain ⟨x, y, z, w, rfl⟩ := h4'
  have ha' : (aR 1 x && (aR 1 y && (aR 1 z && (aR 1 w && true)))) = true := by simpa [aR] using ha
  simp only [Bool.and_eq_true] at ha'
  have hs' := hs _ rfl
  have gx := kU ⟨ha'.1, hs' x (by simp)⟩
  have gy := kU ⟨ha'.2.1, hs' y (by simp)⟩
  have gz := kU ⟨ha'.2.2.1, hs' z (by simp)⟩
  have gw := kU ⟨ha'.2.2.2.1, hs' w (by simp)⟩
  have hT : Th (.tup [aH x, aH y, aH z, aH w]) := cZ fun u hu => by
   simp only [List.mem_cons, List.not_mem_nil, or_false] at hu
   rcases hu with rfl | rfl | rfl | rfl <;> assumption
  have bx := uy ha'.1 ha'.2.1 ha'.2.2.1 ha'.2.2.2.1 hT.1
  have lT := su hT.1 hT.2
  have st : ∀ (u : Val) (s : Sl), aR 1 u = true -> (pIf (qAn (qOf (pFn (bt kits) (af (ah 0) (af (pTy "int") ak)))) (qNo (qOf (pFn (bt kits) (af (ah 0) (af (pTy "bool") ak)))))) (bc (af (ah 0) (af (ao 1) ak))) (ah 0)).G [.sh u] = .ok (.val (aH u)) [.sh u] := by
   intro u s hu
   have w1 := mH (gu hu)
   have w2 := kj (gu hu)
   rcases fb u with h | ⟨i, rfl⟩
   ·rw [h] at w1
    cases h2 : gh u <;> (rw [h2] at w1 w2; simp! [w1, w2, wY h])
   ·simp! [w1, w2, eI, gh, aH]
  obtain ⟨e', ⟨s', rfl, _⟩, lc⟩ := lQ (g := (gtN 0).G) (F := (pIf (qAn (qOf (pFn (bt kits) (af (ah 0) (af (pTy "int") ak)))) (qNo (qOf (pFn (bt kits) (af (ah 0) (af (pTy "bool") ak)))))) (bc (af (ah 0) (af (ao 1) ak))) (ah 0)).G) (f := aH) (fun e => ∃ s, e = [s] /\ s.pl = true) [x, y, z, w] [] [.no] ⟨.no, rfl, rfl⟩ (by
   rintro u hu e ⟨s, rfl, hs⟩
   have hu' : aR 1 u = true := by
    simp only [List.mem_cons, List.not_mem_nil, or_false] at hu
    rcases hu with rfl | rfl | rfl | rfl
    ·exact ha'.1
    ·exact ha'.2.1
    ·exact ha'.2.2.1
    ·exact ha'.2.2.2.1
   refine ⟨[.sh u], .val (aH u), [.sh u], ?_, st u .no hu', rfl, ⟨_, rfl, rfl⟩⟩
   simp! [hs]) (by simp)
  have cy : cY = qY.G := rfl
  rw [cy, List.nil_append] at lc
  simp only [List.map_cons, List.map_nil] at lc
  have tp : mE.G [.lst [aH x, aH y, aH z, aH w]] = .val (.tup [aH x, aH y, aH z, aH w]) := rfl
  generalize hTT : Val.tup [aH x, aH y, aH z, aH w] = TT at *
  cases h : aY TT with
  |
   true =>
   rw [h] at bx lT
   have eqT : fm TT TT = some true := by
    obtain ⟨b', _, rfl⟩ := A4 h
    rw [wN rfl rfl, pV 60 _ rfl]
   refine ⟨[.sh (.kl (ns.map .int)), .sh (.int k), .ow (fdV a2 c2 k), .sh (.tup [x, y, z, w]), .sh (.bl (aY (.tup [x, y, z, w]))), .sh TT, .sh TT, .sh (.bl false)], ?_, _, _, _, _, _, _, _, rfl, rfl, rfl, rfl, rfl, rfl, rfl, rfl⟩
   simp! [itv, bK, cP, lc, tp, (show (false == true) = false from rfl), (show (true == false) = false from rfl), h5, h6, h7, bx, lT, eqT]
  |
   false =>
   rw [h] at bx lT
   refine ⟨[.sh (.kl (ns.map .int)), .sh (.int k), .ow (fdV a2 c2 k), .sh (.tup [x, y, z, w]), .sh (.bl (aY (.tup [x, y, z, w]))), .sh TT, .sh .non, .sh (.bl true)], ?_, _, _, _, _, _, _, _, rfl, rfl, rfl, rfl, rfl, rfl, rfl, rfl⟩
   simp! [itv, bK, cP, lc, tp, (show (false == true) = false from rfl), (show (true == false) = false from rfl), h5, h6, h7, bx, lT]
 ·refine ⟨[.sh (.kl (ns.map .int)), .sh (.int k), .ow (fdV a2 c2 k), .sh v, .sh (.bl (aY v)), s5, s6, s7], ?_, _, _, _, _, _, _, _, rfl, rfl, rfl, rfl, rfl, h5, h6, h7⟩
  cases hv : bK v with
  |
   false =>
   rw [hv] at itv
   simp! [itv]
  |
   true =>
   cases v with
   |
    tup xs =>
    have e : (((xs.length : Nat) : Int) == 4) = false := by
     rw [beq_eq_false_iff_ne]
     intro hl
     have hl : xs.length = 4 := by omega
     match xs, hl with
     | [x, y, z, w], _ => exact h4' ⟨x, y, z, w, rfl⟩
    simp! [itv, bK, e]
   | _ => cases hv
theorem AJ (ns : List Int) (hl : ns.length <= 63) : lz.G [.kl (ns.map .int)] = .ok (.val (.bl true)) [] := by
 unfold lz
 rw [cB]
 unfold rG
 have rg : ∃ m : Nat, ie [.int (if (if (((ns.map Val.int).length : Nat) : Int) < 24 then (((ns.map Val.int).length : Nat) : Int) else 24) > 1 then (if (((ns.map Val.int).length : Nat) : Int) < 24 then (((ns.map Val.int).length : Nat) : Int) else 24) else 1)] = some (rgV m) := by
  refine ⟨_, l8 ?_ ?_⟩ <;> (split <;> split <;> omega)
 obtain ⟨m, rg⟩ := rg
 obtain ⟨e', ⟨s1, s2, s3, s4, s5, s6, s7, H⟩, fr⟩ := oM (g := (gtN 1).G) (B := jn.G) (lwP ns) (rgV m) [.sh (.kl (ns.map .int)), .no, .no, .no, .no, .no, .no, .no] ⟨_, _, _, _, _, _, _, rfl, rfl, rfl, rfl, rfl, rfl, rfl, rfl⟩ (by
  rintro v hv e ⟨s1, s2, s3, s4, s5, s6, s7, rfl, h1, h2, h3, h4, h5, h6, h7⟩
  obtain ⟨j, _, rfl⟩ := List.mem_map.mp hv
  obtain ⟨e2, q, hP⟩ := yP (ns := ns) (k := (j : Nat)) (by omega) (s1 := .sh (.int (j : Nat))) ⟨rfl, rfl, h2, h3, h4, h5, h6, h7⟩ rfl
  refine ⟨_, e2, ?_, .inl q, hP⟩
  simp! [h1])
 obtain ⟨rfl, _⟩ := H
 simp! [rg, fr]
theorem BB {K : PySem.W.Frag} {h : Heap} {mg : Str -> Option Value} {a_RoomError : Addr} {a_NoFraction : Addr} {a_NoBox : Addr} {a_NoWay : Addr} {a_NoWeights : Addr} {a_TooMany : Addr} {a_NoText : Addr} (X : K.In h) (G : h.Ns mainGlobals mg)
  (m_NoBox : PySem.W.nsIn K mainGlobals "NoBox" = some (some (.ref a_NoBox)))
  (m_NoFraction : PySem.W.nsIn K mainGlobals "NoFraction" = some (some (.ref a_NoFraction)))
  (m_NoText : PySem.W.nsIn K mainGlobals "NoText" = some (some (.ref a_NoText)))
  (m_NoWay : PySem.W.nsIn K mainGlobals "NoWay" = some (some (.ref a_NoWay)))
  (m_NoWeights : PySem.W.nsIn K mainGlobals "NoWeights" = some (some (.ref a_NoWeights)))
  (m_RoomError : PySem.W.nsIn K mainGlobals "RoomError" = some (some (.ref a_RoomError)))
  (m_TooMany : PySem.W.nsIn K mainGlobals "TooMany" = some (some (.ref a_TooMany)))
  (n_abs : PySem.W.nsIn K mainGlobals "abs" = some none)
  (n_all : PySem.W.nsIn K mainGlobals "all" = some none)
  (n_bool : PySem.W.nsIn K mainGlobals "bool" = some none)
  (n_int : PySem.W.nsIn K mainGlobals "int" = some none)
  (n_isinstance : PySem.W.nsIn K mainGlobals "isinstance" = some none)
  (n_len : PySem.W.nsIn K mainGlobals "len" = some none)
  (n_list : PySem.W.nsIn K mainGlobals "list" = some none)
  (n_max : PySem.W.nsIn K mainGlobals "max" = some none)
  (n_min : PySem.W.nsIn K mainGlobals "min" = some none)
  (n_range : PySem.W.nsIn K mainGlobals "range" = some none)
  (n_str : PySem.W.nsIn K mainGlobals "str" = some none)
  (n_sum : PySem.W.nsIn K mainGlobals "sum" = some none)
  (n_tuple : PySem.W.nsIn K mainGlobals "tuple" = some none)
  (f_area : ∃ a, PySem.W.nsIn K mainGlobals "area" = some (some (.ref a)))
  (f_long_way : ∃ a, PySem.W.nsIn K mainGlobals "long_way" = some (some (.ref a)))
  (f_shape : ∃ a, PySem.W.nsIn K mainGlobals "shape" = some (some (.ref a)))
  (f_turned : ∃ a, PySem.W.nsIn K mainGlobals "turned" = some (some (.ref a)))
  (g_MOST_WEIGHTS : GC K mg "MOST_WEIGHTS" eZ)
  (g_WAYS : GC K mg "WAYS" oK)
  (gs_ : PySem.W.specialIn K (.builtin "object.__class__") "__get__" = some (some (.builtin "getset_descriptor.__get__")))
  (tk_ : PySem.W.takesIn K (.builtin "object.__class__") = some true)
  (h_RoomError_ty : PySem.W.typeIn K (.ref a_RoomError) = some (.type "type"))
  (h_RoomError_cls : (PySem.W.clsIn K a_RoomError).isSome = true)
  (h_RoomError_mb : PySem.W.mroIn K a_RoomError (.type "BaseException") = some true)
  (x_NoFraction : PySem.W.excIn K a_NoFraction d7 "ValueError.__new__" = true)
  (k_NoFraction_cls : (PySem.W.clsIn K a_NoFraction).isSome = true)
  (k_NoFraction_ga : PySem.W.findIn K (.ref a_NoFraction) "__getattribute__" = some (some (.builtin "BaseException.__getattribute__")))
  (k_NoFraction_gt : PySem.W.findIn K (.ref a_NoFraction) "__getattr__" = some none)
  (k_NoFraction_at : PySem.W.findIn K (.ref a_NoFraction) "__class__" = some (some (.builtin "object.__class__")))
  (k_NoFraction_mo : PySem.W.mroIn K a_NoFraction (.type "object") = some true)
  (k_NoFraction_mb : PySem.W.mroIn K a_NoFraction (.type "BaseException") = some true)
  (x_NoBox : PySem.W.excIn K a_NoBox d7 "ValueError.__new__" = true)
  (k_NoBox_cls : (PySem.W.clsIn K a_NoBox).isSome = true)
  (k_NoBox_ga : PySem.W.findIn K (.ref a_NoBox) "__getattribute__" = some (some (.builtin "BaseException.__getattribute__")))
  (k_NoBox_gt : PySem.W.findIn K (.ref a_NoBox) "__getattr__" = some none)
  (k_NoBox_at : PySem.W.findIn K (.ref a_NoBox) "__class__" = some (some (.builtin "object.__class__")))
  (k_NoBox_mo : PySem.W.mroIn K a_NoBox (.type "object") = some true)
  (k_NoBox_mb : PySem.W.mroIn K a_NoBox (.type "BaseException") = some true)
  (h_NoBox_ty : PySem.W.typeIn K (.ref a_NoBox) = some (.type "type"))
  (h_NoBox_cls : (PySem.W.clsIn K a_NoBox).isSome = true)
  (h_NoBox_mb : PySem.W.mroIn K a_NoBox (.type "BaseException") = some true)
  (x_NoWay : PySem.W.excIn K a_NoWay d7 "ValueError.__new__" = true)
  (k_NoWay_cls : (PySem.W.clsIn K a_NoWay).isSome = true)
  (k_NoWay_ga : PySem.W.findIn K (.ref a_NoWay) "__getattribute__" = some (some (.builtin "BaseException.__getattribute__")))
  (k_NoWay_gt : PySem.W.findIn K (.ref a_NoWay) "__getattr__" = some none)
  (k_NoWay_at : PySem.W.findIn K (.ref a_NoWay) "__class__" = some (some (.builtin "object.__class__")))
  (k_NoWay_mo : PySem.W.mroIn K a_NoWay (.type "object") = some true)
  (k_NoWay_mb : PySem.W.mroIn K a_NoWay (.type "BaseException") = some true)
  (x_NoWeights : PySem.W.excIn K a_NoWeights d7 "ValueError.__new__" = true)
  (k_NoWeights_cls : (PySem.W.clsIn K a_NoWeights).isSome = true)
  (k_NoWeights_ga : PySem.W.findIn K (.ref a_NoWeights) "__getattribute__" = some (some (.builtin "BaseException.__getattribute__")))
  (k_NoWeights_gt : PySem.W.findIn K (.ref a_NoWeights) "__getattr__" = some none)
  (k_NoWeights_at : PySem.W.findIn K (.ref a_NoWeights) "__class__" = some (some (.builtin "object.__class__")))
  (k_NoWeights_mo : PySem.W.mroIn K a_NoWeights (.type "object") = some true)
  (k_NoWeights_mb : PySem.W.mroIn K a_NoWeights (.type "BaseException") = some true)
  (x_TooMany : PySem.W.excIn K a_TooMany d7 "ValueError.__new__" = true)
  (k_TooMany_cls : (PySem.W.clsIn K a_TooMany).isSome = true)
  (k_TooMany_ga : PySem.W.findIn K (.ref a_TooMany) "__getattribute__" = some (some (.builtin "BaseException.__getattribute__")))
  (k_TooMany_gt : PySem.W.findIn K (.ref a_TooMany) "__getattr__" = some none)
  (k_TooMany_at : PySem.W.findIn K (.ref a_TooMany) "__class__" = some (some (.builtin "object.__class__")))
  (k_TooMany_mo : PySem.W.mroIn K a_TooMany (.type "object") = some true)
  (k_TooMany_mb : PySem.W.mroIn K a_TooMany (.type "BaseException") = some true)
  (r_NoFraction_RoomError : PySem.W.mroIn K a_NoFraction (.ref a_RoomError) = some true)
  (r_NoBox_RoomError : PySem.W.mroIn K a_NoBox (.ref a_RoomError) = some true)
  (r_NoBox_NoBox : PySem.W.mroIn K a_NoBox (.ref a_NoBox) = some true)
  (r_NoWay_RoomError : PySem.W.mroIn K a_NoWay (.ref a_RoomError) = some true)
  (r_NoWeights_RoomError : PySem.W.mroIn K a_NoWeights (.ref a_RoomError) = some true)
  (r_TooMany_RoomError : PySem.W.mroIn K a_TooMany (.ref a_RoomError) = some true)
  (i0 : PySem.W.kitOne K (.ref a_NoFraction) (.ref a_NoBox) = some false)
  (i1 : PySem.W.kitOne K (.ref a_NoBox) (.ref a_NoBox) = some true)
  (i2 : PySem.W.kitOne K (.ref a_NoWay) (.ref a_NoBox) = some false)
  (i3 : PySem.W.kitOne K (.ref a_NoWeights) (.ref a_NoBox) = some false)
  (i4 : PySem.W.kitOne K (.ref a_TooMany) (.ref a_NoBox) = some false)
  (i5 : PySem.W.kitOne K (.ref a_NoFraction) (.ref a_NoFraction) = some true)
  (i6 : PySem.W.kitOne K (.ref a_NoBox) (.ref a_NoFraction) = some false)
  (i7 : PySem.W.kitOne K (.ref a_NoWay) (.ref a_NoFraction) = some false)
  (i8 : PySem.W.kitOne K (.ref a_NoWeights) (.ref a_NoFraction) = some false)
  (i9 : PySem.W.kitOne K (.ref a_TooMany) (.ref a_NoFraction) = some false)
  (i10 : PySem.W.kitOne K (.ref a_NoFraction) (.ref a_NoText) = some false)
  (i11 : PySem.W.kitOne K (.ref a_NoBox) (.ref a_NoText) = some false)
  (i12 : PySem.W.kitOne K (.ref a_NoWay) (.ref a_NoText) = some false)
  (i13 : PySem.W.kitOne K (.ref a_NoWeights) (.ref a_NoText) = some false)
  (i14 : PySem.W.kitOne K (.ref a_TooMany) (.ref a_NoText) = some false)
  (i15 : PySem.W.kitOne K (.ref a_NoFraction) (.ref a_NoWay) = some false)
  (i16 : PySem.W.kitOne K (.ref a_NoBox) (.ref a_NoWay) = some false)
  (i17 : PySem.W.kitOne K (.ref a_NoWay) (.ref a_NoWay) = some true)
  (i18 : PySem.W.kitOne K (.ref a_NoWeights) (.ref a_NoWay) = some false)
  (i19 : PySem.W.kitOne K (.ref a_TooMany) (.ref a_NoWay) = some false)
  (i20 : PySem.W.kitOne K (.ref a_NoFraction) (.ref a_NoWeights) = some false)
  (i21 : PySem.W.kitOne K (.ref a_NoBox) (.ref a_NoWeights) = some false)
  (i22 : PySem.W.kitOne K (.ref a_NoWay) (.ref a_NoWeights) = some false)
  (i23 : PySem.W.kitOne K (.ref a_NoWeights) (.ref a_NoWeights) = some true)
  (i24 : PySem.W.kitOne K (.ref a_TooMany) (.ref a_NoWeights) = some false)
  (i25 : PySem.W.kitOne K (.ref a_NoFraction) (.ref a_TooMany) = some false)
  (i26 : PySem.W.kitOne K (.ref a_NoBox) (.ref a_TooMany) = some false)
  (i27 : PySem.W.kitOne K (.ref a_NoWay) (.ref a_TooMany) = some false)
  (i28 : PySem.W.kitOne K (.ref a_NoWeights) (.ref a_TooMany) = some false)
  (i29 : PySem.W.kitOne K (.ref a_TooMany) (.ref a_TooMany) = some true)
  (i30 : PySem.W.kitOne K (.type "NoneType") (.type "bool") = some false)
  (i31 : PySem.W.kitOne K (.type "bool") (.type "bool") = some true)
  (i32 : PySem.W.kitOne K (.type "int") (.type "bool") = some false)
  (i33 : PySem.W.kitOne K (.type "str") (.type "bool") = some false)
  (i34 : PySem.W.kitOne K (.type "tuple") (.type "bool") = some false)
  (i35 : PySem.W.kitOne K (.type "list") (.type "bool") = some false)
  (i36 : PySem.W.kitOne K (.type "dict") (.type "bool") = some false)
  (i37 : PySem.W.kitOne K (.type "NoneType") (.type "int") = some false)
  (i38 : PySem.W.kitOne K (.type "bool") (.type "int") = some true)
  (i39 : PySem.W.kitOne K (.type "int") (.type "int") = some true)
  (i40 : PySem.W.kitOne K (.type "str") (.type "int") = some false)
  (i41 : PySem.W.kitOne K (.type "tuple") (.type "int") = some false)
  (i42 : PySem.W.kitOne K (.type "list") (.type "int") = some false)
  (i43 : PySem.W.kitOne K (.type "dict") (.type "int") = some false)
  (i44 : PySem.W.kitOne K (.type "NoneType") (.type "list") = some false)
  (i45 : PySem.W.kitOne K (.type "bool") (.type "list") = some false)
  (i46 : PySem.W.kitOne K (.type "int") (.type "list") = some false)
  (i47 : PySem.W.kitOne K (.type "str") (.type "list") = some false)
  (i48 : PySem.W.kitOne K (.type "tuple") (.type "list") = some false)
  (i49 : PySem.W.kitOne K (.type "list") (.type "list") = some true)
  (i50 : PySem.W.kitOne K (.type "dict") (.type "list") = some false)
  (i51 : PySem.W.kitOne K (.type "NoneType") (.type "str") = some false)
  (i52 : PySem.W.kitOne K (.type "bool") (.type "str") = some false)
  (i53 : PySem.W.kitOne K (.type "int") (.type "str") = some false)
  (i54 : PySem.W.kitOne K (.type "str") (.type "str") = some true)
  (i55 : PySem.W.kitOne K (.type "tuple") (.type "str") = some false)
  (i56 : PySem.W.kitOne K (.type "list") (.type "str") = some false)
  (i57 : PySem.W.kitOne K (.type "dict") (.type "str") = some false)
  (i58 : PySem.W.kitOne K (.type "NoneType") (.type "tuple") = some false)
  (i59 : PySem.W.kitOne K (.type "bool") (.type "tuple") = some false)
  (i60 : PySem.W.kitOne K (.type "int") (.type "tuple") = some false)
  (i61 : PySem.W.kitOne K (.type "str") (.type "tuple") = some false)
  (i62 : PySem.W.kitOne K (.type "tuple") (.type "tuple") = some true)
  (i63 : PySem.W.kitOne K (.type "list") (.type "tuple") = some false)
  (i64 : PySem.W.kitOne K (.type "dict") (.type "tuple") = some false)
  : Txt K mg a_RoomError a_NoFraction a_NoBox a_NoWay a_NoWeights a_TooMany a_NoText := by
 have mNoBox := PySem.W.mg_of X G m_NoBox
 have mNoFraction := PySem.W.mg_of X G m_NoFraction
 have mNoText := PySem.W.mg_of X G m_NoText
 have mNoWay := PySem.W.mg_of X G m_NoWay
 have mNoWeights := PySem.W.mg_of X G m_NoWeights
 have mRoomError := PySem.W.mg_of X G m_RoomError
 have mTooMany := PySem.W.mg_of X G m_TooMany
 have w_NoBox := lG mNoBox ⟨k_NoBox_cls, k_NoBox_ga, k_NoBox_gt, k_NoBox_at, gs_, tk_, k_NoBox_mo, k_NoBox_mb⟩
 have w_NoFraction := lG mNoFraction ⟨k_NoFraction_cls, k_NoFraction_ga, k_NoFraction_gt, k_NoFraction_at, gs_, tk_, k_NoFraction_mo, k_NoFraction_mb⟩
 have w_NoWay := lG mNoWay ⟨k_NoWay_cls, k_NoWay_ga, k_NoWay_gt, k_NoWay_at, gs_, tk_, k_NoWay_mo, k_NoWay_mb⟩
 have w_NoWeights := lG mNoWeights ⟨k_NoWeights_cls, k_NoWeights_ga, k_NoWeights_gt, k_NoWeights_at, gs_, tk_, k_NoWeights_mo, k_NoWeights_mb⟩
 have w_TooMany := lG mTooMany ⟨k_TooMany_cls, k_TooMany_ga, k_TooMany_gt, k_TooMany_at, gs_, tk_, k_TooMany_mo, k_TooMany_mb⟩
 exact {
 g_MOST_WEIGHTS := g_MOST_WEIGHTS,
 m_NoBox := mNoBox,
 m_NoFraction := mNoFraction,
 m_NoText := mNoText,
 m_NoWay := mNoWay,
 m_NoWeights := mNoWeights,
 m_RoomError := mRoomError,
 m_TooMany := mTooMany,
 g_WAYS := g_WAYS,
 n_abs := PySem.W.mg_none_of X G n_abs,
 n_all := PySem.W.mg_none_of X G n_all,
 n_bool := PySem.W.mg_none_of X G n_bool,
 n_int := PySem.W.mg_none_of X G n_int,
 n_isinstance := PySem.W.mg_none_of X G n_isinstance,
 n_len := PySem.W.mg_none_of X G n_len,
 n_list := PySem.W.mg_none_of X G n_list,
 n_max := PySem.W.mg_none_of X G n_max,
 n_min := PySem.W.mg_none_of X G n_min,
 n_range := PySem.W.mg_none_of X G n_range,
 n_str := PySem.W.mg_none_of X G n_str,
 n_sum := PySem.W.mg_none_of X G n_sum,
 n_tuple := PySem.W.mg_none_of X G n_tuple,
 f_area := let ⟨a, e⟩ := f_area; ⟨a, PySem.W.mg_of X G e⟩,
 f_long_way := let ⟨a, e⟩ := f_long_way; ⟨a, PySem.W.mg_of X G e⟩,
 f_shape := let ⟨a, e⟩ := f_shape; ⟨a, PySem.W.mg_of X G e⟩,
 f_turned := let ⟨a, e⟩ := f_turned; ⟨a, PySem.W.mg_of X G e⟩,
 h_RoomError := ⟨h_RoomError_ty, h_RoomError_cls, h_RoomError_mb⟩,
 r_RoomError := by
   intro c hc Ce e
   simp only [d4, List.mem_cons, List.not_mem_nil, or_false] at hc
   rcases hc with rfl | rfl | rfl | rfl | rfl
   ·rw [mNoFraction] at e; cases e; exact r_NoFraction_RoomError
   ·rw [mNoBox] at e; cases e; exact r_NoBox_RoomError
   ·rw [mNoWay] at e; cases e; exact r_NoWay_RoomError
   ·rw [mNoWeights] at e; cases e; exact r_NoWeights_RoomError
   ·rw [mTooMany] at e; cases e; exact r_TooMany_RoomError,
 x_NoFraction := x_NoFraction,
 x_NoBox := x_NoBox,
 h_NoBox := ⟨h_NoBox_ty, h_NoBox_cls, h_NoBox_mb⟩,
 r_NoBox := by
   intro c hc Ce e
   simp only [g0, List.mem_cons, List.not_mem_nil, or_false] at hc
   rcases hc with rfl
   ·rw [mNoBox] at e; cases e; exact r_NoBox_NoBox,
 x_NoWay := x_NoWay,
 x_NoWeights := x_NoWeights,
 x_TooMany := x_TooMany,
 kits := (av i0 mNoFraction mNoBox w_NoFraction
   (av i1 mNoBox mNoBox w_NoBox
   (av i2 mNoWay mNoBox w_NoWay
   (av i3 mNoWeights mNoBox w_NoWeights
   (av i4 mTooMany mNoBox w_TooMany
   (av i5 mNoFraction mNoFraction w_NoFraction
   (av i6 mNoBox mNoFraction w_NoBox
   (av i7 mNoWay mNoFraction w_NoWay
   (av i8 mNoWeights mNoFraction w_NoWeights
   (av i9 mTooMany mNoFraction w_TooMany
   (av i10 mNoFraction mNoText w_NoFraction
   (av i11 mNoBox mNoText w_NoBox
   (av i12 mNoWay mNoText w_NoWay
   (av i13 mNoWeights mNoText w_NoWeights
   (av i14 mTooMany mNoText w_TooMany
   (av i15 mNoFraction mNoWay w_NoFraction
   (av i16 mNoBox mNoWay w_NoBox
   (av i17 mNoWay mNoWay w_NoWay
   (av i18 mNoWeights mNoWay w_NoWeights
   (av i19 mTooMany mNoWay w_TooMany
   (av i20 mNoFraction mNoWeights w_NoFraction
   (av i21 mNoBox mNoWeights w_NoBox
   (av i22 mNoWay mNoWeights w_NoWay
   (av i23 mNoWeights mNoWeights w_NoWeights
   (av i24 mTooMany mNoWeights w_TooMany
   (av i25 mNoFraction mTooMany w_NoFraction
   (av i26 mNoBox mTooMany w_NoBox
   (av i27 mNoWay mTooMany w_NoWay
   (av i28 mNoWeights mTooMany w_NoWeights
   (av i29 mTooMany mTooMany w_TooMany
   (av i30 rfl rfl aV
   (av i31 rfl rfl aV
   (av i32 rfl rfl aV
   (av i33 rfl rfl aV
   (av i34 rfl rfl aV
   (av i35 rfl rfl aV
   (av i36 rfl rfl aV
   (av i37 rfl rfl aV
   (av i38 rfl rfl aV
   (av i39 rfl rfl aV
   (av i40 rfl rfl aV
   (av i41 rfl rfl aV
   (av i42 rfl rfl aV
   (av i43 rfl rfl aV
   (av i44 rfl rfl aV
   (av i45 rfl rfl aV
   (av i46 rfl rfl aV
   (av i47 rfl rfl aV
   (av i48 rfl rfl aV
   (av i49 rfl rfl aV
   (av i50 rfl rfl aV
   (av i51 rfl rfl aV
   (av i52 rfl rfl aV
   (av i53 rfl rfl aV
   (av i54 rfl rfl aV
   (av i55 rfl rfl aV
   (av i56 rfl rfl aV
   (av i57 rfl rfl aV
   (av i58 rfl rfl aV
   (av i59 rfl rfl aV
   (av i60 rfl rfl aV
   (av i61 rfl rfl aV
   (av i62 rfl rfl aV
   (av i63 rfl rfl aV
   (av i64 rfl rfl aV
   u7)))))))))))))))))))))))))))))))))))))))))))))))))))))))))))))))))
 }
end KK
noncomputable def PySem.W.Fast.tw10004359430919975784 : Unit := ()
noncomputable def PySem.W.Fast.tw1002331172070034469 : Unit := ()
noncomputable def PySem.W.Fast.tw1013041072325108585 : Unit := ()
noncomputable def PySem.W.Fast.tw10176069690960381312 : Unit := ()
noncomputable def PySem.W.Fast.tw10280450505721199347 : Unit := ()
noncomputable def PySem.W.Fast.tw10350078868536714740 : Unit := ()
noncomputable def PySem.W.Fast.tw10416753813244320132 : Unit := ()
noncomputable def PySem.W.Fast.tw10436711562535523708 : Unit := ()
noncomputable def PySem.W.Fast.tw10475000690686500354 : Unit := ()
noncomputable def PySem.W.Fast.tw10515000990990590548 : Unit := ()
noncomputable def PySem.W.Fast.tw10519412633678995003 : Unit := ()
noncomputable def PySem.W.Fast.tw10551561693828892563 : Unit := ()
noncomputable def PySem.W.Fast.tw10808039433953658075 : Unit := ()
noncomputable def PySem.W.Fast.tw1086035649147498 : Unit := ()
noncomputable def PySem.W.Fast.tw10876244001223910264 : Unit := ()
noncomputable def PySem.W.Fast.tw109080973042333949 : Unit := ()
noncomputable def PySem.W.Fast.tw10975294803397296845 : Unit := ()
noncomputable def PySem.W.Fast.tw11024010544731531474 : Unit := ()
noncomputable def PySem.W.Fast.tw11039581721938252691 : Unit := ()
noncomputable def PySem.W.Fast.tw11077084861691581787 : Unit := ()
noncomputable def PySem.W.Fast.tw11133803395641606639 : Unit := ()
noncomputable def PySem.W.Fast.tw11187350279899958026 : Unit := ()
noncomputable def PySem.W.Fast.tw11208634214835288961 : Unit := ()
noncomputable def PySem.W.Fast.tw11348762350431055987 : Unit := ()
noncomputable def PySem.W.Fast.tw11377748899990264153 : Unit := ()
noncomputable def PySem.W.Fast.tw11468096915739132573 : Unit := ()
noncomputable def PySem.W.Fast.tw11470869898666183180 : Unit := ()
noncomputable def PySem.W.Fast.tw11527055733423296610 : Unit := ()
noncomputable def PySem.W.Fast.tw1154346203089069411 : Unit := ()
noncomputable def PySem.W.Fast.tw11591433798282909376 : Unit := ()
noncomputable def PySem.W.Fast.tw11611317568538882530 : Unit := ()
noncomputable def PySem.W.Fast.tw11642793062997772386 : Unit := ()
noncomputable def PySem.W.Fast.tw11652417354598884161 : Unit := ()
noncomputable def PySem.W.Fast.tw11754652243916160502 : Unit := ()
noncomputable def PySem.W.Fast.tw11819374031894630501 : Unit := ()
noncomputable def PySem.W.Fast.tw11867481721546135593 : Unit := ()
noncomputable def PySem.W.Fast.tw11965989139708626049 : Unit := ()
noncomputable def PySem.W.Fast.tw12069409172959017405 : Unit := ()
noncomputable def PySem.W.Fast.tw12132815262529623251 : Unit := ()
noncomputable def PySem.W.Fast.tw12170673891711465003 : Unit := ()
noncomputable def PySem.W.Fast.tw12325955191508017011 : Unit := ()
noncomputable def PySem.W.Fast.tw12394571093624923018 : Unit := ()
noncomputable def PySem.W.Fast.tw12403800936117313691 : Unit := ()
noncomputable def PySem.W.Fast.tw12432651316750946112 : Unit := ()
noncomputable def PySem.W.Fast.tw12437845404666740062 : Unit := ()
noncomputable def PySem.W.Fast.tw12452026032446021062 : Unit := ()
noncomputable def PySem.W.Fast.tw12542434507562220216 : Unit := ()
noncomputable def PySem.W.Fast.tw12641996192347138785 : Unit := ()
noncomputable def PySem.W.Fast.tw12642135676037053962 : Unit := ()
noncomputable def PySem.W.Fast.tw12642148406863320110 : Unit := ()
noncomputable def PySem.W.Fast.tw12711044801819247617 : Unit := ()
noncomputable def PySem.W.Fast.tw1273463282768062220 : Unit := ()
noncomputable def PySem.W.Fast.tw12747247434152435911 : Unit := ()
noncomputable def PySem.W.Fast.tw12845118875565200172 : Unit := ()
noncomputable def PySem.W.Fast.tw12853382193694980212 : Unit := ()
noncomputable def PySem.W.Fast.tw12868370268137492916 : Unit := ()
noncomputable def PySem.W.Fast.tw12875699456456200440 : Unit := ()
noncomputable def PySem.W.Fast.tw12974887662906955859 : Unit := ()
noncomputable def PySem.W.Fast.tw12976024320764262414 : Unit := ()
noncomputable def PySem.W.Fast.tw1298952287994407708 : Unit := ()
noncomputable def PySem.W.Fast.tw13024264118359412786 : Unit := ()
noncomputable def PySem.W.Fast.tw13117456620739680085 : Unit := ()
noncomputable def PySem.W.Fast.tw13174591619697606018 : Unit := ()
noncomputable def PySem.W.Fast.tw13203752099259642904 : Unit := ()
noncomputable def PySem.W.Fast.tw13219831891153105157 : Unit := ()
noncomputable def PySem.W.Fast.tw13358674413137689064 : Unit := ()
noncomputable def PySem.W.Fast.tw13375035523171966575 : Unit := ()
noncomputable def PySem.W.Fast.tw13423072272798067969 : Unit := ()
noncomputable def PySem.W.Fast.tw13440051133635593201 : Unit := ()
noncomputable def PySem.W.Fast.tw13503132385432795233 : Unit := ()
noncomputable def PySem.W.Fast.tw13521435096772094053 : Unit := ()
noncomputable def PySem.W.Fast.tw13693472195882452630 : Unit := ()
noncomputable def PySem.W.Fast.tw13744723711518248109 : Unit := ()
noncomputable def PySem.W.Fast.tw13772343325471201342 : Unit := ()
noncomputable def PySem.W.Fast.tw13779120427752404771 : Unit := ()
noncomputable def PySem.W.Fast.tw1378422453970974433 : Unit := ()
noncomputable def PySem.W.Fast.tw13931858959429448921 : Unit := ()
noncomputable def PySem.W.Fast.tw14007869011260245691 : Unit := ()
noncomputable def PySem.W.Fast.tw14129615494101275296 : Unit := ()
noncomputable def PySem.W.Fast.tw14145328795070944226 : Unit := ()
noncomputable def PySem.W.Fast.tw14236860431529511018 : Unit := ()
noncomputable def PySem.W.Fast.tw14245797029528181856 : Unit := ()
noncomputable def PySem.W.Fast.tw14267104289129304329 : Unit := ()
noncomputable def PySem.W.Fast.tw14327432511971434861 : Unit := ()
noncomputable def PySem.W.Fast.tw14343217675321975184 : Unit := ()
noncomputable def PySem.W.Fast.tw14510561537415646126 : Unit := ()
noncomputable def PySem.W.Fast.tw14577704783846437093 : Unit := ()
noncomputable def PySem.W.Fast.tw14588688362752023838 : Unit := ()
noncomputable def PySem.W.Fast.tw14599863810194731531 : Unit := ()
noncomputable def PySem.W.Fast.tw14697551863224276484 : Unit := ()
noncomputable def PySem.W.Fast.tw14739634975325489814 : Unit := ()
noncomputable def PySem.W.Fast.tw1474941968857427703 : Unit := ()
noncomputable def PySem.W.Fast.tw14820741257652024406 : Unit := ()
noncomputable def PySem.W.Fast.tw14906245247163901937 : Unit := ()
noncomputable def PySem.W.Fast.tw14928929460325698627 : Unit := ()
noncomputable def PySem.W.Fast.tw1496798275817427839 : Unit := ()
noncomputable def PySem.W.Fast.tw14978839921754578795 : Unit := ()
noncomputable def PySem.W.Fast.tw15016345264791454770 : Unit := ()
noncomputable def PySem.W.Fast.tw1512445299026185626 : Unit := ()
noncomputable def PySem.W.Fast.tw15317606775089134138 : Unit := ()
noncomputable def PySem.W.Fast.tw15320820215164864516 : Unit := ()
noncomputable def PySem.W.Fast.tw15351571721343756262 : Unit := ()
noncomputable def PySem.W.Fast.tw15433804178106319710 : Unit := ()
noncomputable def PySem.W.Fast.tw15434761250449547989 : Unit := ()
noncomputable def PySem.W.Fast.tw15450888487225433882 : Unit := ()
noncomputable def PySem.W.Fast.tw15469488630447144599 : Unit := ()
noncomputable def PySem.W.Fast.tw15582026413607760580 : Unit := ()
noncomputable def PySem.W.Fast.tw15633359853549642418 : Unit := ()
noncomputable def PySem.W.Fast.tw15717502135396437445 : Unit := ()
noncomputable def PySem.W.Fast.tw15834340989857253981 : Unit := ()
noncomputable def PySem.W.Fast.tw15871329842282310277 : Unit := ()
noncomputable def PySem.W.Fast.tw15893365564247211209 : Unit := ()
noncomputable def PySem.W.Fast.tw15921883267449603102 : Unit := ()
noncomputable def PySem.W.Fast.tw15971973225225902216 : Unit := ()
noncomputable def PySem.W.Fast.tw16013030584111126457 : Unit := ()
noncomputable def PySem.W.Fast.tw16038421439177579794 : Unit := ()
noncomputable def PySem.W.Fast.tw16044277709607773962 : Unit := ()
noncomputable def PySem.W.Fast.tw16117962558645803287 : Unit := ()
noncomputable def PySem.W.Fast.tw16124654199251033326 : Unit := ()
noncomputable def PySem.W.Fast.tw16200198832039045715 : Unit := ()
noncomputable def PySem.W.Fast.tw16325195132614244266 : Unit := ()
noncomputable def PySem.W.Fast.tw16339941925903733173 : Unit := ()
noncomputable def PySem.W.Fast.tw16376096789573841254 : Unit := ()
noncomputable def PySem.W.Fast.tw16411832548992548951 : Unit := ()
noncomputable def PySem.W.Fast.tw16435469919031785437 : Unit := ()
noncomputable def PySem.W.Fast.tw16447195091255473082 : Unit := ()
noncomputable def PySem.W.Fast.tw16456407553226297829 : Unit := ()
noncomputable def PySem.W.Fast.tw1652009736969462498 : Unit := ()
noncomputable def PySem.W.Fast.tw16539601050875838931 : Unit := ()
noncomputable def PySem.W.Fast.tw16560777208092595688 : Unit := ()
noncomputable def PySem.W.Fast.tw16614574155402285410 : Unit := ()
noncomputable def PySem.W.Fast.tw16619755874125097309 : Unit := ()
noncomputable def PySem.W.Fast.tw16634118451011200623 : Unit := ()
noncomputable def PySem.W.Fast.tw16642415001065424365 : Unit := ()
noncomputable def PySem.W.Fast.tw16656739385133602399 : Unit := ()
noncomputable def PySem.W.Fast.tw16673559743288538714 : Unit := ()
noncomputable def PySem.W.Fast.tw16727281050838527379 : Unit := ()
noncomputable def PySem.W.Fast.tw16777890389853804998 : Unit := ()
noncomputable def PySem.W.Fast.tw16847978554734039012 : Unit := ()
noncomputable def PySem.W.Fast.tw16865336512281218195 : Unit := ()
noncomputable def PySem.W.Fast.tw16867093081231541595 : Unit := ()
noncomputable def PySem.W.Fast.tw16884883284184414193 : Unit := ()
noncomputable def PySem.W.Fast.tw16911116925794129180 : Unit := ()
noncomputable def PySem.W.Fast.tw16991132268421845416 : Unit := ()
noncomputable def PySem.W.Fast.tw17133539575176128986 : Unit := ()
noncomputable def PySem.W.Fast.tw1716481282542385322 : Unit := ()
noncomputable def PySem.W.Fast.tw17258624260406266830 : Unit := ()
noncomputable def PySem.W.Fast.tw17282014036338524324 : Unit := ()
noncomputable def PySem.W.Fast.tw17294487100003630929 : Unit := ()
noncomputable def PySem.W.Fast.tw17306736815636717038 : Unit := ()
noncomputable def PySem.W.Fast.tw17326027754908197069 : Unit := ()
noncomputable def PySem.W.Fast.tw17334757126003167472 : Unit := ()
noncomputable def PySem.W.Fast.tw17386462224105568707 : Unit := ()
noncomputable def PySem.W.Fast.tw17421668040679925280 : Unit := ()
noncomputable def PySem.W.Fast.tw17428774513526945965 : Unit := ()
noncomputable def PySem.W.Fast.tw17550146452646137709 : Unit := ()
noncomputable def PySem.W.Fast.tw17588632581890373376 : Unit := ()
noncomputable def PySem.W.Fast.tw17651606500925607632 : Unit := ()
noncomputable def PySem.W.Fast.tw17668007109257538637 : Unit := ()
noncomputable def PySem.W.Fast.tw17687602038711502611 : Unit := ()
noncomputable def PySem.W.Fast.tw1769443930644098750 : Unit := ()
noncomputable def PySem.W.Fast.tw17808050325634754243 : Unit := ()
noncomputable def PySem.W.Fast.tw17830306706114960140 : Unit := ()
noncomputable def PySem.W.Fast.tw17889039941486290690 : Unit := ()
noncomputable def PySem.W.Fast.tw18029172361373220552 : Unit := ()
noncomputable def PySem.W.Fast.tw18067458520586398174 : Unit := ()
noncomputable def PySem.W.Fast.tw18137173040498797682 : Unit := ()
noncomputable def PySem.W.Fast.tw18143962416353859627 : Unit := ()
noncomputable def PySem.W.Fast.tw18174900255638320129 : Unit := ()
noncomputable def PySem.W.Fast.tw18279465290043972356 : Unit := ()
noncomputable def PySem.W.Fast.tw18340656403859844886 : Unit := ()
noncomputable def PySem.W.Fast.tw18361755698888631277 : Unit := ()
noncomputable def PySem.W.Fast.tw18378420826361386943 : Unit := ()
noncomputable def PySem.W.Fast.tw18446734423307519974 : Unit := ()
noncomputable def PySem.W.Fast.tw1859395033362655221 : Unit := ()
noncomputable def PySem.W.Fast.tw1862087315817029409 : Unit := ()
noncomputable def PySem.W.Fast.tw1876941544334898181 : Unit := ()
noncomputable def PySem.W.Fast.tw1886415464330702711 : Unit := ()
noncomputable def PySem.W.Fast.tw1927133427096686880 : Unit := ()
noncomputable def PySem.W.Fast.tw1931770653867039696 : Unit := ()
noncomputable def PySem.W.Fast.tw1934770945287615735 : Unit := ()
noncomputable def PySem.W.Fast.tw2022957759692211573 : Unit := ()
noncomputable def PySem.W.Fast.tw2049945718286645316 : Unit := ()
noncomputable def PySem.W.Fast.tw2292011959527265974 : Unit := ()
noncomputable def PySem.W.Fast.tw2339411241836208831 : Unit := ()
noncomputable def PySem.W.Fast.tw2352383095859787807 : Unit := ()
noncomputable def PySem.W.Fast.tw2398996088802469905 : Unit := ()
noncomputable def PySem.W.Fast.tw2411541200307506976 : Unit := ()
noncomputable def PySem.W.Fast.tw2412076589380268506 : Unit := ()
noncomputable def PySem.W.Fast.tw2415395348142839106 : Unit := ()
noncomputable def PySem.W.Fast.tw2456004435095774363 : Unit := ()
noncomputable def PySem.W.Fast.tw2463570230231406752 : Unit := ()
noncomputable def PySem.W.Fast.tw2488417528292177187 : Unit := ()
noncomputable def PySem.W.Fast.tw2571790303176360181 : Unit := ()
noncomputable def PySem.W.Fast.tw2579851417589103034 : Unit := ()
noncomputable def PySem.W.Fast.tw2613471073899354761 : Unit := ()
noncomputable def PySem.W.Fast.tw2708704809178723821 : Unit := ()
noncomputable def PySem.W.Fast.tw2734801885907836575 : Unit := ()
noncomputable def PySem.W.Fast.tw2929914801014386098 : Unit := ()
noncomputable def PySem.W.Fast.tw300686928661334898 : Unit := ()
noncomputable def PySem.W.Fast.tw3058365122597976203 : Unit := ()
noncomputable def PySem.W.Fast.tw3192969565188131909 : Unit := ()
noncomputable def PySem.W.Fast.tw3219969775532704113 : Unit := ()
noncomputable def PySem.W.Fast.tw3305547853523562717 : Unit := ()
noncomputable def PySem.W.Fast.tw3333511855187728578 : Unit := ()
noncomputable def PySem.W.Fast.tw337851728492736115 : Unit := ()
noncomputable def PySem.W.Fast.tw3420948114658456542 : Unit := ()
noncomputable def PySem.W.Fast.tw3464286764443896656 : Unit := ()
noncomputable def PySem.W.Fast.tw3528504030385320737 : Unit := ()
noncomputable def PySem.W.Fast.tw3834805681530140978 : Unit := ()
noncomputable def PySem.W.Fast.tw3906617115833405834 : Unit := ()
noncomputable def PySem.W.Fast.tw3969401269802825050 : Unit := ()
noncomputable def PySem.W.Fast.tw3997999909734604412 : Unit := ()
noncomputable def PySem.W.Fast.tw4012593743231834841 : Unit := ()
noncomputable def PySem.W.Fast.tw4074264571595581289 : Unit := ()
noncomputable def PySem.W.Fast.tw4110673693388471493 : Unit := ()
noncomputable def PySem.W.Fast.tw411147326914881107 : Unit := ()
noncomputable def PySem.W.Fast.tw4427064935069356915 : Unit := ()
noncomputable def PySem.W.Fast.tw4485556469022907307 : Unit := ()
noncomputable def PySem.W.Fast.tw4608374571032141904 : Unit := ()
noncomputable def PySem.W.Fast.tw4676422945736498530 : Unit := ()
noncomputable def PySem.W.Fast.tw4710253201263453973 : Unit := ()
noncomputable def PySem.W.Fast.tw4749253927414779197 : Unit := ()
noncomputable def PySem.W.Fast.tw4751903081966389156 : Unit := ()
noncomputable def PySem.W.Fast.tw4764854462992460312 : Unit := ()
noncomputable def PySem.W.Fast.tw4795594410837400874 : Unit := ()
noncomputable def PySem.W.Fast.tw4854889895846192793 : Unit := ()
noncomputable def PySem.W.Fast.tw490266501531521471 : Unit := ()
noncomputable def PySem.W.Fast.tw500345738949854158 : Unit := ()
noncomputable def PySem.W.Fast.tw5094988257348206253 : Unit := ()
noncomputable def PySem.W.Fast.tw5139172932686910243 : Unit := ()
noncomputable def PySem.W.Fast.tw5299844409277716565 : Unit := ()
noncomputable def PySem.W.Fast.tw5309467623399327047 : Unit := ()
noncomputable def PySem.W.Fast.tw5349229855074199560 : Unit := ()
noncomputable def PySem.W.Fast.tw5505557413593876999 : Unit := ()
noncomputable def PySem.W.Fast.tw5570464782602978154 : Unit := ()
noncomputable def PySem.W.Fast.tw5620790761291219534 : Unit := ()
noncomputable def PySem.W.Fast.tw5705666719779173587 : Unit := ()
noncomputable def PySem.W.Fast.tw5811822179024324172 : Unit := ()
noncomputable def PySem.W.Fast.tw5837144127869179776 : Unit := ()
noncomputable def PySem.W.Fast.tw5964572849784786528 : Unit := ()
noncomputable def PySem.W.Fast.tw6034197513587661689 : Unit := ()
noncomputable def PySem.W.Fast.tw6043188954865603086 : Unit := ()
noncomputable def PySem.W.Fast.tw607549951524439054 : Unit := ()
noncomputable def PySem.W.Fast.tw6240455989836276318 : Unit := ()
noncomputable def PySem.W.Fast.tw6253930245316097733 : Unit := ()
noncomputable def PySem.W.Fast.tw6299616532836772428 : Unit := ()
noncomputable def PySem.W.Fast.tw6448214540622929791 : Unit := ()
noncomputable def PySem.W.Fast.tw6475499379842720264 : Unit := ()
noncomputable def PySem.W.Fast.tw6483338489996410609 : Unit := ()
noncomputable def PySem.W.Fast.tw6505859582951652630 : Unit := ()
noncomputable def PySem.W.Fast.tw6506058747175318542 : Unit := ()
noncomputable def PySem.W.Fast.tw6761727449728813259 : Unit := ()
noncomputable def PySem.W.Fast.tw679524807714831914 : Unit := ()
noncomputable def PySem.W.Fast.tw683484248401521221 : Unit := ()
noncomputable def PySem.W.Fast.tw6851325414266241066 : Unit := ()
noncomputable def PySem.W.Fast.tw6941819140748964183 : Unit := ()
noncomputable def PySem.W.Fast.tw6956055061074521408 : Unit := ()
noncomputable def PySem.W.Fast.tw6973418488221589876 : Unit := ()
noncomputable def PySem.W.Fast.tw7009676930037280785 : Unit := ()
noncomputable def PySem.W.Fast.tw7052123335599259339 : Unit := ()
noncomputable def PySem.W.Fast.tw7146529353772247263 : Unit := ()
noncomputable def PySem.W.Fast.tw7216467177841469235 : Unit := ()
noncomputable def PySem.W.Fast.tw7228769649639971939 : Unit := ()
noncomputable def PySem.W.Fast.tw7330235613686960276 : Unit := ()
noncomputable def PySem.W.Fast.tw734416407367139359 : Unit := ()
noncomputable def PySem.W.Fast.tw7366662918472286053 : Unit := ()
noncomputable def PySem.W.Fast.tw7555925337343218491 : Unit := ()
noncomputable def PySem.W.Fast.tw7557703537977282291 : Unit := ()
noncomputable def PySem.W.Fast.tw7592722148748396276 : Unit := ()
noncomputable def PySem.W.Fast.tw7762826771577796270 : Unit := ()
noncomputable def PySem.W.Fast.tw7813071781071820156 : Unit := ()
noncomputable def PySem.W.Fast.tw7861208634461244772 : Unit := ()
noncomputable def PySem.W.Fast.tw791144573573395311 : Unit := ()
noncomputable def PySem.W.Fast.tw7946467545098615907 : Unit := ()
noncomputable def PySem.W.Fast.tw8013754146675044492 : Unit := ()
noncomputable def PySem.W.Fast.tw801708124937936748 : Unit := ()
noncomputable def PySem.W.Fast.tw816257664241129989 : Unit := ()
noncomputable def PySem.W.Fast.tw8191597786923028372 : Unit := ()
noncomputable def PySem.W.Fast.tw8203323265694126656 : Unit := ()
noncomputable def PySem.W.Fast.tw8227622209883401826 : Unit := ()
noncomputable def PySem.W.Fast.tw8259920319631941462 : Unit := ()
noncomputable def PySem.W.Fast.tw8296767537756929926 : Unit := ()
noncomputable def PySem.W.Fast.tw8335980380451196970 : Unit := ()
noncomputable def PySem.W.Fast.tw8345630059730706034 : Unit := ()
noncomputable def PySem.W.Fast.tw8357771389896077839 : Unit := ()
noncomputable def PySem.W.Fast.tw8394883538284158585 : Unit := ()
noncomputable def PySem.W.Fast.tw8401331431680841087 : Unit := ()
noncomputable def PySem.W.Fast.tw8419418137076655518 : Unit := ()
noncomputable def PySem.W.Fast.tw8495458229630191664 : Unit := ()
noncomputable def PySem.W.Fast.tw8529899364223980378 : Unit := ()
noncomputable def PySem.W.Fast.tw856021014191347163 : Unit := ()
noncomputable def PySem.W.Fast.tw8601627799144555776 : Unit := ()
noncomputable def PySem.W.Fast.tw8645397994037950175 : Unit := ()
noncomputable def PySem.W.Fast.tw8796936198015948767 : Unit := ()
noncomputable def PySem.W.Fast.tw8805997652808770088 : Unit := ()
noncomputable def PySem.W.Fast.tw8818352366256171514 : Unit := ()
noncomputable def PySem.W.Fast.tw8831340067421227617 : Unit := ()
noncomputable def PySem.W.Fast.tw8862214108014050032 : Unit := ()
noncomputable def PySem.W.Fast.tw8867709905295286531 : Unit := ()
noncomputable def PySem.W.Fast.tw8888202717008008415 : Unit := ()
noncomputable def PySem.W.Fast.tw8933177063328718905 : Unit := ()
noncomputable def PySem.W.Fast.tw8944822865919801657 : Unit := ()
noncomputable def PySem.W.Fast.tw8948531974427434386 : Unit := ()
noncomputable def PySem.W.Fast.tw8966644138318660926 : Unit := ()
noncomputable def PySem.W.Fast.tw9217877034947753687 : Unit := ()
noncomputable def PySem.W.Fast.tw924211994505280843 : Unit := ()
noncomputable def PySem.W.Fast.tw9281894124703093346 : Unit := ()
noncomputable def PySem.W.Fast.tw9386201514302341777 : Unit := ()
noncomputable def PySem.W.Fast.tw9465454912091881358 : Unit := ()
noncomputable def PySem.W.Fast.tw954010570019320474 : Unit := ()
noncomputable def PySem.W.Fast.tw9683670287980944275 : Unit := ()
noncomputable def PySem.W.Fast.tw9697401136957709931 : Unit := ()
noncomputable def PySem.W.Fast.tw9706137236691221515 : Unit := ()
noncomputable def PySem.W.Fast.tw9726513558536040971 : Unit := ()
noncomputable def PySem.W.Fast.tw977438371197233734 : Unit := ()
noncomputable def PySem.W.Fast.tw9822755218857662587 : Unit := ()
noncomputable def PySem.W.Fast.tw9839819231759559557 : Unit := ()
noncomputable def PySem.W.Fast.tw9958612182112329861 : Unit := ()
noncomputable def PySem.W.Fast.tw9984482070634146134 : Unit := ()
open PySem PySem.W PyProof.Rows L2 L3 KK
set_option maxRecDepth 100000 in
set_option maxHeartbeats 0 in
theorem PySem.Challenge.cw_weightrooms_k04_what_is_no_box_holds : PySem.Challenge.rw_weightrooms_k04_what_is_no_box.Holds := by
 w_on; o_law; k_head; (case hw => w_witness2)
 k_fill
 refine L2.walk_lawD (l := PySem.Challenge.rw_weightrooms_k04_what_is_no_box) (x := "_law_script") (k := 8) rfl rfl ⟨rfl, by decide, by decide⟩ (fun w h Y => PySem.W.kIn_of Y) ?F ?D
 case F =>
  intro w mg h KX G base kb nb
  have TT := by
   refine' BB KX G ?m_NoBox ?m_NoFraction ?m_NoText ?m_NoWay ?m_NoWeights ?m_RoomError ?m_TooMany ?n_abs ?n_all ?n_bool ?n_int ?n_isinstance ?n_len ?n_list ?n_max ?n_min ?n_range ?n_str ?n_sum ?n_tuple ?f_area ?f_long_way ?f_shape ?f_turned ?g_MOST_WEIGHTS ?g_WAYS ?gs_ ?tk_ ?h_RoomError_ty ?h_RoomError_cls ?h_RoomError_mb ?x_NoFraction ?k_NoFraction_cls ?k_NoFraction_ga ?k_NoFraction_gt ?k_NoFraction_at ?k_NoFraction_mo ?k_NoFraction_mb ?x_NoBox ?k_NoBox_cls ?k_NoBox_ga ?k_NoBox_gt ?k_NoBox_at ?k_NoBox_mo ?k_NoBox_mb ?h_NoBox_ty ?h_NoBox_cls ?h_NoBox_mb ?x_NoWay ?k_NoWay_cls ?k_NoWay_ga ?k_NoWay_gt ?k_NoWay_at ?k_NoWay_mo ?k_NoWay_mb ?x_NoWeights ?k_NoWeights_cls ?k_NoWeights_ga ?k_NoWeights_gt ?k_NoWeights_at ?k_NoWeights_mo ?k_NoWeights_mb ?x_TooMany ?k_TooMany_cls ?k_TooMany_ga ?k_TooMany_gt ?k_TooMany_at ?k_TooMany_mo ?k_TooMany_mb ?r_NoFraction_RoomError ?r_NoBox_RoomError ?r_NoBox_NoBox ?r_NoWay_RoomError ?r_NoWeights_RoomError ?r_TooMany_RoomError ?i0 ?i1 ?i2 ?i3 ?i4 ?i5 ?i6 ?i7 ?i8 ?i9 ?i10 ?i11 ?i12 ?i13 ?i14 ?i15 ?i16 ?i17 ?i18 ?i19 ?i20 ?i21 ?i22 ?i23 ?i24 ?i25 ?i26 ?i27 ?i28 ?i29 ?i30 ?i31 ?i32 ?i33 ?i34 ?i35 ?i36 ?i37 ?i38 ?i39 ?i40 ?i41 ?i42 ?i43 ?i44 ?i45 ?i46 ?i47 ?i48 ?i49 ?i50 ?i51 ?i52 ?i53 ?i54 ?i55 ?i56 ?i57 ?i58 ?i59 ?i60 ?i61 ?i62 ?i63 ?i64
   (case m_NoBox => k_is)
   (case m_NoFraction => k_is)
   (case m_NoText => k_is)
   (case m_NoWay => k_is)
   (case m_NoWeights => k_is)
   (case m_RoomError => k_is)
   (case m_TooMany => k_is)
   (case n_abs => k_is)
   (case n_all => k_is)
   (case n_bool => k_is)
   (case n_int => k_is)
   (case n_isinstance => k_is)
   (case n_len => k_is)
   (case n_list => k_is)
   (case n_max => k_is)
   (case n_min => k_is)
   (case n_range => k_is)
   (case n_str => k_is)
   (case n_sum => k_is)
   (case n_tuple => k_is)
   (case f_area => exact ⟨_, by k_is⟩)
   (case f_long_way => exact ⟨_, by k_is⟩)
   (case f_shape => exact ⟨_, by k_is⟩)
   (case f_turned => exact ⟨_, by k_is⟩)
   (case g_MOST_WEIGHTS => exact (by refine' BY KX G ?a; (case a => k_is)))
   (case g_WAYS => exact (by refine' Bt (vs := [.str "across", .str "down"]) (ds := [.str "across", .str "down"]) KX G ?a ?l ?s ?v ?r; (case a => k_is); (case l => k_is); (case s => decide); (case v => exact (.cons ⟨_, rfl⟩ (.cons ⟨_, rfl⟩ .nil))); (case r => exact fun _ _ => (.cons (.str _) (.cons (.str _) .nil)))))
   (case gs_ => k_is)
   (case tk_ => k_is)
   (case h_RoomError_ty => k_is)
   (case h_RoomError_cls => exact Option.isSome_iff_exists.mpr ⟨_, by k_is⟩)
   (case h_RoomError_mb => k_is)
   (case x_NoFraction => k_exc)
   (case k_NoFraction_cls => exact Option.isSome_iff_exists.mpr ⟨_, by k_is⟩)
   (case k_NoFraction_ga => k_is)
   (case k_NoFraction_gt => k_is)
   (case k_NoFraction_at => k_is)
   (case k_NoFraction_mo => k_is)
   (case k_NoFraction_mb => k_is)
   (case x_NoBox => k_exc)
   (case k_NoBox_cls => exact Option.isSome_iff_exists.mpr ⟨_, by k_is⟩)
   (case k_NoBox_ga => k_is)
   (case k_NoBox_gt => k_is)
   (case k_NoBox_at => k_is)
   (case k_NoBox_mo => k_is)
   (case k_NoBox_mb => k_is)
   (case h_NoBox_ty => k_is)
   (case h_NoBox_cls => exact Option.isSome_iff_exists.mpr ⟨_, by k_is⟩)
   (case h_NoBox_mb => k_is)
   (case x_NoWay => k_exc)
   (case k_NoWay_cls => exact Option.isSome_iff_exists.mpr ⟨_, by k_is⟩)
   (case k_NoWay_ga => k_is)
   (case k_NoWay_gt => k_is)
   (case k_NoWay_at => k_is)
   (case k_NoWay_mo => k_is)
   (case k_NoWay_mb => k_is)
   (case x_NoWeights => k_exc)
   (case k_NoWeights_cls => exact Option.isSome_iff_exists.mpr ⟨_, by k_is⟩)
   (case k_NoWeights_ga => k_is)
   (case k_NoWeights_gt => k_is)
   (case k_NoWeights_at => k_is)
   (case k_NoWeights_mo => k_is)
   (case k_NoWeights_mb => k_is)
   (case x_TooMany => k_exc)
   (case k_TooMany_cls => exact Option.isSome_iff_exists.mpr ⟨_, by k_is⟩)
   (case k_TooMany_ga => k_is)
   (case k_TooMany_gt => k_is)
   (case k_TooMany_at => k_is)
   (case k_TooMany_mo => k_is)
   (case k_TooMany_mb => k_is)
   (case r_NoFraction_RoomError => k_is)
   (case r_NoBox_RoomError => k_is)
   (case r_NoBox_NoBox => k_is)
   (case r_NoWay_RoomError => k_is)
   (case r_NoWeights_RoomError => k_is)
   (case r_TooMany_RoomError => k_is)
   (case i0 => kit_is)
   (case i1 => kit_is)
   (case i2 => kit_is)
   (case i3 => kit_is)
   (case i4 => kit_is)
   (case i5 => kit_is)
   (case i6 => kit_is)
   (case i7 => kit_is)
   (case i8 => kit_is)
   (case i9 => kit_is)
   (case i10 => kit_is)
   (case i11 => kit_is)
   (case i12 => kit_is)
   (case i13 => kit_is)
   (case i14 => kit_is)
   (case i15 => kit_is)
   (case i16 => kit_is)
   (case i17 => kit_is)
   (case i18 => kit_is)
   (case i19 => kit_is)
   (case i20 => kit_is)
   (case i21 => kit_is)
   (case i22 => kit_is)
   (case i23 => kit_is)
   (case i24 => kit_is)
   (case i25 => kit_is)
   (case i26 => kit_is)
   (case i27 => kit_is)
   (case i28 => kit_is)
   (case i29 => kit_is)
   (case i30 => kit_is)
   (case i31 => kit_is)
   (case i32 => kit_is)
   (case i33 => kit_is)
   (case i34 => kit_is)
   (case i35 => kit_is)
   (case i36 => kit_is)
   (case i37 => kit_is)
   (case i38 => kit_is)
   (case i39 => kit_is)
   (case i40 => kit_is)
   (case i41 => kit_is)
   (case i42 => kit_is)
   (case i43 => kit_is)
   (case i44 => kit_is)
   (case i45 => kit_is)
   (case i46 => kit_is)
   (case i47 => kit_is)
   (case i48 => kit_is)
   (case i49 => kit_is)
   (case i50 => kit_is)
   (case i51 => kit_is)
   (case i52 => kit_is)
   (case i53 => kit_is)
   (case i54 => kit_is)
   (case i55 => kit_is)
   (case i56 => kit_is)
   (case i57 => kit_is)
   (case i58 => kit_is)
   (case i59 => kit_is)
   (case i60 => kit_is)
   (case i61 => kit_is)
   (case i62 => kit_is)
   (case i63 => kit_is)
   (case i64 => kit_is)
  have D_law_feed := by
   refine' aO (x := "_law_feed") (st := iM) KX G ?a ?l ?c ?k
   (case a => k_is); (case l => k_is); (case c => k_is); (case k => k_is)
  have D_law_next := by
   refine' aO (x := "_law_next") (st := iD) KX G ?a ?l ?c ?k
   (case a => k_is); (case l => k_is); (case c => k_is); (case k => k_is)
  have D_law_odd := by
   refine' aO (x := "_law_odd") (st := jl) KX G ?a ?l ?c ?k
   (case a => k_is); (case l => k_is); (case c => k_is); (case k => k_is)
  have D_law_spoiled := by
   refine' aO (x := "_law_spoiled") (st := fP) KX G ?a ?l ?c ?k
   (case a => k_is); (case l => k_is); (case c => k_is); (case k => k_is)
  have D_law_low := by
   refine' aO (x := "_law_low") (st := jA) KX G ?a ?l ?c ?k
   (case a => k_is); (case l => k_is); (case c => k_is); (case k => k_is)
  have D_law_great := by
   refine' aO (x := "_law_great") (st := ip) KX G ?a ?l ?c ?k
   (case a => k_is); (case l => k_is); (case c => k_is); (case k => k_is)
  have D_law_room := by
   refine' aO (x := "_law_room") (st := iS) KX G ?a ?l ?c ?k
   (case a => k_is); (case l => k_is); (case c => k_is); (case k => k_is)
  have D_law_is_number := by
   refine' aO (x := "_law_is_number") (st := eE) KX G ?a ?l ?c ?k
   (case a => k_is); (case l => k_is); (case c => k_is); (case k => k_is)
  have D_law_is_box := by
   refine' aO (x := "_law_is_box") (st := eA) KX G ?a ?l ?c ?k
   (case a => k_is); (case l => k_is); (case c => k_is); (case k => k_is)
  have D_is_whole := by
   refine' aO (x := "is_whole") (st := jc) KX G ?a ?l ?c ?k
   (case a => k_is); (case l => k_is); (case c => k_is); (case k => k_is)
  have D_common_divisor := by
   refine' aO (x := "common_divisor") (st := ek) KX G ?a ?l ?c ?k
   (case a => k_is); (case l => k_is); (case c => k_is); (case k => k_is)
  have D_is_fraction := by
   refine' aO (x := "is_fraction") (st := fU) KX G ?a ?l ?c ?k
   (case a => k_is); (case l => k_is); (case c => k_is); (case k => k_is)
  have D_is_box := by
   refine' aO (x := "is_box") (st := iG) KX G ?a ?l ?c ?k
   (case a => k_is); (case l => k_is); (case c => k_is); (case k => k_is)
  have D_check_box := by
   refine' aO (x := "check_box") (st := ik) KX G ?a ?l ?c ?k
   (case a => k_is); (case l => k_is); (case c => k_is); (case k => k_is)
  have D_is_way := by
   refine' aO (x := "is_way") (st := kD) KX G ?a ?l ?c ?k
   (case a => k_is); (case l => k_is); (case c => k_is); (case k => k_is)
  have D_check_way := by
   refine' aO (x := "check_way") (st := ig) KX G ?a ?l ?c ?k
   (case a => k_is); (case l => k_is); (case c => k_is); (case k => k_is)
  have D_is_weight := by
   refine' aO (x := "is_weight") (st := ij) KX G ?a ?l ?c ?k
   (case a => k_is); (case l => k_is); (case c => k_is); (case k => k_is)
  have D_check_weights := by
   refine' aO (x := "check_weights") (st := dh) KX G ?a ?l ?c ?k
   (case a => k_is); (case l => k_is); (case c => k_is); (case k => k_is)
  have D_fraction := by
   refine' aO (x := "fraction") (st := iC) KX G ?a ?l ?c ?k
   (case a => k_is); (case l => k_is); (case c => k_is); (case k => k_is)
  have D_added := by
   refine' aO (x := "added") (st := me) KX G ?a ?l ?c ?k
   (case a => k_is); (case l => k_is); (case c => k_is); (case k => k_is)
  have D_times := by
   refine' aO (x := "times") (st := lY) KX G ?a ?l ?c ?k
   (case a => k_is); (case l => k_is); (case c => k_is); (case k => k_is)
  have D_shares := by
   refine' aO (x := "shares") (st := kK) KX G ?a ?l ?c ?k
   (case a => k_is); (case l => k_is); (case c => k_is); (case k => k_is)
  have D_parted := by
   refine' aO (x := "parted") (st := gE) KX G ?a ?l ?c ?k
   (case a => k_is); (case l => k_is); (case c => k_is); (case k => k_is)
  have D_area := by
   refine' aO (x := "area") (st := o3) KX G ?a ?l ?c ?k
   (case a => k_is); (case l => k_is); (case c => k_is); (case k => k_is)
  have D_is_less := by
   refine' aO (x := "is_less") (st := jz) KX G ?a ?l ?c ?k
   (case a => k_is); (case l => k_is); (case c => k_is); (case k => k_is)
  have D_long_way := by
   refine' aO (x := "long_way") (st := iE) KX G ?a ?l ?c ?k
   (case a => k_is); (case l => k_is); (case c => k_is); (case k => k_is)
  have D_over := by
   refine' aO (x := "over") (st := oW) KX G ?a ?l ?c ?k
   (case a => k_is); (case l => k_is); (case c => k_is); (case k => k_is)
  have D_shape := by
   refine' aO (x := "shape") (st := mL) KX G ?a ?l ?c ?k
   (case a => k_is); (case l => k_is); (case c => k_is); (case k => k_is)
  have D_turned := by
   refine' aO (x := "turned") (st := kA) KX G ?a ?l ?c ?k
   (case a => k_is); (case l => k_is); (case c => k_is); (case k => k_is)
  have D_law_refused := by
   refine' aO (x := "_law_refused") (st := fR) KX G ?a ?l ?c ?k
   (case a => k_is); (case l => k_is); (case c => k_is); (case k => k_is)
  have D_as_fraction := by
   refine' aO (x := "as_fraction") (st := fS) KX G ?a ?l ?c ?k
   (case a => k_is); (case l => k_is); (case c => k_is); (case k => k_is)
  have D_box_of := by
   refine' aO (x := "box_of") (st := ku) KX G ?a ?l ?c ?k
   (case a => k_is); (case l => k_is); (case c => k_is); (case k => k_is)
  have D_law_boxed := by
   refine' aO (x := "_law_boxed") (st := hE) KX G ?a ?l ?c ?k
   (case a => k_is); (case l => k_is); (case c => k_is); (case k => k_is)
  have D_law := by
   refine' aO (x := "law") (st := jO) KX G ?a ?l ?c ?k
   (case a => k_is); (case l => k_is); (case c => k_is); (case k => k_is)
  have c_law_feed := n1 (P := PySem.Challenge.rw_weightrooms_k04_what_is_no_box.prog) (w := w) (base := base) TT D_law_feed
  have c_law_next := pw (P := PySem.Challenge.rw_weightrooms_k04_what_is_no_box.prog) (w := w) (base := base) TT D_law_next
  have c_law_odd := pD (P := PySem.Challenge.rw_weightrooms_k04_what_is_no_box.prog) (w := w) (base := base) TT D_law_odd c_law_next
  have c_law_spoiled := lB (P := PySem.Challenge.rw_weightrooms_k04_what_is_no_box.prog) (w := w) (base := base) TT D_law_spoiled c_law_next c_law_odd
  have c_law_low := pK (P := PySem.Challenge.rw_weightrooms_k04_what_is_no_box.prog) (w := w) (base := base) TT D_law_low
  have c_law_great := m9 (P := PySem.Challenge.rw_weightrooms_k04_what_is_no_box.prog) (w := w) (base := base) TT D_law_great c_law_next
  have c_law_room := pf (P := PySem.Challenge.rw_weightrooms_k04_what_is_no_box.prog) (w := w) (base := base) TT D_law_room c_law_next c_law_low c_law_great
  have c_law_is_number := j8 (P := PySem.Challenge.rw_weightrooms_k04_what_is_no_box.prog) (w := w) (base := base) TT D_law_is_number c_law_low
  have c_law_is_box := l7 (P := PySem.Challenge.rw_weightrooms_k04_what_is_no_box.prog) (w := w) (base := base) TT D_law_is_box c_law_is_number
  have c_is_whole := oF (P := PySem.Challenge.rw_weightrooms_k04_what_is_no_box.prog) (w := w) (base := base) TT D_is_whole
  have c_common_divisor := jy (P := PySem.Challenge.rw_weightrooms_k04_what_is_no_box.prog) (w := w) (base := base) TT D_common_divisor
  have c_is_fraction := lE (P := PySem.Challenge.rw_weightrooms_k04_what_is_no_box.prog) (w := w) (base := base) TT D_is_fraction c_is_whole c_common_divisor
  have c_is_box := rZ (P := PySem.Challenge.rw_weightrooms_k04_what_is_no_box.prog) (w := w) (base := base) TT D_is_box c_is_fraction
  have c_check_box := nq (P := PySem.Challenge.rw_weightrooms_k04_what_is_no_box.prog) (w := w) (base := base) TT D_check_box c_is_box
  have c_is_way := sm (P := PySem.Challenge.rw_weightrooms_k04_what_is_no_box.prog) (w := w) (base := base) TT D_is_way
  have c_check_way := ni (P := PySem.Challenge.rw_weightrooms_k04_what_is_no_box.prog) (w := w) (base := base) TT D_check_way c_is_way
  have c_is_weight := nj (P := PySem.Challenge.rw_weightrooms_k04_what_is_no_box.prog) (w := w) (base := base) TT D_is_weight c_is_whole
  have c_check_weights := j9 (P := PySem.Challenge.rw_weightrooms_k04_what_is_no_box.prog) (w := w) (base := base) TT D_check_weights c_is_weight
  have c_fraction := oR (P := PySem.Challenge.rw_weightrooms_k04_what_is_no_box.prog) (w := w) (base := base) TT D_fraction c_common_divisor
  have c_added := uu (P := PySem.Challenge.rw_weightrooms_k04_what_is_no_box.prog) (w := w) (base := base) TT D_added c_fraction
  have c_times := ud (P := PySem.Challenge.rw_weightrooms_k04_what_is_no_box.prog) (w := w) (base := base) TT D_times c_fraction
  have c_shares := rF (P := PySem.Challenge.rw_weightrooms_k04_what_is_no_box.prog) (w := w) (base := base) TT D_shares c_added c_times c_fraction
  have c_parted := r9 (P := PySem.Challenge.rw_weightrooms_k04_what_is_no_box.prog) (w := w) (base := base) TT D_parted c_check_box c_check_way c_check_weights c_shares
  have c_area := vT (P := PySem.Challenge.rw_weightrooms_k04_what_is_no_box.prog) (w := w) (base := base) TT D_area c_check_box c_times
  have c_is_less := pQ (P := PySem.Challenge.rw_weightrooms_k04_what_is_no_box.prog) (w := w) (base := base) TT D_is_less
  have c_long_way := oY (P := PySem.Challenge.rw_weightrooms_k04_what_is_no_box.prog) (w := w) (base := base) TT D_long_way c_check_box c_is_less
  have c_over := uX (P := PySem.Challenge.rw_weightrooms_k04_what_is_no_box.prog) (w := w) (base := base) TT D_over c_fraction
  have c_shape := sV (P := PySem.Challenge.rw_weightrooms_k04_what_is_no_box.prog) (w := w) (base := base) TT D_shape c_long_way c_over
  have c_turned := rY (P := PySem.Challenge.rw_weightrooms_k04_what_is_no_box.prog) (w := w) (base := base) TT D_turned c_check_box
  have c_law_refused := lH (P := PySem.Challenge.rw_weightrooms_k04_what_is_no_box.prog) (w := w) (base := base) TT D_law_refused c_parted c_area c_shape c_long_way c_turned
  have c_as_fraction := lj (P := PySem.Challenge.rw_weightrooms_k04_what_is_no_box.prog) (w := w) (base := base) TT D_as_fraction c_is_whole
  have c_box_of := qX (P := PySem.Challenge.rw_weightrooms_k04_what_is_no_box.prog) (w := w) (base := base) TT D_box_of c_as_fraction c_check_box
  have c_law_boxed := nr (P := PySem.Challenge.rw_weightrooms_k04_what_is_no_box.prog) (w := w) (base := base) TT D_law_boxed c_box_of
  have c_law := xr (P := PySem.Challenge.rw_weightrooms_k04_what_is_no_box.prog) (w := w) (base := base) TT D_law c_law_feed c_law_spoiled c_law_room c_law_is_box c_is_box c_law_refused c_law_boxed
  exact vE c_law (law3 lz rfl AJ)
 case D =>
  intro w mg h KX G
  refine ⟨jO, ?_, (fun _ _ _ _ _ _ => ar1 fun _ => rfl)⟩
  refine' aO KX G ?a ?l ?c ?k
  (case a => k_is); (case l => k_is); (case c => k_is); (case k => k_is)
