import PyProof.Rows.All
import Wide.All
import OpenK.AllK
import Wide.FinOn
import Lean
import PyProof.EqAt
import PyProof.EqKinds
import PyProof.TupleCall
import PyProof.Rows.SumAny
import PyProof.EnumMake
import PyProof.Draws
import PyProof.ZipIter
import PySem.Challenge.RW_weightrooms_k10_whole_what_is_let_by_cov
set_option genSizeOf false
set_option genInjectivity false
set_option bootstrap.genMatcherCode false
noncomputable section
set_option Elab.async false
set_option linter.all false
set_option maxRecDepth 100000
namespace L2
open PySem PySem.Spec PyProof.Rows
abbrev Key := Sum Int Str
noncomputable def wY : Key -> Value -> Bool
 | .inl k, v => Value.isInt k v
 | .inr x, v => Value.isStrOf x v
noncomputable def keyH (w : World) : Key -> Int
 | .inl k => hashInt k
 | .inr x => hashStr w x
theorem bO : ∀ {k : Key} {v : Value}, wY k v = true -> (∃ i t, k = Sum.inl i /\ v = Value.int i t) \/ (∃ x t, k = Sum.inr x /\ v = Value.str x t)
 |
  .inl i, v, h => by
  obtain ⟨t, e⟩ := Value.isInt_shape (k := i) (v := v) h
  exact .inl ⟨i, t, rfl, e⟩
 |
  .inr x, v, h => by
  obtain ⟨t, e⟩ := Value.isStrOf_shape (x := x) (v := v) h
  exact .inr ⟨x, t, rfl, e⟩
theorem AZ (a b : Int) : decide ((Sum.inl a : Key) = Sum.inl b) = (a == b) := by
 by_cases e : a = b
 ·subst e; simp
 ·have h : ¬ (Sum.inl a : Key) = Sum.inl b := fun q => e (Sum.inl.inj q)
  rw [decide_eq_false h]
  exact (beq_eq_false_iff_ne.mpr e).symm
theorem zg (a b : Str) : decide ((Sum.inr a : Key) = Sum.inr b) = decide (a = b) := by
 by_cases e : a = b
 ·subst e; simp
 ·have h : ¬ (Sum.inr a : Key) = Sum.inr b := fun q => e (Sum.inr.inj q)
  rw [decide_eq_false h, decide_eq_false e]
theorem B6 (a : Int) (b : Str) : decide ((Sum.inl a : Key) = Sum.inr b) = false := decide_eq_false (fun q => nomatch q)
theorem Bn (a : Str) (b : Int) : decide ((Sum.inr a : Key) = Sum.inl b) = false := decide_eq_false (fun q => nomatch q)
noncomputable def lX (prog : Program) (w : World) : PySem.KeyKind prog w Key where
 is := wY
 hash := keyH w
 inj
   := fun v a b ha hb => by
  rcases bO ha with ⟨i, t, rfl, rfl⟩ | ⟨x, t, rfl, rfl⟩
  ·rcases bO hb with ⟨j, u, rfl, e⟩ | ⟨y, u, rfl, e⟩
   ·injection e with e1 _; rw [e1]
   ·exact nomatch e
  ·rcases bO hb with ⟨j, u, rfl, e⟩ | ⟨y, u, rfl, e⟩
   ·exact nomatch e
   ·injection e with e1 _; rw [e1]
 byValue := fun k v h => by
  rcases bO h with ⟨i, t, rfl, rfl⟩ | ⟨x, t, rfl, rfl⟩ <;> rfl
 pyHash := fun hv h => by
  rcases bO hv with ⟨i, t, rfl, rfl⟩ | ⟨x, t, rfl, rfl⟩
  ·exact wpAny_pyHash_int h
  ·exact wpAny_pyHash_str h
 eqBool := fun hu hv h => by
  rcases bO hu with ⟨i, t, rfl, rfl⟩ | ⟨x, t, rfl, rfl⟩
  ·rcases bO hv with ⟨j, u, rfl, rfl⟩ | ⟨y, u, rfl, rfl⟩
   ·rw [AZ] at h; exact wpAny_eqBool_int h
   ·rw [B6] at h; exact SeqAt.EqAt.int_str i t y u _ _ _ _ h
  ·rcases bO hv with ⟨j, u, rfl, rfl⟩ | ⟨y, u, rfl, rfl⟩
   ·rw [Bn] at h; exact SeqAt.EqAt.str_int x t j u _ _ _ _ h
   ·rw [zg] at h; exact wpAny_eqBool_str h
 «strs» := fun k x t v h => by
  rcases bO h with ⟨i, u, rfl, e⟩ | ⟨y, u, rfl, e⟩
  ·exact nomatch e
  ·injection e with e1 _
   subst e1
   cases v <;> rfl
end L2
namespace L2
open PySem PySem.Spec PyProof.Rows
inductive V where
 | non | bl (b : Bool) | int (i : Int) | str (x : Str) | byt (b : Array UInt8) | flt (b : UInt64) | ref (a : Addr) | ty (n : String)
 deriving DecidableEq
noncomputable def RelV : V -> Value -> Prop
 | .non, u => u = Value.none
 | .bl b, u => u = Value.bool b
 | .int i, u => ∃ t, u = Value.int i t
 | .str x, u => ∃ t, u = Value.str x t
 | .byt b, u => ∃ t, u = Value.bytes b t
 | .flt b, u => ∃ t, u = Value.float b t
 | .ref a, u => u = Value.ref a
 | .ty n, u => u = Value.type n
abbrev Vals : List V -> List Value -> Prop := Paired RelV
theorem Vals.length {xs : List V} {us : List Value} (r : Vals xs us) : xs.length = us.length := Paired.length r
theorem Vals.get {xs : List V} {us : List Value} {i : Nat} {x : V} (r : Vals xs us) (e : xs[i]? = some x) : ∃ u, us[i]? = some u /\ RelV x u := by
 induction r generalizing i with
 | nil => rw [List.getElem?_nil] at e; cases e
 |
  cons r t ih =>
  cases i with
  | zero => cases e; exact ⟨_, rfl, r⟩
  | succ i => exact ih (i := i) e
theorem Vals.set {x : V} {u : Value} (r : RelV x u) {xs : List V} {us : List Value} (i : Nat) (q : Vals xs us) : Vals (xs.set i x) (us.set i u) := by
 induction q generalizing i with
 | nil => exact .nil
 |
  cons q t ih =>
  cases i with
  | zero => exact .cons r t
  | succ i => exact .cons q (ih i)
theorem Vals.append {xs ys : List V} {us ws : List Value} (r : Vals xs us) (s : Vals ys ws) : Vals (xs ++ ys) (us ++ ws) := by
 induction r with
 | nil => exact s
 | cons r t ih => exact .cons r ih
theorem Vals.take {xs : List V} {us : List Value} (n : Nat) (r : Vals xs us) : Vals (xs.take n) (us.take n) := by
 induction r generalizing n with
 | nil => rw [List.take_nil, List.take_nil]; exact .nil
 |
  cons r t ih =>
  cases n with
  | zero => exact .nil
  | succ n => exact .cons r (ih n)
theorem Vals.drop {xs : List V} {us : List Value} (n : Nat) (r : Vals xs us) : Vals (xs.drop n) (us.drop n) := by
 induction r generalizing n with
 | nil => rw [List.drop_nil, List.drop_nil]; exact .nil
 |
  cons r t ih =>
  cases n with
  | zero => exact .cons r t
  | succ n => exact ih n
noncomputable def vp : Option V -> Option Value -> Prop
 | some v, some u => RelV v u
 | none, none => True
 | _, _ => False
noncomputable def KV {κ : Type} : List (κ × V) -> List (κ × Value) -> Prop := Paired fun (p : κ × V) (q : κ × Value) => p.1 = q.1 /\ RelV p.2 q.2
noncomputable def kV : Key -> V
 | .inl i => .int i
 | .inr x => .str x
inductive HO where
 | lst (xs : List V)
 | tup (xs : List V)
 | dK (kvs : List (Key × V)) | dT (kvs : List (List Key × V))
 | set (S : Int -> Bool) (n : Nat)
 | ins (C dx : Addr) (fs : List (Str × V))
 | own (x : Addr)
 | xd (fs : List (Str × V))
 | met (f x : Addr)
 | rng (lo hi : Int)
 | frz (o : Obj) (u : HO)
 | tbl (ps : Array Value)
 | ext (φ : Heap -> Prop)
abbrev Hp := Addr -> Option HO
noncomputable def upd (H : Hp) (a : Addr) (o : HO) : Hp := fun b => if b = a then some o else H b
theorem df {H : Hp} {a : Addr} {o : HO} : upd H a o a = some o := by unfold upd; rw [if_pos rfl]
theorem aL {H : Hp} {a b : Addr} {o : HO} (h : b ≠ a) : upd H a o b = H b := by unfold upd; rw [if_neg h]
theorem bR {H : Hp} {a b : Addr} {o : HO} (h : H a = some o) (h' : H b = none) : a ≠ b := by
 intro e; subst e; rw [h] at h'; cases h'
section
variable (P : Program) (w : World)
noncomputable def ObjOk (H : Hp) (h : Heap) (a : Addr) : HO -> Prop
 | .lst xs => xs.length <= sizeLine /\ ∃ (its : List Value) (n : Nat), Vals xs its /\ h.get? a = some { cls := .type "list", data := .seq its.toArray n }
 | .tup xs => xs.length <= sizeLine /\ ∃ its : List Value, Vals xs its /\ IsTup h a its.toArray
 | .dK kvs => kvs.length <= sizeLine /\ (a == sysModules) = false /\ ∃ vs, KV kvs vs /\ h.DictOf (lX P w) a vs
 | .dT kvs => kvs.length <= sizeLine /\ (a == sysModules) = false /\ ∃ xs : List (List Key × Addr × Value),
   Paired (fun (p : List Key × V) (q : List Key × Addr × Value) => p.1 = q.1 /\ H q.2.1 = some (.tup (p.1.map kV)) /\ RelV p.2 q.2.2) kvs xs /\
   ∃ o es ep, h.get? a = some o /\ o.ExactDict /\ o.data = .dict es ep /\ es.toList = xs.map (entryOfKey (tupleKind (lX P w))) /\ (xs.map (·.1)).Nodup
 | .set S n => h.SetOf (intKind P w) a S n
 | .ins C dx fs => H dx = some (.own a) /\ fs.length <= 1000 /\ dx ≠ a /\ h.get? a = some (PySem.W.instObj C dx) /\
   ∃ mA, h.Ns1 dx mA /\ (∀ f, vp (fs.lookup f) (mA f)) /\ PySem.Within mA (fs.map (·.1))
 | .own _ => ∃ o, h.get? a = some o
 | .xd fs => ∃ mA, h.Ns1 a mA /\ ∀ f, vp (fs.lookup f) (mA f)
 | .rng lo hi => ∃ t u v, h.get? a = some { cls := .type "range", data := .fields #[.int lo t, .int hi u, .int 1 v] }
 | .frz o u => h.get? a = some o /\ ObjOk H h a u
 | .tbl ps => h.get? a = some { cls := .none, data := .fields ps }
 | .met f x => h.get? a = some (PySem.W.methodObj (.ref f) (.ref x))
 | .ext φ => φ h /\ (∃ o, h.get? a = some o) /\ ∀ h1 h2 : Heap, φ h1 -> (∀ o, h1.get? a = some o -> h2.get? a = some o) -> φ h2
noncomputable def HOk (H : Hp) (h : Heap) : Prop := ∀ a o, H a = some o -> ObjOk P w H h a o
end
section
variable {P : Program} {w : World} {H H' : Hp} {h h' : Heap} {a : Addr} {o : HO}
theorem ObjOk.lt (x : ObjOk P w H h a o) : a < h.objs.size := by
 cases o with
 | lst xs => obtain ⟨_, _, _, _, e⟩ := x; exact Heap.lt_size e
 | tup xs => obtain ⟨_, _, _, p⟩ := x; exact p.lt
 | dK kvs => obtain ⟨_, _, _, _, o, _, _, e, _⟩ := x; exact Heap.lt_size e
 | dT kvs => obtain ⟨_, _, _, _, o, _, _, e, _⟩ := x; exact Heap.lt_size e
 | set S n => obtain ⟨o, _, _, _, e, _⟩ := x; exact Heap.lt_size e
 | ins C dx fs => obtain ⟨_, _, _, e, _⟩ := x; exact Heap.lt_size e
 | own y => obtain ⟨_, e⟩ := x; exact Heap.lt_size e
 | xd fs => obtain ⟨_, ⟨_, _, _, e, _⟩, _⟩ := x; exact Heap.lt_size e
 | rng lo hi => obtain ⟨_, _, _, e⟩ := x; exact Heap.lt_size e
 | frz ob u => obtain ⟨e, _⟩ := x; exact Heap.lt_size e
 | tbl ps => exact Heap.lt_size (show h.get? a = some _ from x)
 | met f y => exact Heap.lt_size (show h.get? a = some _ from x)
 | ext φ => obtain ⟨_, ⟨_, e⟩, _⟩ := x; exact Heap.lt_size e
theorem Paired.mapP {α β : Type} {F G : α -> β -> Prop} {l₁ : List α} {l₂ : List β} (r : Paired F l₁ l₂) (f : ∀ a b, F a b -> G a b) : Paired G l₁ l₂ := by
 induction r with
 | nil => exact .nil
 | cons r t ih => exact .cons (f _ _ r) ih
theorem ObjOk.stay (x : ObjOk P w H h a o) (k : ∀ b u, (b = a \/ H b = some (.own a)) -> h.get? b = some u -> h'.get? b = some u)
  (ho : ∀ b, H b = some (.own a) -> H' b = some (.own a)) (ht : ∀ b xs, H b = some (.tup xs) -> H' b = some (.tup xs)) : ObjOk P w H' h' a o := by
 induction o with
 | lst xs => obtain ⟨z, its, n, r, e⟩ := x; exact ⟨z, its, n, r, k _ _ (.inl rfl) e⟩
 | tup xs => obtain ⟨z, its, r, ob, e, c⟩ := x; exact ⟨z, its, r, ob, k _ _ (.inl rfl) e, c⟩
 | dK kvs => obtain ⟨z, y, vs, r, ob, es, ep, e, c⟩ := x; exact ⟨z, y, vs, r, ob, es, ep, k _ _ (.inl rfl) e, c⟩
 |
  dT kvs =>
  obtain ⟨z, y, xs, r, ob, es, ep, e, c⟩ := x
  exact ⟨z, y, xs, Paired.mapP r fun p q z => ⟨z.1, ht _ _ z.2.1, z.2.2⟩, ob, es, ep, k _ _ (.inl rfl) e, c⟩
 | set S n => obtain ⟨ob, es, ep, t, e, c⟩ := x; exact ⟨ob, es, ep, t, k _ _ (.inl rfl) e, c⟩
 |
  ins C dx fs =>
  obtain ⟨d, z, ne, e, mA, ⟨od, es, ep, e2, c⟩, r⟩ := x
  exact ⟨ho _ d, z, ne, k _ _ (.inl rfl) e, mA, ⟨od, es, ep, k _ _ (.inr d) e2, c⟩, r⟩
 | own y => obtain ⟨ob, e⟩ := x; exact ⟨ob, k _ _ (.inl rfl) e⟩
 | xd fs => obtain ⟨mA, ⟨od, es, ep, e, c⟩, r⟩ := x; exact ⟨mA, ⟨od, es, ep, k _ _ (.inl rfl) e, c⟩, r⟩
 | rng lo hi => obtain ⟨t, u, v, e⟩ := x; exact ⟨t, u, v, k _ _ (.inl rfl) e⟩
 | frz ob u ih => obtain ⟨e, q⟩ := x; exact ⟨k _ _ (.inl rfl) e, ih q⟩
 |
  tbl ps =>
  have e : h.get? a = some { cls := .none, data := .fields ps } := x
  show h'.get? a = some { cls := .none, data := .fields ps }
  exact k a _ (.inl rfl) e
 |
  met f y =>
  have e : h.get? a = some (PySem.W.methodObj (.ref f) (.ref y)) := x
  show h'.get? a = some (PySem.W.methodObj (.ref f) (.ref y))
  exact k a _ (.inl rfl) e
 | ext φ => obtain ⟨p, ⟨o, e⟩, st⟩ := x; exact ⟨st _ _ p fun o q => k _ _ (.inl rfl) q, ⟨o, k _ _ (.inl rfl) e⟩, st⟩
theorem HOk.lt (x : HOk P w H h) (e : H a = some o) : a < h.objs.size := (x a o e).lt
theorem HOk.fresh (x : HOk P w H h) (e : h.objs.size <= a) : H a = none := by
 cases q : H a with
 | none => rfl
 | some u => exact absurd (Nat.lt_of_lt_of_le (x.lt q) e) (Nat.lt_irrefl _)
theorem HOk.kept (x : HOk P w H h) (k : ∀ b u, h.get? b = some u -> h'.get? b = some u) : HOk P w H h' := fun a o e =>
 (x a o e).stay (fun b u _ q => k b u q) (fun _ q => q) fun _ _ q => q
theorem HOk.laid (x : HOk P w H h) (k : ∀ b u, h.get? b = some u -> h'.get? b = some u) (hp : h.objs.size <= a) (new : ObjOk P w (upd H a o) h' a o) : HOk P w (upd H a o) h' := fun b u e => by
 have hn := x.fresh hp
 by_cases hb : b = a
 ·subst hb; rw [df] at e; cases e; exact new
 ·rw [aL hb] at e
  exact (x b u e).stay (fun c v _ q => k c v q) (fun c q => by rw [aL (bR q hn)]; exact q) fun c xs q => by rw [aL (bR q hn)]; exact q
end
noncomputable def Rd (H : Hp) (a : Addr) (u : HO) : Prop := H a = some u \/ ∃ o, H a = some (.frz o u)
theorem Rd.ok {P : Program} {w : World} {H : Hp} {h : Heap} {a : Addr} {u : HO} (r : Rd H a u) (x : HOk P w H h) : ObjOk P w H h a u := by
 rcases r with r | ⟨o, r⟩
 ·exact x a u r
 ·obtain ⟨_, q⟩ := x a _ r
  exact q
noncomputable def Mut : Option HO -> Prop
 | some (.lst _) => True
 | some (.dK _) => True
 | some (.dT _) => True
 | some (.set _ _) => True
 | some (.ins _ _ _) => True
 | some (.ext _) => True
 | _ => False
section
variable {P : Program} {w : World} {H : Hp} {h h' : Heap} {x e : Addr} {o' : HO}
theorem
    HOk.write (ok : HOk P w H h) (mu : Mut (H x)) (he : e = x \/ H e = some (.own x)) (k : ∀ b u, b ≠ e -> h.get? b = some u -> h'.get? b = some u) (heo : ∃ u, h'.get? e = some u)
  (new : ObjOk P w (upd H x o') h' x o') : HOk P w (upd H x o') h' := fun b u q => by
 have nown : ∀ c y, H c = some (.own y) -> c ≠ x := fun c y r z => by subst z; rw [r] at mu; exact mu
 have ntup : ∀ c xs, H c = some (.tup xs) -> c ≠ x := fun c xs r z => by subst z; rw [r] at mu; exact mu
 by_cases hb : b = x
 ·subst hb; rw [df] at q; cases q; exact new
 ·rw [aL hb] at q
  by_cases hbe : b = e
  ·have q' : H b = some (.own x) := by
    rcases he with z | z
    ·exact absurd (hbe.trans z) hb
    ·rw [hbe]; exact z
   rw [q] at q'; cases q'
   obtain ⟨v, hv⟩ := heo
   exact ⟨v, by rw [hbe]; exact hv⟩
  ·refine (ok b u q).stay (fun c v hc r => k c v ?_ r) (fun c r => by rw [aL (nown c b r)]; exact r) fun c xs r => by rw [aL (ntup c xs r)]; exact r
   rcases hc with rfl | hc
   ·exact hbe
   ·rintro rfl
    rcases he with z | z
    ·exact nown c b hc z
    ·rw [hc] at z; cases z; exact hb rfl
end
structure Un (fs ex : List Addr) (H H' : Hp) (h h' : Heap) : Prop where
 keep : ∀ b o, h.get? b = some o -> H b = none -> b ∉ fs -> b ∉ ex -> h'.get? b = some o
 slot : ∀ b o, h.get? b = some o -> H b = none -> b ∈ fs -> b ∉ ex -> ∃ sl, h'.get? b = some { o with slots := sl }
 free : ∀ b o, h.get? b = some o -> H b = none -> b ∉ ex -> H' b = none
 there : ∀ b o, h.get? b = some o -> b ∉ ex -> ∃ o', h'.get? b = some o'
 tups : ∀ b xs, H b = some (.tup xs) -> H' b = some (.tup xs)
 frzs : ∀ b o u, H b = some (.frz o u) -> H' b = some (.frz o u)
 tbls : ∀ b ps, H b = some (.tbl ps) -> ∃ more, H' b = some (.tbl (ps ++ more))
section
variable {fs fs' ex ex' : List Addr} {H H1 H2 : Hp} {h h1 h2 h' : Heap} {a x e : Addr} {o : HO}
theorem Un.any (u : Un fs ex H H1 h h1) {b : Addr} {ob : Obj} (q : h.get? b = some ob) (n : H b = none) (hx : b ∉ ex) : ∃ sl, h1.get? b = some { ob with slots := sl } := by
 by_cases hb : b ∈ fs
 ·exact u.slot b ob q n hb hx
 ·exact ⟨ob.slots, u.keep b ob q n hb hx⟩
theorem Un.kept (k : ∀ b u, h.get? b = some u -> h'.get? b = some u) : Un fs ex H H h h' :=
 ⟨fun b ob q _ _ _ => k b ob q, fun b ob q _ _ _ => ⟨ob.slots, k b ob q⟩, fun _ _ _ n _ => n, fun b ob q _ => ⟨ob, k b ob q⟩, fun _ _ q => q, fun _ _ _ q => q, fun _ ps q => ⟨#[], by rw [q]; simp⟩⟩
theorem Un.refl : Un fs ex H H h h := Un.kept fun _ _ q => q
theorem Un.laid (k : ∀ b u, h.get? b = some u -> h'.get? b = some u) (hp : h.objs.size <= a) (hn : H a = none) : Un fs ex H (upd H a o) h h' where
 keep := fun b u q _ _ _ => k b u q
 slot := fun b u q _ _ _ => ⟨u.slots, k b u q⟩
 free := fun b u q n _ => by rw [aL (Nat.ne_of_lt (Nat.lt_of_lt_of_le (Heap.lt_size q) hp))]; exact n
 there := fun b u q _ => ⟨u, k b u q⟩
 tups := fun b xs q => by rw [aL (bR q hn)]; exact q
 frzs := fun b u xs q => by rw [aL (bR q hn)]; exact q
 tbls := fun b ps q => ⟨#[], by rw [aL (bR q hn), q]; simp⟩
theorem Un.write (mu : Mut (H x)) (he : e = x \/ H e = some (.own x)) (k : ∀ b u, b ≠ e -> h.get? b = some u -> h'.get? b = some u) (heo : ∃ u, h'.get? e = some u) : Un fs ex H (upd H x o) h h' := by
 have hx : ∀ b, H b = none -> b ≠ x := fun b n z => by subst z; rw [n] at mu; exact mu
 have hb : ∀ b, H b = none -> b ≠ e := fun b n z => by
  subst z
  rcases he with r | r
  ·exact hx b n r
  ·rw [n] at r; cases r
 have hm : ∀ b u, H b = some u -> ¬ Mut (some u) -> b ≠ x := fun b u q nm z => by subst z; rw [q] at mu; exact nm mu
 refine ⟨fun b u q n _ _ => k b u (hb b n) q, fun b u q n _ _ => ⟨u.slots, k b u (hb b n) q⟩, fun b u q n _ => by rw [aL (hx b n)]; exact n, fun b u q _ => ?_,
  fun b xs q => by rw [aL (hm b _ q fun z => z)]; exact q, fun b u xs q => by rw [aL (hm b _ q fun z => z)]; exact q, fun b ps q => ⟨#[], by rw [aL (hm b _ q fun z => z), q]; simp⟩⟩
 by_cases hbe : b = e
 ·subst hbe; exact heo
 ·exact ⟨u, k b u hbe q⟩
end
noncomputable def trk (h : Heap) (H : Hp) : List Addr := (List.range h.objs.size).filter fun a => (H a).isSome
noncomputable def ir (h : Heap) (H : Hp) : Heap := PySem.W.hideAll h (trk h H)
theorem sR (h : Heap) (H : Hp) : (ir h H).objs.size = h.objs.size := PySem.W.hideAll_size _ _
theorem uG {h : Heap} {H : Hp} {b : Addr} {o : Obj} (e : h.get? b = some o) (n : H b = none) : (ir h H).get? b = some o :=
 PySem.W.hideAll_get _ e fun hm => by
  have q : (H b).isSome = true := (List.mem_filter.mp hm).2
  rw [n] at q; simp at q
theorem xG {h : Heap} {H : Hp} {b : Addr} {o : Obj} (e : (ir h H).get? b = some o) : h.get? b = some o /\ H b = none := by
 have e' : h.get? b = some o := PySem.W.of_hideAll (trk h H) e
 refine ⟨e', ?_⟩
 cases q : H b with
 | none => rfl
 |
  some x =>
  have hm : b ∈ trk h H := List.mem_filter.mpr ⟨List.mem_range.mpr (Heap.lt_size e'), by simp [q]⟩
  have z : (ir h H).get? b = none := PySem.W.hideAll_none (trk h H) hm
  rw [z] at e; cases e
noncomputable def xR (g h : Heap) (L : Addr) : List (Addr × Obj) := (List.range h.objs.size).filterMap fun a => if a = L \/ (g.get? a).isSome = true then none else (h.get? a).map fun o => (a, o)
noncomputable def f6 (g h : Heap) (L d : Addr) : List (Addr × Obj) := (xR g h L).filter fun p => decide (p.1 ≠ d)
end L2
namespace L2
open PySem PySem.Spec PyProof.Rows
structure Mod (K : PySem.W.Frag) (mg : Str -> Option Value) (base : Heap) : Prop where
 kin : K.In base
 glob : base.Ns mainGlobals mg
 blt : ∃ mb, base.Ns builtinsNs mb /\ ∀ x : Str, x ≠ "__name__" -> mb x = bootBuiltins x
 nolimit : base.NoLimit
structure Cx where
 prog : Program
 w : World
 K : PySem.W.Frag
 mg : Str -> Option Value
 base : Heap
 A : Around
 N : List Str
 s₀ : Shared
 H₀ : Hp
 env : Env
 outer : List Env
 stack : List Env
 ex : List Addr
 fn : Str -> Bool
 calm : Bool
 pn : List (Addr × Obj)
 xe : Value -> Shared -> Prop
noncomputable def frs (l : List Env) : List Addr := l.filterMap (·.frame)
abbrev Cx.fs (X : Cx) : List Addr := frs X.outer
noncomputable def Vis (sc : Scope) (x : Str) : Prop := sc.names.lookup x = some .local \/ sc.names.lookup x = some .cell \/ sc.names.lookup x = some .free
noncomputable def Loc (sc : Scope) (x : Str) : Prop := sc.names.lookup x = some .local \/ sc.names.lookup x = some .cell
noncomputable def vU (env : Env) (h : Heap) (m : Str -> Option Value) (x : Str) (u : Value) : Prop :=
 (env.kindOf x = some .local /\ m x = some u) \/ ((env.kindOf x = some .cell \/ env.kindOf x = some .free) /\ ∃ c, env.cells.lookup x = some c /\ h.IsCell c (some u))
structure Cx.Ok (X : Cx) : Prop where
 mod : Mod X.K X.mg X.base
 kind : X.env.scope.kind = .function
 glob : X.env.globals = mainGlobals
 blt : X.env.builtins = builtinsNs
 above : X.s₀.heap.objs.size <= X.env.locals
 inj : ∀ x y c, X.env.cells.lookup x = some c -> X.env.cells.lookup y = some c -> x = y
 has : ∀ x, (X.env.kindOf x = some .cell \/ X.env.kindOf x = some .free) -> ∃ c, X.env.cells.lookup x = some c
 cab : ∀ x c, X.fn x = true -> X.env.cells.lookup x = some c -> X.s₀.heap.objs.size <= c
 hd : X.calm = true -> X.A.handled = none
 frames : X.A.frames = some X.stack
 stk : X.stack = X.outer \/ (X.stack = X.env :: X.outer /\ X.env.frame = some X.env.locals)
 exf : ∀ b ∈ X.ex, b ≠ X.env.locals /\ ∀ x c, X.env.cells.lookup x = some c -> c ≠ b
 bs : ∀ b o, X.base.get? b = some o -> X.s₀.heap.get? b = some o /\ X.H₀ b = none
 bsz : X.base.objs.size <= X.s₀.heap.objs.size
 noex : ∀ b o, X.base.get? b = some o -> b ∉ X.ex
 exfs : ∀ b ∈ X.ex, b ∉ X.fs
 funs : X.s₀.heap.FunFrames X.base X.outer
 frf : ∀ b ∈ X.fs, X.H₀ b = none
structure Inv (X : Cx) (pins : List (Addr × Obj)) (σ : List (Option V)) (H : Hp) (s : Shared) : Prop where
 ok : X.Ok
 os : s.os = X.s₀.os
 bare : AllBare s.gens
 base : Un X.fs X.ex X.H₀ H X.s₀.heap s.heap
 loc : ∃ m, s.heap.Ns X.env.locals m /\ ∀ (i : Nat) (x : Str) (v : V), X.N[i]? = some x -> σ[i]? = some (some v) -> Vis X.env.scope x -> ∃ u, RelV v u /\ vU X.env s.heap m x u
 cell : ∀ x c, X.env.cells.lookup x = some c -> ∃ v, s.heap.IsCell c v
 free : H X.env.locals = none
 freeC : ∀ x c, X.env.cells.lookup x = some c -> H c = none
 pin : ∀ p ∈ X.pn ++ pins, s.heap.get? p.1 = some p.2 /\ H p.1 = none /\ p.1 ≠ X.env.locals /\ p.1 ∉ X.fs /\ ∀ v, p.2.data ≠ .cell v
 hok : HOk X.prog X.w H s.heap
 len : σ.length = X.N.length
section
variable {X : Cx} {pins : List (Addr × Obj)} {σ : List (Option V)} {H H' : Hp} {s : Shared} {h' : Heap}
theorem Cx.Ok.nofr (ok : X.Ok) {b : Addr} {o : Obj} (e : X.base.get? b = some o) : b ∉ X.fs := fun hb => by
 have := (ok.funs.mem hb).1
 rw [e] at this; cases this
theorem Inv.bs (I : Inv X pins σ H s) : ∀ b o, X.base.get? b = some o -> s.heap.get? b = some o /\ H b = none := fun b o e =>
 ⟨I.base.keep b o (I.ok.bs b o e).1 (I.ok.bs b o e).2 (I.ok.nofr e) (I.ok.noex b o e), I.base.free b o (I.ok.bs b o e).1 (I.ok.bs b o e).2 (I.ok.noex b o e)⟩
theorem Inv.bk (I : Inv X pins σ H s) : ∀ b o, X.base.get? b = some o -> s.heap.get? b = some o := fun b o e => (I.bs b o e).1
theorem Inv.mod (I : Inv X pins σ H s) : Mod X.K X.mg X.base := I.ok.mod
theorem Inv.kIn (I : Inv X pins σ H s) : X.K.In s.heap := I.ok.mod.kin.keeps I.bk
theorem Inv.lt (I : Inv X pins σ H s) : X.env.locals < s.heap.objs.size := let ⟨_, hn, _⟩ := I.loc; hn.lt
theorem Inv.sz (I : Inv X pins σ H s) : X.s₀.heap.objs.size <= s.heap.objs.size := Nat.le_trans I.ok.above (Nat.le_of_lt I.lt)
theorem Inv.nofs (I : Inv X pins σ H s) {a : Addr} (h : s.heap.objs.size <= a) : a ∉ X.fs := fun hb => by
 obtain ⟨_, o, ho, _⟩ := I.ok.funs.mem hb
 exact absurd (Nat.lt_of_lt_of_le (Heap.lt_size ho) (Nat.le_trans I.sz h)) (Nat.lt_irrefl _)
theorem Inv.cne (I : Inv X pins σ H s) : ∀ x c, X.env.cells.lookup x = some c -> c ≠ X.env.locals := fun x c e z => by
 obtain ⟨v, o, ho, hd⟩ := I.cell x c e
 obtain ⟨m, ⟨o', es, ep, ho', hd', _⟩, _⟩ := I.loc
 rw [z, ho'] at ho; cases ho; rw [hd'] at hd; cases hd
theorem Inv.funs (I : Inv X pins σ H s) : s.heap.FunFrames X.base X.outer := by
 have all : ∀ (l : List Env), (∀ b ∈ frs l, b ∈ X.fs) -> X.s₀.heap.FunFrames X.base l -> s.heap.FunFrames X.base l := by
  intro l
  induction l with
  | nil => intro _ _; trivial
  |
   cons env r ih =>
   intro hs hl
   obtain ⟨hk, ⟨L, o, hf, hn, ho, hd⟩, hr⟩ := hl
   have hL : L ∈ X.fs := hs L (by unfold frs; rw [List.filterMap_cons, hf]; exact List.mem_cons_self)
   obtain ⟨sl, e⟩ := I.base.slot L o ho (I.ok.frf L hL) hL fun z => I.ok.exfs L z hL
   exact ⟨hk, ⟨L, _, hf, hn, e, hd⟩, ih (fun b hb => hs b (by unfold frs; rw [List.filterMap_cons, hf]; exact List.mem_cons_of_mem _ hb)) hr⟩
 exact all X.outer (fun _ hb => hb) I.ok.funs
theorem Inv.stack (I : Inv X pins σ H s) : s.heap.FunFrames X.base X.stack := by
 rcases I.ok.stk with e | ⟨e, hf⟩
 ·rw [e]; exact I.funs
 ·rw [e]
  obtain ⟨m, hn, _⟩ := I.loc
  refine .cons (by rw [I.ok.kind]; decide) hf hn ?_ I.funs
  exact Heap.get?_none_of_le (Nat.le_trans I.ok.bsz I.ok.above)
theorem Inv.stkSub (I : Inv X pins σ H s) : ∀ b ∈ frs X.stack, b ∈ X.env.locals :: X.fs := fun b hb => by
 rcases I.ok.stk with e | ⟨e, hf⟩
 ·rw [e] at hb; exact List.mem_cons_of_mem _ hb
 ·rw [e] at hb
  unfold frs at hb
  rw [List.filterMap_cons, hf] at hb
  exact hb
theorem Inv.stkFree (I : Inv X pins σ H s) : ∀ b ∈ frs X.stack, H b = none := fun b hb => by
 rcases List.mem_cons.mp (I.stkSub b hb) with e | hb
 ·rw [e]; exact I.free
 ·obtain ⟨_, o, ho, _⟩ := I.ok.funs.mem hb
  exact I.base.free b o ho (I.ok.frf b hb) fun z => I.ok.exfs b z hb
theorem Inv.step {g' : Array GenState} {t' : Nat} {d' : Drawn} {ch : List Addr} (I : Inv X pins σ H s)
  (hch : ∀ b ∈ ch, (b ∈ X.ex \/ X.s₀.heap.objs.size <= b) /\ b ≠ X.env.locals /\ (∀ x c, X.env.cells.lookup x = some c -> c ≠ b) /\ ∀ p ∈ X.pn ++ pins, p.1 ≠ b)
  (keep : ∀ b o, b ≠ X.env.locals -> b ∉ X.fs -> b ∉ ch -> s.heap.get? b = some o -> H b = none -> h'.get? b = some o)
  (slot : ∀ b o, b ≠ X.env.locals -> b ∈ X.fs -> b ∉ ch -> s.heap.get? b = some o -> H b = none -> ∃ sl, h'.get? b = some { o with slots := sl }) (free : ∀ b o, b ∉ ch -> s.heap.get? b = some o -> H b = none -> H' b = none)
  (there : ∀ b o, b ∉ ch -> s.heap.get? b = some o -> ∃ o', h'.get? b = some o')
  (tups : ∀ b xs, H b = some (.tup xs) -> H' b = some (.tup xs)) (frzs : ∀ b o u, H b = some (.frz o u) -> H' b = some (.frz o u)) (tbls : ∀ b ps, H b = some (.tbl ps) -> ∃ more, H' b = some (.tbl (ps ++ more)))
  (ns : ∀ m, s.heap.Ns X.env.locals m -> h'.Ns X.env.locals m) (hok : HOk X.prog X.w H' h') (hg : AllBare g') :
  Inv X pins σ H' { s with heap := h', gens := g', drawn := d', toks := t' } := by
 have neL : ∀ b o, X.s₀.heap.get? b = some o -> b ≠ X.env.locals := fun b o e => Nat.ne_of_lt (Nat.lt_of_lt_of_le (Heap.lt_size e) I.ok.above)
 have neC : ∀ b o, X.s₀.heap.get? b = some o -> b ∉ X.ex -> b ∉ ch := fun b o e hx hb => by
  rcases (hch b hb).1 with z | z
  ·exact hx z
  ·exact absurd (Nat.lt_of_lt_of_le (Heap.lt_size e) z) (Nat.lt_irrefl _)
 have cellK : ∀ x c, X.env.cells.lookup x = some c -> ∀ v, s.heap.IsCell c v -> h'.IsCell c v := fun x c e v ⟨o, ho, hd⟩ => by
  have nch : c ∉ ch := fun z => (hch c z).2.2.1 x c e rfl
  by_cases hc : c ∈ X.fs
  ·obtain ⟨sl, q⟩ := slot c o (I.cne x c e) hc nch ho (I.freeC x c e)
   exact ⟨_, q, hd⟩
  ·exact ⟨o, keep c o (I.cne x c e) hc nch ho (I.freeC x c e), hd⟩
 refine ⟨I.ok, I.os, hg, ⟨fun b o e n hb hx => ?_, fun b o e n hb hx => ?_, fun b o e n hx => ?_, fun b o e hx => ?_, fun b xs e => tups b xs (I.base.tups b xs e), fun b o xs e => frzs b o xs (I.base.frzs b o xs e), fun b ps e => ?_⟩, ?_, fun x c e => ?_, ?_, fun x c e => ?_, fun p hp => ?_, hok, I.len⟩
 ·exact keep b o (neL b o e) hb (neC b o e hx) (I.base.keep b o e n hb hx) (I.base.free b o e n hx)
 ·obtain ⟨sl, e1⟩ := I.base.slot b o e n hb hx
  obtain ⟨sl', e2⟩ := slot b _ (neL b o e) hb (neC b o e hx) e1 (I.base.free b o e n hx)
  exact ⟨sl', e2⟩
 ·obtain ⟨o', e1⟩ := I.base.there b o e hx
  exact free b o' (neC b o e hx) e1 (I.base.free b o e n hx)
 ·obtain ⟨o', e1⟩ := I.base.there b o e hx
  exact there b o' (neC b o e hx) e1
 ·obtain ⟨m1, e1⟩ := I.base.tbls b ps e
  obtain ⟨m2, e2⟩ := tbls b _ e1
  exact ⟨m1 ++ m2, by rw [e2, Array.append_assoc]⟩
 ·obtain ⟨m, hn, hl⟩ := I.loc
  refine ⟨m, ns m hn, fun i x v e1 e2 e3 => ?_⟩
  obtain ⟨u, r, l⟩ := hl i x v e1 e2 e3
  refine ⟨u, r, ?_⟩
  rcases l with l | ⟨k, c, e, z⟩
  ·exact .inl l
  ·exact .inr ⟨k, c, e, cellK x c e _ z⟩
 ·obtain ⟨v, z⟩ := I.cell x c e
  exact ⟨v, cellK x c e v z⟩
 ·obtain ⟨m, ⟨o, _, _, ho, _⟩, _⟩ := I.loc
  exact free _ o (fun z => (hch _ z).2.1 rfl) ho I.free
 ·obtain ⟨v, o, ho, hd⟩ := I.cell x c e
  exact free c o (fun z => (hch c z).2.2.1 x c e rfl) ho (I.freeC x c e)
 ·obtain ⟨e, n, ne, nf, d⟩ := I.pin p hp
  have nch : p.1 ∉ ch := fun z => (hch p.1 z).2.2.2 p hp rfl
  exact ⟨keep p.1 p.2 ne nf nch e n, free p.1 p.2 nch e n, ne, nf, d⟩
theorem Inv.un {t' : Nat} (I : Inv X pins σ H s) (u : Un X.fs [] H H' s.heap h') (hok : HOk X.prog X.w H' h') : Inv X pins σ H' { s with heap := h', toks := t' } := by
 obtain ⟨m, ⟨o, es, ep, ho, r⟩, _⟩ := id I.loc
 obtain ⟨sl, hL⟩ := u.any ho I.free (by simp)
 exact I.step (g' := s.gens) (d' := s.drawn) (ch := []) (fun _ z => nomatch z) (fun b o _ hb _ e n => u.keep b o e n hb (by simp)) (fun b o _ hb _ e n => u.slot b o e n hb (by simp)) (fun b o _ e n => u.free b o e n (by simp)) (fun b o _ e => u.there b o e (by simp)) u.tups u.frzs u.tbls (fun m' hm => by
  obtain ⟨o', es', ep', ho', r'⟩ := hm
  rw [ho] at ho'; cases ho'
  exact ⟨_, es', ep', hL, r'⟩) hok I.bare
theorem Inv.call {g' : Array GenState} {t' : Nat} {d' : Drawn} {ch : List Addr} (I : Inv X pins σ H s) (u : Un (frs X.stack) ch H H' s.heap h') (hok : HOk X.prog X.w H' h') (hg : AllBare g')
  (hch : ∀ b ∈ ch, (b ∈ X.ex \/ X.s₀.heap.objs.size <= b) /\ b ≠ X.env.locals /\ (∀ x c, X.env.cells.lookup x = some c -> c ≠ b) /\ ∀ p ∈ X.pn ++ pins, p.1 ≠ b) :
  Inv X pins σ H' { s with heap := h', gens := g', drawn := d', toks := t' } := by
 obtain ⟨m, ⟨o, es, ep, ho, r⟩, _⟩ := id I.loc
 obtain ⟨sl, hL⟩ := u.any ho I.free fun z => (hch _ z).2.1 rfl
 exact I.step (ch := ch) hch (fun b o hL hb hc e n => u.keep b o e n (fun z => (List.mem_cons.mp (I.stkSub b z)).elim hL hb) hc) (fun b o _ _ hc e n => u.any e n hc) (fun b o hc e n => u.free b o e n hc) (fun b o hc e => u.there b o e hc) u.tups u.frzs u.tbls (fun m' hm => by
  obtain ⟨o', es', ep', ho', r'⟩ := hm
  rw [ho] at ho'; cases ho'
  exact ⟨_, es', ep', hL, r'⟩) hok hg
theorem Inv.turned {t' : Nat} {it : Addr} (I : Inv X pins σ H s) (k : ∀ b o, b ≠ it -> s.heap.get? b = some o -> h'.get? b = some o) (hn : H it = none) (hL : it ≠ X.env.locals)
  (h1 : it ∈ X.ex \/ X.s₀.heap.objs.size <= it) (h2 : ∀ x c, X.env.cells.lookup x = some c -> c ≠ it) (h3 : ∀ p ∈ X.pn ++ pins, p.1 ≠ it) : Inv X pins σ H { s with heap := h', toks := t' } := by
 have nit : ∀ b u, H b = some u -> b ≠ it := fun b u e z => by rw [z, hn] at e; cases e
 refine I.step (g' := s.gens) (d' := s.drawn) (ch := [it]) (fun b hb => ?_) (fun b o _ _ hc e _ => k b o (fun z => hc (by simp [z])) e) (fun b o _ _ hc e _ => ⟨o.slots, k b o (fun z => hc (by simp [z])) e⟩) (fun _ _ _ _ n => n)
  (fun b o hc e => ⟨o, k b o (fun z => hc (by simp [z])) e⟩) (fun _ _ e => e) (fun _ _ _ e => e) (fun b ps e => ⟨#[], by rw [e]; simp⟩) (fun m hm => ?_) (fun b u e => ?_) I.bare
 ·have e : b = it := by simpa using hb
  subst e
  exact ⟨h1, hL, h2, h3⟩
 ·obtain ⟨o, es, ep, ho, r⟩ := hm
  exact ⟨o, es, ep, k _ o (Ne.symm hL) ho, r⟩
 ·refine (I.hok b u e).stay (fun c v hc q => k c v ?_ q) (fun _ q => q) fun _ _ q => q
  rcases hc with z | z
  ·rw [z]; exact nit b u e
  ·exact nit c _ z
theorem Inv.tok (I : Inv X pins σ H s) (t : Nat) : Inv X pins σ H { s with toks := t } := I.un (h' := s.heap) (t' := t) Un.refl I.hok
theorem Inv.kept {t' : Nat} (I : Inv X pins σ H s) (k : ∀ b u, s.heap.get? b = some u -> h'.get? b = some u) : Inv X pins σ H { s with heap := h', toks := t' } := I.un (Un.kept k) (I.hok.kept k)
theorem Inv.laid {a : Addr} {o : HO} {t' : Nat} (I : Inv X pins σ H s) (k : ∀ b u, s.heap.get? b = some u -> h'.get? b = some u) (hp : s.heap.objs.size <= a) (new : ObjOk X.prog X.w (upd H a o) h' a o) :
  Inv X pins σ (upd H a o) { s with heap := h', toks := t' } := I.un (Un.laid k hp (I.hok.fresh hp)) (I.hok.laid k hp new)
theorem Inv.write {x e : Addr} {o : HO} {t' : Nat} (I : Inv X pins σ H s) (mu : Mut (H x)) (he : e = x \/ H e = some (.own x)) (k : ∀ b u, b ≠ e -> s.heap.get? b = some u -> h'.get? b = some u) (heo : ∃ u, h'.get? e = some u)
  (new : ObjOk X.prog X.w (upd H x o) h' x o) : Inv X pins σ (upd H x o) { s with heap := h', toks := t' } := I.un (Un.write mu he k heo) (I.hok.write mu he k heo new)
theorem Inv.pins_of {pins' : List (Addr × Obj)} (I : Inv X pins σ H s) (h : ∀ p ∈ pins', s.heap.get? p.1 = some p.2 /\ H p.1 = none /\ p.1 ≠ X.env.locals /\ p.1 ∉ X.fs /\ ∀ v, p.2.data ≠ .cell v) : Inv X pins' σ H s :=
 ⟨I.ok, I.os, I.bare, I.base, I.loc, I.cell, I.free, I.freeC, fun p hp => (List.mem_append.mp hp).elim (fun z => I.pin p (List.mem_append_left _ z)) (h p), I.hok, I.len⟩
theorem nO {N : List Str} (hN : N.Nodup) {i j : Nat} {x : Str} (a : N[i]? = some x) (b : N[j]? = some x) : i = j := by
 obtain ⟨h1, e1⟩ := List.getElem?_eq_some_iff.mp a
 obtain ⟨h2, e2⟩ := List.getElem?_eq_some_iff.mp b
 exact (List.getElem_inj hN).mp (e1.trans e2.symm)
theorem
    mh {M : Model} {A : Around} {E : Value -> Shared -> Prop} {i : Nat} {x : Str} {v : V} {u : Value} {Q : Unit -> Shared -> Prop} (I : Inv X pins σ H s) (hN : X.N.Nodup) (hi : X.N[i]? = some x) (hx : Loc X.env.scope x) (r : RelV v u)
  (h : ∀ s', Inv X pins (σ.set i (some v)) H s' -> (∃ a, Heap.SameBut a s.heap s'.heap /\ (a = X.env.locals \/ X.env.cells.lookup x = some a)) -> Q () s') (hf : X.fn x = true \/ X.env.scope.names.lookup x = some .local := by first | exact .inl rfl | exact .inr rfl | assumption) : wpAny M A (storeName X.env x u) Q E s := by
 obtain ⟨m, hn, hl⟩ := id I.loc
 have hcls : (X.env.scope.kind == .class || (X.env.scope.kind == .module && X.env.locals != X.env.globals)) = false := by rw [I.ok.kind]; rfl
 have hiσ : i < σ.length := by rw [I.len]; exact (List.getElem?_eq_some_iff.mp hi).1
 have cne := I.cne
 have tracked : ∀ {a : Addr} {h' : Heap}, (∃ o, s.heap.get? a = some o /\ H a = none) -> Heap.SameBut a s.heap h' -> HOk X.prog X.w H h' := fun {a h'} ha hs b ob e => by
  obtain ⟨_, _, hfree⟩ := ha
  refine (I.hok b ob e).stay (fun c w' hc q => (hs.2 c ?_).trans q) (fun _ q => q) fun _ _ q => q
  rintro rfl
  rcases hc with rfl | hc
  ·rw [hfree] at e; cases e
  ·rw [hfree] at hc; cases hc
 rcases hx with hk | hk
 ·refine wpAny_storeName_local hk hn (fun h' hn' hs => ?_) hcls
  obtain ⟨oL, _, _, hoL, _⟩ := id hn
  refine h _ ⟨I.ok, I.os, I.bare, ⟨fun b o e n hb hx => ?_, fun b o e n hb hx => ?_, I.base.free, fun b o e hx => ?_, I.base.tups, I.base.frzs, I.base.tbls⟩, ⟨_, hn', fun j y v' e1 e2 e3 => ?_⟩, fun y c e => ?_, I.free, I.freeC, fun p hp => ?_, tracked ⟨oL, hoL, I.free⟩ hs, by simpa using I.len⟩ ⟨_, hs, .inl rfl⟩
  ·exact (hs.2 b (Nat.ne_of_lt (Nat.lt_of_lt_of_le (Heap.lt_size e) I.ok.above))).trans (I.base.keep b o e n hb hx)
  ·obtain ⟨sl, e1⟩ := I.base.slot b o e n hb hx
   exact ⟨sl, (hs.2 b (Nat.ne_of_lt (Nat.lt_of_lt_of_le (Heap.lt_size e) I.ok.above))).trans e1⟩
  ·obtain ⟨o', e1⟩ := I.base.there b o e hx
   exact ⟨o', (hs.2 b (Nat.ne_of_lt (Nat.lt_of_lt_of_le (Heap.lt_size e) I.ok.above))).trans e1⟩
  ·by_cases hj : j = i
   ·subst hj
    rw [hi] at e1; cases e1
    rw [List.getElem?_set_self hiσ] at e2
    cases e2
    exact ⟨u, r, .inl ⟨hk, by simp⟩⟩
   ·rw [List.getElem?_set_ne (Ne.symm hj)] at e2
    obtain ⟨u', r', q⟩ := hl j y v' e1 e2 e3
    refine ⟨u', r', ?_⟩
    rcases q with ⟨k, e⟩ | ⟨k, c, e, z⟩
    ·refine .inl ⟨k, ?_⟩
     have : y ≠ x := fun e => hj (nO hN e1 (e ▸ hi))
     simp [this, e]
    ·exact .inr ⟨k, c, e, z.sameBut hs (cne y c e)⟩
  ·obtain ⟨w', z⟩ := I.cell y c e
   exact ⟨w', z.sameBut hs (cne y c e)⟩
  ·obtain ⟨e, n, ne, nf, d⟩ := I.pin p hp
   exact ⟨(hs.2 p.1 ne).trans e, n, ne, nf, d⟩
 ·have hfn : X.fn x = true := by
   rcases hf with z | z
   ·exact z
   ·rw [z] at hk; cases hk
  obtain ⟨c, hc⟩ := I.ok.has x (.inl hk)
  obtain ⟨w', z⟩ := I.cell x c hc
  refine wpAny_storeName_cell I.ok.kind hk hc z (fun h' hc' hs => ?_)
  obtain ⟨oc, hoc, hocd⟩ := id z
  refine h { s with heap := h' } ⟨I.ok, I.os, I.bare, ⟨fun b o e n hb hx => ?_, fun b o e n hb hx => ?_, I.base.free, fun b o e hx => ?_, I.base.tups, I.base.frzs, I.base.tbls⟩, ⟨m, hn.sameBut hs (Ne.symm (cne x c hc)), fun j y v' e1 e2 e3 => ?_⟩, fun y c' e => ?_, I.free, I.freeC, fun p hp => ?_, tracked ⟨oc, hoc, I.freeC x c hc⟩ hs, by simpa using I.len⟩ ⟨c, hs, .inr hc⟩
  ·exact (hs.2 b (Nat.ne_of_lt (Nat.lt_of_lt_of_le (Heap.lt_size e) (I.ok.cab x c hfn hc)))).trans (I.base.keep b o e n hb hx)
  ·obtain ⟨sl, e1⟩ := I.base.slot b o e n hb hx
   exact ⟨sl, (hs.2 b (Nat.ne_of_lt (Nat.lt_of_lt_of_le (Heap.lt_size e) (I.ok.cab x c hfn hc)))).trans e1⟩
  ·obtain ⟨o', e1⟩ := I.base.there b o e hx
   exact ⟨o', (hs.2 b (Nat.ne_of_lt (Nat.lt_of_lt_of_le (Heap.lt_size e) (I.ok.cab x c hfn hc)))).trans e1⟩
  ·by_cases hj : j = i
   ·subst hj
    rw [hi] at e1; cases e1
    rw [List.getElem?_set_self hiσ] at e2
    cases e2
    exact ⟨u, r, .inr ⟨.inl hk, c, hc, hc'⟩⟩
   ·rw [List.getElem?_set_ne (Ne.symm hj)] at e2
    obtain ⟨u', r', q⟩ := hl j y v' e1 e2 e3
    refine ⟨u', r', ?_⟩
    rcases q with q | ⟨k, c', e, z'⟩
    ·exact .inl q
    ·refine .inr ⟨k, c', e, z'.sameBut hs ?_⟩
     rintro rfl
     exact hj (nO hN e1 (I.ok.inj _ _ _ e hc ▸ hi))
  ·by_cases hcc : c' = c
   ·subst hcc; exact ⟨_, hc'⟩
   ·obtain ⟨w2, z2⟩ := I.cell y c' e
    exact ⟨w2, z2.sameBut hs hcc⟩
  ·obtain ⟨e, n, ne, nf, d⟩ := I.pin p hp
   refine ⟨(hs.2 p.1 ?_).trans e, n, ne, nf, d⟩
   intro q
   rw [q, hoc] at e
   have q' : oc = p.2 := Option.some.inj e
   exact d w' (by rw [<- q']; exact hocd)
theorem iO {M : Model} {A : Around} {E : Value -> Shared -> Prop} {i : Nat} {x : Str} {v : V} {u : Value} {Q : Unit -> Shared -> Prop} (I : Inv X pins σ H s) (hN : X.N.Nodup) (hi : X.N[i]? = some x) (hx : Loc X.env.scope x) (r : RelV v u)
  (h : ∀ s', Inv X pins (σ.set i (some v)) H s' -> Q () s') (hf : X.fn x = true \/ X.env.scope.names.lookup x = some .local := by first | exact .inl rfl | exact .inr rfl | assumption) : wpAny M A (storeName X.env x u) Q E s :=
 mh I hN hi hx r (fun s' I' _ => h s' I') hf
theorem Inv.call' {s' : Shared} {ch : List Addr} (I : Inv X pins σ H s) (ho : s'.os = s.os) (u : Un (frs X.stack) ch H H' s.heap s'.heap) (hok : HOk X.prog X.w H' s'.heap) (hg : AllBare s'.gens)
  (hch : ∀ b ∈ ch, (b ∈ X.ex \/ X.s₀.heap.objs.size <= b) /\ b ≠ X.env.locals /\ (∀ x c, X.env.cells.lookup x = some c -> c ≠ b) /\ ∀ p ∈ X.pn ++ pins, p.1 ≠ b) : Inv X pins σ H' s' := by
 obtain ⟨h', g', d', t', o'⟩ := s'
 have e : o' = s.os := ho
 subst e
 exact I.call (g' := g') (t' := t') (d' := d') u hok hg hch
end
abbrev XK := Value -> Option Addr -> Hp -> Prop
abbrev St := List (Option V)
abbrev VK := V -> Hp -> Prop
abbrev TE := St -> Hp -> VK -> Prop
abbrev TT := St -> Hp -> (Bool -> Hp -> Prop) -> Prop
abbrev TA := St -> Hp -> (List V -> Hp -> Prop) -> Prop
structure Ends where
 nx : St -> Hp -> Prop
 rt : VK
 bk : St -> Hp -> Prop := fun _ _ => False
 ct : St -> Hp -> Prop := fun _ _ => False
abbrev TS := Ends -> St -> Hp -> Prop
noncomputable def EP (X : Cx) (pins : List (Addr × Obj)) (σ : St) (Q : VK) (u : Value) (s' : Shared) : Prop := ∃ v H', Inv X pins σ H' s' /\ RelV v u /\ Q v H'
noncomputable def TP (X : Cx) (pins : List (Addr × Obj)) (σ : St) (Q : Bool -> Hp -> Prop) (b : Bool) (s' : Shared) : Prop := ∃ H', Inv X pins σ H' s' /\ Q b H'
noncomputable def AP (X : Cx) (pins : List (Addr × Obj)) (σ : St) (Q : List V -> Hp -> Prop) (us : List Value) (s' : Shared) : Prop := ∃ vs H', Inv X pins σ H' s' /\ Vals vs us /\ Q vs H'
noncomputable def SP (X : Cx) (pins : List (Addr × Obj)) (D : Ends) (f : Flow) (s' : Shared) : Prop :=
 match f with
 | .next => ∃ σ' H', Inv X pins σ' H' s' /\ D.nx σ' H'
 | .brk => ∃ σ' H', Inv X pins σ' H' s' /\ D.bk σ' H'
 | .cont => ∃ σ' H', Inv X pins σ' H' s' /\ D.ct σ' H'
 | .ret u => ∃ v σ' H', Inv X pins σ' H' s' /\ RelV v u /\ D.rt v H'
noncomputable def PE (X : Cx) (e : Expr) (t : TE) : Prop :=
 ∀ (pins : List (Addr × Obj)) (s : Shared) (σ : St) (H : Hp) (Q : VK), Inv X pins σ H s -> t σ H Q -> wpAny (model X.prog X.w) X.A (eval e X.env) (EP X pins σ Q) X.xe s
noncomputable def PT (X : Cx) (e : Expr) (t : TT) : Prop :=
 ∀ (pins : List (Addr × Obj)) (s : Shared) (σ : St) (H : Hp) (Q : Bool -> Hp -> Prop), Inv X pins σ H s -> t σ H Q -> wpAny (model X.prog X.w) X.A (isTrue e X.env (eval e X.env)) (TP X pins σ Q) X.xe s
noncomputable def PW (X : Cx) (e : Expr) (t : TT) : Prop :=
 ∀ (whole : Sem Value) (pins : List (Addr × Obj)) (s : Shared) (σ : St) (H : Hp) (Q : Bool -> Hp -> Prop), Inv X pins σ H s -> t σ H Q -> wpAny (model X.prog X.w) X.A (isTrue e X.env whole) (TP X pins σ Q) X.xe s
theorem PW.pt {X : Cx} {e : Expr} {t : TT} (h : PW X e t) : PT X e t := h _
noncomputable def PA (X : Cx) (es : List Expr) (t : TA) : Prop :=
 ∀ (pos : Pos) (pins : List (Addr × Obj)) (s : Shared) (σ : St) (H : Hp) (Q : List V -> Hp -> Prop), Inv X pins σ H s -> t σ H Q -> wpAny (model X.prog X.w) X.A (spliced (backTo pos (starEach es X.env))) (AP X pins σ Q) X.xe s
noncomputable def PS (X : Cx) (st : Stmt) (t : TS) : Prop :=
 ∀ (pins : List (Addr × Obj)) (s : Shared) (σ : St) (H : Hp) (D : Ends), Inv X pins σ H s -> t D σ H -> wpAny (model X.prog X.w) X.A (exec st X.env) (SP X pins D) X.xe s
noncomputable def PSs (X : Cx) (st : List Stmt) (t : TS) : Prop :=
 ∀ (pins : List (Addr × Obj)) (s : Shared) (σ : St) (H : Hp) (D : Ends), Inv X pins σ H s -> t D σ H -> wpAny (model X.prog X.w) X.A (execs st X.env) (SP X pins D) X.xe s
theorem thn {α : Type} {t : Sem α} {Q Q' : α -> Shared -> Prop} {M : Model} {A : Around} {E : Value -> Shared -> Prop} {s : Shared} (h : wpAny M A t Q E s) (hQ : ∀ a s, Q a s -> Q' a s) : wpAny M A t Q' E s := wpAny_mono h hQ fun _ _ x => x
end L2
namespace L2
open PySem PySem.Spec PyProof.Rows
section
variable {X : Cx}
noncomputable def tVar (i : Nat) : TE := fun σ H Q => ∃ v, σ[i]? = some (some v) /\ Q v H
noncomputable def tC (v : V) : TE := fun _ H Q => Q v H
theorem nW {i : Nat} {x : Str} {pos : Pos} (hN : X.N[i]? = some x) (hv : Vis X.env.scope x) (hd : (x == ("__debug__" : Str)) = false := by decide) (hcd : (x == ("__classdict__" : Str)) = false := by decide) : PE X (.Name x pos) (tVar i) := by
 intro pins s σ H Q I h
 obtain ⟨v, e, h⟩ := h
 obtain ⟨m, hn, hl⟩ := I.loc
 obtain ⟨u, r, l⟩ := hl i x v hN e hv
 have fin : EP X pins σ Q u s := ⟨v, H, I, r, h⟩
 rcases l with ⟨hk, hm⟩ | ⟨hk, c, hc, hcell⟩
 ·exact wpAny_Name (wpAny_loadName_local I.ok.kind hk hn hm fin) hd
 ·rcases hk with hk | hk
  ·exact wpAny_Name (wpAny_loadName_cell I.ok.kind hk hc hcell fin) hd
  ·exact wpAny_Name (wpAny_loadName_free I.ok.kind hk hc hcell fin hcd) hd
theorem BX {i j pos} : PE X (.Constant (.int i) j pos) (tC (.int i)) := fun _ _ _ H _ I h => wpAny_Constant_int ⟨.int i, H, I.tok _, ⟨_, rfl⟩, h⟩
theorem El {b j pos} : PE X (.Constant (.bool b) j pos) (tC (.bl b)) := fun _ _ _ H _ I h => Constant_bool ⟨.bl b, H, I, rfl, h⟩
theorem Az {j pos} : PE X (.Constant .none j pos) (tC .non) := fun _ _ _ H _ I h => Constant_none ⟨.non, H, I, rfl, h⟩
theorem BH {x j pos} : PE X (.Constant (.str x) j pos) (tC (.str x)) := fun _ _ _ H _ I h => Calls.Constant_str ⟨.str x, H, I.tok _, ⟨_, rfl⟩, h⟩
noncomputable def Gl (X : Cx) (x : Str) : Prop := X.env.kindOf x = some .globalImplicit
theorem lI {E : Value -> Shared -> Prop} {pins : List (Addr × Obj)} {s : Shared} {σ : St} {H : Hp} {x : Str} {u : Value} {pos : Pos} {Q : Value -> Shared -> Prop} (I : Inv X pins σ H s) (hg : Gl X x) (hm : X.mg x = some u) (h : Q u s)
  (hd : (x == ("__debug__" : Str)) = false := by decide) : wpAny (model X.prog X.w) X.A (eval (.Name x pos) X.env) Q E s :=
 Calls.Name_function_global I.ok.kind hg (Calls.loadGlobal_global (by rw [I.ok.glob]; exact I.mod.glob.keeps I.bk) hm h) hd
theorem jl {E : Value -> Shared -> Prop} {pins : List (Addr × Obj)} {s : Shared} {σ : St} {H : Hp} {x : Str} {u : Value} {pos : Pos} {Q : Value -> Shared -> Prop} (I : Inv X pins σ H s) (hg : Gl X x) (hm : X.mg x = none) (hv : bootBuiltins x = some u) (h : Q u s)
  (hn : x ≠ "__name__" := by decide) (hd : (x == ("__debug__" : Str)) = false := by decide) : wpAny (model X.prog X.w) X.A (eval (.Name x pos) X.env) Q E s := by
 obtain ⟨mb, h1, h2⟩ := I.mod.blt
 exact Calls.Name_function_global I.ok.kind hg (Calls.loadGlobal_builtin (by rw [I.ok.glob]; exact I.mod.glob.keeps I.bk) hm (by rw [I.ok.blt]; exact h1.keeps I.bk) ((h2 x hn).trans hv) h) hd
theorem yk {x : Str} {v : V} {u : Value} {pos : Pos} (hg : Gl X x) (hm : X.mg x = some u) (r : RelV v u) (hd : (x == ("__debug__" : Str)) = false := by decide) : PE X (.Name x pos) (tC v) :=
 fun _ _ _ H _ I h => lI I hg hm ⟨v, H, I, r, h⟩ hd
theorem yC {x : Str} {v : V} {u : Value} {pos : Pos} (hg : Gl X x) (hm : X.mg x = none) (hv : bootBuiltins x = some u) (r : RelV v u) (hn : x ≠ "__name__" := by decide) (hd : (x == ("__debug__" : Str)) = false := by decide) : PE X (.Name x pos) (tC v) :=
 fun _ _ _ H _ I h => jl I hg hm hv ⟨v, H, I, r, h⟩ hn hd
variable {a b : Expr} {ta tb : TE} {pos : Pos}
noncomputable def tB (t : TE) : TT := fun σ H Q => t σ H fun x H1 => ∃ c, x = .bl c /\ Q c H1
theorem zQ {e : Expr} {t : TE} (h : PE X e t) (he : ∀ whole, isTrue e X.env whole = (do let v <- whole; standAt e.pos; holding [v] (truthy v)) := by intro _; rfl) : PT X e (tB t) := by
 intro pins s σ H Q I hw
 refine isTrue_plain (thn (h pins s σ H _ I hw) fun v s1 ⟨x, H1, I1, r1, q1⟩ => ?_) (he _)
 obtain ⟨d, rfl, q⟩ := q1
 cases r1
 exact wpAny_truthy_bool ⟨H1, I1, q⟩
variable {tA tB' : TT} {f6 : List Expr}
noncomputable def tAnd (t u : TT) : TT := fun σ H Q => t σ H fun c H1 => if c = true then u σ H1 Q else Q false H1
noncomputable def tOr (t u : TT) : TT := fun σ H Q => t σ H fun c H1 => if c = true then Q true H1 else u σ H1 Q
noncomputable def tNot (t : TT) : TT := fun σ H Q => t σ H fun c H1 => Q (!c) H1
theorem xY (ha : PT X a tA) : PW X (.BoolOp .And [a] pos) tA := by
 intro wh pins s σ H Q I h
 refine isTrue_and (thn (ha pins s σ H Q I h) fun c s1 e => ?_)
 cases c with
 | true => exact isTrue_and_nil e
 | false => exact e
theorem Cr (ha : PT X a tA) : PW X (.BoolOp .Or [a] pos) tA := by
 intro wh pins s σ H Q I h
 refine isTrue_or (thn (ha pins s σ H Q I h) fun c s1 e => ?_)
 cases c with
 | false => exact isTrue_or_nil e
 | true => exact e
theorem ze (ha : PT X a tA) (hb : PW X (.BoolOp .And (b :: f6) pos) tB') : PW X (.BoolOp .And (a :: b :: f6) pos) (tAnd tA tB') := by
 intro wh pins s σ H Q I h
 refine isTrue_and (thn (ha pins s σ H _ I h) fun c s1 ⟨H1, I1, q1⟩ => ?_)
 cases c with
 | true => exact hb wh pins s1 σ H1 Q I1 q1
 | false => exact ⟨H1, I1, q1⟩
theorem Dh (ha : PT X a tA) (hb : PW X (.BoolOp .Or (b :: f6) pos) tB') : PW X (.BoolOp .Or (a :: b :: f6) pos) (tOr tA tB') := by
 intro wh pins s σ H Q I h
 refine isTrue_or (thn (ha pins s σ H _ I h) fun c s1 ⟨H1, I1, q1⟩ => ?_)
 cases c with
 | true => exact ⟨H1, I1, q1⟩
 | false => exact hb wh pins s1 σ H1 Q I1 q1
theorem Au (ha : PT X a tA) : PT X (.UnaryOp .Not a pos) (tNot tA) := by
 intro pins s σ H Q I h
 exact isTrue_not (ha pins s σ H (fun c H1 => Q (!c) H1) I h)
noncomputable def Ew (ta tb : TE) : TE := fun σ H Q => ta σ H fun x H1 => ∃ c, x = .bl c /\ if c = true then tb σ H1 Q else Q (.bl false) H1
noncomputable def Eo (ta : TE) : TE := fun σ H Q => ta σ H fun x H1 => ∃ c, x = .bl c /\ Q (.bl (!c)) H1
theorem zv {op} {t : TE} (h : PE X a t) : PE X (.BoolOp op [a] pos) t := fun pins s σ H Q I hw => BoolOp_one (h pins s σ H Q I hw)
theorem Ba (ha : PE X a ta) (hb : PE X (.BoolOp .And (b :: f6) pos) tb) : PE X (.BoolOp .And (a :: b :: f6) pos) (Ew ta tb) := by
 intro pins s σ H Q I h
 refine BoolOp_and (thn (ha pins s σ H _ I h) fun v s1 ⟨x, H1, I1, r1, q1⟩ => ?_)
 obtain ⟨c, rfl, q1⟩ := q1
 cases r1
 refine wpAny_truthy_bool ?_
 cases c with
 | true => exact hb pins s1 σ H1 Q I1 q1
 | false => exact ⟨.bl false, H1, I1, rfl, q1⟩
theorem Be (ha : PE X a ta) : PE X (.UnaryOp .Not a pos) (Eo ta) := by
 intro pins s σ H Q I h
 refine UnaryOp_ (thn (ha pins s σ H _ I h) fun v s1 ⟨x, H1, I1, r1, q1⟩ => ?_)
 obtain ⟨c, rfl, q1⟩ := q1
 cases r1
 exact not_of (wpAny_truthy_bool ⟨.bl (!c), H1, I1, rfl, q1⟩)
noncomputable def tIf (t : TT) (ta tb : TE) : TE := fun σ H Q => t σ H fun c H1 => if c = true then ta σ H1 Q else tb σ H1 Q
theorem wk {c : Expr} (hc : PT X c tA) (ha : PE X a ta) (hb : PE X b tb) : PE X (.IfExp c a b pos) (tIf tA ta tb) := by
 intro pins s σ H Q I h
 refine wpAny_IfExp (thn (hc pins s σ H _ I h) fun d s1 ⟨H1, I1, q1⟩ => ?_)
 cases d with
 | true => exact ha pins s1 σ H1 Q I1 q1
 | false => exact hb pins s1 σ H1 Q I1 q1
end
end L2
namespace L2
open PySem PySem.Spec PyProof.Rows
noncomputable def SqL (K : PySem.W.Frag) (H : Hp) (a : Addr) (xs : List V) : Prop :=
 Rd H a (.lst xs) \/
  ∃ (o : Obj) (its : Array Value) (n : Nat), K.lookup a = some o /\ o.cls = .type "list" /\ o.dict = none /\ o.data = .seq its n /\ its.size <= sizeLine /\ Vals xs its.toList
noncomputable def SqT (K : PySem.W.Frag) (H : Hp) (a : Addr) (xs : List V) : Prop :=
 Rd H a (.tup xs) \/
  ∃ (o : Obj) (its : Array Value) (n : Nat), K.lookup a = some o /\ o.cls = .type "tuple" /\ o.data = .seq its n /\ its.size <= sizeLine /\ Vals xs its.toList
noncomputable def absV : Value -> Option V
 | .none => some .non
 | .bool b => some (.bl b)
 | .int i _ => some (.int i)
 | .str x _ => some (.str x)
 | .bytes b _ => some (.byt b)
 | .float b _ => some (.flt b)
 | .ref a => some (.ref a)
 | .type n => some (.ty n)
 | _ => none
theorem RelV.abs {x : V} {u : Value} (r : RelV x u) : absV u = some x := by
 cases x with
 | non => cases r; rfl
 | bl _ => cases r; rfl
 | int _ => obtain ⟨t, rfl⟩ := r; rfl
 | str _ => obtain ⟨t, rfl⟩ := r; rfl
 | byt _ => obtain ⟨t, rfl⟩ := r; rfl
 | flt _ => obtain ⟨t, rfl⟩ := r; rfl
 | ref _ => cases r; rfl
 | ty _ => cases r; rfl
theorem RelV.inj {x y : V} {u : Value} (r : RelV x u) (q : RelV y u) : x = y := Option.some.inj (r.abs.symm.trans q.abs)
theorem Vals.inj {xs ys : List V} {us : List Value} (r : Vals xs us) (q : Vals ys us) : xs = ys := by
 induction r generalizing ys with
 | nil => cases q; rfl
 |
  cons r t ih =>
  cases q with
  | cons q t' => rw [r.inj q, ih t']
section
variable {X : Cx} {pins : List (Addr × Obj)} {σ : St} {H : Hp} {s : Shared} {a : Addr} {xs ys : List V}
theorem SqL.of {K : PySem.W.Frag} (h : H a = some (.lst xs)) : SqL K H a xs := .inl (.inl h)
theorem SqT.of {K : PySem.W.Frag} (h : H a = some (.tup xs)) : SqT K H a xs := .inl (.inl h)
theorem Inv.list (I : Inv X pins σ H s) (h : SqL X.K H a xs) : ∃ its : List Value, Vals xs its /\ PlainL s.heap a its.toArray /\ xs.length <= sizeLine := by
 rcases h with h | ⟨o, its, n, hk, hc, hd, hs, hz, r⟩
 ·obtain ⟨z, its, n, r, e⟩ := h.ok I.hok
  exact ⟨its, r, ⟨_, n, e, rfl, rfl, rfl⟩, z⟩
 ·refine ⟨its.toList, r, ⟨o, n, I.kIn a o hk, hc, hd, by simpa using hs⟩, ?_⟩
  have e := r.length
  simp only [Array.length_toList] at e
  omega
theorem Inv.tuple (I : Inv X pins σ H s) (h : SqT X.K H a xs) : ∃ its : List Value, Vals xs its /\ IsTup s.heap a its.toArray /\ xs.length <= sizeLine := by
 rcases h with h | ⟨o, its, n, hk, hc, hs, hz, r⟩
 ·obtain ⟨z, its, r, p⟩ := h.ok I.hok
  exact ⟨its, r, p, z⟩
 ·refine ⟨its.toList, r, ⟨o, I.kIn a o hk, hc, n, by simpa using hs⟩, ?_⟩
  have e := r.length
  simp only [Array.length_toList] at e
  omega
theorem Inv.list_inj (I : Inv X pins σ H s) (h : SqL X.K H a xs) (h' : SqL X.K H a ys) : xs = ys := by
 obtain ⟨its, r, ⟨o, n, e, _, _, d⟩, _⟩ := I.list h
 obtain ⟨its', r', ⟨o', n', e', _, _, d'⟩, _⟩ := I.list h'
 rw [e] at e'; cases e'
 rw [d] at d'
 injection d' with d1 _
 have : its = its' := by simpa using congrArg Array.toList d1
 subst this
 exact r.inj r'
theorem Inv.tuple_inj (I : Inv X pins σ H s) (h : SqT X.K H a xs) (h' : SqT X.K H a ys) : xs = ys := by
 obtain ⟨its, r, ⟨o, e, _, n, d⟩, _⟩ := I.tuple h
 obtain ⟨its', r', ⟨o', e', _, n', d'⟩, _⟩ := I.tuple h'
 rw [e] at e'; cases e'
 rw [d] at d'
 injection d' with d1 _
 have : its = its' := by simpa using congrArg Array.toList d1
 subst this
 exact r.inj r'
end
section
variable {X : Cx} {pins : List (Addr × Obj)} {σ : St} {H : Hp} {s : Shared} {E : Value -> Shared -> Prop}
end
section
variable {X : Cx} {st : Stmt} {f6 : List Stmt} {t u : TS} {e : Expr} {te : TE} {pos : Pos}
noncomputable def C4 : TS := fun D σ H => D.nx σ H
noncomputable def tSeq (t u : TS) : TS := fun D σ H => t { D with nx := u D } σ H
theorem yc : PSs X [] C4 := fun _ _ σ H _ I h => wpAny_execs_nil ⟨σ, H, I, h⟩
theorem wg (h1 : PS X st t) (h2 : PSs X f6 u) : PSs X (st :: f6) (tSeq t u) := by
 intro pins s σ H D I h
 refine wpAny_execs_cons (thn (h1 pins s σ H { D with nx := u D } I h) fun f s1 q => ?_)
 cases f with
 |
  next =>
  obtain ⟨σ', H', I', q⟩ := q
  exact h2 pins s1 σ' H' D I' q
 | ret v => exact q
 | brk => exact q
 | cont => exact q
theorem y7 (h1 : PS X st t) : PSs X [st] t := by
 intro pins s σ H D I h
 refine wpAny_execs_cons (thn (h1 pins s σ H D I h) fun f s1 q => ?_)
 cases f with
 | next => exact wpAny_execs_nil q
 | ret v => exact q
 | brk => exact q
 | cont => exact q
theorem Inv.quiet {pins : List (Addr × Obj)} {σ : St} {H : Hp} {s : Shared} (I : Inv X pins σ H s) : interactive X.env = false := by simp [interactive, I.ok.kind]
noncomputable def EG (te : TE) : TS := fun D σ H => te σ H fun _ H1 => D.nx σ H1
theorem x8 (he : PE X e te) (hs : swapsWith e none pos.line X.env = pure false := by rfl) : PS X (.Expr e pos) (EG te) := by
 intro pins s σ H D I h
 exact wpAny_Expr_any (thn (he pins s σ H _ I h) fun v s1 ⟨x, H1, I1, r1, q1⟩ => ⟨σ, H1, I1, q1⟩) I.quiet hs
noncomputable def tRet (te : TE) : TS := fun D σ H => te σ H D.rt
theorem BY (he : PE X e te) : PS X (.Return (some e) pos) (tRet te) := by
 intro pins s σ H D I h
 exact wpAny_Return_some (thn (he pins s σ H _ I h) fun v s1 ⟨x, H1, I1, r1, q1⟩ => ⟨x, σ, H1, I1, r1, q1⟩)
noncomputable def tIfS (c : TT) (t u : TS) : TS := fun D σ H => c σ H fun b H1 => if b = true then t D σ H1 else u D σ H1
theorem DK {c : Expr} {a b : List Stmt} {tc : TT} (hc : PT X c tc) (ha : PSs X a t) (hb : PSs X b u) : PS X (.If c a b pos) (tIfS tc t u) := by
 intro pins s σ H D I h
 refine wpAny_If (thn (hc pins s σ H _ I h) fun d s1 ⟨H1, I1, q1⟩ => ?_)
 cases d with
 | true => exact ha pins s1 σ H1 D I1 q1
 | false => exact hb pins s1 σ H1 D I1 q1
end
abbrev TG := V -> St -> Hp -> (St -> Hp -> Prop) -> Prop
abbrev TGs := List V -> St -> Hp -> (St -> Hp -> Prop) -> Prop
noncomputable def PG (X : Cx) (target : Expr) (t : TG) : Prop :=
 ∀
  (pins : List (Addr × Obj)) (s : Shared) (σ : St) (H : Hp) (v : V) (u : Value) (Q : St -> Hp -> Prop), Inv X pins σ H s -> RelV v u -> t v σ H Q ->
  wpAny (model X.prog X.w) X.A (assign target X.env u) (fun _ s' => ∃ σ' H', Inv X pins σ' H' s' /\ Q σ' H') X.xe s
noncomputable def PGs (X : Cx) (ts : List Expr) (t : TGs) : Prop :=
 ∀
  (pins : List (Addr × Obj)) (s : Shared) (σ : St) (H : Hp) (vs : List V) (us : List Value) (Q : St -> Hp -> Prop), Inv X pins σ H s -> Vals vs us -> t vs σ H Q ->
  wpAny (model X.prog X.w) X.A (assignInOrder ((assignEach ts X.env).map (·.2)) us) (fun _ s' => ∃ σ' H', Inv X pins σ' H' s' /\ Q σ' H') X.xe s
abbrev lR := V -> V -> V -> Hp -> (Hp -> Prop) -> Prop
noncomputable def rG (X : Cx) (t : lR) : Prop :=
 ∀
  (pins : List (Addr × Obj)) (s : Shared) (σ : St) (H : Hp) (o i v : V) (ov iv u : Value) (Q : Hp -> Prop), Inv X pins σ H s -> RelV o ov -> RelV i iv -> RelV v u -> t o i v H Q ->
  wpAny (model X.prog X.w) X.A (setItem ov iv u) (fun _ s' => ∃ H', Inv X pins σ H' s' /\ Q H') X.xe s
section
variable {X : Cx} {pos : Pos}
noncomputable def kK (i : Nat) : TG := fun v σ H Q => Q (σ.set i (some v)) H
theorem xO {i : Nat} {x : Str} (hN : X.N.Nodup) (hi : X.N[i]? = some x) (hx : Loc X.env.scope x) (hf : X.fn x = true \/ X.env.scope.names.lookup x = some .local := by first | exact .inl rfl | exact .inr rfl | assumption) : PG X (.Name x pos) (kK i) := by
 intro pins s σ H v u Q I r h
 exact wpAny_assign_Name (iO I hN hi hx r (fun s' I' => ⟨_, H, I', h⟩) hf)
noncomputable def gNil : TGs := fun vs σ H Q => vs = [] /\ Q σ H
noncomputable def DB (t : TG) (u : TGs) : TGs := fun vs σ H Q => ∃ v r, vs = v :: r /\ t v σ H fun σ' H' => u r σ' H' Q
theorem xK : PGs X [] gNil := by
 intro pins s σ H vs us Q I r h
 obtain ⟨e, h⟩ := h
 subst e
 cases r
 exact assignInOrder_nil ⟨σ, H, I, h⟩
theorem v3 {e : Expr} {es : List Expr} {t : TG} {u : TGs} (h1 : PG X e t) (h2 : PGs X es u)
  (hs : (assignEach (e :: es) X.env).map (·.2) = assign e X.env :: (assignEach es X.env).map (·.2) := by rfl) : PGs X (e :: es) (DB t u) := by
 intro pins s σ H vs us Q I r h
 obtain ⟨v, vr, e1, h⟩ := h
 subst e1
 cases r with
 |
  cons r rr =>
  rw [hs]
  refine assignInOrder_cons (thn (h1 pins s σ H _ _ _ I r h) fun _ s1 ⟨σ1, H1, I1, q1⟩ => ?_)
  exact h2 pins s1 σ1 H1 _ _ Q I1 rr q1
noncomputable def gTup (K : PySem.W.Frag) (n : Nat) (t : TGs) : TG := fun v σ H Q => ∃ a xs, v = .ref a /\ SqT K H a xs /\ xs.length = n /\ t xs σ H Q
theorem B4 {es : List Expr} {k : Nat} {t : TGs} {n : Nat} (hc : X.calm = true) (h : PGs X es t)
  (hn : (assignEach es X.env).length = n := by rfl) (hst : (assignEach es X.env).findIdx? (·.1) = none := by rfl) : PG X (.Tuple es k pos) (gTup X.K n t) := by
 intro pins s σ H v u Q I r hw
 obtain ⟨a, xs, e1, hq, hl, hw⟩ := hw
 subst e1
 cases r
 obtain ⟨its, rv, ht, hz⟩ := I.tuple hq
 refine assign_Tuple_tuple (I.ok.hd hc) ht (by simp [hn, <- hl, rv.length]) hst fun h' hx => ?_
 have I1 : Inv X pins σ H { s with heap := h' } := I.kept (t' := s.toks) fun b o e => hx b o (Nat.ne_of_lt (Heap.lt_size e)) e
 exact h pins _ σ H xs _ Q I1 (by simpa using rv) hw
noncomputable def gSub (to ti : TE) (t : lR) : TG := fun v σ H Q => to σ H fun o H1 => ti σ H1 fun i H2 => t o i v H2 fun H3 => Q σ H3
theorem AJ {o i : Expr} {to ti : TE} {t : lR} (ho : PE X o to) (hi : PE X i ti) (hs : rG X t)
  (ha : ∀ v, assign (.Subscript o i pos) X.env v = (do
   let ov <- holding [v] (eval o X.env)
   let iv <- holding [v, ov] (eval i X.env)
   standAt pos
   holding [v, ov, iv] (setItem ov iv v)
   release [v, ov, iv] []) := by intro _; rfl) : PG X (.Subscript o i pos) (gSub to ti t) := by
 intro pins s σ H v u Q I r h
 rw [ha]
 refine wpAny_bind (wpAny_holding (thn (ho pins s σ H _ I h) fun ov s1 ⟨x, H1, I1, r1, q1⟩ => ?_))
 refine wpAny_bind (wpAny_holding (thn (hi pins s1 σ H1 _ I1 q1) fun iv s2 ⟨y, H2, I2, r2, q2⟩ => ?_))
 refine wpAny_bind (wpAny_standAt (wpAny_bind (wpAny_holding (thn (hs pins s2 σ H2 x y v ov iv u _ I2 r1 r2 r q2) fun _ s3 ⟨H3, I3, q3⟩ => ?_))))
 exact wpAny_release ⟨σ, H3, I3, q3⟩
noncomputable def nS (te : TE) (g : TG) : TS := fun D σ H => te σ H fun x H1 => g x σ H1 D.nx
theorem Ae {tg e : Expr} {te : TE} {g : TG} (he : PE X e te) (hg : PG X tg g) (hs : swapsWithSole [tg] e pos.line X.env = pure false := by rfl) (hw : swappedStores [tg] e X.env = pure none := by rfl)
  (h1 : (assignEach [tg] X.env).map (·.2) = [assign tg X.env] := by rfl) : PS X (.Assign [tg] e pos) (nS te g) := by
 intro pins s σ H D I h
 refine wpAny_Assign_stores (thn (he pins s σ H _ I h) fun v s1 ⟨x, H1, I1, r1, q1⟩ => ?_) hs hw
 rw [h1]
 exact thn (hg pins s1 σ H1 x v _ I1 r1 q1) fun _ s2 q => q
theorem Bp {i : Nat} {x : Str} {e : Expr} {te : TE} {pos' : Pos} (hN : X.N.Nodup) (hi : X.N[i]? = some x) (hx : Loc X.env.scope x) (he : PE X e te) (hs : swapsWith e (some (.Name x pos')) pos.line X.env = pure false := by rfl) (hf : X.fn x = true \/ X.env.scope.names.lookup x = some .local := by first | exact .inl rfl | exact .inr rfl | assumption) :
  PS X (.Assign [.Name x pos'] e pos) (nS te (kK i)) := by
 intro pins s σ H D I h
 refine wpAny_Assign_Name (thn (he pins s σ H _ I h) fun v s1 ⟨y, H1, I1, r1, q1⟩ => ?_) hs
 exact iO I1 hN hi hx r1 (fun s2 I2 => ⟨_, H1, I2, q1⟩) hf
noncomputable def tPar (i j : Nat) (ta : TA) : TS := fun D σ H => ta σ H fun vs H1 => ∃ v w, vs = [v, w] /\ D.nx ((σ.set i (some v)).set j (some w)) H1
theorem
    BO {i j : Nat} {x y : Str} {a b : Expr} {ta : TA} {px py pt : Pos} {kt k2 pt2} (hc : X.calm = true) (hN : X.N.Nodup) (hi : X.N[i]? = some x) (hj : X.N[j]? = some y) (hij : i ≠ j)
  (hx : X.env.scope.names.lookup x = some .local) (hy : X.env.scope.names.lookup y = some .local) (ha : PA X [a, b] ta)
  (hw : swappedStores [.Tuple [.Name x px, .Name y py] kt pt] (.Tuple [a, b] k2 pt2) X.env = pure (some [x, y]))
  (hs : swapsWithSole [.Tuple [.Name x px, .Name y py] kt pt] (.Tuple [a, b] k2 pt2) pos.line X.env = pure false := by rfl) :
  PS X (.Assign [.Tuple [.Name x px, .Name y py] kt pt] (.Tuple [a, b] k2 pt2) pos) (tPar i j ta) := by
 intro pins s σ H D I h
 rw [exec_Assign_arm]
 refine wpAny_bind (wpAny_standAt ?_)
 rw [hs]
 refine wpAny_bind (wpAny_pure ?_)
 rw [if_neg (by decide)]
 refine wpAny_bind (Tuple_ (thn (ha _ pins s σ H _ I h) fun us s1 ⟨vs, H1, I1, r1, q1⟩ => ?_))
 obtain ⟨v, w, e1, q1⟩ := q1
 subst e1
 obtain ⟨u1, u2, rfl, rv, rw'⟩ : ∃ u1 u2, us = [u1, u2] /\ RelV v u1 /\ RelV w u2 := by
  cases r1 with
  |
   cons p q =>
   cases q with
   |
    cons p' q' =>
    cases q'
    exact ⟨_, _, rfl, p, p'⟩
 refine wpAny_newObj_type ?_ (by show 2 <= sizeLine; decide)
 have I2 : Inv X pins σ H1 { s1 with heap := s1.heap.push { cls := .type "tuple", data := .seq [u1, u2].toArray } } := I1.kept (t' := s1.toks) fun b o e => Heap.get?_push_of_some _ e
 rw [hw]
 refine wpAny_bind (wpAny_pure ?_)
 show wpAny (model X.prog X.w) X.A (do rule "assign.swapped-stores"; let items <- unpackItems (.ref s1.heap.objs.size) 2 none; assignInOrder [fun v => bindName X.env y v, fun v => bindName X.env x v] items.reverse; pure Flow.next) _ _ _
 refine wpAny_bind (wpAny_rule (wpAny_bind (unpackItems_tuple (items := #[u1, u2]) (I.ok.hd hc) (IsTup.new s1.heap _) fun h' hx' => ?_)))
 have I3 := I2.kept (h' := h') (t' := s1.toks) fun b o e => hx' b o (Nat.ne_of_lt (Heap.lt_size e)) e
 show wpAny _ _ (assignInOrder [fun v => bindName X.env y v, fun v => bindName X.env x v] [u2, u1] >>= fun _ => pure Flow.next) _ _ _
 refine wpAny_bind (assignInOrder_cons (wpAny_bindName (iO I3 hN hj (.inl hy) rw' (fun s2 I4 => ?_) (.inr hy))))
 refine assignInOrder_cons (wpAny_bindName (iO I4 hN hi (.inl hx) rv (fun s3 I5 => assignInOrder_nil (wpAny_pure ?_)) (.inr hx)))
 rw [List.set_comm _ _ (Ne.symm hij)] at I5
 exact ⟨_, H1, I5, q1⟩
end
section
variable {X : Cx} {pos : Pos}
noncomputable def AX (c : TT) (tb : TS) : TS := fun D σ H => ∃ W : Nat -> St -> Hp -> Prop, (∃ m, W m σ H) /\ ∀ m σ H, W m σ H ->
 c σ H fun b H1 => if b = true then ∃ N : St -> Hp -> Prop, (∀ σ' H', N σ' H' -> ∃ m', m' < m /\ W m' σ' H') /\ tb { D with nx := N, ct := N, bk := D.nx } σ H1 else D.nx σ H1
theorem vk {c : Expr} {body : List Stmt} {tc : TT} {tb : TS} (hp : PassesOwn (model X.prog X.w) X.A X.env X.xe) (hc : PT X c tc) (hb : PSs X body tb) : PS X (.While c body [] pos) (AX tc tb) := by
 intro pins s σ H D I h
 obtain ⟨W, ⟨m0, w0⟩, turn⟩ := h
 refine wpAny_While (codeAny_whileLoop (fun n s' => ∃ σ' H', Inv X pins σ' H' s' /\ W n σ' H') ?_ m0 ⟨σ, H, I, w0⟩)
 rintro n s1 ⟨σ1, H1, I1, w1⟩
 refine wpAny_passesOwn hp (thn (hc pins s1 σ1 H1 _ I1 (turn n σ1 H1 w1)) fun b s2 ⟨H2, I2, q2⟩ => ?_)
 cases b with
 |
  true =>
  obtain ⟨N, hN, q2⟩ := q2
  rw [if_pos rfl]
  refine wpAny_passesOwn hp (thn (hb pins s2 σ1 H2 _ I2 q2) fun f s3 q3 => ?_)
  cases f with
  |
   next =>
   obtain ⟨σ3, H3, I3, n3⟩ := q3
   obtain ⟨m', hm, w3⟩ := hN σ3 H3 n3
   exact ⟨m', hm, σ3, H3, I3, w3⟩
  |
   cont =>
   obtain ⟨σ3, H3, I3, n3⟩ := q3
   obtain ⟨m', hm, w3⟩ := hN σ3 H3 n3
   exact ⟨m', hm, σ3, H3, I3, w3⟩
  | brk => exact q3
  | ret v => exact q3
 |
  false =>
  rw [if_neg Bool.false_ne_true]
  exact wpAny_execs_nil ⟨σ1, H2, I2, q2⟩
end
structure It where
 go : Nat -> Hp -> Prop
 yld : Nat -> Hp -> V -> Hp -> Prop
 stop : Nat -> Hp -> Prop
noncomputable def FpOk (X : Cx) (pins : List (Addr × Obj)) (H : Hp) (b : Addr) : Prop :=
 H b = none /\ b ≠ X.env.locals /\ b ∉ X.fs /\ (b ∈ X.ex \/ X.s₀.heap.objs.size <= b) /\ (∀ x c, X.env.cells.lookup x = some c -> c ≠ b) /\ ∀ p ∈ X.pn ++ pins, p.1 ≠ b
theorem Inv.fpOk {X : Cx} {pins : List (Addr × Obj)} {σ : St} {H H' : Hp} {s : Shared} {b : Addr} (I : Inv X pins σ H s) (hb : s.heap.objs.size <= b) (hn : H' b = none) : FpOk X pins H' b := by
 refine ⟨hn, Nat.ne_of_gt (Nat.lt_of_lt_of_le I.lt hb), I.nofs hb, .inr (Nat.le_trans I.sz hb), fun x c e z => ?_, fun p hp z => ?_⟩
 ·obtain ⟨v, q⟩ := I.cell x c e
  exact absurd (Nat.lt_of_lt_of_le q.lt (by rw [z]; exact hb)) (Nat.lt_irrefl _)
 ·exact absurd (Nat.lt_of_lt_of_le (Heap.lt_size (I.pin p hp).1) (by rw [z]; exact hb)) (Nat.lt_irrefl _)
structure Turn (P : Program) (w : World) (K : PySem.W.Frag) (tg : Expr) (J : It) (fp : List Addr) (it : Addr) (tn : Nat -> Heap -> Prop) : Prop where
 mem : it ∈ fp
 obj : ∀ i h, tn i h -> ∀ b ∈ fp, ∃ o, h.get? b = some o /\ ∀ v, o.data ≠ .cell v
 keep : ∀ i h h', tn i h -> (∀ b ∈ fp, ∀ o, h.get? b = some o -> h'.get? b = some o) -> tn i h'
 item : ∀ (X : Cx), X.prog = P -> X.w = w -> X.K = K -> X.calm = true -> ∀ (i : Nat) (pins : List (Addr × Obj)) (s : Shared) (σ : St) (H : Hp) (E : Value -> Shared -> Prop), Inv X pins σ H s -> (∀ b ∈ fp, FpOk X pins H b) -> tn i s.heap -> J.go i H ->
  wpAny (model P w) X.A (pyNext (.ref it)) (fun r s1 => ∃ u, r = some u /\
   wpAny (model P w) X.A (letOwnedTupleGo tg (.ref it) u) (fun _ s2 => ∃ x H', Inv X pins σ H' s2 /\ RelV x u /\ J.yld i H x H' /\ tn (i + 1) s2.heap /\ ∀ b ∈ fp, H' b = none) E s1) E s
 done : ∀ (X : Cx), X.prog = P -> X.w = w -> X.K = K -> X.calm = true -> ∀ (i : Nat) (pins : List (Addr × Obj)) (s : Shared) (σ : St) (H : Hp) (E : Value -> Shared -> Prop), Inv X pins σ H s -> (∀ b ∈ fp, FpOk X pins H b) -> tn i s.heap -> J.stop i H ->
  wpAny (model P w) X.A (pyNext (.ref it)) (fun r s1 => r = none /\ Inv X pins σ H s1) E s
 self : ∀ (A : Around) (i : Nat) (s : Shared) (Q : Value -> Shared -> Prop) (E : Value -> Shared -> Prop), tn i s.heap -> Q (.ref it) s -> wpAny (model P w) A (pyIter (.ref it)) Q E s
abbrev TI := St -> Hp -> (It -> Hp -> Prop) -> Prop
noncomputable def PIE (X : Cx) (pins : List (Addr × Obj)) (σ : St) (tg : Expr) (R : It -> Hp -> Prop) (itv : Value) (s2 : Shared) : Prop :=
 ∃ (it : Addr) (fp : List Addr) (tn : Nat -> Heap -> Prop) (J : It) (H' : Hp), itv = .ref it /\ Inv X pins σ H' s2 /\ Turn X.prog X.w X.K tg J fp it tn /\ tn 0 s2.heap /\ (∀ b ∈ fp, FpOk X pins H' b) /\ R J H'
noncomputable def PI (X : Cx) (tg iter : Expr) (wi : TI) : Prop :=
 ∀
  (pins : List (Addr × Obj)) (s : Shared) (σ : St) (H : Hp) (R : It -> Hp -> Prop), Inv X pins σ H s -> wi σ H R ->
  wpAny (model X.prog X.w) X.A (eval iter X.env) (fun v s1 => wpAny (model X.prog X.w) X.A (pyIter v) (PIE X pins σ tg R) X.xe s1) X.xe s
theorem rp {M : Model} {A : Around} {E : Value -> Shared -> Prop} {s : Shared} {tg : Expr} {it : Addr} {u : Value} {o : Obj} {n : String} {vs : Array Value} {Q : Unit -> Shared -> Prop} (ho : s.heap.get? it = some o) (hc : o.cls = .type n) (hd : o.data = .fields vs)
  (hn : ["enumerate", "zip", "dict_itemiterator", "dict_reverseitemiterator", "odict_iterator", "itertools.zip_longest", "itertools.pairwise"].contains n = false) (hQ : Q () s) : wpAny M A (letOwnedTupleGo tg (.ref it) u) Q E s := by
 unfold letOwnedTupleGo
 cases tg
      <;> first
  | exact wpAny_pure hQ
  | (cases u <;> first
    | exact wpAny_pure hQ
    | (
      refine wpAny_bind (wpAny_load ho ?_)
      rw [hc, hd]
      show wpAny M A (if (["enumerate", "zip", "dict_itemiterator", "dict_reverseitemiterator", "odict_iterator", "itertools.zip_longest", "itertools.pairwise"].contains n && vs[0]? == some (rawInt _)) = true then _ else _) Q E s
      rw [if_neg (by intro h; rw [hn, Bool.false_and] at h; cases h)]
      exact wpAny_pure hQ))
noncomputable def Itl (K : PySem.W.Frag) (a : Addr) : It :=
 ⟨fun i H => ∃ xs x, SqL K H a xs /\ xs[i]? = some x, fun i H x H' => H' = H /\ ∀ xs, SqL K H a xs -> xs[i]? = some x, fun i H => ∃ xs, SqL K H a xs /\ xs.length <= i⟩
noncomputable def Itt (K : PySem.W.Frag) (a : Addr) : It :=
 ⟨fun i H => ∃ xs x, SqT K H a xs /\ xs[i]? = some x, fun i H x H' => H' = H /\ ∀ xs, SqT K H a xs -> xs[i]? = some x, fun i H => ∃ xs, SqT K H a xs /\ xs.length <= i⟩
noncomputable def Itr (lo : Int) (n : Nat) : It := ⟨fun i _ => i < n, fun i H x H' => H' = H /\ x = .int (lo + i), fun i _ => n <= i⟩
theorem sT {P : Program} {w : World} {K : PySem.W.Frag} {tg : Expr} (a it : Addr) : Turn P w K tg (Itl K a) [it] it (fun i h => h.IsListIter it a i) where
 mem := by simp
 obj := fun i h st b hb => by
  have e : b = it := by simpa using hb
  subst e
  obtain ⟨o, e, c, d⟩ := st
  exact ⟨o, e, fun v z => by rw [d] at z; cases z⟩
 keep := fun i h h' st k => st.at fun o e => k it (by simp) o e
 item := by
  intro X hP hw hK hc i pins s σ H E I hf st hg
  subst hP hw hK
  obtain ⟨xs, x, hq, hx⟩ := hg
  obtain ⟨its, rv, p, hz⟩ := I.list hq
  obtain ⟨u, hu, ru⟩ := rv.get hx
  obtain ⟨f0, f1, f2, f3, f4, f5⟩ := hf it (by simp)
  refine wpAny_pyNext_list_item st p.isList (x := u) (by simpa using hu) fun h' st' sb => ?_
  have I1 : Inv X pins σ H { s with heap := h' } := I.turned (t' := s.toks) (fun b o hb e => (sb.2 b hb).trans e) f0 f1 f3 f4 f5
  obtain ⟨o, e, c, d⟩ := id st'
  exact ⟨u, rfl, rp (s := { s with heap := h' }) e c d (by decide) ⟨x, H, I1, ru, ⟨rfl, fun ys hy => by rw [I.list_inj hy hq]; exact hx⟩, st', fun b hb => (hf b hb).1⟩⟩
 done := by
  intro X hP hw hK hc i pins s σ H E I hf st hg
  subst hP hw hK
  obtain ⟨xs, hq, hx⟩ := hg
  obtain ⟨its, rv, p, hz⟩ := I.list hq
  obtain ⟨f0, f1, f2, f3, f4, f5⟩ := hf it (by simp)
  have hl := rv.length
  exact wpAny_pyNext_list_end (I.ok.hd hc) st p.isList (by simp; omega) fun h' eb => ⟨rfl, I.turned (t' := s.toks) (fun b o hb e => eb b o hb e) f0 f1 f3 f4 f5⟩
 self := fun _ _ _ _ _ st h => wpAny_pyIter_listiter st h
theorem rf {P : Program} {w : World} {K : PySem.W.Frag} {tg : Expr} (a it : Addr) : Turn P w K tg (Itt K a) [it] it (fun i h => h.IsTupleIter it a i) where
 mem := by simp
 obj := fun i h st b hb => by
  have e : b = it := by simpa using hb
  subst e
  obtain ⟨o, e, c, d⟩ := st
  exact ⟨o, e, fun v z => by rw [d] at z; cases z⟩
 keep := fun i h h' st k => st.at fun o e => k it (by simp) o e
 item := by
  intro X hP hw hK hc i pins s σ H E I hf st hg
  subst hP hw hK
  obtain ⟨xs, x, hq, hx⟩ := hg
  obtain ⟨its, rv, p, hz⟩ := I.tuple hq
  obtain ⟨u, hu, ru⟩ := rv.get hx
  obtain ⟨f0, f1, f2, f3, f4, f5⟩ := hf it (by simp)
  refine wpAny_pyNext_tuple_item st (show s.heap.IsTuple a its.toArray from p) (x := u) (by simpa using hu) fun h' st' sb => ?_
  have I1 : Inv X pins σ H { s with heap := h' } := I.turned (t' := s.toks) (fun b o hb e => (sb.2 b hb).trans e) f0 f1 f3 f4 f5
  obtain ⟨o, e, c, d⟩ := id st'
  exact ⟨u, rfl, rp (s := { s with heap := h' }) e c d (by decide) ⟨x, H, I1, ru, ⟨rfl, fun ys hy => by rw [I.tuple_inj hy hq]; exact hx⟩, st', fun b hb => (hf b hb).1⟩⟩
 done := by
  intro X hP hw hK hc i pins s σ H E I hf st hg
  subst hP hw hK
  obtain ⟨xs, hq, hx⟩ := hg
  obtain ⟨its, rv, p, hz⟩ := I.tuple hq
  obtain ⟨f0, f1, f2, f3, f4, f5⟩ := hf it (by simp)
  have hl := rv.length
  exact wpAny_pyNext_tuple_end (I.ok.hd hc) st (show s.heap.IsTuple a its.toArray from p) (by simp; omega) fun h' eb => ⟨rfl, I.turned (t' := s.toks) (fun b o hb e => eb b o hb e) f0 f1 f3 f4 f5⟩
 self := fun _ _ _ _ _ st h => wpAny_pyIter_tupleiter st h
theorem qu {P : Program} {w : World} {K : PySem.W.Frag} {tg : Expr} (it : Addr) (lo : Int) (n : Nat) : Turn P w K tg (Itr lo n) [it] it (fun i h => IsRangeIter h it (lo + (i : Nat) * 1) ((n : Int) - (i : Nat)) 1) where
 mem := by simp
 obj
   := fun i h st b hb => by
  have e : b = it := by simpa using hb
  subst e
  exact ⟨_, st, fun v z => by
   have z' : Data.fields _ = Data.cell v := z
   cases z'⟩
 keep := fun i h h' st k => k it (by simp) _ st
 item := by
  intro X hP hw hK hc i pins s σ H E I hf st hg
  subst hP hw hK
  obtain ⟨f0, f1, f2, f3, f4, f5⟩ := hf it (by simp)
  have W := Walks.range (prog := X.prog) (w := X.w) (I.ok.hd hc) it lo 1 n
  refine W.item i s _ _ hg st fun v h' tk hv st' kk => ?_
  obtain ⟨t, rfl⟩ := hv
  have I1 : Inv X pins σ H { s with heap := h', toks := tk } := I.turned (fun b o hb e => kk b o (by simpa using hb) e) f0 f1 f3 f4 f5
  refine ⟨_, rfl, rp (s := { s with heap := h', toks := tk }) (n := "range_iterator") st' rfl rfl (by decide) ⟨.int (lo + i), H, I1, ⟨t, ?_⟩, ⟨rfl, rfl⟩, st', fun b hb => (hf b hb).1⟩⟩
  rw [Int.mul_one]
 done := by
  intro X hP hw hK hc i pins s σ H E I hf st hg
  subst hP hw hK
  obtain ⟨f0, f1, f2, f3, f4, f5⟩ := hf it (by simp)
  exact wpAny_pyNext_range_end (I.ok.hd hc) st (by have : n <= i := hg; omega) fun h' eb => ⟨rfl, I.turned (t' := s.toks) (fun b o hb e => eb b o hb e) f0 f1 f3 f4 f5⟩
 self := fun _ _ _ _ _ st h => wpAny_pyIter_rangeiter st h
end L2
namespace L2
open PySem PySem.Spec PyProof.Rows
section
variable {X : Cx} {tg : Expr}
theorem wz {pins : List (Addr × Obj)} {σ : St} {H : Hp} {s : Shared} {R : It -> Hp -> Prop} {E : Value -> Shared -> Prop} {lo hi : Int} {t u v : Tok} {tk : Nat} (I : Inv X pins σ H s) (h1 : -(2 ^ 62) <= lo) (h2 : lo < 2 ^ 62) (h3 : -(2 ^ 62) <= hi) (h4 : hi < 2 ^ 62)
  (q : R (Itr lo (hi - lo).toNat) H) : wpAny (model X.prog X.w) X.A (pyIter (.ref s.heap.objs.size)) (PIE X pins σ tg R) E { s with heap := s.heap.push { cls := .type "range", data := .fields #[.int lo t, .int hi u, .int 1 v] }, toks := tk } := by
 refine wpAny_pyIter_range (IsRange.new ..) (small_one h1 h2 h3 h4) ?_
 have I1 : Inv X pins σ H { s with heap := s.heap.push { cls := .type "range", data := .fields #[.int lo t, .int hi u, .int 1 v] }, toks := tk } := I.kept fun b o e => Heap.get?_push_of_some _ e
 refine ⟨(s.heap.push { cls := .type "range", data := .fields #[.int lo t, .int hi u, .int 1 v] }).objs.size, [(s.heap.push { cls := .type "range", data := .fields #[.int lo t, .int hi u, .int 1 v] }).objs.size], _, _, H, rfl,
  I1.kept (t' := tk) fun b o e => Heap.get?_push_of_some _ e, qu _ lo (hi - lo).toNat, ?_, fun b hb => ?_, q⟩
 ·have e1 : lo + ((0 : Nat) : Int) * 1 = lo := by simp
  have e2 : (((hi - lo).toNat : Nat) : Int) - ((0 : Nat) : Int) = Builtin.Range.rangeSize lo hi 1 := by rw [rangeSize_one]; split <;> omega
  show IsRangeIter _ _ (lo + ((0 : Nat) : Int) * 1) ((((hi - lo).toNat : Nat) : Int) - ((0 : Nat) : Int)) 1
  rw [e1, e2]
  exact Heap.get?_push_size _ rfl
 ·have e : b = (s.heap.push { cls := .type "range", data := .fields #[.int lo t, .int hi u, .int 1 v] }).objs.size := by simpa using hb
  subst e
  exact I1.fpOk (Nat.le_refl _) (I1.hok.fresh (Nat.le_refl _))
noncomputable def Ec (ta : TA) : TI := fun σ H R => ta σ H fun vs H1 => ∃ j : Int, vs = [.int j] /\ -(2 ^ 62) <= j /\ j < 2 ^ 62 /\ R (Itr 0 j.toNat) H1
theorem tX {a : Expr} {ta : TA} {p pos : Pos} (hg : Gl X "range") (hm : X.mg "range" = none) (ha : PA X [a] ta) (hs : starEach [a] X.env = [(false, eval a X.env)] := by rfl) : PI X tg (.Call (.Name "range" p) [a] [] pos) (Ec ta) := by
 intro pins s σ H R I h
 refine Call_ (jl I hg hm boot_range (PyProof.Rows.callWith_type1 (thn (ha pos pins s σ H _ I h) fun us s1 ⟨vs, H1, I1, r1, q1⟩ => ?_) hs rfl))
 obtain ⟨j, e, q1, q2, q⟩ := q1
 subst e
 cases r1 with
 |
  cons r rr =>
  cases rr
  obtain ⟨t, rfl⟩ := r
  exact call_range_1 (wz I1 (by omega) (by omega) q1 q2 (by simpa using q))
noncomputable def tFor (wi : TI) (g : TG) (tb : TS) : TS := fun D σ H => wi σ H fun J H1 => ∃ W : Nat -> Nat -> St -> Hp -> Prop, (∃ m, W 0 m σ H1) /\ ∀ i m σ H, W i m σ H ->
 (J.stop i H /\ D.nx σ H) \/ (J.go i H /\ ∃ N : St -> Hp -> Prop, (∀ σ' H', N σ' H' -> ∃ m', m' < m /\ W (i + 1) m' σ' H') /\ ∀ x H', J.yld i H x H' -> g x σ H' fun σ2 H2 => tb { D with nx := N, ct := N, bk := D.nx } σ2 H2)
noncomputable def gQ (fp : List Addr) (h : Heap) : List (Addr × Obj) := fp.filterMap fun b => (h.get? b).map fun o => (b, o)
theorem dM {fp : List Addr} {h : Heap} {b : Addr} {o : Obj} (hb : b ∈ fp) (e : h.get? b = some o) : (b, o) ∈ gQ fp h := List.mem_filterMap.mpr ⟨b, hb, by rw [e]; rfl⟩
theorem sv {fp : List Addr} {h : Heap} {p : Addr × Obj} (hp : p ∈ gQ fp h) : p.1 ∈ fp /\ h.get? p.1 = some p.2 := by
 obtain ⟨b, hb, e⟩ := List.mem_filterMap.mp hp
 cases q : h.get? b with
 | none => rw [q] at e; cases e
 |
  some o =>
  rw [q] at e
  have e' : (b, o) = p := Option.some.inj e
  subst e'
  exact ⟨hb, q⟩
theorem Inv.pinned {pins : List (Addr × Obj)} {σ : St} {H : Hp} {s : Shared} {fp : List Addr} (I : Inv X pins σ H s) (hf : ∀ b ∈ fp, FpOk X pins H b) (ho : ∀ b ∈ fp, ∃ o, s.heap.get? b = some o /\ ∀ v, o.data ≠ .cell v) : Inv X (pins ++ gQ fp s.heap) σ H s :=
 I.pins_of fun p hp => (List.mem_append.mp hp).elim (fun z => I.pin p (List.mem_append_right _ z)) fun z => by
  obtain ⟨hb, e⟩ := sv z
  obtain ⟨f0, f1, f2, _⟩ := hf p.1 hb
  obtain ⟨o, e', d⟩ := ho p.1 hb
  rw [e] at e'; cases e'
  exact ⟨e, f0, f1, f2, d⟩
theorem Inv.unpinned {pins pl : List (Addr × Obj)} {σ : St} {H : Hp} {s : Shared} (I : Inv X (pins ++ pl) σ H s) : Inv X pins σ H s := I.pins_of fun p hp => I.pin p (List.mem_append_right _ (List.mem_append_left _ hp))
theorem Cn {iter : Expr} {body : List Stmt} {wi : TI} {g : TG} {tb : TS} {pos : Pos} (hp : PassesOwn (model X.prog X.w) X.A X.env X.xe) (hc : X.calm = true) (hi : PI X tg iter wi) (hg : PG X tg g) (hb : PSs X body tb)
  (hs : ∀ x, foldedSetIterable iter X.env x = pure x := by intro _; rfl) : PS X (.For tg iter body [] pos) (tFor wi g tb) := by
 intro pins s σ H D I h
 refine wpAny_For (thn (hi pins s σ H _ I h) fun v s1 h1 => thn h1 fun itv s2 h2 => ?_) hs
 obtain ⟨it, fp, tn, J, H2, e, I2, T, st2, f2, W, ⟨m0, w0⟩, turn⟩ := h2
 subst e
 have stat : ∀ {H' : Hp}, (∀ b ∈ fp, H' b = none) -> ∀ b ∈ fp, FpOk X pins H' b := fun hn b hb => ⟨hn b hb, (f2 b hb).2⟩
 refine codeAny_forLoop_any (fun n s' => ∃ i σ' H', Inv X pins σ' H' s' /\ tn i s'.heap /\ (∀ b ∈ fp, H' b = none) /\ W i n σ' H') ?_ m0 ⟨0, σ, H2, I2, st2, fun b hb => (f2 b hb).1, w0⟩
 rintro n s3 ⟨i, σ3, H3, I3, st3, fr3, w3⟩
 rcases turn i n σ3 H3 w3 with ⟨stop, qn⟩ | ⟨go, N, hN, step⟩
 ·refine wpAny_passesOwn hp (thn (T.done X rfl rfl rfl hc i pins s3 σ3 H3 X.xe I3 (stat fr3) st3 stop) fun r s4 ⟨hr, I4⟩ => ?_)
  subst hr
  exact wpAny_execs_nil ⟨σ3, H3, I4, qn⟩
 ·refine wpAny_passesOwn hp (thn (T.item X rfl rfl rfl hc i pins s3 σ3 H3 X.xe I3 (stat fr3) st3 go) fun r s4 ⟨u, hr, h4⟩ => ?_)
  subst hr
  refine wpAny_passesOwn hp (thn h4 fun _ s5 ⟨x, H5, I5, r5, y5, st5, fr5⟩ => ?_)
  have I5' := I5.pinned (stat fr5) (T.obj _ _ st5)
  refine wpAny_passesOwn hp (thn (hg _ s5 σ3 H5 x u _ I5' r5 (step x H5 y5)) fun _ s6 ⟨σ6, H6, I6, q6⟩ => ?_)
  refine wpAny_passesOwn hp (thn (hb _ s6 σ6 H6 _ I6 q6) fun f s7 q7 => ?_)
  have again : ∀ {σ7 : St} {H7 : Hp}, Inv X (pins ++ gQ fp s5.heap) σ7 H7 s7 -> N σ7 H7 -> ∃ m, m < n /\ ∃ i σ' H', Inv X pins σ' H' s7 /\ tn i s7.heap /\ (∀ b ∈ fp, H' b = none) /\ W i m σ' H' := fun {σ7 H7} I7 n7 => by
   obtain ⟨m', hm, w7⟩ := hN σ7 H7 n7
   refine ⟨m', hm, i + 1, σ7, H7, I7.unpinned, T.keep _ _ _ st5 fun b hb o e => (I7.pin (b, o) (List.mem_append_right _ (List.mem_append_right _ (dM hb e)))).1, fun b hb => ?_, w7⟩
   obtain ⟨o, e, d⟩ := T.obj _ _ st5 b hb
   exact (I7.pin (b, o) (List.mem_append_right _ (List.mem_append_right _ (dM hb e)))).2.1
  cases f with
  | next => obtain ⟨σ7, H7, I7, n7⟩ := q7; exact again I7 n7
  | cont => obtain ⟨σ7, H7, I7, n7⟩ := q7; exact again I7 n7
  | brk => obtain ⟨σ7, H7, I7, q7⟩ := q7; exact ⟨σ7, H7, I7.unpinned, q7⟩
  | ret v => obtain ⟨x7, σ7, H7, I7, r7, q7⟩ := q7; exact ⟨x7, σ7, H7, I7.unpinned, r7, q7⟩
end
end L2
namespace L2
open PySem PySem.Spec PyProof.Rows
abbrev R2 := V -> V -> Hp -> VK -> Prop
noncomputable def OpR (X : Cx) (f : Value -> Value -> Sem Value) (r : R2) : Prop :=
 ∀
  (pins : List (Addr × Obj)) (s : Shared) (σ : St) (H : Hp) (x y : V) (v u : Value) (Q : VK), Inv X pins σ H s -> RelV x v -> RelV y u -> r x y H Q ->
  wpAny (model X.prog X.w) X.A (f v u) (EP X pins σ Q) X.xe s
noncomputable def UnR (X : Cx) (f : Value -> Sem Value) (r : V -> Hp -> VK -> Prop) : Prop :=
 ∀
  (pins : List (Addr × Obj)) (s : Shared) (σ : St) (H : Hp) (x : V) (v : Value) (Q : VK), Inv X pins σ H s -> RelV x v -> r x H Q ->
  wpAny (model X.prog X.w) X.A (f v) (EP X pins σ Q) X.xe s
noncomputable def CallR (X : Cx) (f : Value) (r : List V -> Hp -> VK -> Prop) : Prop :=
 ∀
  (pins : List (Addr × Obj)) (s : Shared) (σ : St) (H : Hp) (xs : List V) (us : List Value) (Q : VK), Inv X pins σ H s -> Vals xs us -> r xs H Q ->
  wpAny (model X.prog X.w) X.A (call f us) (EP X pins σ Q) X.xe s
noncomputable def TruR (X : Cx) (r : V -> Hp -> (Bool -> Hp -> Prop) -> Prop) : Prop :=
 ∀
  (pins : List (Addr × Obj)) (s : Shared) (σ : St) (H : Hp) (x : V) (v : Value) (Q : Bool -> Hp -> Prop), Inv X pins σ H s -> RelV x v -> r x H Q ->
  wpAny (model X.prog X.w) X.A (truthy v) (TP X pins σ Q) X.xe s
noncomputable def tOp (r : R2) (ta tb : TE) : TE := fun σ H Q => ta σ H fun x H1 => tb σ H1 fun y H2 => r x y H2 Q
noncomputable def tUn (r : V -> Hp -> VK -> Prop) (ta : TE) : TE := fun σ H Q => ta σ H fun x H1 => r x H1 Q
noncomputable def rI (C : Int -> Int -> Prop) (g : Int -> Int -> V) : R2 := fun x y H Q => ∃ i j, x = .int i /\ y = .int j /\ C i j /\ Q (g i j) H
noncomputable def rI0 (g : Int -> Int -> V) : R2 := fun x y H Q => ∃ i j, x = .int i /\ y = .int j /\ Q (g i j) H
noncomputable def rU (g : Int -> V) : V -> Hp -> VK -> Prop := fun x H Q => ∃ i, x = .int i /\ Q (g i) H
section
variable {X : Cx} {a b c : Expr} {ta tb tc : TE} {pos : Pos}
theorem vc (ha : PE X a ta) (hb : PE X b tb) {pins : List (Addr × Obj)} {s : Shared} {σ : St} {H : Hp} {R : V -> V -> Hp -> Prop} (I : Inv X pins σ H s)
  (h : ta σ H fun x H1 => tb σ H1 fun y H2 => R x y H2) {Q : Value -> Shared -> Prop} {f : Value -> Value -> Sem Value}
  (hf : ∀ v u s2 x y H2, Inv X pins σ H2 s2 -> RelV x v -> RelV y u -> R x y H2 -> wpAny (model X.prog X.w) X.A (f v u) Q X.xe s2) :
  wpAny (model X.prog X.w) X.A (eval a X.env) (fun v s₁ => wpAny (model X.prog X.w) X.A (eval b X.env) (fun u s₂ => wpAny (model X.prog X.w) X.A (f v u) Q X.xe s₂) X.xe s₁) X.xe s := by
 refine thn (ha pins s σ H _ I h) fun v s1 ⟨x, H1, I1, r1, q1⟩ => ?_
 refine thn (hb pins s1 σ H1 _ I1 q1) fun u s2 ⟨y, H2, I2, r2, q2⟩ => ?_
 exact hf v u s2 x y H2 I2 r1 r2 q2
theorem Ee {op : Operator} {r : R2} (ho : OpR X (binaryOp op) r) (ha : PE X a ta) (hb : PE X b tb) : PE X (.BinOp a op b pos) (tOp r ta tb) := by
 intro pins s σ H Q I h
 exact wpAny_BinOp (vc ha hb I h fun v u s2 x y H2 I2 rx ry q => ho pins s2 σ H2 x y v u Q I2 rx ry q)
theorem DQ {op : UnaryOp} {r : V -> Hp -> VK -> Prop} (ho : UnR X (unaryOp op) r) (ha : PE X a ta) : PE X (.UnaryOp op a pos) (tUn r ta) := by
 intro pins s σ H Q I h
 exact UnaryOp_ (thn (ha pins s σ H _ I h) fun v s1 ⟨x, H1, I1, r1, q1⟩ => ho pins s1 σ H1 x v Q I1 r1 q1)
theorem opI {f : Value -> Value -> Sem Value} {C : Int -> Int -> Prop} {g : Int -> Int -> Int}
  (rule : ∀ (i j : Int) (t u : Tok) (s : Shared) (Q : Value -> Shared -> Prop) (E : Value -> Shared -> Prop), C i j -> Q (.int (g i j) s.toks) { s with toks := s.toks + 1 } -> wpAny (model X.prog X.w) X.A (f (.int i t) (.int j u)) Q E s) :
  OpR X f (rI C fun i j => .int (g i j)) := by
 intro pins s σ H x y v u Q I rx ry h
 obtain ⟨i, j, rfl, rfl, hc, q⟩ := h
 obtain ⟨t, rfl⟩ := rx
 obtain ⟨t', rfl⟩ := ry
 exact rule i j t t' s _ _ hc ⟨.int (g i j), H, I.tok _, ⟨_, rfl⟩, q⟩
theorem opI0 {f : Value -> Value -> Sem Value} {g : Int -> Int -> Int}
  (rule : ∀ (i j : Int) (t u : Tok) (s : Shared) (Q : Value -> Shared -> Prop) (E : Value -> Shared -> Prop), Q (.int (g i j) s.toks) { s with toks := s.toks + 1 } -> wpAny (model X.prog X.w) X.A (f (.int i t) (.int j u)) Q E s) :
  OpR X f (rI0 fun i j => .int (g i j)) := by
 intro pins s σ H x y v u Q I rx ry h
 obtain ⟨i, j, rfl, rfl, q⟩ := h
 obtain ⟨t, rfl⟩ := rx
 obtain ⟨t', rfl⟩ := ry
 exact rule i j t t' s _ _ ⟨.int (g i j), H, I.tok _, ⟨_, rfl⟩, q⟩
theorem rV {f : Value -> Value -> Sem Value} {g : Int -> Int -> Bool}
  (rule : ∀ (i j : Int) (t u : Tok) (s : Shared) (Q : Value -> Shared -> Prop) (E : Value -> Shared -> Prop), Q (.bool (g i j)) s -> wpAny (model X.prog X.w) X.A (f (.int i t) (.int j u)) Q E s) :
  OpR X f (rI0 fun i j => .bl (g i j)) := by
 intro pins s σ H x y v u Q I rx ry h
 obtain ⟨i, j, rfl, rfl, q⟩ := h
 obtain ⟨t, rfl⟩ := rx
 obtain ⟨t', rfl⟩ := ry
 exact rule i j t t' s _ _ ⟨.bl (g i j), H, I, rfl, q⟩
noncomputable def lg (i j : Int) : Prop := 0 <= j /\ j <= 1000000 /\ i.natAbs < 2 ^ 64
noncomputable def CMul (i j : Int) : Prop := (-(2 ^ 64) < i /\ i < 2 ^ 64) \/ (-(2 ^ 64) < j /\ j < 2 ^ 64)
theorem CMul.ok {i j : Int} (h : CMul i j) : IntMulOk i j := by
 rcases h with ⟨h1, h2⟩ | ⟨h1, h2⟩
 ·exact .of_left (intBits_le_64 h1 h2)
 ·exact .of_right (intBits_le_64 h1 h2)
theorem Cs : OpR X (binaryOp .Add) (rI0 fun i j => .int (i + j)) := opI0 fun _ _ _ _ _ _ _ q => add_int q
theorem bA : OpR X (binaryOp .Sub) (rI0 fun i j => .int (i - j)) := opI0 fun _ _ _ _ _ _ _ q => sub_int q
theorem A7 : OpR X (binaryOp .Mult) (rI CMul fun i j => .int (i * j)) := opI fun _ _ _ _ _ _ _ hc q => mul_int q hc.ok
theorem ec : OpR X (binaryOp .Mod) (rI (fun _ j => j ≠ 0) fun i j => .int (i.fmod j)) := opI fun _ _ _ _ _ _ _ hc q => mod_int' hc q
theorem BD : OpR X (binaryOp .Pow) (rI lg fun i j => .int (i ^ j.toNat)) := opI fun _ _ _ _ _ _ _ hc q => pow_int_small hc.1 hc.2.1 hc.2.2 q
theorem unI {f : Value -> Sem Value} {g : Int -> Int}
  (rule : ∀ (i : Int) (t : Tok) (s : Shared) (Q : Value -> Shared -> Prop) (E : Value -> Shared -> Prop), Q (.int (g i) s.toks) { s with toks := s.toks + 1 } -> wpAny (model X.prog X.w) X.A (f (.int i t)) Q E s) :
  UnR X f (rU fun i => .int (g i)) := by
 intro pins s σ H x v Q I rx h
 obtain ⟨i, rfl, q⟩ := h
 obtain ⟨t, rfl⟩ := rx
 exact rule i t s _ _ ⟨.int (g i), H, I.tok _, ⟨_, rfl⟩, q⟩
theorem BM : UnR X (unaryOp .USub) (rU fun i => .int (-i)) := unI fun _ _ _ _ _ q => neg_int q
end
section
variable {X : Cx} {a b c : Expr} {ta tb tc : TE} {pos : Pos}
theorem kj {pins : List (Addr × Obj)} {σ : St} {H : Hp} {s : Shared} {Q : VK} {k k' : Bool} (I : Inv X pins σ H s) (q : Q (.bl k) H) (e : k = k') : EP X pins σ Q (.bool k') s := by
 subst e
 exact ⟨.bl k, H, I, rfl, q⟩
theorem hX : OpR X (compareOp .Lt) (rI0 fun i j => .bl (decide (i < j))) := rV fun _ _ _ _ _ _ _ q => lt_int q
theorem mO : OpR X (compareOp .LtE) (rI0 fun i j => .bl (decide (i <= j))) := rV fun _ _ _ _ _ _ _ q => le_int q
theorem jC : OpR X (compareOp .Gt) (rI0 fun i j => .bl (decide (j < i))) := rV fun _ _ _ _ _ _ _ q => gt_int q
theorem rL : OpR X (compareOp .GtE) (rI0 fun i j => .bl (decide (j <= i))) := rV fun _ _ _ _ _ _ _ q => ge_int q
theorem Ar : OpR X (compareOp .Is) (fun x y H Q => y = .non /\ Q (.bl (decide (x = .non))) H) := by
 intro pins s σ H x y v u Q I rx ry h
 obtain ⟨rfl, q⟩ := h
 cases ry
 refine is_none_gen (kj I q ?_)
 cases x <;> first
  | (cases rx; rfl)
  | (obtain ⟨t, rfl⟩ := rx; rfl)
theorem yZ : OpR X (compareOp .IsNot) (fun x y H Q => y = .non /\ Q (.bl (!decide (x = .non))) H) := by
 intro pins s σ H x y v u Q I rx ry h
 obtain ⟨rfl, q⟩ := h
 cases ry
 refine isnot_none_gen (kj I q ?_)
 cases x <;> first
  | (cases rx; rfl)
  | (obtain ⟨t, rfl⟩ := rx; rfl)
theorem OpR.or {f : Value -> Value -> Sem Value} {r r' : R2} (h : OpR X f r) (h' : OpR X f r') : OpR X f (fun x y H Q => r x y H Q \/ r' x y H Q) := by
 intro pins s σ H x y v u Q I rx ry q
 rcases q with q | q
 ·exact h pins s σ H x y v u Q I rx ry q
 ·exact h' pins s σ H x y v u Q I rx ry q
theorem aZ (b : Expr) {op : CmpOp} (h : op ≠ .In := by decide) (h2 : op ≠ .NotIn := by decide) : behindInMarks op b = false := by
 have e1 : (op == CmpOp.In) = false := by cases op <;> first | rfl | exact absurd rfl h
 have e2 : (op == CmpOp.NotIn) = false := by cases op <;> first | rfl | exact absurd rfl h2
 cases b <;> simp [behindInMarks, e1, e2]
theorem xN {op : CmpOp} {r : R2} (ho : OpR X (compareOp op) r) (ha : PE X a ta) (hb : PE X b tb) (hm : behindInMarks op b = false) : PE X (.Compare a [op] [b] pos) (tOp r ta tb) := by
 intro pins s σ H Q I h
 exact wpAny_Compare1 (vc ha hb I h fun v u s2 x y H2 I2 rx ry q => ho pins s2 σ H2 x y v u Q I2 rx ry q) hm
noncomputable def wH (t : TE) : TT := fun σ H Q => t σ H fun x H' => ∃ k, x = .bl k /\ Q k H'
theorem xu {op : CmpOp} {r : R2} (ho : OpR X (compareOp op) r) (ha : PE X a ta) (hb : PE X b tb) (hm : behindInMarks op b = false) : PT X (.Compare a [op] [b] pos) (wH (tOp r ta tb)) := by
 intro pins s σ H Q I h
 refine wpAny_isTrue_Compare1 (thn (ha pins s σ H _ I h) fun v s1 ⟨x, H1, I1, r1, q1⟩ => thn (hb pins s1 σ H1 _ I1 q1) fun u s2 ⟨y, H2, I2, r2, q2⟩ =>
  thn (ho pins s2 σ H2 x y v u _ I2 r1 r2 q2) fun c s3 ⟨z, H3, I3, r3, k, e, q3⟩ => ?_) hm
 subst e
 cases r3
 exact wpAny_truthy_bool ⟨H3, I3, q3⟩
noncomputable def nC (r r' : R2) (ta tb tc : TE) : TE := fun σ H Q => ta σ H fun x H1 => tb σ H1 fun y H2 => r x y H2 fun z H3 => ∃ k, z = .bl k /\
 (if k = true then tc σ H3 fun w' H4 => r' y w' H4 Q else Q (.bl false) H3)
theorem vL {op op' : CmpOp} {r r' : R2} (ho : OpR X (compareOp op) r) (ho' : OpR X (compareOp op') r') (ha : PE X a ta) (hb : PE X b tb) (hc : PE X c tc)
  (hm : lastMarks [op, op'] [b, c] = false := by with_unfolding_all rfl) : PE X (.Compare a [op, op'] [b, c] pos) (nC r r' ta tb tc) := by
 intro pins s σ H Q I h
 refine Compare_chain (thn (ha pins s σ H _ I h) fun v s1 ⟨x, H1, I1, r1, q1⟩ => chain_link (thn (hb pins s1 σ H1 _ I1 q1) fun u s2 ⟨y, H2, I2, r2, q2⟩ =>
  thn (ho pins s2 σ H2 x y v u _ I2 r1 r2 q2) fun d s3 ⟨z, H3, I3, r3, k, e, q3⟩ => ?_)) hm
 subst e
 cases r3
 refine wpAny_truthy_bool ?_
 cases k with
 | false => exact ite_ff ⟨.bl false, H3, I3, rfl, q3⟩
 | true => exact ite_tt (chain_last (thn (hc pins s3 σ H3 _ I3 q3) fun w' s4 ⟨z', H4, I4, r4, q4⟩ => ho' pins s4 σ H4 y z' u w' Q I4 r2 r4 q4))
theorem vD {op op' : CmpOp} {r r' : R2} (ho : OpR X (compareOp op) r) (ho' : OpR X (compareOp op') r') (ha : PE X a ta) (hb : PE X b tb) (hc : PE X c tc)
  (hm : lastMarks [op, op'] [b, c] = false := by with_unfolding_all rfl) : PT X (.Compare a [op, op'] [b, c] pos) (wH (nC r r' ta tb tc)) := by
 intro pins s σ H Q I h
 refine isTrue_chain (thn (ha pins s σ H _ I h) fun v s1 ⟨x, H1, I1, r1, q1⟩ => test_link (thn (hb pins s1 σ H1 _ I1 q1) fun u s2 ⟨y, H2, I2, r2, q2⟩ =>
  thn (ho pins s2 σ H2 x y v u _ I2 r1 r2 q2) fun d s3 ⟨z, H3, I3, r3, k, e, q3⟩ => ?_)) hm
 subst e
 cases r3
 refine wpAny_truthy_bool ?_
 cases k with
 |
  false =>
  obtain ⟨k', e', q'⟩ := q3
  cases e'
  exact ite_ff ⟨H3, I3, q'⟩
 |
  true =>
  refine ite_tt (test_last (thn (hc pins s3 σ H3 _ I3 q3) fun w' s4 ⟨z', H4, I4, r4, q4⟩ => thn (ho' pins s4 σ H4 y z' u w' _ I4 r2 r4 q4) fun d' s5 ⟨z2, H5, I5, r5, k2, e2, q5⟩ => ?_))
  subst e2
  cases r5
  exact wpAny_truthy_bool ⟨H5, I5, q5⟩
noncomputable def uU (K : PySem.W.Frag) (x : V) (H : Hp) (k : Bool) : Prop :=
 match x with
 | .non => k = false
 | .bl b => k = b
 | .int i => k = (i != 0)
 | .str y => y.length <= sizeLine /\ k = ((y.length : Int) != 0)
 | .byt y => y.size <= sizeLine /\ k = ((y.size : Int) != 0)
 | .ref p => (∃ xs, SqL K H p xs /\ k = !xs.isEmpty) \/ (∃ xs, SqT K H p xs /\ k = !xs.isEmpty) \/ ∃ kvs, H p = some (.dK kvs) /\ k = !kvs.isEmpty
 | _ => False
theorem rH {κ : Type} {kvs : List (κ × V)} {vs : List (κ × Value)} (r : KV kvs vs) : (!vs.isEmpty) = !kvs.isEmpty := by
 cases r <;> rfl
theorem kM {xs : List V} {its : List Value} (r : Vals xs its) : (!its.toArray.isEmpty) = !xs.isEmpty := by
 cases r <;> simp
theorem gO : (sizeLine : Nat) < 2 ^ 63 := by rw [sizeLine_eq]; decide
theorem Ah : TruR X (fun x H Q => ∃ k, uU X.K x H k /\ Q k H) := by
 intro pins s σ H x v Q I rx h
 obtain ⟨k, e, q⟩ := h
 have hl := gO
 have hs : sizeLine = 16777216 := sizeLine_eq
 cases x with
 |
  non =>
  cases rx
  have e' : k = false := e
  subst e'
  exact truthy_none ⟨H, I, q⟩
 |
  bl b =>
  cases rx
  have e' : k = b := e
  subst e'
  exact wpAny_truthy_bool ⟨H, I, q⟩
 |
  int i =>
  obtain ⟨t, rfl⟩ := rx
  have e' : k = (i != 0) := e
  subst e'
  exact PySem.P.truthy_int ⟨H, I, q⟩
 |
  str y =>
  obtain ⟨t, rfl⟩ := rx
  obtain ⟨hy, e'⟩ : y.length <= sizeLine /\ k = ((y.length : Int) != 0) := e
  subst e'
  exact PySem.P.truthy_str (by omega) ⟨H, I.tok _, q⟩
 |
  byt y =>
  obtain ⟨t, rfl⟩ := rx
  obtain ⟨hy, e'⟩ : y.size <= sizeLine /\ k = ((y.size : Int) != 0) := e
  subst e'
  exact PySem.W.truthy_bytes (by omega) ⟨H, I.tok _, q⟩
 |
  ref p =>
  cases rx
  have e' : (∃ xs, SqL X.K H p xs /\ k = !xs.isEmpty) \/ (∃ xs, SqT X.K H p xs /\ k = !xs.isEmpty) \/ ∃ kvs, H p = some (.dK kvs) /\ k = !kvs.isEmpty := e
  rcases e' with ⟨xs, hx, e'⟩ | ⟨xs, hx, e'⟩ | ⟨kvs, hx, e'⟩
  ·subst e'
   obtain ⟨its, r, pl, hz⟩ := I.list hx
   have hlen := r.length
   exact wpAny_truthy_list pl.isList (by simp only [List.size_toArray]; omega) ⟨H, I.tok _, by rw [kM r]; exact q⟩
  ·subst e'
   obtain ⟨its, r, pl, hz⟩ := I.tuple hx
   have hlen := r.length
   exact truthy_tuple pl (by simp only [List.size_toArray]; omega) ⟨H, I.tok _, by rw [kM r]; exact q⟩
  ·subst e'
   obtain ⟨hz, hS, vs, r, m⟩ : kvs.length <= sizeLine /\ (p == sysModules) = false /\ ∃ vs, KV kvs vs /\ s.heap.DictOf (lX X.prog X.w) p vs := I.hok p _ hx
   have hlen : kvs.length = vs.length := Paired.length r
   exact wpAny_truthy_dict hS m (by omega) ⟨H, I.tok _, by rw [rH r]; exact q⟩
 | _ => exact (show False from e).elim
theorem vv (ha : PE X a ta) (he : ∀ whole, isTrue a X.env whole = (do let v <- whole; standAt a.pos; holding [v] (truthy v))) :
  PT X a (fun σ H Q => ta σ H fun x H' => ∃ k, uU X.K x H' k /\ Q k H') := by
 intro pins s σ H Q I h
 exact isTrue_plain (thn (ha pins s σ H _ I h) fun v s1 ⟨x, H1, I1, r1, q1⟩ => Ah pins s1 σ H1 x v Q I1 r1 q1) (he _)
theorem gc {x : V} {us : List Value} (r : Vals [x] us) : ∃ u, us = [u] /\ RelV x u := by
 cases r with
 | cons r1 r2 => cases r2; exact ⟨_, rfl, r1⟩
theorem mT {x y : V} {us : List Value} (r : Vals [x, y] us) : ∃ u w', us = [u, w'] /\ RelV x u /\ RelV y w' := by
 cases r with
 |
  cons r1 r2 =>
  cases r2 with
  | cons r3 r4 => cases r4; exact ⟨_, _, rfl, r1, r3⟩
theorem oH : CallR X (.builtin "abs") (fun xs H Q => ∃ i, xs = [.int i] /\ Q (.int (if i < 0 then -i else i)) H) := by
 intro pins s σ H xs us Q I r h
 obtain ⟨i, rfl, q⟩ := h
 obtain ⟨u, rfl, t, rfl⟩ := gc r
 exact call_abs_int fun u tk => ⟨.int (if i < 0 then -i else i), H, I.tok _, ⟨_, rfl⟩, q⟩
theorem tK (hc : X.calm = true) : CallR X (.builtin "max") (fun xs H Q => ∃ i j, xs = [.int i, .int j] /\ Q (.int (if j > i then j else i)) H) := by
 intro pins s σ H xs us Q I r h
 obtain ⟨i, j, rfl, q⟩ := h
 obtain ⟨u, w', rfl, ⟨t, rfl⟩, ⟨t', rfl⟩⟩ := mT r
 refine max_two_ints (I.ok.hd hc) fun h' tk k => ⟨_, H, I.kept k, ?_, q⟩
 by_cases hj : j > i
 ·rw [if_pos hj, if_pos hj]; exact ⟨_, rfl⟩
 ·rw [if_neg hj, if_neg hj]; exact ⟨_, rfl⟩
theorem sZ (hc : X.calm = true) : CallR X (.builtin "min") (fun xs H Q => ∃ i j, xs = [.int i, .int j] /\ Q (.int (if j < i then j else i)) H) := by
 intro pins s σ H xs us Q I r h
 obtain ⟨i, j, rfl, q⟩ := h
 obtain ⟨u, w', rfl, ⟨t, rfl⟩, ⟨t', rfl⟩⟩ := mT r
 refine min_two_ints (I.ok.hd hc) fun h' tk k => ⟨_, H, I.kept k, ?_, q⟩
 by_cases hj : j < i
 ·rw [if_pos hj, if_pos hj]; exact ⟨_, rfl⟩
 ·rw [if_neg hj, if_neg hj]; exact ⟨_, rfl⟩
theorem sU : CallR X (.type "int") (fun xs H Q => (∃ i, xs = [.int i] /\ Q (.int i) H) \/ ∃ k, xs = [.bl k] /\ Q (.int (if k then 1 else 0)) H) := by
 intro pins s σ H xs us Q I r h
 rcases h with ⟨i, rfl, q⟩ | ⟨k, rfl, q⟩
 ·obtain ⟨u, rfl, t, rfl⟩ := gc r
  exact call_int_int ⟨.int i, H, I, ⟨_, rfl⟩, q⟩
 ·obtain ⟨u, rfl, r1⟩ := gc r
  cases r1
  exact call_int_bool ⟨.int (if k then 1 else 0), H, I.tok _, ⟨_, rfl⟩, q⟩
end
end L2
namespace L2
open PySem PySem.Spec PyProof.Rows
structure ObjM (h : Heap) (x dx C : Addr) (mA : Str -> Option Value) : Prop where
 obj : h.get? x = some (PySem.W.instObj C dx)
 ns : h.Ns1 dx mA
 ne : dx ≠ x
theorem t4 {h : Heap} {dx : Addr} {mA : Str -> Option Value} (n : h.Ns1 dx mA) : ∃ od, h.get? dx = some od /\ ∀ name, PySem.W.lookIn name od = some (mA name) := by
 obtain ⟨o, es, ep, ho, hd, hk, _, hm⟩ := n
 refine ⟨o, ho, fun name => ?_⟩
 have e := hm name
 unfold nsFind findBy at e
 rw [<- Array.find?_toList] at e
 unfold PySem.W.lookIn
 rw [hd]
 dsimp only
 split
 ·rename_i y q
  rw [q] at e
  exact congrArg some e
 ·rename_i q
  rw [q] at e
  have a : es.toList.any (·.refKey) = false := by
   rw [List.any_eq_false]
   intro y hy
   obtain ⟨z, t, hkey⟩ := hk y (Array.mem_toList_iff.mp hy)
   simp [DictEntry.refKey, hkey]
  have a' : ¬ es.toList.any (·.refKey) = true := by rw [a]; exact Bool.false_ne_true
  rw [if_neg a']
  exact congrArg some e
theorem ObjM.look {h : Heap} {x dx C : Addr} {mA : Str -> Option Value} (I : ObjM h x dx C mA) : ∃ od, PySem.W.InstAt h x (PySem.W.instObj C dx) C (some od) /\ ∀ name, PySem.W.lookIn name od = some (mA name) :=
 let ⟨od, ho, hl⟩ := t4 I.ns
 ⟨od, ⟨I.obj, rfl, rfl, ho⟩, hl⟩
section
variable {prog : Program} {w : World} {A : Around} {E : Value -> Shared -> Prop} {s : Shared} {K : PySem.W.Frag} {x dx C f : Addr} {mA : Str -> Option Value} {name : Str} {v : Value}
end
section
variable {P : Program} {w : World} {H H' : Hp} {h h' : Heap} {a C dx : Addr} {fs fs' : List (Str × V)}
theorem xM (hok : HOk P w H h) (e : H a = some (.ins C dx fs)) : ∃ mA, ObjM h a dx C mA /\ (∀ f, vp (fs.lookup f) (mA f)) /\ PySem.Within mA (fs.map (·.1)) /\ fs.length <= 1000 /\ H dx = some (.own a) := by
 obtain ⟨d, z, ne, ob, mA, n, r, q⟩ := (show ObjOk P w H h a (.ins C dx fs) from hok a _ e)
 exact ⟨mA, ⟨ob, n, ne⟩, r, q, z, d⟩
end
structure Cls (K : PySem.W.Frag) (C : Addr) : Prop where
 pg : PySem.W.plainGet K C Str.empty = true
 hd : PySem.W.hasDictIn K C = true
 po : PySem.W.plainOver K C = true
 sa : PySem.W.findIn K (.ref C) "__setattr__" = some (some (.builtin "object.__setattr__"))
theorem Cls.get {K : PySem.W.Frag} {C : Addr} (c : Cls K C) (f : Str) : PySem.W.plainGet K C f = true := c.pg
structure Con (K : PySem.W.Frag) (C : Addr) (f : Str) (v : V) (u : Value) : Prop where
 at_ : PySem.W.findIn K (.ref C) f = some (some u)
 rel : RelV v u
 get : PySem.W.specialIn K u "__get__" = some none
 cp : PySem.W.copiedNames.contains f = false
structure Meth (K : PySem.W.Frag) (C : Addr) (m : Str) (f : Addr) : Prop where
 at_ : PySem.W.findIn K (.ref C) m = some (some (.ref f))
 fn : PySem.W.isFn K (.ref f) = true
 kp : PySem.W.keepIn K (.ref f) = true
section
variable {X : Cx} {pins : List (Addr × Obj)} {σ : St} {H : Hp} {s : Shared} {a C dx : Addr} {fs : List (Str × V)} {f : Str} {v : V} {A : Around} {E : Value -> Shared -> Prop}
end
section
variable {X : Cx} {o e value : Expr} {f : Str} {pos pos' tpos : Pos} {ta tv : TE}
end
section
variable {X : Cx} {pins : List (Addr × Obj)} {σ : St} {H : Hp} {s : Shared} {A : Around} {E : Value -> Shared -> Prop} {Q : Value -> Shared -> Prop} {c : Value} {b : Bool}
inductive TyOf (K : PySem.W.Frag) (H : Hp) : V -> Value -> Prop where
 | non : TyOf K H .non (.type "NoneType")
 | bl (x : Bool) : TyOf K H (.bl x) (.type "bool")
 | int (i : Int) : TyOf K H (.int i) (.type "int")
 | str (x : Str) : TyOf K H (.str x) (.type "str")
 | flt (x : UInt64) : TyOf K H (.flt x) (.type "float")
 | lst {a : Addr} {xs : List V} (e : H a = some (.lst xs)) : TyOf K H (.ref a) (.type "list")
 | frz {a : Addr} {o : Obj} {xs : List V} (e : H a = some (.frz o (.lst xs))) : TyOf K H (.ref a) (.type "list")
 | tup {a : Addr} {xs : List V} (e : H a = some (.tup xs)) : TyOf K H (.ref a) (.type "tuple")
 | dK {a : Addr} {kvs : List (Key × V)} (e : H a = some (.dK kvs)) : TyOf K H (.ref a) (.type "dict")
 | dT {a : Addr} {kvs : List (List Key × V)} (e : H a = some (.dT kvs)) : TyOf K H (.ref a) (.type "dict")
 | ins {a C dx : Addr} {fs : List (Str × V)} (e : H a = some (.ins C dx fs)) (cl : Cls K C) (ha : PySem.W.findIn K (.ref C) "__class__" = some (some (.builtin "object.__class__")))
   (hn : PySem.W.specialIn K (.builtin "object.__class__") "__get__" = some (some (.builtin "getset_descriptor.__get__"))) (htk : PySem.W.takesIn K (.builtin "object.__class__") = some true)
   (hm : PySem.W.mroIn K C (.type "object") = some true) : TyOf K H (.ref a) (.ref C)
end
end L2
namespace L2
open PySem PySem.Spec PyProof.Rows
structure Room (k : Nat) (A : Around) : Prop where
 hd : A.handled = none
 dp : A.depth + 3 * k + 5 < recursionLimit
 un : A.units + 16 * k + 200 < cLine
theorem Room.mono {j k : Nat} {A : Around} (r : Room k A) (h : j <= k) : Room j A := ⟨r.hd, by have := r.dp; omega, by have := r.un; omega⟩
theorem Room.deeper {k : Nat} {A : Around} (r : Room (k + 1) A) (env : Env) : Room k (A.deeper env) :=
 ⟨r.hd, by have := r.dp; show A.depth + 1 + 3 * k + 5 < _; omega, by have := r.un; show A.units + 3 + 16 * k + 200 < _; omega⟩
theorem Room.depth {k : Nat} {A : Around} (r : Room k A) : A.depth < recursionLimit := by have := r.dp; omega
theorem Room.units {k : Nat} {A : Around} (r : Room k A) : A.units + 64 < cLine := by have := r.un; omega
noncomputable def tNil : TA := fun _ H Q => Q [] H
noncomputable def Dx (ta : TE) (tr : TA) : TA := fun σ H Q => ta σ H fun x H1 => tr σ H1 fun xs H2 => Q (x :: xs) H2
section
variable {X : Cx} {e : Expr} {es : List Expr} {te : TE} {t : TA} {pos : Pos}
theorem Cp : PA X [] tNil := fun _ _ _ _ H Q I h => Calls.spliced_nil ⟨[], H, I, .nil, h⟩
theorem yR (ha : PE X e te) (hr : PA X es t) (hs : starEach (e :: es) X.env = (false, eval e X.env) :: starEach es X.env := by rfl) : PA X (e :: es) (Dx te t) := by
 intro pos pins s σ H Q I h
 rw [hs]
 show wpAny _ _ (spliced ((false, eval e X.env) :: backTo pos (starEach es X.env))) _ _ s
 refine Calls.spliced_cons (thn (ha pins s σ H _ I h) fun u s1 ⟨x, H1, I1, r1, q1⟩ => ?_)
 exact thn (hr pos pins s1 σ H1 _ I1 q1) fun us s2 ⟨xs, H2, I2, r2, q2⟩ => ⟨x :: xs, H2, I2, .cons r1 r2, q2⟩
noncomputable def tTup (t : TA) : TE := fun σ H Q => t σ H fun xs H1 => xs.length <= sizeLine /\ ∀ p, H1 p = none -> Q (.ref p) (upd H1 p (.tup xs))
noncomputable def tLst (t : TA) : TE := fun σ H Q => t σ H fun xs H1 => xs.length <= sizeLine /\ ∀ p, H1 p = none -> Q (.ref p) (upd H1 p (.lst xs))
theorem zi {x1} (h : PA X es t) : PE X (.Tuple es x1 pos) (tTup t) := by
 intro pins s σ H Q I hq
 refine wpAny_Tuple_spliced (thn (h pos pins s σ H _ I hq) fun us s1 ⟨xs, H1, I1, r, z, q⟩ => ⟨by rw [<- r.length]; exact z, ?_⟩)
 have hf : H1 s1.heap.objs.size = none := I1.hok.fresh (Nat.le_refl _)
 refine ⟨.ref s1.heap.objs.size, upd H1 s1.heap.objs.size (.tup xs), I1.laid (t' := s1.toks) (fun b u e => Heap.get?_push_of_some _ e) (Nat.le_refl _) ?_, rfl, q _ hf⟩
 exact ⟨z, us, r, ⟨_, Heap.get?_push_size _ rfl, rfl, _, rfl⟩⟩
theorem Ad (h : PA X es t) : PE X (.List es pos) (tLst t) := by
 intro pins s σ H Q I hq
 refine wpAny_List_spliced (thn (h pos pins s σ H _ I hq) fun us s1 ⟨xs, H1, I1, r, z, q⟩ => ⟨by rw [<- r.length]; exact z, ?_⟩)
 have hf : H1 s1.heap.objs.size = none := I1.hok.fresh (Nat.le_refl _)
 refine ⟨.ref s1.heap.objs.size, upd H1 s1.heap.objs.size (.lst xs), I1.laid (t' := s1.toks) (fun b u e => Heap.get?_push_of_some _ e) (Nat.le_refl _) ?_, rfl, q _ hf⟩
 exact ⟨z, us, 0, r, Heap.get?_push_size _ rfl⟩
end
abbrev Sp := List V -> Hp -> VK -> XK -> Prop
abbrev CXT := List Env -> Hp -> Shared -> XK -> Value -> Shared -> Prop
structure Env0 (P : Program) (w : World) (K : PySem.W.Frag) (mg : Str -> Option Value) (base : Heap) (A : Around) (outer : List Env) (s : Shared) (H : Hp) : Prop where
 frames : A.frames = some outer
 mod : Mod K mg base
 bs : ∀ b o, base.get? b = some o -> s.heap.get? b = some o /\ H b = none
 bsz : base.objs.size <= s.heap.objs.size
 funs : s.heap.FunFrames base outer
 frf : ∀ b ∈ frs outer, H b = none
 hok : HOk P w H s.heap
 bare : AllBare s.gens
noncomputable def CE (outer : List Env) (P : Program) (w : World) (H : Hp) (s : Shared) (Q : VK) (u : Value) (s' : Shared) : Prop :=
 ∃ v H', s'.os = s.os /\ AllBare s'.gens /\ Un (frs outer) [] H H' s.heap s'.heap /\ HOk P w H' s'.heap /\ RelV v u /\ Q v H'
noncomputable def CR (CX : CXT) (outer : List Env) (P : Program) (w : World) (H : Hp) (s : Shared) (Q : VK) (E : XK) (r : Result) (s' : Shared) : Prop :=
 match r with
 | .ok (.ret u) => CE outer P w H s Q u s'
 | .ok _ => False
 | .error e => CX outer H s E e s'
structure FnOk (P : Program) (w : World) (K : PySem.W.Frag) (mg : Str -> Option Value) (base : Heap) (CX : CXT) (k : Nat) (f : Addr) (fd : FuncData) (ps : List Str) (sp : Sp) : Prop where
 len : ∀ vs H Q E, sp vs H Q E -> vs.length = ps.length
 run : ∀ (A : Around) (outer : List Env) (s : Shared) (H : Hp) (args : Args) (us : List Value) (vs : List V) (Q : VK) (E : XK), Room k A -> Env0 P w K mg base A outer s H -> BindsTo s fd args (ps.zip us) -> Vals vs us -> sp vs H Q E ->
  codeAny (model P w) A (.call (.ref f) args) (CR CX outer P w H s Q E) s
theorem FnOk.imp {P : Program} {w : World} {K : PySem.W.Frag} {mg : Str -> Option Value} {base : Heap} {CX : CXT} {k : Nat} {f : Addr} {fd : FuncData} {ps : List Str} {sp sp' : Sp} (F : FnOk P w K mg base CX k f fd ps sp)
  (h : ∀ vs H Q E, sp' vs H Q E -> sp vs H Q E) : FnOk P w K mg base CX k f fd ps sp' :=
 ⟨fun vs H Q E q => F.len vs H Q E (h _ _ _ _ q), fun A outer s H args us vs Q E hr he hb hv hs => F.run A outer s H args us vs Q E hr he hb hv (h _ _ _ _ hs)⟩
section
variable {X : Cx} {pins : List (Addr × Obj)} {σ : St} {H : Hp} {s s' : Shared}
theorem Inv.env0 (I : Inv X pins σ H s) : Env0 X.prog X.w X.K X.mg X.base X.A X.stack s H :=
 ⟨I.ok.frames, I.ok.mod, I.bs, Nat.le_trans I.ok.bsz I.sz, I.stack, I.stkFree, I.hok, I.bare⟩
theorem Inv.after {Q : VK} {u : Value} (I : Inv X pins σ H s) (h : CE X.stack X.prog X.w H s Q u s') : EP X pins σ Q u s' := by
 obtain ⟨v, H', os, bare, un, hok, r, q⟩ := h
 obtain ⟨hh, g, d, t, os'⟩ := s'
 obtain rfl : os' = s.os := os
 exact ⟨v, H', I.call (h' := hh) (g' := g) (d' := d) (t' := t) (ch := []) un hok bare (fun b z => absurd z (by simp)), r, q⟩
end
noncomputable def Binds (K : PySem.W.Frag) (fd : FuncData) (ps : List Str) (ds : List Value) : Prop :=
 ∀ (s : Shared) (us : List Value), K.In s.heap -> (us ++ ds).length = ps.length -> BindsTo s fd ⟨us, []⟩ (ps.zip (us ++ ds))
theorem Binds.all {K : PySem.W.Frag} {fd : FuncData} {ps : List Str} (h : ∀ us : List Value, us.length = ps.length -> bindArgs fd ⟨us, []⟩ = pure (ps.zip us)) : Binds K fd ps [] := fun s us _ hl => by
 rw [List.append_nil] at hl ⊢
 exact .of_eq (h us hl)
noncomputable def oF (CX : CXT) (X : Cx) (E : XK) : Prop := ∀ (pins : List (Addr × Obj)) (σ : St) (H : Hp) (s : Shared) (e : Value) (s' : Shared), Inv X pins σ H s -> CX X.stack H s E e s' -> X.xe e s'
section
variable {X : Cx} {CX : CXT} {k : Nat} {f C : Addr} {fd : FuncData} {ps : List Str} {sp : Sp} {dvs : List V} {ds : List Value} {E : XK} {x m : Str} {p pos apos : Pos} {e o : Expr} {es : List Expr} {ta : TE} {t : TA}
structure Mk (K : PySem.W.Frag) (C f : Addr) : Prop where
 makes : PySem.W.makesIn K C = true
 init : PySem.W.findIn K (.ref C) "__init__" = some (some (.ref f))
 fn : PySem.W.isFn K (.ref f) = true
 kp : PySem.W.keepIn K (.ref C) = true
end
section
variable {X : Cx} {CX : CXT} {k : Nat} {f C : Addr} {fd : FuncData} {ps ks : List Str} {sp : Sp} {E : XK} {x m : Str} {p pos apos kpos : Pos} {e o : Expr} {es : List Expr} {kws : List Keyword} {te ta : TE} {t tk : TA} {nm : Option Str}
structure KBinds (K : PySem.W.Frag) (fd : FuncData) (ps ks : List Str) (g : List Value -> List Value -> List Value) (gV : List V -> List V -> List V) : Prop where
 to : ∀ (s : Shared) (us ws : List Value), K.In s.heap -> (g us ws).length = ps.length -> BindsTo s fd ⟨us, ks.zip ws⟩ (ps.zip (g us ws))
 rel : ∀ {vs : List V} {us : List Value} {zs : List V} {ws : List Value}, Vals vs us -> Vals zs ws -> Vals (gV vs zs) (g us ws)
variable {g : List Value -> List Value -> List Value} {gV : List V -> List V -> List V}
end
structure FnScope (N P : List Str) (sc : Scope) : Prop where
 kind : sc.kind = .function
 co : sc.isCoroutine = false
 gen : sc.isGenerator = false
 nd : N.Nodup
 pre : N.take P.length = P
 par : ∀ x ∈ P, sc.names.lookup x = some .local \/ sc.names.lookup x = some .cell
 nofree : ∀ y ∈ sc.names, y.2 ≠ .free
theorem mr {kindOf : Str -> Option NameKind} {x : Str} : ∀ {binds : List (Str × Value)} {m : Str -> Option Value}, (∀ v, (x, v) ∉ binds) -> bindL kindOf binds m x = m x
 | [], _, _ => rfl
 |
  (n, v) :: r, m, h => by
  unfold bindL
  rw [mr fun w hw => h w (List.mem_cons_of_mem _ hw)]
  split
  ·have : x ≠ n := by rintro rfl; exact h v List.mem_cons_self
   simp [this]
  ·rfl
theorem md {kindOf : Str -> Option NameKind} {x : Str} : ∀ {binds : List (Str × Value)} {m : Str -> Option Value}, (∀ v, (x, v) ∉ binds) -> bindC kindOf binds m x = m x
 | [], _, _ => rfl
 |
  (n, v) :: r, m, h => by
  unfold bindC
  rw [md fun w hw => h w (List.mem_cons_of_mem _ hw)]
  split
  ·rfl
  ·have : x ≠ n := by rintro rfl; exact h v List.mem_cons_self
   simp [this]
theorem l6 {kindOf : Str -> Option NameKind} {x : Str} {v : Value} : ∀ {P : List Str} {vs : List Value} {i : Nat} {m : Str -> Option Value}, P.Nodup -> P[i]? = some x -> vs[i]? = some v -> kindOf x = some .local ->
  bindL kindOf (P.zip vs) m x = some v
 | [], _, _, _, _, h, _, _ => by simp at h
 | _ :: _, [], _, _, _, _, h, _ => by simp at h
 |
  p :: P, w :: vs, 0, m, nd, h1, h2, hk => by
  simp at h1 h2; subst h1; subst h2
  show bindL kindOf ((p, w) :: P.zip vs) m p = _
  unfold bindL
  rw [mr fun v hv => (List.nodup_cons.mp nd).1 (List.of_mem_zip hv).1, if_pos hk]
  simp
 |
  p :: P, w :: vs, i + 1, m, nd, h1, h2, hk => by
  show bindL kindOf ((p, w) :: P.zip vs) m x = _
  unfold bindL
  exact l6 (i := i) (List.nodup_cons.mp nd).2 (by simpa using h1) (by simpa using h2) hk
theorem ml {kindOf : Str -> Option NameKind} {x : Str} {v : Value} : ∀ {P : List Str} {vs : List Value} {i : Nat} {m : Str -> Option Value}, P.Nodup -> P[i]? = some x -> vs[i]? = some v -> kindOf x ≠ some .local ->
  bindC kindOf (P.zip vs) m x = some v
 | [], _, _, _, _, h, _, _ => by simp at h
 | _ :: _, [], _, _, _, _, h, _ => by simp at h
 |
  p :: P, w :: vs, 0, m, nd, h1, h2, hk => by
  simp at h1 h2; subst h1; subst h2
  show bindC kindOf ((p, w) :: P.zip vs) m p = _
  unfold bindC
  rw [md fun v hv => (List.nodup_cons.mp nd).1 (List.of_mem_zip hv).1, if_neg hk]
  simp
 |
  p :: P, w :: vs, i + 1, m, nd, h1, h2, hk => by
  show bindC kindOf ((p, w) :: P.zip vs) m x = _
  unfold bindC
  exact ml (i := i) (List.nodup_cons.mp nd).2 (by simpa using h1) (by simpa using h2) hk
noncomputable def en (N : List Str) (vs : List V) : St := vs.map some ++ List.replicate (N.length - vs.length) none
noncomputable def dY (CX : CXT) (P : Program) (w : World) (K : PySem.W.Frag) (mg : Str -> Option Value) (base : Heap) (N : List Str) (qual : Str) (scope : Scope) (f : Addr) (cd : Value) (A : Around) (outer : List Env) (s : Shared) (H : Hp) (E : XK) : Cx where
 prog := P
 w := w
 K := K
 mg := mg
 base := base
 A := A.deeper (envOfC qual scope s.heap.objs.size f cd)
 N := N
 s₀ := s
 H₀ := H
 env := envOfC qual scope s.heap.objs.size f cd
 outer := outer
 stack := envOfC qual scope s.heap.objs.size f cd :: outer
 ex := []
 calm := true
 fn := fun _ => true
 pn := []
 xe := fun e s' => wpAny (model P w) (A.deeper (envOfC qual scope s.heap.objs.size f cd)) (leaving (envOfC qual scope s.heap.objs.size f cd) e) (fun _ s'' => CX outer H s E e s'') (fun e' s'' => CX outer H s E e' s'') s'
theorem ng {sc : Scope} {n : Nat} {x : Str} (h : sc.names.lookup x = some .cell) : ∃ c, (cellsFrom n sc.names []).lookup x = some c := by
 have q := PySem.W.cellsFrom_some sc.names n [] (.inl h)
 exact Option.isSome_iff_exists.mp q
theorem
    sk {CX : CXT} {P : Program} {w : World} {K : PySem.W.Frag} {mg : Str -> Option Value} {base : Heap} {N ps : List Str} {qual : Str} {scope : Scope} {f : Addr} {cd : Value} {A : Around} {outer : List Env} {s s1 : Shared} {H : Hp} {E : XK} {us : List Value} {vs : List V}
  (S : FnScope N ps scope) (hd : A.handled = none) (e0 : Env0 P w K mg base A outer s H) (hl : vs.length = ps.length) (r : Vals vs us)
  (x : InCallC s s.heap.objs.size (bindL (envOfC qual scope s.heap.objs.size f cd).kindOf (ps.zip us) fun _ => none) (cellsFrom (s.heap.objs.size + 1) scope.names []) (bindC (envOfC qual scope s.heap.objs.size f cd).kindOf (ps.zip us) fun _ => none) s1) :
  Inv (dY CX P w K mg base N qual scope f cd A outer s H E) [] (en N vs) H s1 := by
 have hpl : ps.length <= N.length := by have := congrArg List.length S.pre; rw [List.length_take] at this; omega
 obtain ⟨h1, tk, rfl, hk⟩ := x.done
 have noA : ∀ b : Addr, b ∉ (dY CX P w K mg base N qual scope f cd A outer s H E).ex := fun b z => absurd (show b ∈ ([] : List Addr) from z) (by simp)
 refine ⟨⟨e0.mod, S.kind, rfl, rfl, Nat.le_refl _, fun y z c h1 h2 => ?_, fun y hy => ?_, fun y c _ h => ?_, fun _ => hd, Around.frames_deeper e0.frames, .inr ⟨rfl, rfl⟩, fun b z => absurd z (noA b), e0.bs, e0.bsz, fun b _ _ => noA b, fun b z => absurd z (noA b), e0.funs, e0.frf⟩,
  rfl, e0.bare, Un.kept hk, ⟨_, x.toInCall.ns, fun i y v h1 h2 h3 => ?_⟩, fun y c h => ⟨_, x.cell y c h⟩, e0.hok.fresh (Nat.le_refl _), fun y c h => ?_, fun p hp => absurd (show p ∈ ([] : List (Addr × Obj)) from hp) (by simp), e0.hok.kept hk, ?_⟩
 ·exact name_of_addr x.apart (PySem.mem_of_lookup h1) (PySem.mem_of_lookup h2)
 ·have hy : scope.names.lookup y = some .cell \/ scope.names.lookup y = some .free := hy
  rcases hy with hy | hy
  ·exact ng hy
  ·exact absurd rfl (S.nofree _ (PySem.mem_of_lookup hy))
 ·exact Nat.le_of_lt (x.above y c (PySem.mem_of_lookup h))
 ·have hi : i < vs.length := by
   unfold en at h2
   by_cases hi : i < vs.length
   ·exact hi
   ·rw [List.getElem?_append_right (by simpa using hi)] at h2
    rw [List.getElem?_replicate] at h2
    split at h2 <;> cases h2
  have ha : vs[i]? = some v := by
   unfold en at h2
   rw [List.getElem?_append_left (by simpa using hi), List.getElem?_map] at h2
   cases e : vs[i]? with
   | none => rw [e] at h2; cases h2
   | some a => rw [e] at h2; cases h2; rfl
  obtain ⟨u, hu, rv⟩ := r.get ha
  have hp : ps[i]? = some y := by
   rw [<- S.pre, List.getElem?_take_of_lt (by omega)]; exact h1
  have ndP : ps.Nodup := by rw [<- S.pre]; exact S.nd.sublist (List.take_sublist _ _)
  refine ⟨u, rv, ?_⟩
  rcases S.par y (List.mem_of_getElem? hp) with k | k
  ·exact .inl ⟨k, l6 ndP hp hu k⟩
  ·obtain ⟨c, e⟩ := ng (n := s.heap.objs.size + 1) k
   refine .inr ⟨.inl k, c, e, ?_⟩
   have q := x.cell y c e
   rw [ml ndP hp hu (by show scope.names.lookup y ≠ _; rw [k]; decide)] at q
   exact q
 ·exact e0.hok.fresh (Nat.le_of_lt (x.above y c (PySem.mem_of_lookup h)))
 ·unfold en
  show _ = N.length
  rw [List.length_append, List.length_map, List.length_replicate]
  omega
theorem En {CX : CXT} {P : Program} {w : World} {K : PySem.W.Frag} {mg : Str -> Option Value} {base : Heap} {k : Nat} {f : Addr} {name qual : Str} {params : Arguments} {body : List Stmt} {scope : Scope} {dV kV doc pm cdv ct oc : Value} {an od : Option Addr}
  {osl : Array (Option Value)} {N ps : List Str} {sp : Sp} (lk : K.lookup f = some ⟨oc, od, .func (PySem.W.fnOf name qual params body scope dV kV doc pm an cdv ct), osl⟩) (hcd : PySem.W.codeIn K cdv qual = true) (S : FnScope N ps scope)
  (len : ∀ vs H Q E, sp vs H Q E -> vs.length = ps.length)
  (hbody : ∀ (A : Around) (outer : List Env) (s : Shared) (H : Hp) (vs : List V) (Q : VK) (E : XK), Room k (A.deeper (envOfC qual scope s.heap.objs.size f cdv)) -> sp vs H Q E ->
   ∃ t, PSs (dY CX P w K mg base N qual scope f cdv A outer s H E) body t /\ t { nx := fun _ H' => Q .non H', rt := Q } (en N vs) H) :
  FnOk P w K mg base CX (k + 1) f (PySem.W.fnOf name qual params body scope dV kV doc pm an cdv ct) ps sp := by
 refine ⟨len, fun A outer s H args us vs Q E hr e0 hb r hsp => ?_⟩
 have hl := len _ _ _ _ hsp
 have KX : K.In s.heap := e0.mod.kin.keeps fun b o e => (e0.bs b o e).1
 have lim : s.heap.NoLimit := e0.mod.nolimit.keeps fun b o e => (e0.bs b o e).1
 have hkind : ∀ y ∈ ps.zip us, scope.names.lookup y.1 = some .local \/ (scope.names.lookup y.1 = some .cell /\ ((cellsFrom (s.heap.objs.size + 1) scope.names []).lookup y.1).isSome = true) := fun ⟨n, v⟩ hy => by
  rcases S.par n (List.of_mem_zip hy).1 with q | q
  ·exact .inl q
  ·exact .inr ⟨q, PySem.W.cellsFrom_some _ _ _ (.inl q)⟩
 refine codeAny_call_function hr.depth (KX _ _ lk) rfl S.co S.gen rfl (PySem.W.codeRec_of KX hcd) (hb _ _ _ _ ?_)
 refine wpAny_newFunctionEnv_cells S.kind hkind fun env he s1 x => ?_
 subst he
 refine ⟨lim.keeps x.toInCall.keep, codeAny_func ?_⟩
 obtain ⟨t, ht, hq⟩ := hbody A outer s H vs Q E (hr.deeper _) hsp
 have I : Inv (dY CX P w K mg base N qual scope f cdv A outer s H E) [] (en N vs) H s1 := sk S hr.hd e0 hl r x
 refine wpAny_mono (ht [] s1 (en N vs) H _ I hq) (fun fl s' hs => ?_) fun e s' hs => hs
 have fin : ∀ {σ' : St} {H' : Hp} {v : V} {u : Value}, Inv (dY CX P w K mg base N qual scope f cdv A outer s H E) [] σ' H' s' -> RelV v u -> Q v H' -> CE outer P w H s Q u s' :=
  fun {σ' H' v u} J rv q => ⟨v, H', J.os, J.bare, J.base, J.hok, rv, q⟩
 cases fl with
 |
  ret u =>
  obtain ⟨v, σ', H', J, rv, q⟩ := hs
  exact fin J rv q
 |
  next =>
  obtain ⟨σ', H', J, q⟩ := hs
  exact fin (v := V.non) (u := Value.none) J rfl q
 |
  brk =>
  obtain ⟨_, _, _, q⟩ := hs
  exact False.elim q
 |
  cont =>
  obtain ⟨_, _, _, q⟩ := hs
  exact False.elim q
end L2
namespace L2
open PySem PySem.Spec PyProof.Rows
section
variable {X : Cx} {x : Str} {p pos : Pos} {e : Expr} {es : List Expr} {t : TA} {id T : String} {r : List V -> Hp -> VK -> Prop}
noncomputable def tCB (r : List V -> Hp -> VK -> Prop) (t : TA) : TE := fun σ H Q => t σ H fun vs H1 => r vs H1 Q
theorem uF (hc : CallR X (.builtin id) r) (hg : Gl X x) (hm : X.mg x = none) (hv : bootBuiltins x = some (.builtin id)) (ha : PA X (e :: es) t) (hn : x ≠ "__name__" := by decide) (hdb : (x == ("__debug__" : Str)) = false := by decide)
  (he : starEach (e :: es) X.env = (false, eval e X.env) :: starEach es X.env := by rfl) (hpl : (backTo pos (starEach es X.env)).any (·.1) = false := by rfl) : PE X (.Call (.Name x p) (e :: es) [] pos) (tCB r t) := by
 intro pins s σ H Q I h
 refine wpAny_Call_Name_kw (jl I hg hm hv ?_ hn hdb)
 exact PyProof.Rows.callWith_builtin1 (thn (ha pos pins s σ H _ I h) fun us s1 ⟨vs, H1, I1, r1, q1⟩ => hc pins s1 σ H1 vs us Q I1 r1 q1) he hpl
theorem sC (hc : CallR X (.type T) r) (hg : Gl X x) (hm : X.mg x = none) (hv : bootBuiltins x = some (.type T)) (ha : PA X (e :: es) t) (hn : x ≠ "__name__" := by decide) (hdb : (x == ("__debug__" : Str)) = false := by decide)
  (he : starEach (e :: es) X.env = (false, eval e X.env) :: starEach es X.env := by rfl) (hpl : (backTo pos (starEach es X.env)).any (·.1) = false := by rfl) : PE X (.Call (.Name x p) (e :: es) [] pos) (tCB r t) := by
 intro pins s σ H Q I h
 refine wpAny_Call_Name_kw (jl I hg hm hv ?_ hn hdb)
 exact PyProof.Rows.callWith_type1 (thn (ha pos pins s σ H _ I h) fun us s1 ⟨vs, H1, I1, r1, q1⟩ => hc pins s1 σ H1 vs us Q I1 r1 q1) he hpl
end
end L2
namespace HT
open PySem PyProof.Rows
section
open PySem.SeqAt
open PySem.AutoSeq1 (wpAny_loadPart')
open PySem.MeetsSeq PySem.MeetsSeq2 PySem.MeetsSeq3
end
section
variable {prog : Program} {w : World} {A : Around} {E : Value -> Shared -> Prop} {s : Shared}
theorem cat_tup {t b : Addr} {vs ws : List Value} {Q : Value -> Shared -> Prop} (ht : IsTup s.heap t vs.toArray) (hb : IsTup s.heap b ws.toArray) (hv : vs ≠ [])
  (h1 : ws = [] -> Q (.ref t) s) (h2 : ws ≠ [] -> Q (.ref s.heap.objs.size) { s with heap := s.heap.push { cls := .type "tuple", data := .seq (vs ++ ws).toArray } })
  (hsz : vs.length + ws.length <= sizeLine) : wpAny (model prog w) A (binaryOp .Add (.ref t) (.ref b)) Q E s := by
 obtain ⟨⟨cls, dd, data, sl⟩, ho, hc, n, hd⟩ := id ht
 obtain ⟨⟨cls2, dd2, data2, sl2⟩, ho2, hc2, n2, hd2⟩ := id hb
 simp only at hc hd hc2 hd2
 subst hc hd hc2 hd2
 have e : vs.toArray ++ ws.toArray = (vs ++ ws).toArray := by simp
 by_cases hw : ws = []
 ·exact concat_meets ⟨_, ho, rfl⟩ ⟨_, ho2, rfl⟩ noFill_tuple_add seq_tuple_add PySem.F.slot_tuple_add PySem.F.entry_tuple_add (PySem.F.args_tuple_add_2 _ _)
   (tuple_addW1 t b vs.toArray ws.toArray n n2 dd dd2 sl sl2 (by simpa using hv) (by simp [hw])) ⟨ho, ho2, h1 hw⟩
 ·refine concat_meets ⟨_, ho, rfl⟩ ⟨_, ho2, rfl⟩ noFill_tuple_add seq_tuple_add PySem.F.slot_tuple_add PySem.F.entry_tuple_add (PySem.F.args_tuple_add_2 _ _)
   (tuple_addW2 t b vs.toArray ws.toArray n n2 dd dd2 sl sl2 (by simpa using hv) (by simpa using hw) (by rw [List.size_toArray, List.size_toArray]; exact hsz)) ⟨ho, ho2, ?_⟩
  rw [e]
  exact h2 hw
noncomputable def sIx (n d : Nat) : Option Int -> Nat
 | none => d
 | some v => if v < 0 then (v + (n : Int)).toNat else min v.toNat n
theorem zX (n d : Nat) (hd : d <= n) (o : Option Int) : sIx n d o <= n := by
 cases o with
 | none => exact hd
 |
  some v =>
  show (if v < 0 then (v + (n : Int)).toNat else min v.toNat n) <= n
  by_cases hv : v < 0
  ·rw [if_pos hv]; omega
  ·rw [if_neg hv]; exact Nat.min_le_right _ _
theorem pK (v : Int) (n d : Nat) : (if v < 0 then max (v + (n : Int)) 0 else min v (n : Int)) = ((sIx n d (some v) : Nat) : Int) := by
 show (if v < 0 then max (v + (n : Int)) 0 else min v (n : Int)) = (((if v < 0 then (v + (n : Int)).toNat else min v.toNat n) : Nat) : Int)
 by_cases hv : v < 0
 ·simp only [if_pos hv]; omega
 ·simp only [if_neg hv]; omega
theorem qt (lo hi : Option Int) (n : Nat) : Builtin.Slice.sliceAdjust lo hi 1 (n : Int) = (((sIx n 0 lo : Nat) : Int), ((sIx n n hi : Nat) : Int)) := by
 have h1 : ¬ ((1 : Int) < 0) := by omega
 unfold Builtin.Slice.sliceAdjust
 simp only [h1, if_false]
 refine Prod.ext ?_ ?_
 ·cases lo with
  | none => rfl
  | some v => exact pK v n 0
 ·cases hi with
  | none => rfl
  | some v => exact pK v n n
theorem ql (i j : Nat) : Builtin.Slice.slicePlaces (i : Int) (j : Int) 1 = j - i := by
 unfold Builtin.Slice.slicePlaces
 have h1 : (1 : Int) > 0 := by omega
 simp only [h1, if_true, Int.ediv_one]
 split <;> omega
theorem kE {v : Value} {o : Option Int} {Q : Option Int -> Shared -> Prop} (p : IsPart v o) (h : Q o s) : wpAny (model prog w) A (Builtin.Slice.slicePartIndex v) Q E s := by
 cases p with
 | none => exact slicePart_none h
 | int i t => exact slicePart_int h
theorem ka {sl : Addr} {vl vu : Value} {lo hi : Option Int} {n : Nat} {Q : Int × Int × Nat -> Shared -> Prop} (hs : s.heap.IsSliceOf sl vl vu .none) (pl : IsPart vl lo) (pu : IsPart vu hi)
  (h : Q (((sIx n 0 lo : Nat) : Int), 1, sIx n n hi - sIx n 0 lo) s) : wpAny (model prog w) A (Builtin.Slice.sliceApplied (.ref sl) (pure (n : Int))) Q E s := by
 obtain ⟨os, hos, hcs, hds⟩ := id hs
 unfold Builtin.Slice.sliceApplied Builtin.Slice.sliceFields
 refine wpAny_bind (wpAny_bind (wpAny_field hos hds (x := vl) rfl (wpAny_bind (wpAny_field hos hds (x := vu) rfl (wpAny_bind (wpAny_field hos hds (x := .none) rfl (wpAny_pure ?_)))))))
 refine wpAny_bind (slicePart_none ?_)
 show wpAny _ _ (if ((1 : Int) == 0) = true then _ else _) _ _ s
 rw [if_neg (by decide)]
 refine wpAny_bind (kE pl (wpAny_bind (kE pu (wpAny_bind (wpAny_pure ?_)))))
 show wpAny _ _ (match Builtin.Slice.sliceAdjust lo hi 1 (n : Int) with | (lo, hi) => pure (lo, (1 : Int), Builtin.Slice.slicePlaces lo hi 1)) _ _ s
 rw [qt lo hi n]
 show wpAny _ _ (pure (((sIx n 0 lo : Nat) : Int), (1 : Int), Builtin.Slice.slicePlaces ((sIx n 0 lo : Nat) : Int) ((sIx n n hi : Nat) : Int) 1)) _ _ s
 rw [ql]
 exact wpAny_pure h
theorem uj (xs : Array Value) (i k : Nat) : ((List.range k).filterMap fun (m : Nat) => xs[((i : Int) + (m : Int) * 1).toNat]?).toArray = ((xs.toList.drop i).take k).toArray := by
 have e : (fun (m : Nat) => xs[((i : Int) + (m : Int) * 1).toNat]?) = fun m => xs[i + m]? := by
  funext m
  have : ((i : Int) + (m : Int) * 1).toNat = i + m := by omega
  rw [this]
 rw [e]
 have := pick_run xs i k
 rw [List.filterMap_map] at this
 have e2 : ((fun x => xs[x]?) ∘ fun x => i + x) = fun m => xs[i + m]? := rfl
 rw [e2] at this
 rw [this]
theorem getItem_tuple_cut {t sl : Addr} {items : Array Value} {vl vu : Value} {lo hi : Option Int} {Q : Value -> Shared -> Prop} (ht : IsTup s.heap t items) (hs : s.heap.IsSliceOf sl vl vu .none) (pl : IsPart vl lo) (pu : IsPart vu hi)
  (hw : ¬ (sIx items.size 0 lo = 0 /\ sIx items.size items.size hi = items.size))
  (h : Q (.ref s.heap.objs.size) { s with heap := s.heap.push { cls := .type "tuple", data := .seq ((items.toList.drop (sIx items.size 0 lo)).take (sIx items.size items.size hi - sIx items.size 0 lo)).toArray } })
  (hsz : items.size <= sizeLine) : wpAny (model prog w) A (getItem (.ref t) (.ref sl)) Q E s := by
 have htake : sizeOk (.seq ((items.toList.drop (sIx items.size 0 lo)).take (sIx items.size items.size hi - sIx items.size 0 lo)).toArray) := by
  show ((items.toList.drop (sIx items.size 0 lo)).take (sIx items.size items.size hi - sIx items.size 0 lo)).toArray.size <= sizeLine
  rw [List.size_toArray, List.length_take, List.length_drop, Array.length_toList]
  omega
 have hj : sIx items.size items.size hi <= items.size := zX _ _ (Nat.le_refl _) hi
 obtain ⟨os, hos, hcs, hds⟩ := id hs
 have hTs : s.TypeIs (.ref sl) "slice" := ⟨os, hos, hcs⟩
 unfold getItem
 try with_reducible refine wpAny_holding ?_
 first | refine wpAny_bind (wpAny_pure ?_) | skip
 refine wpAny_bind (wpAny_sequenceKey ht.typeIs (by decide) ?_)
 refine wpAny_bind (wpAny_callSpecial?_slot (name := Str.ofString "__getitem__") ht.typeIs PyProof.Rows.slot_tuple_getitem
  (wpAny_call_entry PyProof.Rows.slot_tuple_getitem ht.typeIs entry_tuple_getitem ?_ (args_tuple_getitem _ _)))
 show wpAny _ _ (Builtin.Tuple.tupleItemsOf (.ref t) >>= _) _ _ s
 refine wpAny_bind (tupleItemsOf_ ht ?_)
 refine wpAny_bind (wpAny_typeOf hTs ?_)
 rw [if_pos (by decide)]
 refine wpAny_bind (ka hs pl pu ?_)
 have hno : ¬ ((((sIx items.size 0 lo : Nat) : Int) == 0 && (1 : Int) == 1 && (sIx items.size items.size hi - sIx items.size 0 lo) == items.size) = true) := by
  intro q
  rw [Bool.and_eq_true, Bool.and_eq_true] at q
  have q1 : ((sIx items.size 0 lo : Nat) : Int) = 0 := eq_of_beq q.1.1
  have q2 : sIx items.size items.size hi - sIx items.size 0 lo = items.size := eq_of_beq q.2
  exact hw ⟨by omega, by omega⟩
 show wpAny _ _ (if (((sIx items.size 0 lo : Nat) : Int) == 0 && (1 : Int) == 1 && (sIx items.size items.size hi - sIx items.size 0 lo) == items.size) = true then _ else _) _ _ s
 rw [if_neg hno, uj]
 first
  | exact wpAny_bind (m := Builtin.Tuple.tupleExact _) (wpAny_newObj_type (wpAny_pure ⟨_, rfl, wpAny_pure h⟩) htake)
  | exact wpAny_bind (m := Builtin.Tuple.tupleExact _) (wpAny_newObj_type (wpAny_bind (wpAny_pure (wpAny_pure ⟨_, rfl, wpAny_pure h⟩))) htake)
  | exact wpAny_bind (wpAny_bind (m := Builtin.Tuple.tupleExact _) (wpAny_newObj_type (wpAny_pure (wpAny_pure ⟨_, rfl, wpAny_pure h⟩)) htake))
  | exact wpAny_bind (wpAny_bind (m := Builtin.Tuple.tupleExact _) (wpAny_newObj_type (wpAny_pure ⟨_, rfl, wpAny_pure h⟩) htake))
end
end HT
namespace L2
open PySem PySem.Spec PyProof.Rows
abbrev TO := St -> Hp -> (Option Int -> Hp -> Prop) -> Prop
noncomputable def PO (X : Cx) (e : Option Expr) (t : TO) : Prop :=
 ∀
  (pins : List (Addr × Obj)) (s : Shared) (σ : St) (H : Hp) (Q : Option Int -> Hp -> Prop), Inv X pins σ H s -> t σ H Q ->
  wpAny (model X.prog X.w) X.A (evalPart e X.env) (fun u s' => ∃ o H', Inv X pins σ H' s' /\ IsPart u o /\ Q o H') X.xe s
noncomputable def xF : TO := fun _ H Q => Q none H
noncomputable def Dr (t : TE) : TO := fun σ H Q => t σ H fun x H1 => ∃ i, x = .int i /\ Q (some i) H1
section
variable {X : Cx} {e : Expr} {te : TE} {lo hi : Option Expr} {tl th : TO} {pos p2 : Pos}
theorem x5 : PO X none xF := by
 intro pins s σ H Q I h
 rw [evalPart_none]
 exact wpAny_pure ⟨none, H, I, .none, h⟩
theorem xJ (h : PE X e te) : PO X (some e) (Dr te) := by
 intro pins s σ H Q I hw
 rw [evalPart_some]
 refine thn (h pins s σ H _ I hw) fun u s1 ⟨x, H1, I1, r1, q1⟩ => ?_
 obtain ⟨i, rfl, q⟩ := q1
 obtain ⟨t, rfl⟩ := r1
 exact ⟨some i, H1, I1, .int i t, q⟩
noncomputable def SlR (X : Cx) (r : V -> Option Int -> Option Int -> Hp -> VK -> Prop) : Prop :=
 ∀
  (pins : List (Addr × Obj)) (s : Shared) (σ : St) (H : Hp) (x : V) (v vl vu : Value) (lo hi : Option Int) (sl : Addr) (Q : VK), Inv X pins σ H s -> RelV x v -> s.heap.IsSliceOf sl vl vu .none -> IsPart vl lo -> IsPart vu hi -> r x lo hi H Q ->
  ∃ T id, typeLookup (.type T) "__getitem__" = pure (some (.builtin id)) /\ s.TypeIs v T /\ wpAny (model X.prog X.w) X.A (getItem v (.ref sl)) (EP X pins σ Q) X.xe s
theorem SlR.or {r r' : V -> Option Int -> Option Int -> Hp -> VK -> Prop} (h : SlR X r) (h' : SlR X r') : SlR X (fun x lo hi H Q => r x lo hi H Q \/ r' x lo hi H Q) := by
 intro pins s σ H x v vl vu lo hi sl Q I rx hs pl pu q
 rcases q with q | q
 ·exact h pins s σ H x v vl vu lo hi sl Q I rx hs pl pu q
 ·exact h' pins s σ H x v vl vu lo hi sl Q I rx hs pl pu q
noncomputable def tSl (r : V -> Option Int -> Option Int -> Hp -> VK -> Prop) (te : TE) (tl th : TO) : TE := fun σ H Q => te σ H fun x H1 => tl σ H1 fun l H2 => th σ H2 fun u H3 => r x l u H3 Q
theorem wm {r : V -> Option Int -> Option Int -> Hp -> VK -> Prop} (hr : SlR X r) (he : PE X e te) (hl : PO X lo tl) (hu : PO X hi th) : PE X (.Subscript e (.Slice lo hi none p2) pos) (tSl r te tl th) := by
 intro pins s σ H Q I h
 refine Subscript_ (thn (he pins s σ H _ I h) fun v s1 ⟨x, H1, I1, r1, q1⟩ => ?_)
 refine wpAny_Slice (thn (hl pins s1 σ H1 _ I1 q1) fun vl s2 ⟨l, H2, I2, pl, q2⟩ => thn (hu pins s2 σ H2 _ I2 q2) fun vu s3 ⟨u, H3, I3, pu, q3⟩ => ?_)
 rw [evalPart_none]
 refine wpAny_pure ?_
 have I4 : Inv X pins σ H3 { s3 with heap := s3.heap.push { cls := .type "slice", data := .fields #[vl, vu, .none] } } := I3.kept (t' := s3.toks) fun b ob q => Heap.get?_push_of_some _ q
 obtain ⟨T, id, hT, ht, hg⟩ := hr pins { s3 with heap := s3.heap.push { cls := .type "slice", data := .fields #[vl, vu, .none] } } σ H3 x v vl vu l u s3.heap.objs.size Q I4 r1 (Heap.IsSliceOf.new ..) pl pu q3
 show wpAny (model X.prog X.w) X.A (subscriptTail e (.Slice lo hi none p2) v (.ref s3.heap.objs.size)) (EP X pins σ Q) X.xe { s3 with heap := s3.heap.push { cls := .type "slice", data := .fields #[vl, vu, .none] } }
 exact tail_any (ops := [.ref s3.heap.objs.size, v]) ht hT hg (by with_unfolding_all rfl)
noncomputable def jb (xs : List V) (lo hi : Option Int) : List V := (xs.drop (HT.sIx xs.length 0 lo)).take (HT.sIx xs.length xs.length hi - HT.sIx xs.length 0 lo)
theorem jL (xs : List V) (lo hi : Option Int) : (jb xs lo hi).length <= xs.length := by
 unfold jb
 rw [List.length_take, List.length_drop]
 omega
noncomputable def rSlT (K : PySem.W.Frag) : V -> Option Int -> Option Int -> Hp -> VK -> Prop := fun x lo hi H Q => ∃ a xs, x = .ref a /\ SqT K H a xs /\
 ¬ (HT.sIx xs.length 0 lo = 0 /\ HT.sIx xs.length xs.length hi = xs.length) /\ ∀ p, H p = none -> Q (.ref p) (upd H p (.tup (jb xs lo hi)))
theorem zy : SlR X (rSlT X.K) := by
 intro pins s σ H x v vl vu lo hi sl Q I rx hs pl pu h
 obtain ⟨a, xs, rfl, hx, hw, q⟩ := h
 cases rx
 obtain ⟨its, r, ht, hz⟩ := I.tuple hx
 have hlen : its.toArray.size = xs.length := by rw [List.size_toArray]; exact r.length.symm
 refine ⟨"tuple", _, PyProof.Rows.slot_tuple_getitem.lookup, ht.typeIs, ?_⟩
 refine HT.getItem_tuple_cut ht hs pl pu (by rw [hlen]; exact hw) ?_ (by rw [hlen]; exact hz)
 rw [hlen]
 refine ⟨.ref s.heap.objs.size, _, I.laid (t' := s.toks) (o := .tup (jb xs lo hi)) (fun b ob q => Heap.get?_push_of_some _ q) (Nat.le_refl _) ?_, rfl, q _ (I.hok.fresh (Nat.le_refl _))⟩
 exact ⟨Nat.le_trans (jL xs lo hi) hz, _, (r.drop (HT.sIx xs.length 0 lo)).take (HT.sIx xs.length xs.length hi - HT.sIx xs.length 0 lo), IsTup.new _ _⟩
noncomputable def jw (K : PySem.W.Frag) : R2 := fun x y H Q => ∃ a b xs ys, x = .ref a /\ y = .ref b /\ SqT K H a xs /\ SqT K H b ys /\ xs ≠ [] /\ xs.length + ys.length <= sizeLine /\
 (ys = [] -> Q (.ref a) H) /\ (ys ≠ [] -> ∀ p, H p = none -> Q (.ref p) (upd H p (.tup (xs ++ ys))))
theorem Vals.nil_iff {xs : List V} {us : List Value} (r : Vals xs us) : us = [] ↔ xs = [] := by
 cases r with
 | nil => simp
 | cons _ _ => simp
theorem x9 : OpR X (binaryOp .Add) (jw X.K) := by
 intro pins s σ H x y v u Q I rx ry h
 obtain ⟨a, b, xs, ys, rfl, rfl, ha, hb, hx, hz, q1, q2⟩ := h
 cases rx
 cases ry
 obtain ⟨its, r1, p1, _⟩ := I.tuple ha
 obtain ⟨its2, r2, p2, _⟩ := I.tuple hb
 refine HT.cat_tup p1 p2 (fun z => hx (r1.nil_iff.mp z)) (fun z => ⟨.ref a, H, I, rfl, q1 (r2.nil_iff.mp z)⟩) (fun z => ?_) (by rw [<- r1.length, <- r2.length]; exact hz)
 refine ⟨.ref s.heap.objs.size, _, I.laid (t' := s.toks) (o := .tup (xs ++ ys)) (fun b ob q => Heap.get?_push_of_some _ q) (Nat.le_refl _) ?_, rfl, q2 (fun w => z (r2.nil_iff.mpr w)) _ (I.hok.fresh (Nat.le_refl _))⟩
 exact ⟨by rw [List.length_append]; exact hz, _, r1.append r2, IsTup.new _ _⟩
end
end L2
namespace L2
open PySem PySem.Spec PyProof.Rows
noncomputable def ixN (n : Nat) (i : Int) : Option Nat := if 0 <= i then (if i < n then some i.toNat else none) else if -(n : Int) <= i then some (i + n).toNat else none
noncomputable def atI {α : Type} (xs : List α) (i : Int) : Option α := (ixN xs.length i).bind fun j => xs[j]?
theorem pQ {n : Nat} {i : Int} {j : Nat} (h : ixN n i = some j) : seqIndex? i n = some j /\ j < n /\ -(n : Int) <= i /\ i < n := by
 unfold ixN at h
 by_cases h0 : 0 <= i
 ·rw [if_pos h0] at h
  by_cases h1 : i < n
  ·rw [if_pos h1] at h
   have e : i.toNat = j := Option.some.inj h
   exact ⟨by rw [seqIndex_of h0 h1, e], by omega, by omega, h1⟩
  ·rw [if_neg h1] at h; cases h
 ·rw [if_neg h0] at h
  by_cases h1 : -(n : Int) <= i
  ·rw [if_pos h1] at h
   have e : (i + n).toNat = j := Option.some.inj h
   exact ⟨by rw [seqIndex_neg (by omega) h1, e], by omega, h1, by omega⟩
  ·rw [if_neg h1] at h; cases h
theorem pz {α : Type} {xs : List α} {i : Int} {v : α} (h : atI xs i = some v) : ∃ j, seqIndex? i xs.length = some j /\ xs[j]? = some v /\ j < xs.length /\ -(xs.length : Int) <= i /\ i < xs.length := by
 unfold atI at h
 cases e : ixN xs.length i with
 | none => rw [e] at h; cases h
 |
  some j =>
  rw [e] at h
  obtain ⟨h1, h2, h3, h4⟩ := pQ e
  exact ⟨j, h1, h, h2, h3, h4⟩
noncomputable def lz (b : Expr) : Prop := ∀ o i, subscripted b false o i = operate [o, i] (getItem o i)
noncomputable def IxR (X : Cx) (r : R2) : Prop :=
 ∀
  (value slice : Expr) (pins : List (Addr × Obj)) (s : Shared) (σ : St) (H : Hp) (x y : V) (v u : Value) (Q : VK), Inv X pins σ H s -> RelV x v -> RelV y u -> r x y H Q ->
  subscripted slice false v u = operate [v, u] (getItem v u) -> wpAny (model X.prog X.w) X.A (subscriptTail value slice v u) (EP X pins σ Q) X.xe s
noncomputable def MtR (X : Cx) (id : String) (r : V -> List V -> Hp -> VK -> Prop) : Prop :=
 ∀
  (pins : List (Addr × Obj)) (s : Shared) (σ : St) (H : Hp) (x : V) (xs : List V) (v : Value) (us : List Value) (Q : VK), Inv X pins σ H s -> RelV x v -> Vals xs us -> r x xs H Q ->
  wpAny (model X.prog X.w) X.A (call (.builtin id) (v :: us)) (EP X pins σ Q) X.xe s
section
variable {X : Cx} {a b : Expr} {ta tb : TE} {pos : Pos}
theorem IxR.or {r r' : R2} (h : IxR X r) (h' : IxR X r') : IxR X (fun x y H Q => r x y H Q \/ r' x y H Q) := by
 intro value slice pins s σ H x y v u Q I rx ry q hs
 rcases q with q | q
 ·exact h value slice pins s σ H x y v u Q I rx ry q hs
 ·exact h' value slice pins s σ H x y v u Q I rx ry q hs
theorem D2 {r : R2} (hr : IxR X r) (ha : PE X a ta) (hb : PE X b tb) (hs : lz b) : PE X (.Subscript a b pos) (tOp r ta tb) := by
 intro pins s σ H Q I h
 exact Subscript_ (vc ha hb I h fun v u s2 x y H2 I2 rx ry q => hr a b pins s2 σ H2 x y v u Q I2 rx ry q (hs _ _))
noncomputable def qT (K : PySem.W.Frag) : R2 := fun x y H Q => ∃ p xs i v, x = .ref p /\ y = .int i /\ SqL K H p xs /\ atI xs i = some v /\ Q v H
noncomputable def qy (K : PySem.W.Frag) : R2 := fun x y H Q => ∃ p xs i v, x = .ref p /\ y = .int i /\ SqT K H p xs /\ atI xs i = some v /\ Q v H
theorem yd : IxR X (qT X.K) := by
 intro value slice pins s σ H x y v u Q I rx ry h hs
 obtain ⟨p, xs, i, z, rfl, rfl, hq, he, q⟩ := h
 cases rx
 obtain ⟨t, rfl⟩ := ry
 obtain ⟨its, r, pl, hz⟩ := I.list hq
 obtain ⟨j, h1, h2, h3, h4, h5⟩ := pz he
 obtain ⟨w, ew, rw'⟩ := r.get h2
 have hl := r.length
 have hn := gO
 have fin : EP X pins σ Q w s := ⟨z, H, I, rw', q⟩
 by_cases h0 : 0 <= i
 ·have hj : i.toNat = j := by
   rw [seqIndex_of h0 h5] at h1
   exact Option.some.inj h1
  exact item_listR pl.isList h0 (by omega) (by rw [hj]; simpa using ew) fin hs
 ·have hj : (i + (its.toArray.size : Int)).toNat = j := by
   rw [seqIndex_neg (by omega) h4] at h1
   rw [List.size_toArray, <- hl]
   exact Option.some.inj h1
  exact subscriptTail_builtinR (x := w) pl.isList.typeIs slot_list_getitem.lookup
   (wpAny_getItem_list_neg (Q := fun r s' => r = w /\ EP X pins σ Q r s') pl.isList (by omega) (by rw [List.size_toArray] <;> omega) (by omega) (by rw [hj]; simpa using ew) ⟨rfl, fin⟩) hs
theorem Bf : IxR X (qy X.K) := by
 intro value slice pins s σ H x y v u Q I rx ry h hs
 obtain ⟨p, xs, i, z, rfl, rfl, hq, he, q⟩ := h
 cases rx
 obtain ⟨t, rfl⟩ := ry
 obtain ⟨its, r, pl, hz⟩ := I.tuple hq
 obtain ⟨j, h1, h2, h3, h4, h5⟩ := pz he
 obtain ⟨w, ew, rw'⟩ := r.get h2
 have hl := r.length
 have hn := gO
 have fin : EP X pins σ Q w s := ⟨z, H, I, rw', q⟩
 exact subscriptTail_builtinR (x := w) pl.typeIs slot_tuple_getitem.lookup
  (getItem_tuple (j := j) (Q := fun r s' => r = w /\ EP X pins σ Q r s') pl (by omega) (by omega) (by rw [List.size_toArray, <- hl]; exact h1) (by simpa using ew) ⟨rfl, fin⟩) hs
theorem qw (its : List Value) (n j : Nat) (u : Value) : Obj.mapSeq (·.setIfInBounds j u) { cls := .type "list", data := .seq its.toArray n } = { cls := .type "list", data := .seq (its.set j u).toArray n } := by
 simp [Obj.mapSeq]
theorem Inv.lst {pins : List (Addr × Obj)} {σ : St} {H : Hp} {s : Shared} {p : Addr} {xs : List V} (I : Inv X pins σ H s) (h : H p = some (.lst xs)) :
  ∃ (its : List Value) (n : Nat), Vals xs its /\ s.heap.get? p = some { cls := .type "list", data := .seq its.toArray n } /\ xs.length <= sizeLine := by
 obtain ⟨z, its, n, r, e⟩ := I.hok p _ h
 exact ⟨its, n, r, e, z⟩
theorem Inv.lstUpd {pins : List (Addr × Obj)} {σ : St} {H : Hp} {s : Shared} {p : Addr} {xs ys : List V} {its its' : List Value} {n n' : Nat} {f : Obj -> Obj} (I : Inv X pins σ H s) (h : H p = some (.lst xs))
  (ho : s.heap.get? p = some { cls := .type "list", data := .seq its.toArray n }) (hf : f { cls := .type "list", data := .seq its.toArray n } = { cls := .type "list", data := .seq its'.toArray n' }) (r : Vals ys its') (hz : ys.length <= sizeLine) (t : Nat) :
  Inv X pins σ (upd H p (.lst ys)) { s with heap := s.heap.update p f, toks := t } := by
 have e : (s.heap.update p f).get? p = some { cls := .type "list", data := .seq its'.toArray n' } := by
  rw [Heap.get?_update_self f ho (by rw [hf] <;> rfl), hf]
 refine I.write (x := p) (e := p) (by rw [h]; trivial) (.inl rfl) (fun b u hb q => (Heap.get?_update_other _ _ (Ne.symm hb)).trans q) ⟨_, e⟩ ?_
 exact ⟨hz, its', n', r, e⟩
noncomputable def qE : V -> V -> V -> Hp -> (Hp -> Prop) -> Prop := fun o i v H Q => ∃ p xs k j, o = .ref p /\ i = .int k /\ H p = some (.lst xs) /\ ixN xs.length k = some j /\ Q (upd H p (.lst (xs.set j v)))
theorem j0 : rG X qE := by
 intro pins s σ H o i v ov iv u Q I ro ri rv h
 obtain ⟨p, xs, k, j, rfl, rfl, hp, hj, q⟩ := h
 cases ro
 obtain ⟨t, rfl⟩ := ri
 obtain ⟨its, n, r, ho, hz⟩ := I.lst hp
 obtain ⟨h1, h2, h3, h4⟩ := pQ hj
 have hl := r.length
 have hn := gO
 have I' : Inv X pins σ (upd H p (.lst (xs.set j v))) { s with heap := s.heap.update p (Obj.mapSeq (·.setIfInBounds j u)) } :=
  I.lstUpd hp ho (qw its n j u) (r.set rv j) (by rw [List.length_set]; exact hz) s.toks
 by_cases h0 : 0 <= k
 ·have hk : k.toNat = j := by
   rw [seqIndex_of h0 h4] at h1
   exact Option.some.inj h1
  exact PySem.W.ki_setAt ho h0 (by omega) (by rw [List.size_toArray, <- hl]; exact h4) (by rw [hk]; exact ⟨_, I', q⟩)
 ·have hk : (k + (its.toArray.size : Int)).toNat = j := by
   rw [seqIndex_neg (by omega) h3] at h1
   rw [List.size_toArray, <- hl]
   exact Option.some.inj h1
  exact PySem.W.ki_setBack ho (by omega) (by rw [List.size_toArray, <- hl]; exact h3) (by omega) (by rw [hk]; exact ⟨_, I', q⟩)
theorem nF (lo hi : Option Int) (n : Nat) : (sliceBounds lo hi none n).1 = ((HT.sIx n 0 lo : Nat) : Int) /\ (sliceBounds lo hi none n).2.1 = ((HT.sIx n n hi : Nat) : Int) /\ (sliceBounds lo hi none n).2.2 = 1 := by
 refine ⟨?_, ?_, rfl⟩
 ·cases lo with
  | none => simp [sliceBounds, HT.sIx]
  |
   some i =>
   simp only [sliceBounds, HT.sIx, Option.getD_none, show (1 : Int) > 0 by decide, if_true]
   by_cases h : i < 0
   ·simp only [h, if_true] <;> omega
   ·simp only [h, if_false] <;> omega
 ·cases hi with
  | none => simp [sliceBounds, HT.sIx]
  |
   some i =>
   simp only [sliceBounds, HT.sIx, Option.getD_none, show (1 : Int) > 0 by decide, if_true]
   by_cases h : i < 0
   ·simp only [h, if_true] <;> omega
   ·simp only [h, if_false] <;> omega
theorem mB (its : List Value) (lo hi : Option Int) : slicePick its.toArray lo hi none = ((its.drop (HT.sIx its.length 0 lo)).take (HT.sIx its.length its.length hi - HT.sIx its.length 0 lo)).toArray := by
 obtain ⟨h1, h2, h3⟩ := nF lo hi its.toArray.size
 unfold slicePick
 rw [h1, h2, h3]
 simp only [sliceRange_one, pick_run, List.size_toArray] <;> rfl
noncomputable def rSlL (K : PySem.W.Frag) : V -> Option Int -> Option Int -> Hp -> VK -> Prop := fun x lo hi H Q => ∃ a xs, x = .ref a /\ SqL K H a xs /\ ∀ p, H p = none -> Q (.ref p) (upd H p (.lst (jb xs lo hi)))
theorem yD : SlR X (rSlL X.K) := by
 intro pins s σ H x v vl vu lo hi sl Q I rx hs pl pu h
 obtain ⟨a, xs, rfl, hx, q⟩ := h
 cases rx
 obtain ⟨its, r, ht, hz⟩ := I.list hx
 have hlen := r.length
 refine ⟨"list", _, slot_list_getitem.lookup, ht.isList.typeIs, ?_⟩
 refine wpAny_getItem_list_slice ht.isList hs pl pu .none (by simp) ?_ (by rw [List.size_toArray] <;> omega)
 rw [mB, <- hlen]
 refine ⟨.ref s.heap.objs.size, _, I.laid (t' := s.toks) (o := .lst (jb xs lo hi)) (fun b ob q => Heap.get?_push_of_some _ q) (Nat.le_refl _) ?_, rfl, q _ (I.hok.fresh (Nat.le_refl _))⟩
 exact ⟨Nat.le_trans (jL xs lo hi) hz, _, 0, (r.drop (HT.sIx xs.length 0 lo)).take (HT.sIx xs.length xs.length hi - HT.sIx xs.length 0 lo), Heap.get?_push_size _ rfl⟩
noncomputable def cL : V -> Bool
 | .non => true
 | .bl _ => true
 | .int _ => true
 | .str _ => true
 | _ => false
theorem oO : CallR X (.builtin "len") (fun xs H Q => ∃ p ys, xs = [.ref p] /\ (SqL X.K H p ys \/ SqT X.K H p ys) /\ Q (.int ys.length) H) := by
 intro pins s σ H xs us Q I r h
 obtain ⟨p, ys, rfl, hq, q⟩ := h
 obtain ⟨u, rfl, rx⟩ := gc r
 cases rx
 have hn := gO
 rcases hq with hq | hq
 ·obtain ⟨its, r', pl, hz⟩ := I.list hq
  have hlen := r'.length
  exact Calls.call_len_list pl.isList (by simp only [List.size_toArray] <;> omega) ⟨.int ys.length, H, I.tok _, ⟨s.toks + 1, by rw [List.size_toArray, hlen]⟩, q⟩
 ·obtain ⟨its, r', pl, hz⟩ := I.tuple hq
  have hlen := r'.length
  exact len_tuple pl (by simp only [List.size_toArray] <;> omega) ⟨.int ys.length, H, I.tok _, ⟨s.toks + 1, by rw [List.size_toArray, hlen]⟩, q⟩
theorem nK : CallR X (.builtin "len") (fun xs H Q => ∃ z, xs = [.str z] /\ z.length <= sizeLine /\ Q (.int z.length) H) := by
 intro pins s σ H xs us Q I r h
 obtain ⟨z, rfl, hz, q⟩ := h
 obtain ⟨u, rfl, t, rfl⟩ := gc r
 have hn := gO
 exact len_str (by omega) ⟨.int z.length, H, I.tok _, ⟨_, rfl⟩, q⟩
theorem CallR.or {f : Value} {r r' : List V -> Hp -> VK -> Prop} (h : CallR X f r) (h' : CallR X f r') : CallR X f (fun xs H Q => r xs H Q \/ r' xs H Q) := by
 intro pins s σ H xs us Q I rs q
 rcases q with q | q
 ·exact h pins s σ H xs us Q I rs q
 ·exact h' pins s σ H xs us Q I rs q
theorem oY : CallR X (.type "list") (fun xs H Q => ∃ p ys, xs = [.ref p] /\ (SqL X.K H p ys \/ SqT X.K H p ys) /\ ∀ l, H l = none -> Q (.ref l) (upd H l (.lst ys))) := by
 intro pins s σ H xs us Q I r h
 obtain ⟨p, ys, rfl, hq, q⟩ := h
 obtain ⟨u, rfl, rx⟩ := gc r
 cases rx
 have fin : ∀ (its : List Value), Vals ys its -> ys.length <= sizeLine -> ∀ (h' : Heap) (c' : Nat), (∀ b o', s.heap.get? b = some o' -> h'.get? b = some o') ->
   h'.get? s.heap.objs.size = some { cls := .type "list", dict := none, data := .seq its.toArray c', slots := #[] } -> EP X pins σ Q (.ref s.heap.objs.size) { s with heap := h' } := fun its r' hz h' c' kp e =>
  ⟨.ref s.heap.objs.size, _, I.laid (t' := s.toks) kp (Nat.le_refl _) (show ObjOk X.prog X.w _ h' _ (.lst ys) from ⟨hz, its, c', r', e⟩), rfl, q _ (I.hok.fresh (Nat.le_refl _))⟩
 rcases hq with hq | hq
 ·obtain ⟨its, r', pl, hz⟩ := I.list hq
  have hlen := r'.length
  obtain ⟨o, ho, hc, n, hd⟩ := pl.isList
  exact call_list_seq p (.inl rfl) ho hc hd (fun h' c' kp e => fin its r' hz h' c' kp e) (by simp only [List.size_toArray] <;> omega)
 ·obtain ⟨its, r', pl, hz⟩ := I.tuple hq
  have hlen := r'.length
  obtain ⟨o, ho, hc, n, hd⟩ := pl
  exact call_list_seq p (.inr rfl) ho hc hd (fun h' c' kp e => fin its r' hz h' c' kp e) (by simp only [List.size_toArray] <;> omega)
variable {o e : Expr} {es : List Expr} {to : TE} {t : TA} {name : Str} {apos cpos : Pos} {T id : String} {r : V -> List V -> Hp -> VK -> Prop}
end
end L2
namespace L2
open PySem PySem.Spec PyProof.Rows
section
variable {X : Cx} {pins : List (Addr × Obj)} {σ : St} {H : Hp} {s : Shared} {l b : Addr} {xs ys zs : List V}
theorem Inv.lset {its its' : List Value} {n : Nat} {f : Array Value -> Array Value} {t' : Nat} (I : Inv X pins σ H s) (hH : H l = some (.lst xs))
  (e : s.heap.get? l = some { cls := .type "list", data := .seq its.toArray n }) (hf : f its.toArray = its'.toArray) (hv : Vals ys its') (hz : ys.length <= sizeLine) :
  Inv X pins σ (upd H l (.lst ys)) { s with heap := s.heap.update l (Obj.mapSeq f), toks := t' } := by
 have q := PySem.IsL.update e f
 rw [hf] at q
 refine I.write (x := l) (e := l) (by rw [hH]; exact trivial) (.inl rfl) (fun b' u hb hu => (Heap.get?_update_other s.heap (Obj.mapSeq f) (Ne.symm hb)).trans hu) ⟨_, q⟩ ?_
 exact ⟨hz, its', _, hv, q⟩
theorem Inv.lnew {its : List Value} {t' : Nat} (I : Inv X pins σ H s) (hv : Vals ys its) (hz : ys.length <= sizeLine) :
  Inv X pins σ (upd H s.heap.objs.size (.lst ys)) { s with heap := s.heap.push { cls := .type "list", data := .seq its.toArray }, toks := t' } :=
 I.laid (fun _ _ q => Heap.get?_push_of_some _ q) (Nat.le_refl _) ⟨hz, its, 0, hv, Heap.get?_push_size _ rfl⟩
theorem Inv.fresh (I : Inv X pins σ H s) : H s.heap.objs.size = none := I.hok.fresh (Nat.le_refl _)
theorem Inv.lstM (I : Inv X pins σ H s) (hH : H l = some (.lst xs)) : xs.length <= sizeLine /\ ∃ (its : List Value) (n : Nat), Vals xs its /\ xs.length = its.length /\ s.heap.get? l = some { cls := .type "list", data := .seq its.toArray n } := by
 obtain ⟨z, its, n, r, e⟩ := I.hok l _ hH
 exact ⟨z, its, n, r, r.length, e⟩
theorem nZ {n : Nat} (h : n <= sizeLine) : Builtin.List.listTooLong n = false := by
 unfold Builtin.List.listTooLong
 exact decide_eq_false (by omega)
end
section
variable {X : Cx}
noncomputable def lV : R2 := fun x y H Q => ∃ l b xs zs, x = .ref l /\ y = .ref b /\ H l = some (.lst xs) /\ H b = some (.lst zs) /\ xs.length + zs.length <= sizeLine /\ ∀ p, H p = none -> Q (.ref p) (upd H p (.lst (xs ++ zs)))
theorem B5 : OpR X (binaryOp .Add) lV := by
 intro pins s σ H x y v u Q I rx ry h
 obtain ⟨l, b, xs, zs, rfl, rfl, hH, hB, hz, q⟩ := h
 cases rx
 cases ry
 obtain ⟨z, its, n, r, hl, e⟩ := I.lstM hH
 obtain ⟨z2, its2, n2, r2, hl2, e2⟩ := I.lstM hB
 refine PySem.P.add_list e e2 ?_ (by rw [List.size_toArray, List.size_toArray]; omega)
 have ea : its.toArray ++ its2.toArray = (its ++ its2).toArray := by simp
 rw [ea]
 exact ⟨.ref _, _, I.lnew (t' := s.toks) (r.append r2) (by rw [List.length_append]; omega), rfl, q _ I.fresh⟩
end
section
variable {prog : Program} {w : World} {A : Around} {E : Value -> Shared -> Prop} {s : Shared}
theorem tj (its its2 : List Value) (a c : Nat) : its.toArray.extract 0 a ++ its2.toArray ++ its.toArray.extract c its.toArray.size = (its.take a ++ its2 ++ its.drop c).toArray := by
 apply Array.toList_inj.mp
 first
  | (
    simp
    exact List.take_of_length_le (by simp))
  | simp [List.take_of_length_le]
  | simp
theorem qp {a c n : Nat} (hac : a <= c) (hc : c <= n) : sliceBounds (some (a : Int)) (some (c : Int)) none n = ((a : Int), (c : Int), 1) := by
 simp only [sliceBounds, Option.getD_none]
 have h1 : ¬ ((a : Int) < 0) := by omega
 have h2 : ¬ ((c : Int) < 0) := by omega
 simp only [h1, h2, if_false, show (1 : Int) > 0 by decide, if_true]
 congr 1
 ·omega
 ·congr 1; omega
set_option maxRecDepth 100000 in
theorem my {l b sl : Addr} {items new : Array Value} {n n2 : Nat} {vl vu : Value} {a c : Nat} {Q : Unit -> Shared -> Prop}
  (e : s.heap.get? l = some { cls := .type "list", data := .seq items n }) (e2 : s.heap.get? b = some { cls := .type "list", data := .seq new n2 }) (hne : l ≠ b)
  (hs : s.heap.IsSliceOf sl vl vu .none) (pl : IsPart vl (some (a : Int))) (pu : IsPart vu (some (c : Int))) (hac : a <= c) (hc : c <= items.size)
  (hsz : items.size + new.size <= sizeLine) (h : Q () { s with heap := s.heap.update l (Obj.mapSeq fun xs => xs.extract 0 a ++ new ++ xs.extract c xs.size) }) :
  wpAny (model prog w) A (setItem (.ref l) (.ref sl) (.ref b)) Q E s := by
 have hl : s.heap.IsList l items := PySem.IsL.isList e
 have hb : s.heap.IsList b new := PySem.IsL.isList e2
 obtain ⟨os, hos, hcs, hds⟩ := id hs
 have hTs : s.TypeIs (.ref sl) "slice" := ⟨os, hos, hcs⟩
 have hstep : ¬ ((rawPart none == rawInt 0) = true) := Bool.false_ne_true
 have hsame : Builtin.List.listSameRef (.ref l) (.ref b) = false := by
  unfold Builtin.List.listSameRef
  exact beq_eq_false_iff_ne.mpr hne
 have hmax : (max (a : Int) (c : Int)).toNat = c := by omega
 have hz' : ((fun xs : Array Value => xs.extract 0 a ++ new ++ xs.extract c xs.size) items).size <= sizeLine + 1 := by
  simp only [Array.size_append, Array.size_extract]
  omega
 unfold setItem
 try with_reducible refine wpAny_holding ?_
 first | refine wpAny_bind (wpAny_pure ?_) | skip
 refine wpAny_bind (wpAny_sequenceKey hl.typeIs (by decide) ?_)
 refine wpAny_bind (wpAny_callSpecial?_slot (name := Str.ofString "__setitem__") hl.typeIs slot_list_setitem
  (wpAny_call_entry slot_list_setitem hl.typeIs entry_list_setitem ?_ (args_list_setitem _ _ _)))
 show wpAny _ _ (Builtin.List.listSubscript? (.ref sl) >>= _) _ _ s
 refine wpAny_bind ?_
 unfold Builtin.List.listSubscript?
 refine wpAny_bind (wpAny_specialOf hTs slice_no_index ?_)
 simp only [Option.isNone_none, if_true]
 refine wpAny_pure ?_
 show wpAny _ _ (typeOf (.ref sl) >>= _) _ _ s
 refine wpAny_bind (wpAny_typeOf hTs ?_)
 first
  | rw [if_neg (by decide)]
  | refine PySem.W.KFB.if_not (by decide) ?_
 rw [listSliceParts_eq]
 refine wpAny_bind (wpAny_bind (wpAny_field hos hds (x := .none) rfl (wpAny_bind (wpAny_listPart .none ?_))))
 rw [if_neg hstep]
 refine wpAny_bind (wpAny_field hos hds (x := vl) rfl (wpAny_bind (wpAny_listPart pl ?_)))
 refine wpAny_bind (wpAny_field hos hds (x := vu) rfl (wpAny_bind (wpAny_listPart pu (wpAny_pure ?_))))
 first
  | simp only [hsame, Bool.false_eq_true, if_false]
  | refine PySem.W.KFB.if_not hsame ?_
  | (
    dsimp only
    rw [if_neg (by rw [hsame]; exact Bool.false_ne_true)])
 refine wpAny_bind (m := Builtin.List.listAllItems (.ref b) "must assign iterable to extended slice") ?_
 unfold Builtin.List.listAllItems
 refine wpAny_bind (wpAny_typeOf hb.typeIs ?_)
 first
  | refine PySem.W.KFB.if_so (by decide) ?_
  | rw [if_pos (by decide)]
  | simp only [beq_self_eq_true, Bool.true_or, if_true]
 unfold Builtin.List.listItems
 refine wpAny_bind (wpAny_seqItems e2 rfl (wpAny_pure ?_))
 refine wpAny_bind (wpAny_bind (wpAny_seqItems e rfl (wpAny_pure ?_)))
 refine wpAny_bind (wpAny_of_eq ((sliceIndices_raw (some (a : Int)) (some (c : Int)) none items.size (by simp)).trans (congrArg (pure : Int × Int × Int -> Sem (Int × Int × Int)) (qp hac hc))) ?_)
 show wpAny _ _ (if ((1 : Int) == 1) = true then _ else _) _ _ s
 rw [if_pos (by decide)]
 refine wpAny_bind (wpAny_rule ?_)
 first
  | simp only [nZ hsz, Bool.false_eq_true, if_false]
  | refine PySem.W.KFB.if_not (nZ hsz) ?_
 first | refine wpAny_bind (wpAny_pure ?_) | skip
 show wpAny _ _ (updateSeq l (fun xs => xs.extract 0 ((a : Int)).toNat ++ new ++ xs.extract (max (a : Int) (c : Int)).toNat xs.size) >>= _) _ _ s
 rw [hmax, Int.toNat_natCast]
 refine wpAny_bind (wpAny_updateSeq (hz := Nat.le_trans (Nat.le_add_right _ _) hsz) (_hz' := hz') e rfl ?_)
 refine wpAny_bind (wpAny_letGo ?_)
 first
  | exact wpAny_bind (wpAny_pure (wpAny_pure ⟨.none, rfl, wpAny_pure h⟩))
  | exact wpAny_pure ⟨.none, rfl, wpAny_pure h⟩
end
section
variable {X : Cx}
theorem sg {pins : List (Addr × Obj)} {s : Shared} {σ : St} {H : Hp} {l b sl : Addr} {xs ys : List V} {a c : Int} {vl vu : Value} {Q : Unit -> Shared -> Prop} (I : Inv X pins σ H s)
  (hH : H l = some (.lst xs)) (hB : H b = some (.lst ys)) (hne : l ≠ b) (hs : s.heap.IsSliceOf sl vl vu .none) (ra : RelV (.int a) vl) (rc : RelV (.int c) vu) (h0 : 0 <= a) (hac : a <= c) (hc : c <= xs.length)
  (hz : xs.length + ys.length <= sizeLine) (h : ∀ s', Inv X pins σ (upd H l (.lst (xs.take a.toNat ++ ys ++ xs.drop c.toNat))) s' -> Q () s') :
  wpAny (model X.prog X.w) X.A (setItem (.ref l) (.ref sl) (.ref b)) Q X.xe s := by
 obtain ⟨ta, rfl⟩ := ra
 obtain ⟨tc, rfl⟩ := rc
 obtain ⟨z, its, n, r, hl, e⟩ := I.lstM hH
 obtain ⟨z2, its2, n2, r2, hl2, e2⟩ := I.lstM hB
 obtain ⟨a', rfl⟩ := Int.eq_ofNat_of_zero_le h0
 obtain ⟨c', rfl⟩ := Int.eq_ofNat_of_zero_le (Int.le_trans h0 hac)
 simp only [Int.toNat_natCast] at h
 refine my (a := a') (c := c') e e2 hne hs (.int _ _) (.int _ _) (by omega) (by rw [List.size_toArray]; omega) (by rw [List.size_toArray, List.size_toArray]; omega) (h _ ?_)
 refine I.lset (its' := its.take a' ++ its2 ++ its.drop c') (t' := s.toks) hH e ?_ (Vals.append (Vals.append (r.take _) r2) (r.drop _)) ?_
 ·exact tj its its2 a' c'
 ·rw [List.length_append, List.length_append, List.length_take, List.length_drop]
  omega
end
end L2
namespace Att
open PySem PySem.W PySem.Calls PyProof.Rows
theorem ke {P : Params} {h : Heap} : ∀ (ns : List Int) (vs : List Value), WellAll P h vs (ns.map WData.int) -> IntsAre vs ns := by
 intro ns
 induction ns with
 |
  nil =>
  intro vs w
  rw [List.map_nil] at w
  cases w
  exact .nil
 |
  cons n ns ih =>
  intro vs w
  rw [List.map_cons] at w
  cases w with
  |
   cons a b =>
   cases a
   exact .cons _ _ (ih _ b)
theorem uh {l : OpenLaw} {n : Nat} (hn : l.most = some n) {P : Params} {h : Heap} {args : List WData} {vals : List Value}
  (hpre : l.row.toRowW.claim.pre args = true) (hwl : WellAll P h vals args) :
  ∃ a vs ns, vals = [Value.ref a] /\ args = [WData.list (ns.map WData.int)] /\ h.get? a = some { cls := .type "list", data := .seq vs.toArray } /\ IntsAre vs ns /\ ns.length <= n := by
 have hsh : WShape.hasAll [] args [.list .int] = true := (pre_splitW hpre).1
 have hc : l.pre.holds [] { args := args } = true := (pre_splitW hpre).2
 obtain ⟨d, r, rfl, h1, h2⟩ := hasAllW_cons hsh
 obtain rfl := hasAllW_nil h2
 obtain ⟨xs, rfl, h3⟩ := hasW_list h1
 obtain ⟨ns, rfl⟩ := items_int h3
 have hlen : ns.length <= n := by
  unfold OpenLaw.pre at hc
  have h4 : (WTm.not (.lt (.lit (.int (n : Int))) (.len (.arg 0)))).holds [] { args := [.list (ns.map .int)] } = true := by
   have h4 := (holds_andW hc).1
   rw [hn] at h4
   exact h4
  have h5 := condW_of h4 (w_not (w_lt w_lit (w_len_list (w_arg rfl))))
  rw [List.length_map] at h5
  refine Nat.le_of_not_lt fun q => ?_
  have q' : (n : Int) < ((ns.length : Nat) : Int) := by omega
  first
   | (rw [decide_eq_true q'] at h5; exact absurd h5 (by decide))
   | (simp at h5; omega)
 cases hwl with
 |
  cons w1 w2 =>
  cases w2
  cases w1 with
  | list ho hall => exact ⟨_, _, ns, rfl, rfl, ho, ke ns _ hall, hlen⟩
theorem t6 (l : OpenLaw) (args : List WData) : l.row.toRowW.claim.post args (.bool true) args = true :=
 postW_of (r := l.row.toRowW) (X := (true == true))
  (show WShape.has [] (.bool true) .bool = true by first | rfl | decide | simp [WShape.has, WShape.arms, WShape.armsAll])
  (show (WTm.eq .res (.lit (.bool true))).value [] { args := args, res := some (.bool true), after := args } = some (.bool (true == true)) from w_eq_bool (w_res rfl) w_lit) rfl
theorem attach_call {l : OpenLaw} {n : Nat} {q : Program} {loose : List Str} {XP : (Str -> Option Value) -> Heap -> Prop} {YP : World -> Heap -> Prop} {d : DefRec}
  (hn : l.most = some n) (hdf : d.params.defaults = [])
  (call : ∀ (w : World) (s₀ s₁ : Shared) (mg mb : Str -> Option Value) (fa : Addr) (o : Obj) (pm cd doc : Value) (a : Addr) (vs : List Value) (ns : List Int),
   Ground q loose [] XP w s₀ mg mb s₁.heap -> YP w s₁.heap ->
   s₁.heap.get? fa = some o -> o.data = .func (docDef d.name d.params d.body d.scope pm cd doc) -> s₁.heap.CodeRec cd d.name -> mg d.name = some (.ref fa) ->
   s₁.heap.get? a = some { cls := .type "list", data := .seq vs.toArray } -> IntsAre vs ns -> ns.length <= n -> s₁.gens = #[] ->
   codeAny (model l.prog w) callerA (.call (.ref fa) ⟨[.ref a], []⟩) (fun r s' => r = .ok (.ret (.bool true)) /\ OldK s₁.heap s'.heap /\ s'.os = s₁.os /\ AllBare s'.gens) s₁) :
  WalkO q loose XP YP l.row.toRowW d [] (fun f vs => PySem.call f vs) := by
 intro w s₀ s₁ mg mb G Y fa o pm cd doc dV kV ho hd hcd hD hmg hg args vals as hpre hlay hrd hwl hlo
 obtain rfl : dV = .none := Dflts.none hD hdf
 obtain rfl : kV = .none := Dflts.noKw hD
 obtain ⟨a, vs, ns, rfl, rfl, hobj, hints, hlen⟩ := uh hn hpre hwl
 refine enter_call (codeAny_mono (call w s₀ s₁ mg mb fa o pm cd doc a vs ns G Y ho (fd_plain hd) hcd hmg hobj hints hlen hg) fun r s' hq => ?_)
 obtain ⟨rfl, h2, h3, h4⟩ := hq
 exact ⟨.inl ⟨.bool true, .bool true, [], rfl, fun _ => rfl, .bool true, t6 l _, fun _ => ⟨List.Pairwise.nil, fun _ hm => (nomatch hm)⟩⟩, h2, h3, h4⟩
section
variable {prog : Program} {w : World} {A : Around} {E : Value -> Shared -> Prop} {s : Shared} {K : Frag}
noncomputable def ledger (h : Heap) (L d : Addr) : List (Addr × Obj) := (List.range h.objs.size).filterMap fun a => if a = L \/ a = d then none else (h.get? a).map fun o => (a, o)
end
end Att
namespace L2
open PySem PySem.Spec PyProof.Rows
theorem ma : ∀ {vs : List Value} {ns : List Int}, IntsAre vs ns -> Vals (ns.map V.int) vs
 | _, _, .nil => .nil
 | _, _, .cons n t h => .cons ⟨t, rfl⟩ (ma h)
noncomputable def kZ (H : Hp) : Prop := ∀ b, H b = none \/ ∃ o xs, H b = some (.frz o (.lst xs))
theorem
    um {P : Program} {w : World} {K : PySem.W.Frag} {mg mb : Str -> Option Value} {CX : CXT} {k : Nat} {fa a : Addr} {fd : FuncData} {x : Str} {sp : Sp} {s₁ : Shared} {vs : List Value} {ns : List Int}
  (KX : K.In s₁.heap) (hns : s₁.heap.Ns mainGlobals mg) (hb : s₁.heap.Ns builtinsNs mb) (hbb : ∀ x : Str, x ≠ "__name__" -> mb x = bootBuiltins x) (hlim : s₁.heap.NoLimit) (hg : s₁.gens = #[])
  (ha : s₁.heap.get? a = some { cls := .type "list", data := .seq vs.toArray }) (hi : IntsAre vs ns) (hl : ns.length <= sizeLine) (hr : Room k callerA)
  (F : ∀ base : Heap, K.In base -> base.Ns mainGlobals mg -> FnOk P w K mg base CX k fa fd [x] sp) (hbind : ∀ (s : Shared) (u : Value), BindsTo s fd ⟨[u], []⟩ [(x, u)])
  (hsp : ∀ H : Hp, kZ H -> SqL K H a (ns.map V.int) -> sp [.ref a] H (fun v _ => v = .bl true) fun _ _ _ => False)
  (hCX : ∀ H e s', CX [] H s₁ (fun _ _ _ => False) e s' -> False) :
  codeAny (model P w) callerA (.call (.ref fa) ⟨[.ref a], []⟩) (fun r s' => r = .ok (.ret (.bool true)) /\ OldK s₁.heap s'.heap /\ s'.os = s₁.os /\ AllBare s'.gens) s₁ := by
 have rv := ma hi
 have lenV := hi.length
 have core
      : ∀ H : Hp, kZ H -> SqL K H a (ns.map V.int) -> HOk P w H s₁.heap -> (∀ b, H b ≠ none -> b = a) -> (H a ≠ none -> K.lookup a = none) ->
   codeAny (model P w) callerA (.call (.ref fa) ⟨[.ref a], []⟩) (fun r s' => r = .ok (.ret (.bool true)) /\ OldK s₁.heap s'.heap /\ s'.os = s₁.os /\ AllBare s'.gens) s₁ := by
  intro H hO hS hok hA hK
  have base_of : ∀ {b : Addr} {o : Obj}, s₁.heap.get? b = some o -> H b = none -> (ir s₁.heap H).get? b = some o := fun e n => uG e n
  have noA : ∀ {b : Addr} {o : Obj} {es : Array DictEntry} {ep : Nat}, s₁.heap.get? b = some o -> o.data = .dict es ep -> H b = none := fun {b o es ep} e d => by
   cases q : H b with
   | none => rfl
   |
    some u =>
    have e' : b = a := hA b (by rw [q]; simp)
    subst e'
    rw [ha] at e; cases e
    have d' : Data.seq vs.toArray _ = Data.dict es ep := d
    cases d'
  have nsK : ∀ {b : Addr} {m : Str -> Option Value}, s₁.heap.Ns b m -> (ir s₁.heap H).Ns b m := fun {b m} ⟨o, es, ep, e, d, r⟩ => ⟨o, es, ep, base_of e (noA e d), d, r⟩
  have hKb : K.In (ir s₁.heap H) := fun b o e => base_of (KX b o e) (by
   cases q : H b with
   | none => rfl
   |
    some u =>
    have e' : b = a := hA b (by rw [q]; simp)
    subst e'
    rw [hK (by rw [q]; simp)] at e; cases e)
  have hM : Mod K mg (ir s₁.heap H) := ⟨hKb, nsK hns, ⟨mb, nsK hb, hbb⟩, let ⟨mc, h1, h2⟩ := hlim; ⟨mc, nsK h1, h2⟩⟩
  have e0 : Env0 P w K mg (ir s₁.heap H) callerA [] s₁ H := ⟨rfl, hM, fun b o e => xG e, Nat.le_of_eq (sR _ _), trivial, fun b hb => absurd (show b ∈ ([] : List Addr) from hb) (by simp), hok, .of_eq hg⟩
  refine codeAny_mono ((F _ hKb (nsK hns)).run callerA [] s₁ H ⟨[.ref a], []⟩ [.ref a] [.ref a] _ _ hr e0 (hbind s₁ (.ref a)) (.cons rfl .nil) (hsp H hO hS)) fun r s' h => ?_
  cases r with
  | error e => exact (hCX H e s' h).elim
  |
   ok fl =>
   cases fl with
   | next => exact False.elim h
   | brk => exact False.elim h
   | cont => exact False.elim h
   |
    ret u =>
    obtain ⟨v, H', os, bare, un, hok', r', q⟩ := h
    have q' : v = .bl true := q
    subst q'
    obtain rfl : u = Value.bool true := r'
    refine ⟨rfl, OldK.of_keep fun b o e => ?_, os, bare⟩
    cases q : H b with
    | none => exact un.keep b o e q (by intro z; exact absurd (show b ∈ ([] : List Addr) from z) (by simp)) (by simp)
    |
     some u =>
     rcases hO b with z | ⟨ob, xs, z⟩
     ·rw [q] at z; cases z
     ·have z2 := un.frzs b ob _ z
      obtain ⟨e1, _⟩ := hok b _ z
      obtain ⟨e2, _⟩ := hok' b _ z2
      rw [e] at e1; cases e1
      exact e2
 cases hk : K.lookup a with
 |
  some o =>
  have e := KX a o hk
  rw [ha] at e
  cases e
  refine core (fun _ => none) (fun _ => .inl rfl) (.inr ⟨_, vs.toArray, _, hk, rfl, rfl, rfl, by rw [List.size_toArray, lenV]; exact hl, by simpa using rv⟩) (fun b u z => by have z' : (none : Option HO) = some u := z; cases z') (fun b z => absurd rfl z) fun z => absurd rfl z
 |
  none =>
  refine core (fun b => if b = a then some (.frz { cls := .type "list", data := .seq vs.toArray } (.lst (ns.map V.int))) else none) (fun b => ?_) (.inl (.inr ⟨{ cls := .type "list", data := .seq vs.toArray }, if_pos rfl⟩)) (fun b u z => ?_) (fun b z => ?_) fun _ => hk
  ·by_cases hb : b = a
   ·exact .inr ⟨_, _, if_pos hb⟩
   ·exact .inl (if_neg hb)
  ·by_cases hb : b = a
   ·have z' := (if_pos hb).symm.trans z
    cases z'
    subst hb
    exact ⟨ha, by rw [List.length_map]; exact hl, vs, _, rv, ha⟩
   ·have z' := (if_neg hb).symm.trans z
    cases z'
  ·by_cases hb : b = a
   ·exact hb
   ·exact absurd (if_neg hb) z
end L2
namespace L2
open PySem PySem.Spec PyProof.Rows
abbrev KOf {K : PySem.W.Frag} {h : Heap} (_ : K.In h) : PySem.W.Frag := K
theorem
    walk_of {l : PySem.W.OpenLaw} {n k : Nat} {q : Program} {loose : List Str} {XP : (Str -> Option Value) -> Heap -> Prop} {YP : World -> Heap -> Prop} {d : DefRec} {K : Params -> PySem.W.Frag} {CX : World -> CXT} {sp : World -> Sp} {x : Str}
  (hn : l.most = some n) (hn2 : n <= sizeLine) (hdf : d.params.defaults = []) (hr : Room k callerA)
  (hY : ∀ (w : World) (h : Heap), YP w h -> (K w.params).In h)
  (F : ∀ (w : World) (mg : Str -> Option Value) (fa : Addr) (h : Heap), (K w.params).In h -> h.Ns mainGlobals mg -> mg d.name = some (.ref fa) ->
   ∃
    fd : FuncData, (∀ (s : Shared) (u : Value), BindsTo s fd ⟨[u], []⟩ [(x, u)]) /\
    ∀ base : Heap, (K w.params).In base -> base.Ns mainGlobals mg -> FnOk l.prog w (K w.params) mg base (CX w) k fa fd [x] (sp w))
  (hsp : ∀ (w : World) (H : Hp) (a : Addr) (ns : List Int), ns.length <= n -> kZ H -> SqL (K w.params) H a (ns.map V.int) -> sp w [.ref a] H (fun v _ => v = .bl true) fun _ _ _ => False)
  (hCX : ∀ (w : World) (H : Hp) (s : Shared) (e : Value) (s' : Shared), CX w [] H s (fun _ _ _ => False) e s' -> False) :
  PySem.W.WalkO q loose XP YP l.row.toRowW d [] (fun f vs => PySem.call f vs) := by
 refine Att.attach_call hn hdf fun w s₀ s₁ mg mb fa o pm cd doc a vs ns G Y ho hd hcd hmg hobj hints hlen hg => ?_
 have KX := hY w _ Y
 obtain ⟨fd, hb, hF⟩ := F w mg fa _ KX G.T.g hmg
 exact um KX G.T.g G.T.b G.T.builtins G.T.nolimit hg hobj hints (Nat.le_trans hlen hn2) hr hF hb (fun H hO hS => hsp w H a ns hlen hO hS) fun H e s' => hCX w H s₁ e s'
end L2
namespace L2
open PySem PySem.Spec PyProof.Rows
noncomputable def dN (s : Stmt) : Arguments := match s with
 | .FunctionDef _ a _ _ _ _ _ _ _ _ => a
 | _ => { posonlyargs := [], args := [], vararg := none, kwonlyargs := [], kw_defaults := [], kwarg := none, defaults := [] }
noncomputable def cA (s : Stmt) : List Stmt := match s with
 | .FunctionDef _ _ b _ _ _ _ _ _ _ => b
 | _ => []
noncomputable def aA (s : Stmt) : Scope := match s with
 | .FunctionDef _ _ _ _ _ _ sc _ _ _ => sc
 | _ => { kind := .function, names := [], isGenerator := false, isCoroutine := false }
abbrev E0 : XK := fun _ _ _ => False
structure Fun (K : PySem.W.Frag) (x qual : Str) (st : Stmt) (f : Addr) (fd : FuncData) : Prop where
 ex : ∃ (oc : Value) (od : Option Addr) (kV doc pm : Value) (an : Option Addr) (cdv ct : Value) (osl : Array (Option Value)),
  fd = PySem.W.fnOf x qual (dN st) (cA st) (aA st) .none kV doc pm an cdv ct /\ K.lookup f = some ⟨oc, od, .func fd, osl⟩ /\ PySem.W.codeIn K cdv qual = true
 kp : PySem.W.keepIn K (.ref f) = true
section
variable {P : Program} {w : World} {K : PySem.W.Frag} {mg : Str -> Option Value} {base : Heap}
theorem Fun.binds {x qual : Str} {st : Stmt} {f : Addr} {fd : FuncData} {ps : List Str} (F : Fun K x qual st f fd)
  (h : ∀ (kV doc pm : Value) (an : Option Addr) (cdv ct : Value) (us : List Value), us.length = ps.length -> bindArgs (PySem.W.fnOf x qual (dN st) (cA st) (aA st) .none kV doc pm an cdv ct) ⟨us, []⟩ = pure (ps.zip us)) : Binds K fd ps [] := by
 obtain ⟨oc, od, kV, doc, pm, an, cdv, ct, osl, rfl, lk, hcd⟩ := F.ex
 exact .all (h kV doc pm an cdv ct)
theorem Bj {x qual : Str} {st : Stmt} {f : Addr} {oc : Value} {od an : Option Addr} {osl : Array (Option Value)} {kV doc pm cdv ct : Value} (l : K.lookup f = some ⟨oc, od, .func (PySem.W.fnOf x qual (dN st) (cA st) (aA st) .none kV doc pm an cdv ct), osl⟩)
  (c : PySem.W.codeIn K cdv qual = true) (k : PySem.W.keepIn K (.ref f) = true) : Fun K x qual st f (PySem.W.fnOf x qual (dN st) (cA st) (aA st) .none kV doc pm an cdv ct) := ⟨⟨oc, od, kV, doc, pm, an, cdv, ct, osl, rfl, l, c⟩, k⟩
end
section
variable {X : Cx}
end
end L2
set_option Elab.async false
set_option linter.all false
set_option maxRecDepth 100000
namespace L2
open PySem PySem.Spec PyProof.Rows
section
variable {X : Cx} {pins : List (Addr × Obj)} {σ : St} {H : Hp} {s : Shared}
theorem Inv.track {a : Addr} {o : HO} (I : Inv X pins σ H s) (hn : H a = none) (h0 : X.s₀.heap.get? a = none) (hL : a ≠ X.env.locals) (hc : ∀ x c, X.env.cells.lookup x = some c -> c ≠ a)
  (hp : ∀ p ∈ X.pn ++ pins, p.1 ≠ a) (new : ObjOk X.prog X.w (upd H a o) s.heap a o) : Inv X pins σ (upd H a o) s := by
 have ne : ∀ b u, H b = some u -> b ≠ a := fun b u e z => by rw [z, hn] at e; cases e
 have ne0 : ∀ b u, X.s₀.heap.get? b = some u -> b ≠ a := fun b u e z => by rw [z, h0] at e; cases e
 refine ⟨I.ok, I.os, I.bare, ⟨I.base.keep, I.base.slot, fun b u e n hx => ?_, I.base.there, fun b xs e => ?_, fun b u xs e => ?_, fun b ps e => ?_⟩, I.loc, I.cell, ?_, fun x c e => ?_, fun p hp' => ?_, fun b u e => ?_, I.len⟩
 ·rw [aL (ne0 b u e)]; exact I.base.free b u e n hx
 ·have q := I.base.tups b xs e
  rw [aL (ne _ _ q)]; exact q
 ·have q := I.base.frzs b u xs e
  rw [aL (ne _ _ q)]; exact q
 ·obtain ⟨m, q⟩ := I.base.tbls b ps e
  exact ⟨m, by rw [aL (ne _ _ q)]; exact q⟩
 ·rw [aL (Ne.symm hL)]; exact I.free
 ·rw [aL (hc x c e)]; exact I.freeC x c e
 ·obtain ⟨e, n, r⟩ := I.pin p hp'
  exact ⟨e, by rw [aL (hp p hp')]; exact n, r⟩
 ·by_cases hb : b = a
  ·subst hb; rw [df] at e; cases e; exact new
  ·rw [aL hb] at e
   exact (I.hok b u e).stay (fun c v _ q => q) (fun c q => by rw [aL (ne _ _ q)]; exact q) fun c xs q => by rw [aL (ne _ _ q)]; exact q
end
theorem
    g7 {env : Env} : ∀ {names : List (Str × NameKind)} (cs : List (Str × Addr)), (∀ x ∈ names, x.2 = .free -> ∃ c, env.cells.lookup x.1 = some c) -> (∀ x c, cs.lookup x = some c -> env.cells.lookup x = some c) ->
  ∃
   cl, (forIn names cs fun (x : Str × NameKind) (r : List (Str × Addr)) => if (x.2 == NameKind.free) = true then do let a <- cellOf env x.1; pure (ForInStep.yield ((x.1, a) :: r)) else pure (ForInStep.yield r) : Sem (List (Str × Addr))) = pure cl /\
   (∀ x c, cl.lookup x = some c -> env.cells.lookup x = some c) /\ (∀ x c, cs.lookup x = some c -> ∃ c', cl.lookup x = some c') /\ ∀ x ∈ names, x.2 = .free -> ∃ c, cl.lookup x.1 = some c
 | [], cs, _, h => ⟨cs, by simp, h, fun x c e => ⟨c, e⟩, fun _ hx => nomatch hx⟩
 |
  (n, k) :: r, cs, hf, h => by
  rw [List.forIn_cons]
  by_cases hk : k = .free
  ·subst hk
   obtain ⟨c, hc⟩ := hf (n, .free) List.mem_cons_self rfl
   have hcell : cellOf env n = pure c := by unfold cellOf; rw [hc]
   have h' : ∀ x d, ((n, c) :: cs).lookup x = some d -> env.cells.lookup x = some d := fun x d e => by
    rw [List.lookup_cons] at e
    cases q : x == n with
    | true => rw [q] at e; cases e; rw [beq_iff_eq.mp q]; exact hc
    | false => rw [q] at e; exact h x d e
   obtain ⟨cl, e1, e2, e3, e4⟩ := g7 (env := env) (names := r) ((n, c) :: cs) (fun x hx => hf x (List.mem_cons_of_mem _ hx)) h'
   have top : ∃ c', cl.lookup n = some c' := e3 n c (by rw [List.lookup_cons]; simp)
   refine ⟨cl, ?_, e2, fun x d e => ?_, fun x hx hfr => ?_⟩
   ·simp only [beq_self_eq_true, if_true, hcell]
    exact e1
   ·by_cases q : x = n
    ·rw [q]; exact top
    ·exact e3 x d (by rw [List.lookup_cons, (beq_eq_false_iff_ne.mpr q : (x == n) = false)]; exact e)
   ·rcases List.mem_cons.mp hx with rfl | hx
    ·exact top
    ·exact e4 x hx hfr
  ·have hb : (k == NameKind.free) = false := by simpa using hk
   obtain ⟨cl, e1, e2, e3, e4⟩ := g7 (env := env) (names := r) cs (fun x hx => hf x (List.mem_cons_of_mem _ hx)) h
   refine ⟨cl, ?_, e2, e3, fun x hx hfr => ?_⟩
   ·simp only [hb, Bool.false_eq_true, if_false]
    exact e1
   ·rcases List.mem_cons.mp hx with rfl | hx
    ·exact absurd hfr hk
    ·exact e4 x hx hfr
theorem iP {env : Env} {scope : Scope} (hf : ∀ x ∈ scope.names, x.2 = .free -> ∃ c, env.cells.lookup x.1 = some c) :
  ∃ cl, closureFor scope env = pure cl /\ (∀ x c, cl.lookup x = some c -> env.cells.lookup x = some c) /\ ∀ x ∈ scope.names, x.2 = .free -> ∃ c, cl.lookup x.1 = some c := by
 obtain ⟨cl, e1, e2, _, e4⟩ := g7 (env := env) (names := scope.names) [] hf (fun x c e => by simp at e)
 refine ⟨cl, ?_, e2, e4⟩
 unfold closureFor
 simp only [e1]
 rfl
noncomputable def bu (X : Cx) (N : List Str) (scope : Scope) (cl : List (Str × Addr)) (C : Addr) (s₂ : Shared) (H : Hp) (fp : List Addr) : Cx :=
 { X with N := N, s₀ := s₂, H₀ := H, env := compEnvC scope cl C X.env, outer := X.stack, stack := X.stack, ex := fp, fn := fun _ => false, pn := [], xe := fun _ _ => False }
noncomputable def cH (sub : List (Option Nat)) (σ : St) : St := sub.map fun o => o.bind fun i => (σ[i]?).bind id
noncomputable def LcW (J : It) (sub : List (Option Nat)) (g : TG) (tc : TT) (te : TE) (σ : St) (H1 : Hp) (Q : VK) : Prop := ∃ W : Nat -> Nat -> List V -> St -> Hp -> Prop, (∃ m, W 0 m [] (cH sub σ) H1) /\ ∀ i m ys σ H, W i m ys σ H ->
 (J.stop i H /\ ys.length <= sizeLine /\ ∀ D, H D = none -> Q (.ref D) (upd H D (.lst ys))) \/
 (J.go i H /\ ys.length < sizeLine /\ ∃ Nx : List V -> St -> Hp -> Prop, (∀ ys' σ' H', Nx ys' σ' H' -> ∃ m', m' < m /\ W (i + 1) m' ys' σ' H') /\
  ∀ x H', J.yld i H x H' -> g x σ H' fun σ2 H2 => tc σ2 H2 fun b H3 => if b = true then te σ2 H3 fun y H4 => Nx (ys ++ [y]) σ2 H4 else Nx ys σ2 H3)
noncomputable def jH (wi : TI) (sub : List (Option Nat)) (g : TG) (tc : TT) (te : TE) : TE := fun σ H Q => wi σ H fun J H1 => LcW J sub g tc te σ H1 Q
abbrev vg : TT := fun _ H Q => Q true H
section
variable {prog : Program} {w : World} {A : Around} {R : Result -> Shared -> Prop} {s : Shared}
theorem jk {elt target iter : Expr} {ifs : List Expr} {scope : Scope} {pos : Pos} {it acc : Value} {env : Env} (I : Nat -> Shared -> Prop)
  (turn
     : ∀ n s, I n s -> wpAny (model prog w) A (pyNext it) (fun r s₁ => match r with
   | none => R (.ok .next) s₁
   | some v => wpAny (model prog w) A (letOwnedTupleGo target it v) (fun _ s₁' => wpAny (model prog w) A (assign target env v) (fun _ s₂ =>
     wpAny (model prog w) A (forIn ifs true fun c r => if r = true then do let ok <- isTrue c env (eval c env); pure (ForInStep.yield ok) else pure (ForInStep.yield r))
      (fun ok s₃ => if ok = true then wpAny (model prog w) A (eval elt env) (fun x s₄ => wpAny (model prog w) A (call (.builtin "list.append") [acc, x]) (fun _ s₅ => ∃ m, m < n /\ I m s₅) (fun _ _ => False) s₄) (fun _ _ => False) s₃
       else ∃ m, m < n /\ I m s₃) (fun _ _ => False) s₂) (fun _ _ => False) s₁') (fun _ _ => False) s₁) (fun _ _ => False) s)
  (n : Nat) (h : I n s) :
  codeAny (model prog w) A (.compLoop (.ListComp elt [⟨target, iter, ifs, 0⟩] scope pos) 0 it acc env) R s := by
 refine codeAny_loop rfl I (fun n s hI => ?_) n h
 show wpAny _ _ ((compTurn (.ListComp elt [⟨target, iter, ifs, 0⟩] scope pos) 0 it acc env).onRaise (fun x => do noteFrame x env; theTreesLotGoes x)) _ _ s
 refine wpAny_noted ?_
 rw [compTurn_list]
 refine wpAny_mono (E := fun _ _ => False) ?_ (fun _ _ q => q) fun _ _ q => q.elim
 refine wpAny_bind (wpAny_standAt (wpAny_bind (wpAny_mono (turn n s hI) (fun r s₁ h₁ => ?_) fun _ _ h' => h')))
 cases r with
 | none => exact wpAny_pure h₁
 |
  some v =>
  refine wpAny_bind (wpAny_mono h₁ (fun _ s₁' h₁' => ?_) fun _ _ h' => h')
  refine wpAny_bind (wpAny_mono h₁' (fun _ s₂ h₂ => ?_) fun _ _ h' => h')
  refine wpAny_bind (wpAny_mono h₂ (fun ok s₃ h₃ => ?_) fun _ _ h' => h')
  cases ok with
  |
   true =>
   simp only [if_true] at h₃ ⊢
   refine wpAny_bind (wpAny_bind (wpAny_mono h₃ (fun x s₄ h₄ => ?_) fun _ _ h' => h'))
   refine wpAny_bind (wpAny_mono h₄ (fun _ s₅ h₅ => ?_) fun _ _ h' => h')
   exact wpAny_pure (wpAny_pure ⟨rfl, h₅⟩)
  |
   false =>
   simp only [Bool.false_eq_true, if_false] at h₃ ⊢
   first
    | exact wpAny_bind (wpAny_pure (wpAny_pure ⟨rfl, h₃⟩))
    | exact wpAny_pure ⟨rfl, h₃⟩
end
section
variable {X : Cx}
noncomputable def PTs (X : Cx) (ifs : List Expr) (t : TT) : Prop :=
 ∀
  (pins : List (Addr × Obj)) (s : Shared) (σ : St) (H : Hp) (Q : Bool -> Hp -> Prop), Inv X pins σ H s -> t σ H Q ->
  wpAny (model X.prog X.w) X.A (forIn ifs true fun c r => if r = true then do let ok <- isTrue c X.env (eval c X.env); pure (ForInStep.yield ok) else pure (ForInStep.yield r)) (TP X pins σ Q) X.xe s
theorem pI : PTs X [] (fun _ H Q => Q true H) := fun pins s σ H Q I h => by
 rw [List.forIn_nil]
 exact wpAny_pure ⟨H, I, h⟩
theorem
    Cm {elt iter tg : Expr} {ifs : List Expr} {scope : Scope} {pos : Pos} {wi : TI} {g : TG} {tc : TT} {te : TE} {N : List Str} {sub : List (Option Nat)}
  (hc : X.calm = true) (hi : PI X tg iter wi)
  (hk : scope.kind = .function) (hnc : ∀ x ∈ scope.names, x.2 ≠ .cell) (hnames : ∀ x ∈ scope.names, x.2 = .local -> scope.names.lookup x.1 = some .local)
  (hfr : ∀ x ∈ scope.names, x.2 = .free -> X.env.kindOf x.1 = some .cell \/ X.env.kindOf x.1 = some .free)
  (hsl : sub.length = N.length) (hsub : ∀ (j i : Nat) (x : Str), sub[j]? = some (some i) -> N[j]? = some x -> X.N[i]? = some x /\ scope.names.lookup x = some .free)
  (hg : ∀ cl C s₂ H fp, PG (bu X N scope cl C s₂ H fp) tg g) (ht : ∀ cl C s₂ H fp, PTs (bu X N scope cl C s₂ H fp) ifs tc) (he : ∀ cl C s₂ H fp, PE (bu X N scope cl C s₂ H fp) elt te)
  (hs : ∀ x, foldedSetIterable iter X.env x = pure x := by intro _; rfl) :
  PE X (.ListComp elt [⟨tg, iter, ifs, 0⟩] scope pos) (jH wi sub g tc te) := by
 intro pins s σ H Q I h
 obtain ⟨cl, hclos, hcl, hclf⟩ := iP (env := X.env) (scope := scope) fun x hx hf => I.ok.has x.1 (hfr x hx hf)
 rw [eval_ListComp]
 refine wpAny_comprehension_free (use := none) rfl hs hclos hk hnames ?_
 show wpAny _ _ (eval iter X.env) _ _ _
 refine thn (hi pins s σ H _ I h) fun v s1 h1 => thn h1 fun itv s2 h2 => ?_
 obtain ⟨it, fp, tn, J, H2, e, I2, T, st2, f2, W, ⟨m0, w0⟩, turn⟩ := h2
 subst e
 refine wpAny_newObj_type (wpAny_newFunctionEnv hnc (by intro y hy; simp at hy) (fun h₁ hns₁ hsb₁ => ?_) hk)
 dsimp only at hns₁ hsb₁ ⊢
 generalize hH2 : s2.heap.push { cls := .type "list", dict := none, data := .seq ([] : List Value).toArray } = G2 at hns₁ hsb₁ ⊢
 have hC : G2.objs.size = s2.heap.objs.size + 1 := by rw [<- hH2, Heap.size_push]
 have hDC : s2.heap.objs.size ≠ G2.objs.size := by omega
 have below : ∀ b, b < s2.heap.objs.size -> b ≠ G2.objs.size /\ b ≠ s2.heap.objs.size := fun b hb => ⟨by omega, by omega⟩
 have old : ∀ b o, s2.heap.get? b = some o -> h₁.get? b = some o := fun b o e => hsb₁.extBut b o (below b (Heap.lt_size e)).1 (Heap.get?_push_of_some _ (hH2 ▸ Heap.get?_push_of_some _ e))
 have hD₁ : h₁.get? s2.heap.objs.size = some { cls := .type "list", dict := none, data := .seq ([] : List Value).toArray } := hsb₁.extBut _ _ hDC (Heap.get?_push_of_some _ (hH2 ▸ Heap.get?_push_size _ rfl))
 have fresh : ∀ a, s2.heap.objs.size <= a -> s2.heap.get? a = none := fun a ha => Heap.get?_none_of_le ha
 have cellOld : ∀ x c, cl.lookup x = some c -> c < s2.heap.objs.size := fun x c e => by
  obtain ⟨v, z⟩ := I2.cell x c (hcl x c e)
  exact z.lt
 have fpOld : ∀ b ∈ fp, b < s2.heap.objs.size := fun b hb => by
  obtain ⟨o, e, _⟩ := T.obj _ _ st2 b hb
  exact Heap.lt_size e
 let Y : Cx := bu X N scope cl G2.objs.size s2 H2 fp
 have okY : Y.Ok
         := by
  refine ⟨I2.ok.mod, ?_, I2.ok.glob, I2.ok.blt, ?_, fun x y c e1 e2 => I2.ok.inj x y c (hcl x c e1) (hcl y c e2), fun x hx => ?_, fun x c hfn _ => absurd hfn Bool.false_ne_true, I2.ok.hd, I2.ok.frames, .inl rfl,
   fun b hb => ⟨?_, fun x c e z => ?_⟩, I2.bs, Nat.le_trans I2.ok.bsz I2.sz, fun b o e hb => ?_, fun b hb hf => ?_, I2.stack, I2.stkFree⟩
  ·show (relabel scope X.env).kind = .function
   exact hk
  ·show s2.heap.objs.size <= G2.objs.size
   omega
  ·have hx' : (
         relabel scope X.env).names.lookup x = some .cell \/ (relabel scope X.env).names.lookup x = some .free := hx
   have : ∃ k,
         (x, k) ∈ scope.names /\ k = .free := by
    have gen : ∀ (names : List (Str × NameKind)), (∀ y ∈ names, y.2 ≠ .cell) -> ∀ kk, (kk = NameKind.cell \/ kk = NameKind.free) -> (names.map fun (n, k) => if (k == NameKind.free && X.env.scope.kind == .function && X.env.kindOf n == some .cell) then (n, NameKind.cell) else (n, k)).lookup x = some kk -> ∃ k, (x, k) ∈ names /\ k = .free := by
     intro names
     induction names with
     | nil => intro _ kk _ e; simp at e
     |
      cons y r ih =>
      intro hn kk hkk e
      obtain ⟨n, k⟩ := y
      rw [List.map_cons, List.lookup_cons] at e
      by_cases hkf : k = .free
      ·subst hkf
       by_cases hxn : x = n
       ·exact ⟨.free, by rw [hxn]; exact List.mem_cons_self, rfl⟩
       ·have hb : (x == (if (NameKind.free == NameKind.free && X.env.scope.kind == .function && X.env.kindOf n == some .cell) = true then (n, NameKind.cell) else (n, NameKind.free)).1) = false := by
         split <;> exact beq_eq_false_iff_ne.mpr hxn
        rw [hb] at e
        obtain ⟨k', m, q⟩ := ih (fun z hz => hn z (List.mem_cons_of_mem _ hz)) kk hkk e
        exact ⟨k', List.mem_cons_of_mem _ m, q⟩
      ·have hb0 : (k == NameKind.free && X.env.scope.kind == .function && X.env.kindOf n == some .cell) = false := by
        have : (k == NameKind.free) = false := by simpa using hkf
        rw [this]; rfl
       rw [hb0] at e
       simp only [Bool.false_eq_true, if_false] at e
       cases q : x == n with
       |
        true =>
        rw [q] at e
        have e' : k = kk := Option.some.inj e
        subst e'
        rcases hkk with z | z
        ·exact absurd z (hn (n, k) List.mem_cons_self)
        ·exact absurd z hkf
       |
        false =>
        rw [q] at e
        obtain ⟨k', m, q⟩ := ih (fun z hz => hn z (List.mem_cons_of_mem _ hz)) kk hkk e
        exact ⟨k', List.mem_cons_of_mem _ m, q⟩
    rcases hx' with z | z
    ·exact gen scope.names hnc _ (.inl rfl) z
    ·exact gen scope.names hnc _ (.inr rfl) z
   obtain ⟨k, m, q⟩ := this
   exact hclf (x, k) m q
  ·show b ≠ G2.objs.size
   exact (below b (fpOld b hb)).1
  ·exact (f2 b hb).2.2.2.2.1 x c (hcl x c e) z
  ·rcases (f2 b hb).2.2.2.1 with z | z
   ·exact I2.ok.noex b o e z
   ·exact absurd (Nat.lt_of_lt_of_le (Heap.lt_size e) (Nat.le_trans I2.ok.bsz z)) (Nat.lt_irrefl _)
  ·have hf' : b ∈ frs X.stack := hf
   rcases List.mem_cons.mp (I2.stkSub b hf') with z | z
   ·exact (f2 b hb).2.1 z
   ·exact (f2 b hb).2.2.1 z
 have startLoc
        : ∃ m, h₁.Ns G2.objs.size m /\ ∀ (i : Nat) (x : Str) (v : V), N[i]? = some x -> (cH sub σ)[i]? = some (some v) -> Vis (relabel scope X.env) x -> ∃ u, RelV v u /\ vU Y.env h₁ m x u := by
  refine ⟨_, hns₁, fun j x v e1 e2 e3 => ?_⟩
  unfold cH at e2
  rw [List.getElem?_map] at e2
  cases q : sub[j]? with
  | none => rw [q] at e2; cases e2
  |
   some o =>
   rw [q] at e2
   cases o with
   | none => cases e2
   |
    some i =>
    obtain ⟨hNi, hfree⟩ := hsub j i x q e1
    have e2' : (σ[i]?).bind id = some v := Option.some.inj e2
    have e2'' : σ[i]? = some (some v) := by
     cases z : σ[i]? with
     | none => rw [z] at e2'; cases e2'
     | some y => rw [z] at e2'; rw [show y = some v from e2']
    obtain ⟨m2, hn2, hl2⟩ := I2.loc
    have hkx := hfr (x, .free) (PySem.mem_of_lookup hfree) rfl
    obtain ⟨u, r, l⟩ := hl2 i x v hNi e2'' (by rcases hkx with z | z; exact .inr (.inl z); exact .inr (.inr z))
    refine ⟨u, r, .inr ⟨?_, ?_⟩⟩
    ·rcases e3
          with z | z | z
     ·exfalso
      have gen : ∀ (names : List (Str × NameKind)), names.lookup x = some .free -> (names.map fun (n, k) => if (k == NameKind.free && X.env.scope.kind == .function && X.env.kindOf n == some .cell) then (n, NameKind.cell) else (n, k)).lookup x = some .local -> False := by
       intro names
       induction names with
       | nil => intro e _; simp at e
       |
        cons y r ih =>
        intro e1 e2
        obtain ⟨n, k⟩ := y
        rw [List.lookup_cons] at e1
        rw [List.map_cons, List.lookup_cons] at e2
        by_cases hxn : x = n
        ·have hb1 : (x == n) = true := beq_iff_eq.mpr hxn
         rw [hb1] at e1
         have : k = .free := Option.some.inj e1
         subst this
         split at e2
         ·rename_i hq
          split at e2 <;> cases e2
         ·rename_i hq
          split at hq <;> (rw [hb1] at hq; cases hq)
        ·have hb1 : (x == n) = false := beq_eq_false_iff_ne.mpr hxn
         rw [hb1] at e1
         refine ih e1 ?_
         split at e2
         ·rename_i hq
          split at hq <;> (rw [hb1] at hq; cases hq)
         ·exact e2
      exact gen scope.names hfree z
     ·exact .inl z
     ·exact .inr z
    ·obtain ⟨c, hc'⟩ := hclf (x, .free) (PySem.mem_of_lookup hfree) rfl
     refine ⟨c, hc', ?_⟩
     rcases l with ⟨k, _⟩ | ⟨_, c2, ec2, z⟩
     ·rcases hkx with z | z <;> (rw [k] at z; cases z)
     ·have := hcl x c hc'
      rw [ec2] at this
      cases this
      obtain ⟨oc, hoc, hd⟩ := z
      exact ⟨oc, old _ _ hoc, hd⟩
 have pinD : ∀ {σ' : St} {H' : Hp} {s' : Shared} {pl : List (Addr × Obj)} {o : Obj}, Inv Y pl σ' H' s' -> s'.heap.get? s2.heap.objs.size = some o -> (∀ v, o.data ≠ .cell v) -> H' s2.heap.objs.size = none -> Inv Y [(s2.heap.objs.size, o)] σ' H' s' := fun {σ' H' s' pl o} IY e d n =>
  IY.pins_of fun p hp => by
   have e' : p = (s2.heap.objs.size, o) := by simpa using hp
   subst e'
   refine ⟨e, n, ?_, ?_, d⟩
   ·show s2.heap.objs.size ≠ G2.objs.size
    omega
   ·intro hf
    have hf' : s2.heap.objs.size ∈ frs X.stack := hf
    obtain ⟨_, o', ho', _⟩ := I2.stack.mem hf'
    exact absurd (Heap.lt_size ho') (Nat.lt_irrefl _)
 have fpY : ∀ {H' : Hp} {pl : List (Addr × Obj)}, (∀ b ∈ fp, H' b = none) -> (∀ p ∈ pl, p.1 ∉ fp) -> ∀ b ∈ fp, FpOk Y pl H' b := fun {H' pl} hn hp b hb => by
  refine ⟨hn b hb, ?_, ?_, .inl hb, fun x c e => ?_, fun p hp' => ?_⟩
  ·exact (okY.exf b hb).1
  ·exact okY.exfs b hb
  ·exact (okY.exf b hb).2 x c e
  ·intro z
   have hp'' : p ∈ pl := by simpa [Y, bu] using hp'
   exact hp p hp'' (by rw [z]; exact hb)
 have hDfp : s2.heap.objs.size ∉ fp := fun z => Nat.lt_irrefl _ (fpOld _ z)
 have loop
      : ∀ s₃ : Shared, s₃ = { s2 with heap := h₁, toks := s2.toks + ([] : List (Str × Value)).length } ->
   codeAny (model X.prog X.w) X.A (.compLoop (.ListComp elt [⟨tg, iter, ifs, 0⟩] scope pos) 0 (.ref it) (.ref s2.heap.objs.size) (compEnvC scope cl G2.objs.size X.env))
    (compPost (model X.prog X.w) X.A X.xe none (EP X pins σ Q) (.ref s2.heap.objs.size) G2.objs.size) s₃ := by
  rintro s₃ rfl
  have IY0 : Inv Y [(s2.heap.objs.size, { cls := .type "list", dict := none, data := .seq ([] : List Value).toArray })] (cH sub σ) H2 { s2 with heap := h₁, toks := s2.toks + ([] : List (Str × Value)).length } := by
   have J0 : Inv Y [] (cH sub σ) H2 { s2 with heap := h₁, toks := s2.toks + ([] : List (Str × Value)).length } := by
    refine ⟨okY, rfl, I2.bare, Un.kept old, startLoc, fun x c e => ?_, I2.hok.fresh (by show s2.heap.objs.size <= G2.objs.size; omega), fun x c e => I2.freeC x c (hcl x c e), fun p hp => absurd (show p ∈ ([] : List (Addr × Obj)) from hp) (by simp), I2.hok.kept old, ?_⟩
    ·obtain ⟨v, oc, hoc, hd⟩ := I2.cell x c (hcl x c e)
     exact ⟨v, oc, old _ _ hoc, hd⟩
    ·show (cH sub σ).length = N.length
     unfold cH
     rw [List.length_map]; exact hsl
   exact pinD J0 hD₁ (fun v z => by cases z) I2.fresh
  refine jk (fun n s' => ∃ (i : Nat) (ys : List V) (its : List Value) (k : Nat) (σ' : St) (H' : Hp), Inv Y [(s2.heap.objs.size, { cls := .type "list", dict := none, data := .seq its.toArray k })] σ' H' s' /\ Vals ys its /\ tn i s'.heap /\ (∀ b ∈ fp, H' b = none) /\ W i n ys σ' H') ?_ m0
   ⟨0, [], [], 0, cH sub σ, H2, IY0, .nil, T.keep _ _ _ st2 (fun b hb o e => old b o e), fun b hb => (f2 b hb).1, w0⟩
  rintro n s3 ⟨i, ys, its, k, σ3, H3, I3, rv, st3, fr3, w3⟩
  have npl : ∀ (o : Obj), ∀ p ∈ [(s2.heap.objs.size, o)], p.1 ∉ fp := fun o p hp => by
   have e' : p = (s2.heap.objs.size, o) := by simpa using hp
   subst e'
   exact hDfp
  rcases turn i n ys σ3 H3 w3 with ⟨stop, hz, qn⟩ | ⟨go, hz, Nx, hNx, step⟩
  ·refine wpAny_mono (T.done Y rfl rfl rfl hc i _ s3 σ3 H3 (fun _ _ => False) I3 (fpY fr3 (npl _)) st3 stop) (fun r s4 ⟨hr, I4⟩ => ?_) fun _ _ z => z
   subst hr
   obtain ⟨m4, hn4, _⟩ := I4.loc
   refine ⟨m4, hn4, fun h' hs' => ?_⟩
   have hCfree : H3 G2.objs.size = none := I4.free
   have hD4 := I4.pin (s2.heap.objs.size, { cls := .type "list", dict := none, data := .seq its.toArray k }) (List.mem_append_right _ List.mem_cons_self)
   have un4 : Un (frs X.stack) fp H2 H3 s2.heap s4.heap := I4.base
   have up : ∀ b o, b ≠ G2.objs.size -> s4.heap.get? b = some o -> h'.get? b = some o := fun b o hb e => hs'.extBut b o hb e
   have ne2 : ∀ b o, s2.heap.get? b = some o -> b ≠ G2.objs.size := fun b o e => (below b (Heap.lt_size e)).1
   have un5 : Un (frs X.stack) fp H2 H3 s2.heap h' := by
    refine ⟨fun b o e n hb hx => up b o (ne2 b o e) (un4.keep b o e n hb hx), fun b o e n hb hx => ?_, un4.free, fun b o e hx => ?_, un4.tups, un4.frzs, un4.tbls⟩
    ·obtain ⟨sl, q⟩ := un4.slot b o e n hb hx
     exact ⟨sl, up b _ (ne2 b o e) q⟩
    ·obtain ⟨o', q⟩ := un4.there b o e hx
     exact ⟨o', up b _ (ne2 b o e) q⟩
   have hok5 : HOk X.prog X.w H3 h' := fun b u e => (I4.hok b u e).stay (fun c v hcc q => up c v (fun z => by
    rcases hcc with zz | zz
    ·rw [zz] at z; rw [z, hCfree] at e; cases e
    ·rw [z, hCfree] at zz; cases zz) q) (fun _ q => q) fun _ _ q => q
   have I5 : Inv X pins σ H3 { s4 with heap := h' } := I2.call' (s' := { s4 with heap := h' }) (ch := fp) I4.os un5 hok5 I4.bare fun b hb => by
    obtain ⟨_, g1, _, g3, g4, g5⟩ := f2 b hb
    exact ⟨g3, g1, g4, g5⟩
   have hDfree : H3 s2.heap.objs.size = none := hD4.2.1
   have sz0 : X.s₀.heap.objs.size <= s2.heap.objs.size := I2.sz
   refine ⟨.ref s2.heap.objs.size, _, I5.track (o := .lst ys) hDfree (Heap.get?_none_of_le sz0) (Nat.ne_of_gt I2.lt) (fun x c e z => ?_) (fun p hp z => ?_) ?_, rfl, qn _ hDfree⟩
   ·obtain ⟨v, q⟩ := I2.cell x c e
    exact absurd q.lt (by rw [z]; exact Nat.lt_irrefl _)
   ·exact absurd (Heap.lt_size (I2.pin p hp).1) (by rw [z]; exact Nat.lt_irrefl _)
   ·exact ⟨hz, its, k, rv, up _ _ hDC hD4.1⟩
  ·refine wpAny_mono (T.item Y rfl rfl rfl hc i _ s3 σ3 H3 (fun _ _ => False) I3 (fpY fr3 (npl _)) st3 go) (fun r s4 ⟨u, hr, h4⟩ => ?_) fun _ _ z => z
   subst hr
   refine wpAny_mono h4 (fun _ s5 ⟨x, H5, I5, r5, y5, st5, fr5⟩ => ?_) fun _ _ z => z
   have I5' := I5.pinned (fpY fr5 (npl _)) (T.obj _ _ st5)
   refine wpAny_mono (hg cl G2.objs.size s2 H2 fp _ s5 σ3 H5 x u _ I5' r5 (step x H5 y5)) (fun _ s6 ⟨σ6, H6, I6, q6⟩ => ?_) fun _ _ z => z
   refine wpAny_mono (ht cl G2.objs.size s2 H2 fp _ s6 σ6 H6 _ I6 q6) (fun ok s7 ⟨H7, I7, q7⟩ => ?_) fun _ _ z => z
   have back : ∀ {σ' : St} {H' : Hp} {s' : Shared}, Inv Y ([(s2.heap.objs.size, { cls := .type "list", dict := none, data := .seq its.toArray k })] ++ gQ fp s5.heap) σ' H' s' -> tn (i + 1) s'.heap /\ ∀ b ∈ fp, H' b = none := fun {σ' H' s'} IB => by
    refine ⟨T.keep _ _ _ st5 fun b hb o e => (IB.pin (b, o) (List.mem_append_right _ (List.mem_append_right _ (dM hb e)))).1, fun b hb => ?_⟩
    obtain ⟨o, e, d⟩ := T.obj _ _ st5 b hb
    exact (IB.pin (b, o) (List.mem_append_right _ (List.mem_append_right _ (dM hb e)))).2.1
   cases ok with
   |
    false =>
    rw [if_neg Bool.false_ne_true] at q7
    obtain ⟨m', hm, w7⟩ := hNx _ _ _ q7
    rw [if_neg Bool.false_ne_true]
    obtain ⟨t7, f7⟩ := back I7
    exact ⟨m', hm, i + 1, ys, its, k, σ6, H7, I7.unpinned, rv, t7, f7, w7⟩
   |
    true =>
    rw [if_pos rfl] at q7
    rw [if_pos rfl]
    refine wpAny_mono (he cl G2.objs.size s2 H2 fp _ s7 σ6 H7 _ I7 q7) (fun y s8 ⟨yv, H8, I8, r8, q8⟩ => ?_) fun _ _ z => z
    obtain ⟨m', hm, w8⟩ := hNx _ _ _ q8
    obtain ⟨t8, f8⟩ := back I8
    have I9 := I8.unpinned
    have hD9 := I9.pin (s2.heap.objs.size, { cls := .type "list", dict := none, data := .seq its.toArray k }) (List.mem_append_right _ List.mem_cons_self)
    have e9 : s8.heap.get? s2.heap.objs.size = some { cls := .type "list", dict := none, data := .seq its.toArray k } := hD9.1
    have hlen := rv.length
    refine call_meets F.slot_list_append ⟨_, e9, rfl⟩ F.entry_list_append (F.args_list_append_2 _ _) (PySem.list_append _ its.toArray k y (by rw [List.size_toArray]; omega)) ⟨e9, ?_⟩
    have q9 := PySem.IsL.update e9 (fun xs => xs.push y)
    have ea : its.toArray.push y = (its ++ [y]).toArray := by simp
    rw [ea] at q9
    have k9 : ∀ b o, b ≠ s2.heap.objs.size -> s8.heap.get? b = some o -> (s8.heap.update s2.heap.objs.size (Obj.mapSeq fun xs => xs.push y)).get? b = some o := fun b o hb e => (Heap.get?_update_other _ _ (Ne.symm hb)).trans e
    have I10 : Inv Y [] σ6 H8 { s8 with heap := s8.heap.update s2.heap.objs.size (Obj.mapSeq fun xs => xs.push y) } :=
     (I9.pins_of (pins' := []) (fun p hp => nomatch hp)).turned (t' := s8.toks) k9 hD9.2.1 hD9.2.2.1 (.inr (Nat.le_refl _)) (fun x c e z => absurd (cellOld x c e) (by rw [z]; exact Nat.lt_irrefl _))
      (fun p hp => absurd (show p ∈ ([] : List (Addr × Obj)) from hp) (by simp))
    refine ⟨m', hm, i + 1, ys ++ [yv], its ++ [y], _, σ6, H8, pinD I10 q9 (fun v z => by cases z) hD9.2.1, rv.append (.cons r8 .nil), ?_, f8, w8⟩
    exact T.keep _ _ _ t8 fun b hb o e => k9 b o (fun z => hDfp (by rw [<- z]; exact hb)) e
 exact codeAny_compStart_list (loop _ rfl) (T.self _ 0 _ _ _ (T.keep _ _ _ st2 fun b hb o e => old b o e) (loop _ rfl))
noncomputable def gh (M : List Str) (names : List (Str × NameKind)) (sub : List (Option Nat)) (N : List Str) : Bool := (sub.zip N).all fun p => match p.1 with
 | none => true
 | some i => M[i]? == some p.2 && names.lookup p.2 == some .free
theorem mX {M : List Str} {names : List (Str × NameKind)} {sub : List (Option Nat)} {N : List Str} (h : gh M names sub N = true) (j i : Nat) (x : Str) (h1 : sub[j]? = some (some i)) (h2 : N[j]? = some x) :
  M[i]? = some x /\ names.lookup x = some .free := by
 unfold gh at h
 rw [List.all_eq_true] at h
 have hm : (some i, x) ∈ sub.zip N := by
  refine List.mem_of_getElem? (i := j) ?_
  rw [List.getElem?_zip_eq_some]
  exact ⟨h1, h2⟩
 have q := h _ hm
 simp only [Bool.and_eq_true, beq_iff_eq] at q
 exact q
noncomputable def je (kn names : List (Str × NameKind)) : Bool := names.all fun x => x.2 != .free || kn.lookup x.1 == some .cell || kn.lookup x.1 == some .free
theorem qf {kn names : List (Str × NameKind)} (h : je kn names = true) : ∀ x ∈ names, x.2 = .free -> kn.lookup x.1 = some .cell \/ kn.lookup x.1 = some .free := fun x hx hf => by
 unfold je at h
 rw [List.all_eq_true] at h
 have q := h x hx
 rw [hf] at q
 simpa using q
theorem CF {elt iter tg : Expr} {scope : Scope} {pos : Pos} {wi : TI} {g : TG} {te : TE} (M : List Str) (kn : List (Str × NameKind)) (N : List Str) (sub : List (Option Nat))
  (hc : X.calm = true) (hi : PI X tg iter wi)
  (hg : ∀ cl C s₂ H fp, PG (bu X N scope cl C s₂ H fp) tg g) (he : ∀ cl C s₂ H fp, PE (bu X N scope cl C s₂ H fp) elt te)
  (hM : X.N = M := by rfl) (hkn : X.env.scope.names = kn := by rfl) (hsub : gh M scope.names sub N = true := by decide +kernel)
  (hk : scope.kind = .function := by rfl) (hnc : ∀ x ∈ scope.names, x.2 ≠ .cell := by decide +kernel) (hnames : ∀ x ∈ scope.names, x.2 = .local -> scope.names.lookup x.1 = some .local := by decide +kernel)
  (hfr : je kn scope.names = true := by decide +kernel)
  (hsl : sub.length = N.length := by rfl) (hs : ∀ x, foldedSetIterable iter X.env x = pure x := by intro _; rfl) :
  PE X (.ListComp elt [⟨tg, iter, [], 0⟩] scope pos) (jH wi sub g vg te) :=
 Cm hc hi hk hnc hnames (by subst hkn; exact qf hfr) hsl (by subst hM; exact mX hsub) hg (fun cl C s₂ H fp => pI) he hs
end
end L2
set_option Elab.async false
set_option linter.all false
set_option maxRecDepth 100000
namespace L2
open PySem PySem.Spec PyProof.Rows PySem.W PySem.Builtin PySem.Builtin.ObjectAttr PySem.Builtin.Getset_descriptor
structure XCls (K : PySem.W.Frag) (C : Addr) : Prop where
 cls : (clsIn K C).isSome = true
 ga : findIn K (.ref C) "__getattribute__" = some (some (.builtin "BaseException.__getattribute__"))
 gt : findIn K (.ref C) "__getattr__" = some none
 at_ : findIn K (.ref C) "__class__" = some (some (.builtin "object.__class__"))
 gs : specialIn K (.builtin "object.__class__") "__get__" = some (some (.builtin "getset_descriptor.__get__"))
 tk : takesIn K (.builtin "object.__class__") = some true
 mo : mroIn K C (.type "object") = some true
 mb : mroIn K C (.type "BaseException") = some true
section
variable {prog : Program} {w : World} {A : Around} {E : Value -> Shared -> Prop} {K : PySem.W.Frag} {x C : Addr} {o : Obj}
theorem gU {M : Model} {h : Heap} (hx : h.get? x = some o) (hc : o.cls = .ref C) : Looks M h (typeOf (.ref x)) (.ref C) := hc ▸ (Looks.ld hx).andThen .now
theorem ve {M : Model} {h : Heap} (X : K.In h) (T : XCls K C) : Looks M h (find (.ref x) (.ref C) "__class__") (.bind (.builtin "getset_descriptor.__get__") (.builtin "object.__class__")) := by
 have L1 := looks_findIn (M := M) X T.at_
 have L2 : Looks M h (getOf (some (.builtin "object.__class__"))) (some (.builtin "getset_descriptor.__get__")) := looks_specialIn X T.gs
 have L3 := looks_takesIn (M := M) X T.tk
 refine L1.andThen (L2.andThen ?_)
 exact (show Looks M h (dataDescriptor? (some (.builtin "object.__class__")) (some (.builtin "getset_descriptor.__get__"))) (some (.builtin "getset_descriptor.__get__", .builtin "object.__class__")) from L3.andThen .now).andThen (Looks.tag .now)
theorem mF {s : Shared} {tp : Value} {R : Result -> Shared -> Prop} (X : K.In s.heap) (hx : s.heap.get? x = some o) (hc : o.cls = .ref C) (T : XCls K C)
  (h : R (.ok (.ret (.ref C))) s) : codeAny (model prog w) A (.call (.builtin "getset_descriptor.__get__") ⟨[.builtin "object.__class__", .ref x, tp], []⟩) R s := by
 obtain ⟨hh, g, dr, t, os⟩ := s
 have L0 := gU (M := model prog w) hx hc
 have L1 := looks_mroIn (M := model prog w) X T.mo
 refine codeAny_call_builtin KF.slot_gs.plain KF.entry_gs (KF.slot_gs.check _ _ _ _ _ _ _ _ KF.type_class (KF.args_gs _ _ _) ?_)
 unfold Builtin.«getset_descriptor.__get__» descrGet
 rw [dga_obj]
 refine wpAny_bind (wpAny_pure ?_)
 unfold descrGetter descrCheckInstance descrNameAndClass isInstance
 simp only [KF.owner_class]
 repeat lk
 refine ⟨Code.quiet_builtin _ (by decide +kernel), codeAny_builtin KF.entry_class ?_⟩
 unfold Builtin.«object.__class__» shownTypeOf
 repeat lk
 exact h
theorem sf {M : Model} {nameV : Value} {s : Shared} {Q : Unit -> Shared -> Prop} (X : K.In s.heap) (hx : s.heap.get? x = some o) (hc : o.cls = .ref C) (T : XCls K C) (hq : Q () s) :
  wpAny M A (checkBuiltinCall "BaseException.__getattribute__" ⟨[.ref x, nameV], []⟩) Q E s := by
 obtain ⟨h, g, dr, t, os⟩ := s
 have hk : builtinKind "BaseException.__getattribute__" = some .slot := by decide +kernel
 have hsplit : splitId "BaseException.__getattribute__" = some ("BaseException", "__getattribute__") := by decide +kernel
 have ha := PySem.F.args_bexc_ga (.ref x) nameV
 have L0 := gU (M := M) hx hc
 have LM := looks_mroIn (M := M) X T.mb
 have LI : Looks M h (isInstance (.ref x) (.type "BaseException")) true := L0.andThen LM
 simp only [checkBuiltinCall, hk, hsplit]
 refine wpAny_bind ?_
 refine LI.at ?_
 repeat (first | wp_step)
 all_goals exact hq
theorem z9 {s : Shared} {Q : Option Value -> Shared -> Prop} (X : K.In s.heap) (hx : s.heap.get? x = some o) (hc : o.cls = .ref C) (T : XCls K C) (h : Q (some (.ref C)) { s with toks := s.toks + 1 }) :
  wpAny (model prog w) A (getAttr? (.ref x) "__class__") Q E s := by
 obtain ⟨hh, g, d, t, os⟩ := s
 have L0 := gU (M := model prog w) hx hc
 have L1 := looks_findIn (M := model prog w) X T.ga
 have L2 := looks_findIn (M := model prog w) X T.gt
 have LF := ve (M := model prog w) (x := x) X T
 have f3 := PySem.F.excAttr_ValueError.ga.bind (.ref x)
 have hx2 : (Value.builtin "BaseException.__getattribute__" == Value.builtin "object.__getattribute__") = false := by decide +kernel
 unfold getAttr? getAttrBy? getAttrBy
 refine wpAny_bind (wpAny_mkText (wpAny_bind (wpAny_attempt (wpAny_holding (wpAny_bind (L0.at (wpAny_bind (L1.at ?_))))))))
 dsimp only
 rw [if_neg (by rw [hx2]; simp)]
 unfold getAttrByItsOwn hookBefore
 rw [if_pos (show onTheHeap (Value.ref C) = true from rfl)]
 refine wpAny_bind (L2.at ?_)
 unfold callGetattribute
 refine wpAny_bind (wpAny_attempt (wpAny_holding ?_))
 rw [if_neg (by simp)]
 unfold boundAndCalled
 refine wpAny_bind (wpAny_of_eq f3 ?_)
 refine wpAny_call (codeAny_call_builtin PySem.F.excAttr_ValueError.ga.plain PySem.F.entry_bexc_ga (sf X hx hc T ?_))
 unfold Builtin.«object.__getattribute__»
 repeat (first | (refine wpAny_bind (L0.at ?_)) | (refine wpAny_bind (LF.at ?_)) | wp_step)
 refine mF (s := ⟨hh, g, d, t + 1, os⟩) X hx hc T ?_
 repeat (first | exact h | wp_step)
noncomputable def vV (x : Addr) (C : Addr) (h : Heap) : Prop := ∃ o vs, h.get? x = some o /\ o.cls = .ref C /\ o.data = .fields vs
theorem vW (T : XCls K C) : KitX K (.ref x) (.ref C) (vV x C) where
 ty := fun M h _ ⟨o, _, hx, hc, _⟩ => gU hx hc
 it := fun M h X _ => by
  obtain ⟨cd, hcd⟩ := Option.isSome_iff_exists.mp T.cls
  unfold clsIn at hcd
  split at hcd
  ·rename_i c' d' cd' sl' ho
   intro A' Q' E' s' k q
   unfold isType loadHead
   exact wpAny_bind (wpAny_loadPart (k _ _ (X _ _ ho)) (wpAny_pure q))
  ·cases hcd
 ne := fun h tp dd its n sl X htp => by
  obtain ⟨cd, hcd⟩ := Option.isSome_iff_exists.mp T.cls
  refine Bool.eq_false_iff.mpr fun q => ?_
  have e : C = tp := Value.ref.inj (beq_iff_eq.mp q)
  subst e
  unfold clsIn at hcd
  split at hcd
  ·rename_i c' d' cd' sl' ho
   have z := (X _ _ ho).symm.trans htp
   cases z
  ·cases hcd
 ca := fun X ⟨o, _, hx, hc, _⟩ k => z9 X hx hc T k
end
inductive TyX (K : PySem.W.Frag) (H : Hp) : V -> Value -> Prop where
 | of {x : V} {t : Value} (h : TyOf K H x t) : TyX K H x t
 | exc {a C : Addr} (e : H a = some (.ext (vV a C))) (T : XCls K C) : TyX K H (.ref a) (.ref C)
 | sqT {a : Addr} {xs : List V} (h : SqT K H a xs) : TyX K H (.ref a) (.type "tuple")
 | sqL {a : Addr} {xs : List V} (h : SqL K H a xs) : TyX K H (.ref a) (.type "list")
section
variable {X : Cx} {pins : List (Addr × Obj)} {σ : St} {H : Hp} {s : Shared} {A : Around} {E : Value -> Shared -> Prop} {Q : Value -> Shared -> Prop} {c : Value} {b : Bool}
theorem pJ {x : V} {u t : Value} (I : Inv X pins σ H s) (rx : RelV x u) (ty : TyX X.K H x t) : ∃ Hh : Heap -> Prop, KitX X.K u t Hh /\ Hh s.heap /\ u ≠ .builtin "__main__.__loader__#opaque" := by
 cases ty with
 |
  exc ea T =>
  cases (show u = Value.ref _ from rx)
  exact ⟨_, vW T, (I.hok _ _ ea).1, fun z => nomatch z⟩
 |
  sqT h =>
  cases (show u = Value.ref _ from rx)
  obtain ⟨its, rv, ⟨o, e, c, _⟩, _⟩ := I.tuple h
  exact ⟨_, kitx_tuple, ⟨o, e, c⟩, fun z => nomatch z⟩
 |
  sqL h =>
  cases (show u = Value.ref _ from rx)
  obtain ⟨its, rv, ⟨o, n, e, c, _⟩, _⟩ := I.list h
  exact ⟨_, kitx_list, ⟨o, e, c⟩, fun z => nomatch z⟩
 |
  of ty =>
  cases ty with
  | non => cases (show u = Value.none from rx); exact ⟨_, kitx_none, True.intro, fun z => nomatch z⟩
  | bl y => cases (show u = Value.bool y from rx); exact ⟨_, kitx_bool, True.intro, fun z => nomatch z⟩
  | int i => obtain ⟨t, q⟩ := (show ∃ t, u = Value.int i t from rx); cases q; exact ⟨_, kitx_int, True.intro, fun z => nomatch z⟩
  | str y => obtain ⟨t, q⟩ := (show ∃ t, u = Value.str y t from rx); cases q; exact ⟨_, kitx_str, True.intro, fun z => nomatch z⟩
  | flt y => obtain ⟨t, q⟩ := (show ∃ t, u = Value.float y t from rx); cases q; exact ⟨_, kitx_float, True.intro, fun z => nomatch z⟩
  |
   @lst a xs ea =>
   cases (show u = Value.ref a from rx)
   obtain ⟨_, _, n, _, h1⟩ := (show ObjOk X.prog X.w H s.heap a (.lst xs) from I.hok a _ ea)
   exact ⟨_, kitx_list, ⟨_, h1, rfl⟩, fun z => nomatch z⟩
  |
   @frz a ob xs ea =>
   cases (show u = Value.ref a from rx)
   obtain ⟨_, _, _, n, _, h1⟩ := (show ObjOk X.prog X.w H s.heap a (.frz ob (.lst xs)) from I.hok a _ ea)
   exact ⟨_, kitx_list, ⟨_, h1, rfl⟩, fun z => nomatch z⟩
  |
   @tup a xs ea =>
   cases (show u = Value.ref a from rx)
   obtain ⟨_, _, _, p⟩ := (show ObjOk X.prog X.w H s.heap a (.tup xs) from I.hok a _ ea)
   obtain ⟨o, h1, h2, _⟩ := p
   exact ⟨_, kitx_tuple, ⟨o, h1, h2⟩, fun z => nomatch z⟩
  |
   @dK a kvs ea =>
   cases (show u = Value.ref a from rx)
   obtain ⟨_, _, vs, _, p⟩ := (show ObjOk X.prog X.w H s.heap a (.dK kvs) from I.hok a _ ea)
   obtain ⟨o, es, ep, h1, h2, _⟩ := p
   exact ⟨_, kitx_dict, ⟨o, h1, h2.1⟩, fun z => nomatch z⟩
  |
   @dT a kvs ea =>
   cases (show u = Value.ref a from rx)
   obtain ⟨_, _, xs, _, o, es, ep, h1, h2, _⟩ := (show ObjOk X.prog X.w H s.heap a (.dT kvs) from I.hok a _ ea)
   exact ⟨_, kitx_dict, ⟨o, h1, h2.1⟩, fun z => nomatch z⟩
  |
   @ins a C dx fs ea cl ha hn htk hm =>
   cases (show u = Value.ref a from rx)
   obtain ⟨mA, O, _⟩ := xM I.hok ea
   obtain ⟨od, J, _⟩ := O.look
   exact ⟨_, kitx_own (cl.get _) cl.hd ha hn htk hm, J, fun z => nomatch z⟩
end
section
variable {X : Cx}
noncomputable def eG : V -> Option Value
 | .ref C => some (.ref C)
 | .ty T => some (.type T)
 | _ => none
theorem oB {c : V} {u v : Value} (h : eG c = some v) (r : RelV c u) : u = v := by
 cases c with
 | ref C => cases r; exact Option.some.inj h
 | ty T => cases r; exact Option.some.inj h
 | _ => cases h
theorem
    mf : ∀ {cs : List V} {us vs : List Value}, cs.mapM eG = some vs -> Vals cs us -> us = vs
 |
  [], _, vs, h, .nil => by
  have h' : some ([] : List Value) = some vs := h
  exact Option.some.inj h'
 |
  c :: cs, _, vs, h, .cons r rr => by
  rw [List.mapM_cons] at h
  cases q : eG c with
  | none => rw [q] at h; cases h
  |
   some v =>
   rw [q] at h
   cases q2 : cs.mapM eG with
   | none => rw [q2] at h; cases h
   |
    some vs' =>
    rw [q2] at h
    have h' : some (v :: vs') = some vs := h
    cases h'
    rw [oB q r, mf q2 rr]
theorem v7 : CallR X (.builtin "isinstance") (fun xs H Q => ∃ x c t v b, xs = [x, c] /\ TyX X.K H x t /\ eG c = some v /\ kitOne X.K t v = some b /\ Q (.bl b) H) := by
 intro pins s σ H xs us Q I r h
 obtain ⟨x, c, t, v, b, rfl, ty, hc, hk, q⟩ := h
 obtain ⟨u, w', rfl, rx, rc⟩ := mT r
 obtain rfl := oB hc rc
 obtain ⟨Hh, Z, p, hne⟩ := pJ I rx ty
 exact kia_one Z I.kIn p hk hne fun tk => ⟨.bl b, H, I.tok _, rfl, q⟩
end
end L2
set_option Elab.async false
set_option linter.all false
set_option maxRecDepth 100000
namespace L2
open PySem PySem.Spec PyProof.Rows
theorem ObjOk.there {P : Program} {w : World} {H : Hp} {h : Heap} {a : Addr} {o : HO} (x : ObjOk P w H h a o) : ∃ u, h.get? a = some u := by
 cases o with
 | lst xs => obtain ⟨_, _, _, _, e⟩ := x; exact ⟨_, e⟩
 | tup xs => obtain ⟨_, _, _, ob, e, _⟩ := x; exact ⟨_, e⟩
 | dK kvs => obtain ⟨_, _, _, _, o, _, _, e, _⟩ := x; exact ⟨_, e⟩
 | dT kvs => obtain ⟨_, _, _, _, o, _, _, e, _⟩ := x; exact ⟨_, e⟩
 | set S n => obtain ⟨o, _, _, _, e, _⟩ := x; exact ⟨_, e⟩
 | ins C dx fs => obtain ⟨_, _, _, e, _⟩ := x; exact ⟨_, e⟩
 | own y => exact x
 | xd fs => obtain ⟨_, ⟨_, _, _, e, _⟩, _⟩ := x; exact ⟨_, e⟩
 | rng lo hi => obtain ⟨_, _, _, e⟩ := x; exact ⟨_, e⟩
 | frz ob u => obtain ⟨e, _⟩ := x; exact ⟨_, e⟩
 | tbl ps => exact ⟨_, show h.get? a = some _ from x⟩
 | met f y => exact ⟨_, show h.get? a = some _ from x⟩
 | ext φ => obtain ⟨_, e, _⟩ := x; exact e
structure Fly (P : Program) (w : World) (outer : List Env) (H : Hp) (h₀ : Heap) (H' : Hp) (ea : Addr) (cls : Value) (h : Heap) (B : Heap) (t : Addr) : Prop where
 un : Un (frs outer) [] H H' h₀ h
 hok : HOk P w H' h
 fl : Heap.FlyingW B outer ea cls (.ref t) h
 old : ∀ b o, h₀.get? b = some o -> b ∉ frs outer -> ∃ o', B.get? b = some o'
 trk : ∀ b o, H' b = some o -> ∃ o', B.get? b = some o'
noncomputable def CX1 (P : Program) (w : World) : CXT := fun outer H s E e s' => ∃ (ea t : Addr) (cls : Value) (H' : Hp) (B : Heap), e = .ref ea /\ s'.os = s.os /\ AllBare s'.gens /\ Fly P w outer H s.heap H' ea cls s'.heap B t /\ E cls none H'
theorem oq {env : Env} {outer : List Env} {L : Addr} (h : env.frame = some L) : frs (env :: outer) = L :: frs outer := by
 unfold frs
 rw [List.filterMap_cons, h]
section
variable {P : Program} {w : World} {outer : List Env} {H H' : Hp} {h₀ h h' B : Heap} {ea t L : Addr} {cls : Value}
theorem Fly.step {outer' : List Env} (F : Fly P w outer H h₀ H' ea cls h B t) (fl' : Heap.FlyingW B outer' ea cls (.ref t) h') (up : h.UpToSlots h') :
  Un (frs outer) [] H H' h₀ h' /\ HOk P w H' h' := by
 have st := F.fl.1
 have qX : ∀ b o, (∃ o', B.get? b = some o') -> h.get? b = some o -> h'.get? b = some o := fun b o ⟨o', e⟩ q => by
  have z := st b o' e
  rw [q] at z; cases z
  exact fl'.1 b _ e
 have frame : ∀ b o, b ∈ frs outer -> h.get? b = some o -> ∃ sl, h'.get? b = some { o with slots := sl } := fun b o hb q => by
  obtain ⟨_, o', ho', hd⟩ := F.fl.2.2.1.mem hb
  rw [q] at ho'; cases ho'
  exact up b o q hd
 refine ⟨⟨fun b o e n hb hx => qX b o (F.old b o e hb) (F.un.keep b o e n hb hx), fun b o e n hb hx => ?_, F.un.free, fun b o e hx => ?_, F.un.tups, F.un.frzs, F.un.tbls⟩, fun a o e => ?_⟩
 ·obtain ⟨sl, q⟩ := F.un.slot b o e n hb hx
  obtain ⟨sl', q'⟩ := frame b _ hb q
  exact ⟨sl', q'⟩
 ·obtain ⟨o', q⟩ := F.un.there b o e hx
  by_cases hb : b ∈ frs outer
  ·obtain ⟨sl, q'⟩ := frame b _ hb q
   exact ⟨_, q'⟩
  ·exact ⟨o', qX b o' (F.old b o e hb) q⟩
 ·refine (F.hok a o e).stay (fun b u hb q => qX b u ?_ q) (fun _ q => q) fun _ _ q => q
  rcases hb with z | z
  ·rw [z]; exact F.trk a o e
  ·exact F.trk b _ z
end
structure Cx.Top (X : Cx) : Prop where
 ex : X.ex = []
 stk : X.stack = X.env :: X.outer
 fr : X.env.frame = some X.env.locals
section
variable {X : Cx} {pins : List (Addr × Obj)} {σ : St} {H : Hp} {s s' : Shared} {E : XK} {e : Value}
theorem tU {A : Around} {E' : Value -> Shared -> Prop} (T : X.Top) (hA : A.frames = some X.stack) (I : Inv X pins σ H s) (h : CX1 X.prog X.w X.stack H s E e s') :
  wpAny (model X.prog X.w) A (leaving X.env e) (fun _ s'' => CX1 X.prog X.w X.outer X.H₀ X.s₀ E e s'') E' s' := by
 obtain ⟨ea, t, cls, H', B, rfl, os, bare, F, q⟩ := h
 have F0 := F
 rw [T.stk] at F
 have hf := oq (outer := X.outer) T.fr
 refine wpAny_leaves_onW (by rw [hA, T.stk]) T.fr F.fl fun h'' fl'' up => ?_
 obtain ⟨un2, hok2⟩ := F.step fl'' up
 have exn : ∀ b, b ∉ X.ex := fun b z => by rw [T.ex] at z; cases z
 have neL : ∀ b o, X.s₀.heap.get? b = some o -> b ≠ X.env.locals := fun b o e => Nat.ne_of_lt (Nat.lt_of_lt_of_le (Heap.lt_size e) I.ok.above)
 have notin : ∀ b o, X.s₀.heap.get? b = some o -> b ∉ frs X.outer -> b ∉ frs (X.env :: X.outer) := fun b o e hb z => by
  rw [hf] at z
  rcases List.mem_cons.mp z with z | z
  ·exact neL b o e z
  ·exact hb z
 refine ⟨ea, t, cls, H', B, rfl, os.trans I.os, bare, ⟨⟨fun b o e n hb hx => ?_, fun b o e n hb hx => ?_, fun b o e n hx => ?_, fun b o e hx => ?_, fun b xs e => un2.tups b xs (I.base.tups b xs e), fun b o xs e => un2.frzs b o xs (I.base.frzs b o xs e), fun b ps e => ?_⟩, hok2, fl'', fun b o e hb => ?_, F.trk⟩, q⟩
 ·exact un2.keep b o (I.base.keep b o e n hb (exn b)) (I.base.free b o e n (exn b)) (notin b o e hb) (by simp)
 ·obtain ⟨sl, e1⟩ := I.base.slot b o e n hb (exn b)
  obtain ⟨sl', e2⟩ := un2.slot b _ e1 (I.base.free b o e n (exn b)) (by rw [hf]; exact List.mem_cons_of_mem _ hb) (by simp)
  exact ⟨sl', e2⟩
 ·obtain ⟨o', e1⟩ := I.base.there b o e (exn b)
  exact un2.free b o' e1 (I.base.free b o e n (exn b)) (by simp)
 ·obtain ⟨o', e1⟩ := I.base.there b o e (exn b)
  exact un2.there b o' e1 (by simp)
 ·obtain ⟨m1, e1⟩ := I.base.tbls b ps e
  obtain ⟨m2, e2⟩ := un2.tbls b _ e1
  exact ⟨m1 ++ m2, by rw [e2, Array.append_assoc]⟩
 ·obtain ⟨o', e1⟩ := I.base.there b o e (exn b)
  exact F.old b o' e1 (notin b o e hb)
theorem wo {A : Around} {E' : Value -> Shared -> Prop} {h' : Heap} {ea : Addr} {cls : Value} {args : List Value} (T : X.Top) (hA : A.frames = some X.stack) (I : Inv X pins σ H s) (hx : Heap.MadeExcOf s.heap h' ea cls args) (q : E cls none H) :
  wpAny (model X.prog X.w) A (leaving X.env (.ref ea)) (fun _ s'' => CX1 X.prog X.w X.outer X.H₀ X.s₀ E (.ref ea) s'') E' { s with heap := h' } := by
 have hf := oq (outer := X.outer) T.fr
 have stk := I.stack
 rw [T.stk] at stk
 have hin : ∀ env ∈ (X.env :: X.outer), ∀ b, env.frame = some b -> b ∈ frs (X.env :: X.outer) := fun env he b hb => List.mem_filterMap.mpr ⟨env, he, hb⟩
 refine wpAny_leaves_madeW (base := PySem.W.hideAll s.heap (frs (X.env :: X.outer))) (h := s.heap) (by rw [hA, T.stk]) T.fr (fun b o q => PySem.W.of_hideAll _ q) (PySem.W.funFrames_hide stk hin) hx fun h'' t fl tup tn up => ?_
 have inB : ∀ b o, s.heap.get? b = some o -> b ∉ frs (X.env :: X.outer) -> (PySem.W.hideAll s.heap (frs (X.env :: X.outer))).get? b = some o := fun b o e hb => PySem.W.hideAll_get _ e hb
 have free : ∀ b ∈ frs (X.env :: X.outer), H b = none := fun b hb => I.stkFree b (by rw [T.stk]; exact hb)
 have up2 : s.heap.UpToSlots h'' := (Heap.UpToSlots.of_keeps hx.keeps).trans up
 have exn : ∀ b, b ∉ X.ex := fun b z => by rw [T.ex] at z; cases z
 have neL : ∀ b o, X.s₀.heap.get? b = some o -> b ≠ X.env.locals := fun b o e => Nat.ne_of_lt (Nat.lt_of_lt_of_le (Heap.lt_size e) I.ok.above)
 have notin : ∀ b o, X.s₀.heap.get? b = some o -> b ∉ frs X.outer -> b ∉ frs (X.env :: X.outer) := fun b o e hb z => by
  rw [hf] at z
  rcases List.mem_cons.mp z with z | z
  ·exact neL b o e z
  ·exact hb z
 have trk : ∀ b o, H b = some o -> ∃ o', (PySem.W.hideAll s.heap (frs (X.env :: X.outer))).get? b = some o' := fun b o e => by
  obtain ⟨u, hu⟩ := (I.hok b o e).there
  exact ⟨u, inB b u hu fun z => by rw [free b z] at e; cases e⟩
 refine ⟨ea, t, cls, H, _, rfl, I.os, I.bare, ⟨⟨fun b o e n hb hx => ?_, fun b o e n hb hx => ?_, fun b o e n hx => ?_, fun b o e hx => ?_, I.base.tups, I.base.frzs, I.base.tbls⟩, fun a o e => ?_, fl, fun b o e hb => ?_, trk⟩, q⟩
 ·exact fl.1 b o (inB b o (I.base.keep b o e n hb (exn b)) (notin b o e hb))
 ·obtain ⟨sl, e1⟩ := I.base.slot b o e n hb (exn b)
  obtain ⟨_, o', ho', hd⟩ := I.ok.funs.mem hb
  rw [e] at ho'; cases ho'
  obtain ⟨sl', e2⟩ := up2 b _ e1 hd
  exact ⟨sl', e2⟩
 ·exact I.base.free b o e n (exn b)
 ·obtain ⟨o', e1⟩ := I.base.there b o e (exn b)
  by_cases hb : b ∈ frs X.outer
  ·obtain ⟨_, o2, ho2, hd⟩ := I.funs.mem hb
   rw [e1] at ho2; cases ho2
   obtain ⟨sl', e2⟩ := up2 b _ e1 hd
   exact ⟨_, e2⟩
  ·exact ⟨o', fl.1 b o' (inB b o' e1 (notin b o e hb))⟩
 ·refine (I.hok a o e).stay (fun b u hb q => ?_) (fun _ q => q) fun _ _ q => q
  refine fl.1 b u (inB b u q fun z => ?_)
  rcases hb with y | y
  ·rw [y] at z; rw [free a z] at e; cases e
  ·rw [free b z] at y; cases y
 ·obtain ⟨o', e1⟩ := I.base.there b o e (exn b)
  exact ⟨o', inB b o' e1 (notin b o e hb)⟩
end
end L2
set_option Elab.async false
set_option linter.all false
set_option maxRecDepth 100000
namespace L2
open PySem PySem.Spec PyProof.Rows
section
variable {P : Program} {w : World} {K : PySem.W.Frag} {mg : Str -> Option Value} {base : Heap} {N : List Str} {qual : Str} {scope : Scope} {f : Addr} {cd : Value} {A : Around} {outer : List Env} {s : Shared} {H : Hp} {E : XK}
theorem w6 : (dY (CX1 P w) P w K mg base N qual scope f cd A outer s H E).Top := ⟨rfl, rfl, rfl⟩
theorem aD : oF (CX1 P w) (dY (CX1 P w) P w K mg base N qual scope f cd A outer s H E) E := fun pins σ H s e s' I h => tU w6 I.ok.frames I h
theorem CO {X : Cx} : oF (CX1 P w) X E0 := fun pins σ H s e s' I ⟨_, _, _, _, _, _, _, _, _, q⟩ => q.elim
theorem fL : PassesOwn (model P w) (dY (CX1 P w) P w K mg base N qual scope f cd A outer s H E).A (dY (CX1 P w) P w K mg base N qual scope f cd A outer s H E).env (dY (CX1 P w) P w K mg base N qual scope f cd A outer s H E).xe := PassesOwn.leaving
noncomputable def Rz (X : Cx) (E : XK) : Prop := ∀ (pins : List (Addr × Obj)) (σ : St) (H : Hp) (s : Shared) (h' : Heap) (ea : Addr) (cls : Value) (args : List Value), Inv X pins σ H s -> Heap.MadeExcOf s.heap h' ea cls args -> E cls none H -> X.xe (.ref ea) { s with heap := h' }
theorem rz1 : Rz (dY (CX1 P w) P w K mg base N qual scope f cd A outer s H E) E := fun pins σ H s h' ea cls args I hx q => wo w6 I.ok.frames I hx q
theorem Fun.okR {x qual : Str} {st : Stmt} {f : Addr} {fd : FuncData} {N ps : List Str} {k : Nat} {sp : Sp} (F : Fun K x qual st f fd) (S : FnScope N ps (aA st)) (len : ∀ vs H Q E, sp vs H Q E -> vs.length = ps.length)
  (hbody : ∀ (cdv : Value) (A : Around) (outer : List Env) (s : Shared) (H : Hp) (vs : List V) (Q : VK) (E : XK), Room k (A.deeper (envOfC qual (aA st) s.heap.objs.size f cdv)) -> sp vs H Q E ->
   ∃ t, PSs (dY (CX1 P w) P w K mg base N qual (aA st) f cdv A outer s H E) (cA st) t /\ t { nx := fun _ H' => Q .non H', rt := Q } (en N vs) H) : FnOk P w K mg base (CX1 P w) (k + 1) f fd ps sp := by
 obtain ⟨oc, od, kV, doc, pm, an, cdv, ct, osl, rfl, lk, hcd⟩ := F.ex
 exact En lk hcd S len fun A outer s H vs Q E hr hsp => hbody cdv A outer s H vs Q E hr hsp
end
abbrev eL : List Value := [.type "ValueError", .type "Exception", .type "BaseException", .type "object"]
theorem
    td {K : PySem.W.Frag} {h : Heap} {C : Addr} (X : K.In h) (q : PySem.W.excIn K C eL "ValueError.__new__" = true) :
  ∃ bm N nm q' bs hdct sn sub ab col dd k0 k1 k2 k3 k5 mN, h.get? C = some (excClassObj nm q' C N bs bm hdct sn sub ab col dd k0 k1 k2 k3 k5 "ValueError.__new__") /\ h.Ns N mN /\ mN "__init__" = none /\ OwnTail h eL bm := by
 unfold PySem.W.excIn at q
 split at q
 ·rename_i dd cd sl ho
  split at q
  ·rename_i C' bm k0 k1 k2 k3 n k5 hm hs
   simp only [Bool.and_eq_true, beq_iff_eq, Bool.not_eq_true'] at q
   obtain ⟨⟨⟨⟨⟨rfl, rfl⟩, hdel⟩, ht⟩, hok⟩, hni⟩ := q
   obtain ⟨nm, bs, mro, ns, qn, hd, sn, sub, ab, col, del⟩ := cd
   dsimp only at hm hdel hok hni
   subst hm hdel
   have hsl : sl = #[k0, k1, k2, k3, some (.builtin "ValueError.__new__"), k5] := by
    obtain ⟨l⟩ := sl
    simp only at hs
    rw [hs]
   subst hsl
   exact ⟨bm, ns, nm, qn, bs, hd, sn, sub, ab, col, dd, k0, k1, k2, k3, k5, _, X _ _ ho, .of_isNs (PySem.W.isNs_of_in X hok), PySem.W.nsMap_none_of_in X hok hni, PySem.W.tail_of_in X ht⟩
  ·cases q
 ·cases q
section
variable {X : Cx} {x : Str} {C : Addr} {E : XK} {np cpos pos : Pos} {e₀ : Expr} {es : List Expr} {ta : TA}
noncomputable def zT (C : Addr) (E : XK) (ta : TA) : TS := fun _ σ H => ta σ H fun vs H1 => vs.length <= sizeLine /\ E (.ref C) none H1
theorem uS (hc : X.calm = true) (hR : Rz X E) (hg : Gl X x) (hm : X.mg x = some (.ref C)) (hq : PySem.W.excIn X.K C eL "ValueError.__new__" = true) (ha : PA X (e₀ :: es) ta)
  (he : starEach (e₀ :: es) X.env = (false, eval e₀ X.env) :: starEach es X.env := by rfl) (hplain : (backTo cpos (starEach es X.env)).any (·.1) = false := by rfl) (hd : (x == ("__debug__" : Str)) = false := by decide) :
  PS X (.Raise (some (.Call (.Name x np) (e₀ :: es) [] cpos)) none pos) (zT C E ta) := by
 intro pins s σ H D I h
 obtain ⟨bm, N, nm, q', bs, hdct, sn, sub, ab, col, dd, k0, k1, k2, k3, k5, mN, hC, hN, hni, T⟩ := td I.ok.mod.kin hq
 refine wpAny_Raise_call_subT (C := C) (nm := nm) (q := q') (N := N) (bs := bs) (bm := bm) (hdct := hdct) (sn := sn) (sub := sub) (ab := ab) (col := col) (dd := dd) (k0 := k0) (k1 := k1) (k2 := k2) (k3 := k3) (k5 := k5)
  PySem.F.excBase_ValueError (mN := mN) (T.hasType PySem.F.excBase_ValueError.hasBase) (I.ok.hd hc) (by rw [he]; show (false || (backTo cpos (starEach es X.env)).any (·.1)) = false; rw [hplain]; rfl) hni (lI I hg hm ⟨rfl, ?_⟩ hd)
 have hA := ha cpos pins s σ H _ I h
 rw [he] at hA ⊢
 refine Calls.evalArgs_plain (thn hA fun us s2 ⟨vs, H2, I2, r2, hz, q2⟩ => ⟨rfl, by rw [<- r2.length]; exact hz, I2.bk _ _ hC, hN.keeps I2.bk, T.keeps I2.bk, fun h' e hm' => ?_⟩)
 exact hR pins σ H2 s2 h' e _ _ I2 hm' q2
end
abbrev XS := St -> XK
abbrev TEx := St -> Hp -> VK -> XK -> Prop
abbrev TSx := Ends -> XS -> St -> Hp -> Prop
noncomputable def XP (X : Cx) (pins : List (Addr × Obj)) (E : XS) (e : Value) (s' : Shared) : Prop := ∃ σ1 H1 s1, Inv X pins σ1 H1 s1 /\ CX1 X.prog X.w X.stack H1 s1 (E σ1) e s'
noncomputable def PEx (X : Cx) (e : Expr) (t : TEx) : Prop :=
 ∀ (pins : List (Addr × Obj)) (s : Shared) (σ : St) (H : Hp) (Q : VK) (E : XS), Inv X pins σ H s -> t σ H Q (E σ) -> wpAny (model X.prog X.w) X.A (eval e X.env) (EP X pins σ Q) (XP X pins E) s
section
variable {X : Cx} {st : Stmt} {f6 : List Stmt} {t u : TSx} {e : Expr} {es : List Expr} {te : TEx} {pos p : Pos} {x : Str} {f : Addr} {fd : FuncData} {ps : List Str} {sp : Sp} {k : Nat} {ta : TA} {dvs : List V} {ds : List Value}
end
section
variable {X : Cx} {pins : List (Addr × Obj)} {σ : St} {H : Hp} {s : Shared} {ea : Addr}
end
structure XHand (K : PySem.W.Frag) (C : Addr) : Prop where
 ty : PySem.W.typeIn K (.ref C) = some (.type "type")
 cls : (PySem.W.clsIn K C).isSome = true
 mb : PySem.W.mroIn K C (.type "BaseException") = some true
section
variable {X : Cx} {x n : Str} {C : Addr} {i : Nat} {body suite : List Stmt} {b₀ : Stmt} {tb : TSx} {ts : TS} {np hpos pos : Pos}
end
end L2
set_option Elab.async false
set_option linter.all false
set_option maxRecDepth 100000
namespace L2
open PySem PySem.Spec PyProof.Rows
mutual
inductive Rep (K : PySem.W.Frag) (H : Hp) : V -> PyData -> Prop where
 | non : Rep K H .non .none
 | bl (b : Bool) : Rep K H (.bl b) (.bool b)
 | int (i : Int) : Rep K H (.int i) (.int i)
 | str (x : Str) : Rep K H (.str x) (.str x)
 | tup {a : Addr} {xs : List V} {ds : List PyData} (h : SqT K H a xs) (r : Reps K H xs ds) : Rep K H (.ref a) (.tuple ds)
 | lst {a : Addr} {xs : List V} {ds : List PyData} (h : SqL K H a xs) (r : Reps K H xs ds) : Rep K H (.ref a) (.list ds)
inductive Reps (K : PySem.W.Frag) (H : Hp) : List V -> List PyData -> Prop where
 | nil : Reps K H [] []
 | cons {x : V} {d : PyData} {xs : List V} {ds : List PyData} (r : Rep K H x d) (rr : Reps K H xs ds) : Reps K H (x :: xs) (d :: ds)
end
section
variable {X : Cx} {pins : List (Addr × Obj)} {σ : St} {H H' : Hp} {s : Shared} {K : PySem.W.Frag}
theorem
    Rep.reads (I : Inv X pins σ H s) {v : V} {d : PyData} {u : Value} (r : Rep X.K H v d) (q : RelV v u) : ∃ as, Reads s.heap u d as :=
 Rep.rec (motive_1 := fun v d _ => ∀ u, RelV v u -> ∃ as, Reads s.heap u d as) (motive_2 := fun vs ds _ => ∀ us, Vals vs us -> ∃ as, ReadsAll s.heap us ds as)
  (fun u r => by cases r; exact ⟨_, .none⟩) (fun b u r => by cases r; exact ⟨_, .bool b⟩) (fun i u r => by obtain ⟨t, rfl⟩ := r; exact ⟨_, .int i t⟩) (fun x u r => by obtain ⟨t, rfl⟩ := r; exact ⟨_, .str x t⟩)
  (fun h _ ih u r => by
   cases r
   obtain ⟨its, rv, ⟨o, e, c, n, d⟩, _⟩ := I.tuple h
   obtain ⟨as, q⟩ := ih _ rv
   exact ⟨as, .tuple e c d (by simpa using q)⟩)
  (fun h _ ih u r => by
   cases r
   obtain ⟨its, rv, ⟨o, n, e, c, _, d⟩, _⟩ := I.list h
   obtain ⟨as, q⟩ := ih _ rv
   exact ⟨_, .list e c d (by simpa using q)⟩)
  (fun us r => by cases r; exact ⟨_, .nil⟩)
  (fun _ _ a b us q => by
   cases q with
   |
    cons q1 q2 =>
    obtain ⟨as, h1⟩ := a _ q1
    obtain ⟨bs, h2⟩ := b _ q2
    exact ⟨_, .cons h1 h2⟩) r u q
end
section
variable {X : Cx}
noncomputable def rF (K : PySem.W.Frag) : R2 := fun x y H Q => ∃ dx dy, Rep K H x dx /\ Rep K H y dy /\ SeqAt.shaped dx = true /\ SeqAt.shaped dy = true /\ Q (.bl (PyData.eqv dx dy)) H
noncomputable def rC (K : PySem.W.Frag) : R2 := fun x y H Q => ∃ dx dy, Rep K H x dx /\ Rep K H y dy /\ SeqAt.shaped dx = true /\ SeqAt.shaped dy = true /\ Q (.bl (!PyData.eqv dx dy)) H
theorem Bt (hu : X.A.units + 64 < cLine) : OpR X (compareOp .Eq) (rF X.K) := by
 intro pins s σ H x y v u Q I rx ry h
 obtain ⟨dx, dy, r1, r2, h1, h2, q⟩ := h
 obtain ⟨as, q1⟩ := r1.reads I rx
 obtain ⟨bs, q2⟩ := r2.reads I ry
 exact SeqAt.compareEq_shaped q1 q2 h1 h2 hu (kj I q rfl)
theorem zu (hu : X.A.units + 64 < cLine) : OpR X (compareOp .NotEq) (rC X.K) := by
 intro pins s σ H x y v u Q I rx ry h
 obtain ⟨dx, dy, r1, r2, h1, h2, q⟩ := h
 obtain ⟨as, q1⟩ := r1.reads I rx
 obtain ⟨bs, q2⟩ := r2.reads I ry
 exact SeqAt.compareNe_shaped q1 q2 h1 h2 hu (kj I q rfl)
open PySem.Builtin.Int (intBits)
noncomputable def CDivB (i j : Int) : Prop := j ≠ 0 /\ intBits j <= 8000
noncomputable def wR (i j : Int) : Prop := intBits i <= 100000 /\ intBits j <= 100000
theorem jW : OpR X (binaryOp .FloorDiv) (rI CDivB fun i j => .int (i.fdiv j)) := opI fun i j _ _ _ _ _ hc q => floordiv_int hc.1 q (.inl (PyProof.noPylong_of_log2 (by
 have h := hc.2
 have h0 := hc.1
 unfold intBits at h
 have hb : (j == 0) = false := by simpa using h0
 rw [hb] at h
 simp only [Bool.false_eq_true, if_false] at h
 omega)))
theorem xo : OpR X (binaryOp .Mult) (rI wR fun i j => .int (i * j)) := opI fun i j _ _ _ _ _ hc q => mul_int q (PySem.IntMulOk.of_le hc.1 hc.2 (by decide))
theorem sM (bs : List Bool) : ((List.range bs.length).all fun i => bs.getD i false) = bs.all id := by
 rw [Bool.eq_iff_iff, List.all_eq_true, List.all_eq_true]
 constructor
 ·intro h x hx
  obtain ⟨i, hi, rfl⟩ := List.mem_iff_getElem.mp hx
  have := h i (List.mem_range.mpr hi)
  simpa [List.getD_eq_getElem?_getD, hi] using this
 ·intro h i hi
  have hi' := List.mem_range.mp hi
  have := h bs[i] (List.getElem_mem hi')
  simpa [List.getD_eq_getElem?_getD, hi'] using this
theorem uR (hc : X.calm = true) : CallR X (.builtin "all") (fun xs H Q => ∃ (a : Addr) (bs : List Bool), xs = [.ref a] /\ SqL X.K H a (bs.map V.bl) /\ Q (.bl (bs.all id)) H) := by
 intro pins s σ H xs us Q I r h
 obtain ⟨a, bs, rfl, hq, q⟩ := h
 obtain ⟨u, rfl, ru⟩ := gc r
 cases ru
 obtain ⟨its, rv, p, hz⟩ := I.list hq
 have hl := rv.length
 rw [List.length_map] at hl
 have hlt : a < s.heap.objs.size := by obtain ⟨o, n, e, _⟩ := p; exact Heap.lt_size e
 refine call_all_walk (wpAny_pyIter_list p.isList ?_)
 refine ⟨s.heap.objs.size, _, _, _, _, _, fun i => bs.getD i false, rfl, Walks.list (A := X.A.in1) (I.ok.hd hc) s.heap.objs.size a (Nat.ne_of_lt hlt) its.toArray, ⟨⟨_, Heap.get?_push_size _ rfl, rfl, rfl⟩, (p.keeps fun b o e => Heap.get?_push_of_some _ e).isList⟩, fun i v s' Q' E' hP hQ => ?_, fun h' tk hk => ?_⟩
 ·have hP' : its[i]? = some v := by simpa using hP
  have hi : i < bs.length := by rw [hl]; exact (List.getElem?_eq_some_iff.mp hP').1
  have hb : (bs.map V.bl)[i]? = some (V.bl bs[i]) := by simp [hi]
  obtain ⟨u, hu, ru⟩ := rv.get hb
  rw [hP'] at hu
  cases hu
  cases ru
  refine wpAny_truthy_bool ?_
  have e : bs.getD i false = bs[i] := by simp [List.getD_eq_getElem?_getD, hi]
  show Q' bs[i] s'
  rw [<- e]
  exact hQ
 ·have e1 : its.toArray.size = bs.length := by rw [List.size_toArray, hl]
  rw [e1, sM]
  have hn : H s.heap.objs.size = none := I.fresh
  have I1 : Inv X pins σ H { s with heap := s.heap.push { cls := .type "list_iterator", dict := none, data := .fields #[.ref a, rawInt 0] } } := I.kept (t' := s.toks) fun b o e => Heap.get?_push_of_some _ e
  refine ⟨.bl _, H, ?_, rfl, q⟩
  refine I.kept (t' := tk) fun b o e => ?_
  have hne : b ≠ s.heap.objs.size := Nat.ne_of_lt (Heap.lt_size e)
  exact hk b o (by simpa using hne) (Heap.get?_push_of_some _ e)
end
end L2
set_option Elab.async false
set_option linter.all false
set_option maxRecDepth 100000
namespace L2
open PySem PySem.Spec PyProof.Rows
structure Def (K : PySem.W.Frag) (mg : Str -> Option Value) (x : Str) (st : Stmt) : Prop where
 ex : ∃ f fd, Fun K x x st f fd /\ mg x = some (.ref f)
theorem aY {K : PySem.W.Frag} {h : Heap} {mg : Str -> Option Value} {x : Str} {st : Stmt} {f : Addr} {oc : Value} {od an : Option Addr} {osl : Array (Option Value)} {kV doc pm cdv ct : Value} (X : K.In h) (G : h.Ns mainGlobals mg)
  (a : PySem.W.nsIn K mainGlobals x = some (some (.ref f))) (l : K.lookup f = some ⟨oc, od, .func (PySem.W.fnOf x x (dN st) (cA st) (aA st) .none kV doc pm an cdv ct), osl⟩)
  (c : PySem.W.codeIn K cdv x = true) (k : PySem.W.keepIn K (.ref f) = true) : Def K mg x st := ⟨f, _, Bj l c k, PySem.W.mg_of X G a⟩
theorem Fun.look {K : PySem.W.Frag} {x qual : Str} {st : Stmt} {f : Addr} {fd : FuncData} (F : Fun K x qual st f fd) : ∃ oc od osl, K.lookup f = some ⟨oc, od, .func fd, osl⟩ := by
 obtain ⟨oc, od, kV, doc, pm, an, cdv, ct, osl, rfl, lk, hcd⟩ := F.ex
 exact ⟨oc, od, osl, lk⟩
structure Callee (P : Program) (w : World) (K : PySem.W.Frag) (mg : Str -> Option Value) (base : Heap) (x : Str) (k : Nat) (ps : List Str) (sp : Sp) : Prop where
 ex : ∃ f fd, FnOk P w K mg base (CX1 P w) k f fd ps sp /\ mg x = some (.ref f) /\ PySem.W.keepIn K (.ref f) = true /\ Binds K fd ps [] /\ ∃ oc od osl, K.lookup f = some ⟨oc, od, .func fd, osl⟩
section
variable {P : Program} {w : World} {K : PySem.W.Frag} {mg : Str -> Option Value} {base : Heap} {x : Str} {st : Stmt} {k : Nat} {ps N : List Str} {sp : Sp}
theorem Callee.imp {sp' : Sp} (C : Callee P w K mg base x k ps sp) (h : ∀ vs H Q E, sp' vs H Q E -> sp vs H Q E) : Callee P w K mg base x k ps sp' := by
 obtain ⟨f, fd, F, r⟩ := C.ex
 exact ⟨f, fd, F.imp h, r⟩
theorem Def.okR (D : Def K mg x st) (S : FnScope N ps (aA st))
  (hb : ∀ (kV doc pm : Value) (an : Option Addr) (cdv ct : Value) (us : List Value), us.length = ps.length -> bindArgs (PySem.W.fnOf x x (dN st) (cA st) (aA st) .none kV doc pm an cdv ct) ⟨us, []⟩ = pure (ps.zip us))
  (len : ∀ vs H Q E, sp vs H Q E -> vs.length = ps.length)
  (hbody : ∀ (f : Addr) (cdv : Value) (A : Around) (outer : List Env) (s : Shared) (H : Hp) (vs : List V) (Q : VK) (E : XK), Room k (A.deeper (envOfC x (aA st) s.heap.objs.size f cdv)) -> sp vs H Q E ->
   ∃ t, PSs (dY (CX1 P w) P w K mg base N x (aA st) f cdv A outer s H E) (cA st) t /\ t { nx := fun _ H' => Q .non H', rt := Q } (en N vs) H) : Callee P w K mg base x (k + 1) ps sp := by
 obtain ⟨f, fd, F, m⟩ := D.ex
 exact ⟨f, fd, F.okR S len (hbody f), m, F.kp, F.binds hb, F.look⟩
end
section
variable {X : Cx} {x : Str} {p pos : Pos} {e : Expr} {es : List Expr} {ta : TA} {k : Nat} {ps : List Str} {sp : Sp} {E : XK}
end
section
variable {X : Cx} {K : PySem.W.Frag} {tg l : Expr} {tl : TE}
theorem allK (h : X.K = K) (hc : X.calm = true) : CallR X (.builtin "all") (fun xs H Q => ∃ (a : Addr) (bs : List Bool), xs = [.ref a] /\ SqL K H a (bs.map V.bl) /\ Q (.bl (bs.all id)) H) := by subst h; exact uR hc
theorem jZ (h : X.K = K) (hu : X.A.units + 64 < cLine) : OpR X (compareOp .Eq) (rF K) := by subst h; exact Bt hu
theorem mV (h : X.K = K) (hu : X.A.units + 64 < cLine) : OpR X (compareOp .NotEq) (rC K) := by subst h; exact zu hu
end
end L2
set_option Elab.async false
set_option linter.all false
set_option maxRecDepth 100000
namespace L2
open PySem PySem.Spec PyProof.Rows
section
variable {X : Cx}
theorem
    zF {elt iter tg : Expr} {ifs : List Expr} {scope : Scope} {pos : Pos} {wi : TI} {g : TG} {tc : TT} {te : TE} {N : List Str} {sub : List (Option Nat)} {iT : Nat} {xT : Str} {px spos : Pos}
  (hc : X.calm = true) (hN : X.N.Nodup) (hix : X.N[iT]? = some xT) (hxl : Loc X.env.scope xT) (hi : PI X tg iter wi)
  (hk : scope.kind = .function) (hnc : ∀ x ∈ scope.names, x.2 ≠ .cell) (hnames : ∀ x ∈ scope.names, x.2 = .local -> scope.names.lookup x.1 = some .local)
  (hfr : ∀ x ∈ scope.names, x.2 = .free -> X.env.kindOf x.1 = some .cell \/ X.env.kindOf x.1 = some .free)
  (hsl : sub.length = N.length) (hsub : ∀ (j i : Nat) (x : Str), sub[j]? = some (some i) -> N[j]? = some x -> X.N[i]? = some x /\ scope.names.lookup x = some .free)
  (hg : ∀ cl C s₂ H fp, PG (bu X N scope cl C s₂ H fp) tg g) (ht : ∀ cl C s₂ H fp, PTs (bu X N scope cl C s₂ H fp) ifs tc) (he : ∀ cl C s₂ H fp, PE (bu X N scope cl C s₂ H fp) elt te)
  (hsw : swapsWith (.ListComp elt [⟨tg, iter, ifs, 0⟩] scope pos) (some (.Name xT px)) spos.line X.env = pure true)
  (hs : ∀ x, foldedSetIterable iter X.env x = pure x := by intro _; rfl) (hf : X.fn xT = true \/ X.env.scope.names.lookup xT = some .local := by first | exact .inl rfl | exact .inr rfl | assumption) :
  PS X (.Assign [.Name xT px] (.ListComp elt [⟨tg, iter, ifs, 0⟩] scope pos) spos) (nS (jH wi sub g tc te) (kK iT)) := by
 intro pins s σ H D0 I h
 obtain ⟨cl, hclos, hcl, hclf⟩ := iP (env := X.env) (scope := scope) fun x hx hf => I.ok.has x.1 (hfr x hx hf)
 rw [exec_Assign_Name_used _ _ _ _ hsw]
 refine wpAny_bind (wpAny_standAt (wpAny_bind ?_))
 show wpAny _ X.A (do let _ <- comprehension (.ListComp elt [⟨tg, iter, ifs, 0⟩] scope pos) scope X.env _ (newList []) false (eval iter X.env) (some (assign (.Name xT px) X.env))) _ _ s
 refine wpAny_bind (wpAny_mono (wpAny_comprehension_free (use := some (assign (.Name xT px) X.env)) (Q := fun _ s' => SP X pins D0 .next s') rfl hs hclos hk hnames ?_) (fun _ s' hq => wpAny_pure (wpAny_pure hq)) fun _ _ e => e)
 show wpAny _ _ (eval iter X.env) _ _ _
 refine thn (hi pins s σ H _ I h) fun v s1 h1 => thn h1 fun itv s2 h2 => ?_
 obtain ⟨it, fp, tn, J, H2, e, I2, T, st2, f2, W, ⟨m0, w0⟩, turn⟩ := h2
 subst e
 refine wpAny_newObj_type (wpAny_newFunctionEnv hnc (by intro y hy; simp at hy) (fun h₁ hns₁ hsb₁ => ?_) hk)
 dsimp only at hns₁ hsb₁ ⊢
 generalize hH2 : s2.heap.push { cls := .type "list", dict := none, data := .seq ([] : List Value).toArray } = G2 at hns₁ hsb₁ ⊢
 have hC : G2.objs.size = s2.heap.objs.size + 1 := by rw [<- hH2, Heap.size_push]
 have hDC : s2.heap.objs.size ≠ G2.objs.size := by omega
 have below : ∀ b, b < s2.heap.objs.size -> b ≠ G2.objs.size /\ b ≠ s2.heap.objs.size := fun b hb => ⟨by omega, by omega⟩
 have old : ∀ b o, s2.heap.get? b = some o -> h₁.get? b = some o := fun b o e => hsb₁.extBut b o (below b (Heap.lt_size e)).1 (Heap.get?_push_of_some _ (hH2 ▸ Heap.get?_push_of_some _ e))
 have hD₁ : h₁.get? s2.heap.objs.size = some { cls := .type "list", dict := none, data := .seq ([] : List Value).toArray } := hsb₁.extBut _ _ hDC (Heap.get?_push_of_some _ (hH2 ▸ Heap.get?_push_size _ rfl))
 have fresh : ∀ a, s2.heap.objs.size <= a -> s2.heap.get? a = none := fun a ha => Heap.get?_none_of_le ha
 have cellOld : ∀ x c, cl.lookup x = some c -> c < s2.heap.objs.size := fun x c e => by
  obtain ⟨v, z⟩ := I2.cell x c (hcl x c e)
  exact z.lt
 have fpOld : ∀ b ∈ fp, b < s2.heap.objs.size := fun b hb => by
  obtain ⟨o, e, _⟩ := T.obj _ _ st2 b hb
  exact Heap.lt_size e
 let Y : Cx := bu X N scope cl G2.objs.size s2 H2 fp
 have okY : Y.Ok
         := by
  refine ⟨I2.ok.mod, ?_, I2.ok.glob, I2.ok.blt, ?_, fun x y c e1 e2 => I2.ok.inj x y c (hcl x c e1) (hcl y c e2), fun x hx => ?_, fun x c hfn _ => absurd hfn Bool.false_ne_true, I2.ok.hd, I2.ok.frames, .inl rfl,
   fun b hb => ⟨?_, fun x c e z => ?_⟩, I2.bs, Nat.le_trans I2.ok.bsz I2.sz, fun b o e hb => ?_, fun b hb hf => ?_, I2.stack, I2.stkFree⟩
  ·show (relabel scope X.env).kind = .function
   exact hk
  ·show s2.heap.objs.size <= G2.objs.size
   omega
  ·have hx' : (
         relabel scope X.env).names.lookup x = some .cell \/ (relabel scope X.env).names.lookup x = some .free := hx
   have : ∃ k,
         (x, k) ∈ scope.names /\ k = .free := by
    have gen : ∀ (names : List (Str × NameKind)), (∀ y ∈ names, y.2 ≠ .cell) -> ∀ kk, (kk = NameKind.cell \/ kk = NameKind.free) -> (names.map fun (n, k) => if (k == NameKind.free && X.env.scope.kind == .function && X.env.kindOf n == some .cell) then (n, NameKind.cell) else (n, k)).lookup x = some kk -> ∃ k, (x, k) ∈ names /\ k = .free := by
     intro names
     induction names with
     | nil => intro _ kk _ e; simp at e
     |
      cons y r ih =>
      intro hn kk hkk e
      obtain ⟨n, k⟩ := y
      rw [List.map_cons, List.lookup_cons] at e
      by_cases hkf : k = .free
      ·subst hkf
       by_cases hxn : x = n
       ·exact ⟨.free, by rw [hxn]; exact List.mem_cons_self, rfl⟩
       ·have hb : (x == (if (NameKind.free == NameKind.free && X.env.scope.kind == .function && X.env.kindOf n == some .cell) = true then (n, NameKind.cell) else (n, NameKind.free)).1) = false := by
         split <;> exact beq_eq_false_iff_ne.mpr hxn
        rw [hb] at e
        obtain ⟨k', m, q⟩ := ih (fun z hz => hn z (List.mem_cons_of_mem _ hz)) kk hkk e
        exact ⟨k', List.mem_cons_of_mem _ m, q⟩
      ·have hb0 : (k == NameKind.free && X.env.scope.kind == .function && X.env.kindOf n == some .cell) = false := by
        have : (k == NameKind.free) = false := by simpa using hkf
        rw [this]; rfl
       rw [hb0] at e
       simp only [Bool.false_eq_true, if_false] at e
       cases q : x == n with
       |
        true =>
        rw [q] at e
        have e' : k = kk := Option.some.inj e
        subst e'
        rcases hkk with z | z
        ·exact absurd z (hn (n, k) List.mem_cons_self)
        ·exact absurd z hkf
       |
        false =>
        rw [q] at e
        obtain ⟨k', m, q⟩ := ih (fun z hz => hn z (List.mem_cons_of_mem _ hz)) kk hkk e
        exact ⟨k', List.mem_cons_of_mem _ m, q⟩
    rcases hx' with z | z
    ·exact gen scope.names hnc _ (.inl rfl) z
    ·exact gen scope.names hnc _ (.inr rfl) z
   obtain ⟨k, m, q⟩ := this
   exact hclf (x, k) m q
  ·show b ≠ G2.objs.size
   exact (below b (fpOld b hb)).1
  ·exact (f2 b hb).2.2.2.2.1 x c (hcl x c e) z
  ·rcases (f2 b hb).2.2.2.1 with z | z
   ·exact I2.ok.noex b o e z
   ·exact absurd (Nat.lt_of_lt_of_le (Heap.lt_size e) (Nat.le_trans I2.ok.bsz z)) (Nat.lt_irrefl _)
  ·have hf' : b ∈ frs X.stack := hf
   rcases List.mem_cons.mp (I2.stkSub b hf') with z | z
   ·exact (f2 b hb).2.1 z
   ·exact (f2 b hb).2.2.1 z
 have startLoc
        : ∃ m, h₁.Ns G2.objs.size m /\ ∀ (i : Nat) (x : Str) (v : V), N[i]? = some x -> (cH sub σ)[i]? = some (some v) -> Vis (relabel scope X.env) x -> ∃ u, RelV v u /\ vU Y.env h₁ m x u := by
  refine ⟨_, hns₁, fun j x v e1 e2 e3 => ?_⟩
  unfold cH at e2
  rw [List.getElem?_map] at e2
  cases q : sub[j]? with
  | none => rw [q] at e2; cases e2
  |
   some o =>
   rw [q] at e2
   cases o with
   | none => cases e2
   |
    some i =>
    obtain ⟨hNi, hfree⟩ := hsub j i x q e1
    have e2' : (σ[i]?).bind id = some v := Option.some.inj e2
    have e2'' : σ[i]? = some (some v) := by
     cases z : σ[i]? with
     | none => rw [z] at e2'; cases e2'
     | some y => rw [z] at e2'; rw [show y = some v from e2']
    obtain ⟨m2, hn2, hl2⟩ := I2.loc
    have hkx := hfr (x, .free) (PySem.mem_of_lookup hfree) rfl
    obtain ⟨u, r, l⟩ := hl2 i x v hNi e2'' (by rcases hkx with z | z; exact .inr (.inl z); exact .inr (.inr z))
    refine ⟨u, r, .inr ⟨?_, ?_⟩⟩
    ·rcases e3
          with z | z | z
     ·exfalso
      have gen : ∀ (names : List (Str × NameKind)), names.lookup x = some .free -> (names.map fun (n, k) => if (k == NameKind.free && X.env.scope.kind == .function && X.env.kindOf n == some .cell) then (n, NameKind.cell) else (n, k)).lookup x = some .local -> False := by
       intro names
       induction names with
       | nil => intro e _; simp at e
       |
        cons y r ih =>
        intro e1 e2
        obtain ⟨n, k⟩ := y
        rw [List.lookup_cons] at e1
        rw [List.map_cons, List.lookup_cons] at e2
        by_cases hxn : x = n
        ·have hb1 : (x == n) = true := beq_iff_eq.mpr hxn
         rw [hb1] at e1
         have : k = .free := Option.some.inj e1
         subst this
         split at e2
         ·rename_i hq
          split at e2 <;> cases e2
         ·rename_i hq
          split at hq <;> (rw [hb1] at hq; cases hq)
        ·have hb1 : (x == n) = false := beq_eq_false_iff_ne.mpr hxn
         rw [hb1] at e1
         refine ih e1 ?_
         split at e2
         ·rename_i hq
          split at hq <;> (rw [hb1] at hq; cases hq)
         ·exact e2
      exact gen scope.names hfree z
     ·exact .inl z
     ·exact .inr z
    ·obtain ⟨c, hc'⟩ := hclf (x, .free) (PySem.mem_of_lookup hfree) rfl
     refine ⟨c, hc', ?_⟩
     rcases l with ⟨k, _⟩ | ⟨_, c2, ec2, z⟩
     ·rcases hkx with z | z <;> (rw [k] at z; cases z)
     ·have := hcl x c hc'
      rw [ec2] at this
      cases this
      obtain ⟨oc, hoc, hd⟩ := z
      exact ⟨oc, old _ _ hoc, hd⟩
 have pinD : ∀ {σ' : St} {H' : Hp} {s' : Shared} {pl : List (Addr × Obj)} {o : Obj}, Inv Y pl σ' H' s' -> s'.heap.get? s2.heap.objs.size = some o -> (∀ v, o.data ≠ .cell v) -> H' s2.heap.objs.size = none -> Inv Y [(s2.heap.objs.size, o)] σ' H' s' := fun {σ' H' s' pl o} IY e d n =>
  IY.pins_of fun p hp => by
   have e' : p = (s2.heap.objs.size, o) := by simpa using hp
   subst e'
   refine ⟨e, n, ?_, ?_, d⟩
   ·show s2.heap.objs.size ≠ G2.objs.size
    omega
   ·intro hf
    have hf' : s2.heap.objs.size ∈ frs X.stack := hf
    obtain ⟨_, o', ho', _⟩ := I2.stack.mem hf'
    exact absurd (Heap.lt_size ho') (Nat.lt_irrefl _)
 have fpY : ∀ {H' : Hp} {pl : List (Addr × Obj)}, (∀ b ∈ fp, H' b = none) -> (∀ p ∈ pl, p.1 ∉ fp) -> ∀ b ∈ fp, FpOk Y pl H' b := fun {H' pl} hn hp b hb => by
  refine ⟨hn b hb, ?_, ?_, .inl hb, fun x c e => ?_, fun p hp' => ?_⟩
  ·exact (okY.exf b hb).1
  ·exact okY.exfs b hb
  ·exact (okY.exf b hb).2 x c e
  ·intro z
   have hp'' : p ∈ pl := by simpa [Y, bu] using hp'
   exact hp p hp'' (by rw [z]; exact hb)
 have hDfp : s2.heap.objs.size ∉ fp := fun z => Nat.lt_irrefl _ (fpOld _ z)
 have loop
      : ∀ s₃ : Shared, s₃ = { s2 with heap := h₁, toks := s2.toks + ([] : List (Str × Value)).length } ->
   codeAny (model X.prog X.w) X.A (.compLoop (.ListComp elt [⟨tg, iter, ifs, 0⟩] scope pos) 0 (.ref it) (.ref s2.heap.objs.size) (compEnvC scope cl G2.objs.size X.env))
    (compPost (model X.prog X.w) X.A X.xe (some (assign (.Name xT px) X.env)) (fun _ s' => SP X pins D0 .next s') (.ref s2.heap.objs.size) G2.objs.size) s₃ := by
  rintro s₃ rfl
  have IY0 : Inv Y [(s2.heap.objs.size, { cls := .type "list", dict := none, data := .seq ([] : List Value).toArray })] (cH sub σ) H2 { s2 with heap := h₁, toks := s2.toks + ([] : List (Str × Value)).length } := by
   have J0 : Inv Y [] (cH sub σ) H2 { s2 with heap := h₁, toks := s2.toks + ([] : List (Str × Value)).length } := by
    refine ⟨okY, rfl, I2.bare, Un.kept old, startLoc, fun x c e => ?_, I2.hok.fresh (by show s2.heap.objs.size <= G2.objs.size; omega), fun x c e => I2.freeC x c (hcl x c e), fun p hp => absurd (show p ∈ ([] : List (Addr × Obj)) from hp) (by simp), I2.hok.kept old, ?_⟩
    ·obtain ⟨v, oc, hoc, hd⟩ := I2.cell x c (hcl x c e)
     exact ⟨v, oc, old _ _ hoc, hd⟩
    ·show (cH sub σ).length = N.length
     unfold cH
     rw [List.length_map]; exact hsl
   exact pinD J0 hD₁ (fun v z => by cases z) I2.fresh
  refine jk (fun n s' => ∃ (i : Nat) (ys : List V) (its : List Value) (k : Nat) (σ' : St) (H' : Hp), Inv Y [(s2.heap.objs.size, { cls := .type "list", dict := none, data := .seq its.toArray k })] σ' H' s' /\ Vals ys its /\ tn i s'.heap /\ (∀ b ∈ fp, H' b = none) /\ W i n ys σ' H') ?_ m0
   ⟨0, [], [], 0, cH sub σ, H2, IY0, .nil, T.keep _ _ _ st2 (fun b hb o e => old b o e), fun b hb => (f2 b hb).1, w0⟩
  rintro n s3 ⟨i, ys, its, k, σ3, H3, I3, rv, st3, fr3, w3⟩
  have npl : ∀ (o : Obj), ∀ p ∈ [(s2.heap.objs.size, o)], p.1 ∉ fp := fun o p hp => by
   have e' : p = (s2.heap.objs.size, o) := by simpa using hp
   subst e'
   exact hDfp
  rcases turn i n ys σ3 H3 w3 with ⟨stop, hz, qn⟩ | ⟨go, hz, Nx, hNx, step⟩
  ·refine wpAny_mono (T.done Y rfl rfl rfl hc i _ s3 σ3 H3 (fun _ _ => False) I3 (fpY fr3 (npl _)) st3 stop) (fun r s4 ⟨hr, I4⟩ => ?_) fun _ _ z => z
   subst hr
   obtain ⟨m4, hn4, _⟩ := I4.loc
   have hs' : Heap.SameBut G2.objs.size s4.heap s4.heap := ⟨rfl, fun _ _ => rfl⟩
   obtain ⟨h', hh'⟩ : ∃ h', h' = s4.heap := ⟨_, rfl⟩
   rw [<- hh'] at hs'
   rw [hh'] at hs'
   clear hh' h'
   generalize hh' : s4.heap = h' at hs'
   have hs' : Heap.SameBut G2.objs.size s4.heap h' := by rw [hh']; exact hs'
   have hCfree : H3 G2.objs.size = none := I4.free
   have hD4 := I4.pin (s2.heap.objs.size, { cls := .type "list", dict := none, data := .seq its.toArray k }) (List.mem_append_right _ List.mem_cons_self)
   have un4 : Un (frs X.stack) fp H2 H3 s2.heap s4.heap := I4.base
   have up : ∀ b o, b ≠ G2.objs.size -> s4.heap.get? b = some o -> h'.get? b = some o := fun b o hb e => hs'.extBut b o hb e
   have ne2 : ∀ b o, s2.heap.get? b = some o -> b ≠ G2.objs.size := fun b o e => (below b (Heap.lt_size e)).1
   have un5 : Un (frs X.stack) fp H2 H3 s2.heap h' := by
    refine ⟨fun b o e n hb hx => up b o (ne2 b o e) (un4.keep b o e n hb hx), fun b o e n hb hx => ?_, un4.free, fun b o e hx => ?_, un4.tups, un4.frzs, un4.tbls⟩
    ·obtain ⟨sl, q⟩ := un4.slot b o e n hb hx
     exact ⟨sl, up b _ (ne2 b o e) q⟩
    ·obtain ⟨o', q⟩ := un4.there b o e hx
     exact ⟨o', up b _ (ne2 b o e) q⟩
   have hok5 : HOk X.prog X.w H3 h' := fun b u e => (I4.hok b u e).stay (fun c v hcc q => up c v (fun z => by
    rcases hcc with zz | zz
    ·rw [zz] at z; rw [z, hCfree] at e; cases e
    ·rw [z, hCfree] at zz; cases zz) q) (fun _ q => q) fun _ _ q => q
   have I5 : Inv X pins σ H3 { s4 with heap := h' } := I2.call' (s' := { s4 with heap := h' }) (ch := fp) I4.os un5 hok5 I4.bare fun b hb => by
    obtain ⟨_, g1, _, g3, g4, g5⟩ := f2 b hb
    exact ⟨g3, g1, g4, g5⟩
   have hDfree : H3 s2.heap.objs.size = none := hD4.2.1
   have sz0 : X.s₀.heap.objs.size <= s2.heap.objs.size := I2.sz
   have hCold : ∀ b, b < s2.heap.objs.size -> b ≠ G2.objs.size := fun b hb => (below b hb).1
   have I6 : Inv X pins σ (upd H3 s2.heap.objs.size (.lst ys)) { s4 with heap := h' } := by
    refine I5.track (o := .lst ys) hDfree (Heap.get?_none_of_le sz0) (Nat.ne_of_gt I2.lt) (fun x c e z => ?_) (fun p hp z => ?_) ?_
    ·obtain ⟨v, q⟩ := I2.cell x c e
     exact absurd q.lt (by rw [z]; exact Nat.lt_irrefl _)
    ·exact absurd (Heap.lt_size (I2.pin p hp).1) (by rw [z]; exact Nat.lt_irrefl _)
    ·exact ⟨hz, its, k, rv, up _ _ hDC hD4.1⟩
   have I6' : Inv X pins σ (upd H3 s2.heap.objs.size (.lst ys)) s4 := by
    have e4 : ({ s4 with heap := h' } : Shared) = s4 := by rw [<- hh']
    rw [e4] at I6; exact I6
   refine wpAny_assign_Name (mh (v := .ref s2.heap.objs.size) I6' hN hix hxl rfl (fun s7 I7 ⟨a7, sb7, ha7⟩ => ?_) hf)
   have ha : a7 < s2.heap.objs.size := by
    rcases ha7 with z | z
    ·rw [z]; exact I2.lt
    ·obtain ⟨v, q⟩ := I2.cell xT a7 z
     exact q.lt
   refine ⟨m4, hn4.sameBut sb7 (Ne.symm (hCold a7 ha)), fun h8 hs8 => ?_⟩
   have I8 : Inv X pins (σ.set iT (some (.ref s2.heap.objs.size))) (upd H3 s2.heap.objs.size (.lst ys)) { s7 with heap := h8, toks := s7.toks } := by
    refine I7.turned (it := G2.objs.size) (t' := s7.toks) (fun b o hb e => hs8.extBut b o hb e) ?_ ?_ (.inr ?_) (fun x c e => ?_) (fun p hp => ?_)
    ·rw [aL (Ne.symm hDC)]; exact hCfree
    ·exact Ne.symm (hCold _ I2.lt)
    ·omega
    ·obtain ⟨v, q⟩ := I2.cell x c e
     exact hCold _ q.lt
    ·exact hCold _ (Heap.lt_size (I2.pin p hp).1)
   exact ⟨_, _, I8, qn _ hDfree⟩
  ·refine wpAny_mono (T.item Y rfl rfl rfl hc i _ s3 σ3 H3 (fun _ _ => False) I3 (fpY fr3 (npl _)) st3 go) (fun r s4 ⟨u, hr, h4⟩ => ?_) fun _ _ z => z
   subst hr
   refine wpAny_mono h4 (fun _ s5 ⟨x, H5, I5, r5, y5, st5, fr5⟩ => ?_) fun _ _ z => z
   have I5' := I5.pinned (fpY fr5 (npl _)) (T.obj _ _ st5)
   refine wpAny_mono (hg cl G2.objs.size s2 H2 fp _ s5 σ3 H5 x u _ I5' r5 (step x H5 y5)) (fun _ s6 ⟨σ6, H6, I6, q6⟩ => ?_) fun _ _ z => z
   refine wpAny_mono (ht cl G2.objs.size s2 H2 fp _ s6 σ6 H6 _ I6 q6) (fun ok s7 ⟨H7, I7, q7⟩ => ?_) fun _ _ z => z
   have back : ∀ {σ' : St} {H' : Hp} {s' : Shared}, Inv Y ([(s2.heap.objs.size, { cls := .type "list", dict := none, data := .seq its.toArray k })] ++ gQ fp s5.heap) σ' H' s' -> tn (i + 1) s'.heap /\ ∀ b ∈ fp, H' b = none := fun {σ' H' s'} IB => by
    refine ⟨T.keep _ _ _ st5 fun b hb o e => (IB.pin (b, o) (List.mem_append_right _ (List.mem_append_right _ (dM hb e)))).1, fun b hb => ?_⟩
    obtain ⟨o, e, d⟩ := T.obj _ _ st5 b hb
    exact (IB.pin (b, o) (List.mem_append_right _ (List.mem_append_right _ (dM hb e)))).2.1
   cases ok with
   |
    false =>
    rw [if_neg Bool.false_ne_true] at q7
    obtain ⟨m', hm, w7⟩ := hNx _ _ _ q7
    rw [if_neg Bool.false_ne_true]
    obtain ⟨t7, f7⟩ := back I7
    exact ⟨m', hm, i + 1, ys, its, k, σ6, H7, I7.unpinned, rv, t7, f7, w7⟩
   |
    true =>
    rw [if_pos rfl] at q7
    rw [if_pos rfl]
    refine wpAny_mono (he cl G2.objs.size s2 H2 fp _ s7 σ6 H7 _ I7 q7) (fun y s8 ⟨yv, H8, I8, r8, q8⟩ => ?_) fun _ _ z => z
    obtain ⟨m', hm, w8⟩ := hNx _ _ _ q8
    obtain ⟨t8, f8⟩ := back I8
    have I9 := I8.unpinned
    have hD9 := I9.pin (s2.heap.objs.size, { cls := .type "list", dict := none, data := .seq its.toArray k }) (List.mem_append_right _ List.mem_cons_self)
    have e9 : s8.heap.get? s2.heap.objs.size = some { cls := .type "list", dict := none, data := .seq its.toArray k } := hD9.1
    have hlen := rv.length
    refine call_meets F.slot_list_append ⟨_, e9, rfl⟩ F.entry_list_append (F.args_list_append_2 _ _) (PySem.list_append _ its.toArray k y (by rw [List.size_toArray]; omega)) ⟨e9, ?_⟩
    have q9 := PySem.IsL.update e9 (fun xs => xs.push y)
    have ea : its.toArray.push y = (its ++ [y]).toArray := by simp
    rw [ea] at q9
    have k9 : ∀ b o, b ≠ s2.heap.objs.size -> s8.heap.get? b = some o -> (s8.heap.update s2.heap.objs.size (Obj.mapSeq fun xs => xs.push y)).get? b = some o := fun b o hb e => (Heap.get?_update_other _ _ (Ne.symm hb)).trans e
    have I10 : Inv Y [] σ6 H8 { s8 with heap := s8.heap.update s2.heap.objs.size (Obj.mapSeq fun xs => xs.push y) } :=
     (I9.pins_of (pins' := []) (fun p hp => nomatch hp)).turned (t' := s8.toks) k9 hD9.2.1 hD9.2.2.1 (.inr (Nat.le_refl _)) (fun x c e z => absurd (cellOld x c e) (by rw [z]; exact Nat.lt_irrefl _))
      (fun p hp => absurd (show p ∈ ([] : List (Addr × Obj)) from hp) (by simp))
    refine ⟨m', hm, i + 1, ys ++ [yv], its ++ [y], _, σ6, H8, pinD I10 q9 (fun v z => by cases z) hD9.2.1, rv.append (.cons r8 .nil), ?_, f8, w8⟩
    exact T.keep _ _ _ t8 fun b hb o e => k9 b o (fun z => hDfp (by rw [<- z]; exact hb)) e
 exact codeAny_compStart_list (loop _ rfl) (T.self _ 0 _ _ _ (T.keep _ _ _ st2 fun b hb o e => old b o e) (loop _ rfl))
theorem DN {elt iter tg : Expr} {scope : Scope} {pos px spos : Pos} {wi : TI} {g : TG} {te : TE} {iT : Nat} {xT : Str} (M : List Str) (kn : List (Str × NameKind)) (N : List Str) (sub : List (Option Nat))
  (hc : X.calm = true) (hN : X.N.Nodup) (hix : X.N[iT]? = some xT) (hxl : Loc X.env.scope xT) (hi : PI X tg iter wi)
  (hg : ∀ cl C s₂ H fp, PG (bu X N scope cl C s₂ H fp) tg g) (he : ∀ cl C s₂ H fp, PE (bu X N scope cl C s₂ H fp) elt te)
  (hsw : swapsWith (.ListComp elt [⟨tg, iter, [], 0⟩] scope pos) (some (.Name xT px)) spos.line X.env = pure true := by rfl)
  (hM : X.N = M := by rfl) (hkn : X.env.scope.names = kn := by rfl) (hsub : gh M scope.names sub N = true := by decide +kernel)
  (hk : scope.kind = .function := by rfl) (hnc : ∀ x ∈ scope.names, x.2 ≠ .cell := by decide +kernel) (hnames : ∀ x ∈ scope.names, x.2 = .local -> scope.names.lookup x.1 = some .local := by decide +kernel)
  (hfr : je kn scope.names = true := by decide +kernel)
  (hsl : sub.length = N.length := by rfl) (hs : ∀ x, foldedSetIterable iter X.env x = pure x := by intro _; rfl) (hf : X.fn xT = true \/ X.env.scope.names.lookup xT = some .local := by first | exact .inl rfl | exact .inr rfl | assumption) :
  PS X (.Assign [.Name xT px] (.ListComp elt [⟨tg, iter, [], 0⟩] scope pos) spos) (nS (jH wi sub g vg te) (kK iT)) :=
 zF hc hN hix hxl hi hk hnc hnames (by subst hkn; exact qf hfr) hsl (by subst hM; exact mX hsub) hg (fun cl C s₂ H fp => pI) he hsw hs hf
end
end L2
set_option Elab.async false
set_option linter.all false
set_option maxRecDepth 100000
namespace L2
open PySem PySem.Spec PyProof.Rows
theorem pO : ∀ {ns : List Int} {its : List Value}, Vals (ns.map V.int) its -> IntsAre its ns
 | [], _, h => by cases h; exact .nil
 |
  i :: r, _, h => by
  cases h with
  |
   cons h1 h2 =>
   obtain ⟨t, rfl⟩ := h1
   exact .cons i t (pO h2)
theorem uc {X : Cx} {K : PySem.W.Frag} (hK : X.K = K) (hc : X.calm = true) : CallR X (.builtin "sum") (fun xs H Q => ∃ (a : Addr) (ns : List Int), xs = [.ref a] /\ SqL K H a (ns.map V.int) /\ Q (.int ns.sum) H) := by
 subst hK
 intro pins s σ H xs us Q I r h
 obtain ⟨a, ns, rfl, hq, q⟩ := h
 obtain ⟨u, rfl, ru⟩ := gc r
 cases ru
 obtain ⟨its, rv, p, hz⟩ := I.list hq
 have hi := pO rv
 obtain ⟨ys, hy⟩ := hi.allInts.items
 have hn : numsOf its.toArray.toList = ns := by rw [show its.toArray.toList = its from rfl, hi.numsOf]
 have pl := p.isList
 rw [hy] at pl hn
 rw [nums_intItems] at hn
 refine sum_intListG (I.ok.hd hc) pl fun h' tk t' hk => ?_
 rw [preSum_eq, List.take_of_length_le (by simp), hn]
 exact ⟨.int ns.sum, H, I.kept (t' := tk) hk, ⟨_, rfl⟩, q⟩
end L2
namespace Fr
noncomputable def dv (a b : Int) : Int := if b < 0 then -((Int.gcd a b : Nat) : Int) else ((Int.gcd a b : Nat) : Int)
noncomputable def T (a b : Int) : Int := a.fdiv (dv a b)
noncomputable def B (a b : Int) : Int := b.fdiv (dv a b)
theorem nG {a b : Int} (hb : b ≠ 0) : 0 < Int.gcd a b := Int.gcd_pos_of_ne_zero_right a hb
theorem dv_ne {a b : Int} (hb : b ≠ 0) : dv a b ≠ 0 := by
 have := nG (a := a) hb
 unfold dv
 split <;> omega
theorem vH (a b : Int) : dv a b ∣ a := by
 have h : ((Int.gcd a b : Nat) : Int) ∣ a := Int.gcd_dvd_left a b
 unfold dv
 split
 ·exact Int.neg_dvd.mpr h
 ·exact h
theorem ur (a b : Int) : dv a b ∣ b := by
 have h : ((Int.gcd a b : Nat) : Int) ∣ b := Int.gcd_dvd_right a b
 unfold dv
 split
 ·exact Int.neg_dvd.mpr h
 ·exact h
theorem pS {a d q : Int} (hd : d ≠ 0) (h : a = d * q) : a.fdiv d = q := by
 rw [h, Int.mul_comm]
 exact Int.mul_fdiv_cancel q hd
theorem T_mul {a b : Int} (hb : b ≠ 0) : T a b * dv a b = a := by
 obtain ⟨q, h⟩ := vH a b
 have : T a b = q := pS (dv_ne hb) h
 rw [this, Int.mul_comm]; exact h.symm
theorem B_mul {a b : Int} (hb : b ≠ 0) : B a b * dv a b = b := by
 obtain ⟨q, h⟩ := ur a b
 have : B a b = q := pS (dv_ne hb) h
 rw [this, Int.mul_comm]; exact h.symm
theorem B_pos {a b : Int} (hb : b ≠ 0) : 0 < B a b := by
 have h := B_mul (a := a) hb
 have hg := nG (a := a) hb
 generalize hx : B a b = x at h ⊢
 unfold dv at h
 split at h
 ·rename_i hneg
  have h2 : x * ((Int.gcd a b : Nat) : Int) = -b := by rw [Int.mul_neg] at h; omega
  rcases Int.lt_or_le 0 x with z | z
  ·exact z
  ·have : x * ((Int.gcd a b : Nat) : Int) <= 0 := Int.mul_nonpos_of_nonpos_of_nonneg z (by omega)
   omega
 ·rename_i hpos
  rcases Int.lt_or_le 0 x with z | z
  ·exact z
  ·have : x * ((Int.gcd a b : Nat) : Int) <= 0 := Int.mul_nonpos_of_nonpos_of_nonneg z (by omega)
   omega
theorem cross {a b : Int} (hb : b ≠ 0) : T a b * b = a * B a b := by
 have h1 := T_mul (a := a) hb
 have h2 := B_mul (a := a) hb
 generalize T a b = x at *
 generalize B a b = y at *
 generalize dv a b = d at *
 rw [<- h2, <- h1]
 rw [<- Int.mul_assoc, Int.mul_right_comm]
theorem dv_abs (a b : Int) : (dv a b).natAbs = Int.gcd a b := by
 unfold dv
 split <;> simp
theorem low {a b : Int} (hb : b ≠ 0) : Int.gcd (T a b) (B a b) = 1 := by
 have h1 := T_mul (a := a) hb
 have h2 := B_mul (a := a) hb
 have hg := nG (a := a) hb
 have e1 : a.natAbs = (T a b).natAbs * Int.gcd a b := by rw [<- dv_abs a b, <- Int.natAbs_mul, h1]
 have e2 : b.natAbs = (B a b).natAbs * Int.gcd a b := by rw [<- dv_abs a b, <- Int.natAbs_mul, h2]
 have e3 : Int.gcd a b = Nat.gcd ((T a b).natAbs * Int.gcd a b) ((B a b).natAbs * Int.gcd a b) := by rw [<- e1, <- e2]; rfl
 rw [Nat.gcd_mul_right] at e3
 show Nat.gcd (T a b).natAbs (B a b).natAbs = 1
 generalize Nat.gcd (T a b).natAbs (B a b).natAbs = k at *
 generalize Int.gcd a b = g at *
 have : (1 : Nat) * g = k * g := by omega
 exact (Nat.eq_of_mul_eq_mul_right hg this).symm
theorem uniq {x y x' y' : Int} (hy : 0 < y) (hy' : 0 < y') (h : Int.gcd x y = 1) (h' : Int.gcd x' y' = 1) (e : x * y' = x' * y) : x = x' /\ y = y' := by
 have c1 : Nat.Coprime y.natAbs x.natAbs := by rw [Nat.coprime_comm]; exact h
 have c2 : Nat.Coprime y'.natAbs x'.natAbs := by rw [Nat.coprime_comm]; exact h'
 have e1 : x.natAbs * y'.natAbs = x'.natAbs * y.natAbs := by rw [<- Int.natAbs_mul, <- Int.natAbs_mul, e]
 have d1 : y.natAbs ∣ y'.natAbs := c1.dvd_of_dvd_mul_left (by rw [e1]; exact Nat.dvd_mul_left _ _)
 have d2 : y'.natAbs ∣ y.natAbs := c2.dvd_of_dvd_mul_left (by rw [<- e1]; exact Nat.dvd_mul_left _ _)
 have ey : y.natAbs = y'.natAbs := Nat.dvd_antisymm d1 d2
 have ey' : y = y' := by omega
 subst ey'
 exact ⟨Int.eq_of_mul_eq_mul_right (by omega) e, rfl⟩
theorem qX {a b c d : Int} (hb : b ≠ 0) (hd : d ≠ 0) (e : a * d = c * b) : T a b = T c d /\ B a b = B c d := by
 refine uniq (B_pos hb) (B_pos hd) (low hb) (low hd) ?_
 have h1 := cross (a := a) hb
 have h2 := cross (a := c) hd
 have hbd : b * d ≠ 0 := Int.mul_ne_zero hb hd
 refine Int.eq_of_mul_eq_mul_right hbd ?_
 calc T a b * B c d * (b * d) = (T a b * b) * (B c d * d) := by rw [Int.mul_assoc, Int.mul_left_comm (B c d) b d, <- Int.mul_assoc]
  _ = (a * B a b) * (B c d * d) := by rw [h1]
  _ = (a * d) * (B c d * B a b) := by rw [Int.mul_assoc a, Int.mul_assoc a, Int.mul_left_comm (B a b), Int.mul_left_comm d, Int.mul_comm (B a b) d]
  _ = (c * b) * (B c d * B a b) := by rw [e]
  _ = (c * B c d) * (B a b * b) := by rw [Int.mul_assoc c, Int.mul_assoc c, Int.mul_left_comm b, Int.mul_comm b (B a b)]
  _ = (T c d * d) * (B a b * b) := by rw [<- h2]
  _ = T c d * B a b * (b * d) := by rw [Int.mul_assoc, Int.mul_assoc, Int.mul_left_comm d, Int.mul_comm d b]
theorem self {a b : Int} (hb : 0 < b) (h : Int.gcd a b = 1) : T a b = a /\ B a b = b :=
 uniq (B_pos (by omega)) hb (low (by omega)) h (cross (by omega))
theorem euc (m n : Nat) : Nat.gcd n (m % n) = Nat.gcd m n := by
 rw [Nat.gcd_comm, <- Nat.gcd_rec, Nat.gcd_comm]
end Fr
set_option linter.all false
namespace Gd
structure Ib where
 l : Int
 t : Int
 r : Int
 f : Int
structure Ib.Pos (b : Ib) : Prop where
 x : b.l < b.r
 y : b.t < b.f
noncomputable def Ib.ar (b : Ib) : Int := (b.r - b.l) * (b.f - b.t)
noncomputable def Ib.ov (a b : Ib) : Prop := a.l < b.r /\ b.l < a.r /\ a.t < b.f /\ b.t < a.f
structure Ib.In (R b : Ib) : Prop where
 l : R.l <= b.l
 r : b.r <= R.r
 t : R.t <= b.t
 f : b.f <= R.f
structure Part (R : Ib) (bs : List Ib) : Prop where
 pos : ∀ b ∈ bs, b.Pos
 inn : ∀ b ∈ bs, R.In b
 dis : bs.Pairwise fun a b => ¬ a.ov b
 sum : (bs.map Ib.ar).sum = R.ar
theorem ar_pos {b : Ib} (h : b.Pos) : 1 <= b.ar := by
 have : 0 < (b.r - b.l) * (b.f - b.t) := Int.mul_pos (by have := h.x; omega) (by have := h.y; omega)
 unfold Ib.ar
 omega
noncomputable def sm : Nat -> (Nat -> Int) -> Int
 | 0, _ => 0
 | n + 1, g => sm n g + g n
theorem jQ {g h : Nat -> Int} : ∀ {n : Nat}, (∀ i, i < n -> g i = h i) -> sm n g = sm n h
 | 0, _ => rfl
 |
  n + 1, e => by
  unfold sm
  rw [jQ fun i hi => e i (by omega), e n (by omega)]
theorem iU (g h : Nat -> Int) : ∀ n : Nat, sm n (fun i => g i + h i) = sm n g + sm n h
 | 0 => rfl
 |
  n + 1 => by
  unfold sm
  rw [iU g h n]
  dsimp only
  omega
theorem jg (c : Int) (g : Nat -> Int) : ∀ n : Nat, sm n (fun i => c * g i) = c * sm n g
 | 0 => by simp [sm]
 |
  n + 1 => by
  unfold sm
  rw [jg c g n, Int.mul_add]
theorem fS (c : Int) : ∀ n : Nat, sm n (fun _ => c) = n * c
 | 0 => by simp [sm]
 |
  n + 1 => by
  unfold sm
  rw [fS c n, Int.natCast_add, Int.add_mul]
  dsimp only
  omega
theorem qM {g : Nat -> Int} : ∀ {n : Nat}, (∀ i, i < n -> 0 <= g i) -> 0 <= sm n g
 | 0, _ => Int.le_refl _
 |
  n + 1, h => by
  unfold sm
  have := qM (n := n) fun i hi => h i (by omega)
  have := h n (by omega)
  omega
theorem lG {g : Nat -> Int} : ∀ {n : Nat}, (∀ i, i < n -> 0 <= g i) -> sm n g = 0 -> ∀ i, i < n -> g i = 0
 | 0, _, _, i, hi => absurd hi (by omega)
 |
  n + 1, h, e, i, hi => by
  unfold sm at e
  have h1 := qM (n := n) fun i hi => h i (by omega)
  have h2 := h n (by omega)
  by_cases hn : i = n
  ·subst hn; omega
  ·exact lG (n := n) (fun i hi => h i (by omega)) (by omega) i (by omega)
noncomputable def u (a c i : Int) : Int := if a <= i /\ i < c then 1 else 0
theorem u_lt {a c i : Int} (h : i < a) : u a c i = 0 := if_neg fun z => absurd z.1 (Int.not_le.mpr h)
theorem u_ge {a c i : Int} (h : c <= i) : u a c i = 0 := if_neg fun z => absurd z.2 (Int.not_lt.mpr h)
theorem u_in {a c i : Int} (h : a <= i) (k : i < c) : u a c i = 1 := if_pos ⟨h, k⟩
theorem xa {L a c : Int} : ∀ n : Nat, L + n <= a -> sm n (fun i => u a c (L + i)) = 0
 | 0, _ => rfl
 |
  n + 1, h => by
  unfold sm
  dsimp only
  rw [xa n (by omega), u_lt (by omega)]
  rfl
theorem tH {L a c : Int} (hL : L <= a) : ∀ n : Nat, a <= L + n -> L + n <= c -> sm n (fun i => u a c (L + i)) = L + n - a
 |
  0, h, _ => by
  show (0 : Int) = _
  omega
 |
  n + 1, h, k => by
  unfold sm
  dsimp only
  by_cases q : a <= L + n
  ·rw [tH hL n q (by omega), u_in q (by omega)]
   omega
  ·rw [xa n (by omega), u_lt (by omega)]
   omega
theorem uE {L a c : Int} (hac : a <= c) (hL : L <= a) : ∀ n : Nat, c <= L + n -> sm n (fun i => u a c (L + i)) = c - a
 |
  0, h => by
  show (0 : Int) = _
  omega
 |
  n + 1, h => by
  by_cases q : c <= L + n
  ·unfold sm
   dsimp only
   rw [uE hac hL n q, u_ge q, Int.add_zero]
  ·have e : L + ((n + 1 : Nat) : Int) = c := by omega
   rw [tH hL (n + 1) (by omega) (by omega), e]
noncomputable def ind (b : Ib) (i j : Int) : Int := u b.l b.r i * u b.t b.f j
theorem u01 (a c i : Int) : u a c i = 0 \/ u a c i = 1 := by
 unfold u
 split
 ·exact .inr rfl
 ·exact .inl rfl
theorem u1 {a c i : Int} (h : u a c i = 1) : a <= i /\ i < c := by
 unfold u at h
 split at h
 ·assumption
 ·omega
theorem Df (b : Ib) (i j : Int) : ind b i j = 0 \/ ind b i j = 1 := by
 unfold ind
 rcases u01 b.l b.r i with h | h <;> rcases u01 b.t b.f j with k | k <;> rw [h, k] <;> simp
theorem g9 {b : Ib} {i j : Int} (h : ind b i j = 1) : b.l <= i /\ i < b.r /\ b.t <= j /\ j < b.f := by
 unfold ind at h
 rcases u01 b.l b.r i with h1 | h1
 ·rw [h1, Int.zero_mul] at h
  cases h
 ·rcases u01 b.t b.f j with k | k
  ·rw [k, Int.mul_zero] at h
   cases h
  ·exact ⟨(u1 h1).1, (u1 h1).2, (u1 k).1, (u1 k).2⟩
theorem BF {a b : Ib} {i j : Int} (ha : ind a i j = 1) (hb : ind b i j = 1) : a.ov b :=
 ⟨Int.lt_of_le_of_lt (g9 ha).1 (g9 hb).2.1, Int.lt_of_le_of_lt (g9 hb).1 (g9 ha).2.1, Int.lt_of_le_of_lt (g9 ha).2.2.1 (g9 hb).2.2.2, Int.lt_of_le_of_lt (g9 hb).2.2.1 (g9 ha).2.2.2⟩
theorem nB {c L M : Int} (h : c <= M) : c <= L + ((M - L).toNat : Nat) := by omega
theorem zU {R b : Ib} (hp : b.Pos) (hi : R.In b) : sm (R.r - R.l).toNat (fun i => sm (R.f - R.t).toNat fun j => ind b (R.l + i) (R.t + j)) = b.ar := by
 have e : (fun i : Nat => sm (R.f - R.t).toNat fun j => ind b (R.l + i) (R.t + j)) = fun i : Nat => (b.f - b.t) * u b.l b.r (R.l + i) := by
  funext i
  unfold ind
  rw [jg, uE (Int.le_of_lt hp.y) hi.t _ (nB hi.f), Int.mul_comm]
 rw [e, jg, uE (Int.le_of_lt hp.x) hi.l _ (nB hi.r)]
 unfold Ib.ar
 rw [Int.mul_comm]
theorem tZ {R : Ib} : ∀ {bs : List Ib}, (∀ b ∈ bs, b.Pos) -> (∀ b ∈ bs, R.In b) -> sm (R.r - R.l).toNat (fun i => sm (R.f - R.t).toNat fun j => (bs.map fun b => ind b (R.l + i) (R.t + j)).sum) = (bs.map Ib.ar).sum
 |
  [], _, _ => by
  simp only [List.map_nil, List.sum_nil]
  rw [jQ (h := fun _ => 0) fun i _ => by rw [fS]; simp, fS]
  simp
 |
  b :: bs, hp, hi => by
  simp only [List.map_cons, List.sum_cons]
  rw [<- tZ (bs := bs) (fun c hc => hp c (List.mem_cons_of_mem _ hc)) fun c hc => hi c (List.mem_cons_of_mem _ hc), <- zU (hp b (List.mem_cons_self ..)) (hi b (List.mem_cons_self ..)), <- iU]
  refine jQ fun i _ => ?_
  rw [<- iU]
theorem kz {i j : Int} : ∀ {bs : List Ib}, (bs.Pairwise fun a b => ¬ a.ov b) -> (bs.map fun b => ind b i j).sum = 0 \/ ((bs.map fun b => ind b i j).sum = 1 /\ ∃ b ∈ bs, ind b i j = 1)
 | [], _ => .inl rfl
 |
  b :: bs, h => by
  rw [List.pairwise_cons] at h
  rw [List.map_cons, List.sum_cons]
  rcases Df b i j with k | k
  ·rw [k, Int.zero_add]
   rcases kz (i := i) (j := j) h.2 with q | ⟨q, c, hc, q2⟩
   ·exact .inl q
   ·exact .inr ⟨q, c, List.mem_cons_of_mem _ hc, q2⟩
  ·rcases kz (i := i) (j := j) h.2 with q | ⟨q, c, hc, q2⟩
   ·exact .inr ⟨by omega, b, List.mem_cons_self .., k⟩
   ·exact absurd (BF k q2) (h.1 c hc)
theorem EE {R : Ib} {bs : List Ib} (hR : R.Pos) (h : Part R bs) {i j : Int} (h1 : R.l <= i) (h2 : i < R.r) (h3 : R.t <= j) (h4 : j < R.f) : ∃ b ∈ bs, b.l <= i /\ i < b.r /\ b.t <= j /\ j < b.f := by
 have nn : ∀ i j : Int, 0 <= 1 + -1 * (bs.map fun b => ind b i j).sum := fun i j => by
  rcases kz (i := i) (j := j) h.dis with q | ⟨q, _⟩ <;> omega
 have e : sm (R.r - R.l).toNat (fun i => sm (R.f - R.t).toNat fun j => 1 + -1 * (bs.map fun b => ind b (R.l + i) (R.t + j)).sum) = 0 := by
  have e1 : (fun i : Nat => sm (R.f - R.t).toNat fun j => 1 + -1 * (bs.map fun b => ind b (R.l + i) (R.t + j)).sum) = fun i : Nat => (R.f - R.t) + -1 * sm (R.f - R.t).toNat fun j => (bs.map fun b => ind b (R.l + i) (R.t + j)).sum := by
   funext i
   rw [iU, jg, fS]
   have := hR.y
   omega
  rw [e1, iU, jg, fS, tZ h.pos h.inn, h.sum]
  unfold Ib.ar
  have := hR.x
  rw [show (((R.r - R.l).toNat : Nat) : Int) = R.r - R.l by omega]
  omega
 have z := lG (fun i _ => qM fun j _ => nn _ _) e (i - R.l).toNat (by omega)
 have z2 := lG (fun j _ => nn _ _) z (j - R.t).toNat (by omega)
 rw [show R.l + (((i - R.l).toNat : Nat) : Int) = i by omega, show R.t + (((j - R.t).toNat : Nat) : Int) = j by omega] at z2
 rcases kz (i := i) (j := j) h.dis with q | ⟨_, b, hb, k⟩
 ·omega
 ·exact ⟨b, hb, g9 k⟩
theorem near {R : Ib} {bs : List Ib} (hR : R.Pos) (h : Part R bs) {x y : Int} (h1 : 2 * R.l <= x) (h2 : x <= 2 * R.r) (h3 : 2 * R.t <= y) (h4 : y <= 2 * R.f) : ∃ b ∈ bs, 2 * b.l <= x /\ x <= 2 * b.r /\ 2 * b.t <= y /\ y <= 2 * b.f := by
 have hx := hR.x
 have hy := hR.y
 obtain ⟨b, hb, k1, k2, k3, k4⟩ := EE hR h (i := if x = 2 * R.r then R.r - 1 else x / 2) (j := if y = 2 * R.f then R.f - 1 else y / 2) (by split <;> omega) (by split <;> omega) (by split <;> omega) (by split <;> omega)
 refine ⟨b, hb, ?_⟩
 split at k1 <;> split at k3 <;> simp_all <;> omega
noncomputable def cl (x y : Int) (b : Ib) : Bool := (decide (2 * b.l <= x) && decide (x <= 2 * b.r)) && (decide (2 * b.t <= y) && decide (y <= 2 * b.f))
noncomputable def st (x y : Int) (b : Ib) : Bool := (decide (2 * b.l < x) && decide (x < 2 * b.r)) && (decide (2 * b.t < y) && decide (y < 2 * b.f))
noncomputable def cn (x y : Int) (s : Int × Int) (b : Ib) : Int × Int := if cl x y b = true then (s.1 + 1, s.2 + if st x y b = true then 1 else 0) else s
theorem cn_near {x y : Int} : ∀ (bs : List Ib) (s : Int × Int), s.1 <= (bs.foldl (cn x y) s).1 /\ ((∃ b ∈ bs, cl x y b = true) -> s.1 < (bs.foldl (cn x y) s).1)
 | [], s => ⟨Int.le_refl _, fun ⟨_, h, _⟩ => nomatch h⟩
 |
  b :: bs, s => by
  rw [List.foldl_cons]
  have ih := cn_near (x := x) (y := y) bs (cn x y s b)
  have h1 : s.1 <= (cn x y s b).1 /\ (cl x y b = true -> s.1 < (cn x y s b).1) := by
   unfold cn
   split
   ·exact ⟨by dsimp only; omega, fun _ => by dsimp only; omega⟩
   ·exact ⟨Int.le_refl _, fun z => absurd z (by assumption)⟩
  refine ⟨by omega, fun ⟨c, hc, k⟩ => ?_⟩
  rcases List.mem_cons.mp hc with rfl | hc
  ·have := h1.2 k
   omega
  ·have := ih.2 ⟨c, hc, k⟩
   omega
theorem pP {x y : Int} : ∀ (bs : List Ib) (s : Int × Int), (∀ b ∈ bs, st x y b = false) -> (bs.foldl (cn x y) s).2 = s.2
 | [], s, _ => rfl
 |
  b :: bs, s, h => by
  rw [List.foldl_cons, pP bs _ fun c hc => h c (List.mem_cons_of_mem _ hc)]
  unfold cn
  rw [h b (List.mem_cons_self ..)]
  split <;> simp
theorem rX {p q x : Int} (h : 2 * p < x) (k : x < 2 * q) : p < q := by omega
theorem Es {x y : Int} {a b : Ib} (ha : st x y a = true) (hb : st x y b = true) : a.ov b := by
 simp only [st, Bool.and_eq_true, decide_eq_true_eq] at ha hb
 exact ⟨rX ha.1.1 hb.1.2, rX hb.1.1 ha.1.2, rX ha.2.1 hb.2.2, rX hb.2.1 ha.2.2⟩
theorem
    cn_inner {x y : Int} : ∀ (bs : List Ib) (s : Int × Int), (bs.Pairwise fun a b => ¬ a.ov b) -> (bs.foldl (cn x y) s).2 <= s.2 + 1
 | [], s, _ => by simp; omega
 |
  b :: bs, s, h => by
  rw [List.pairwise_cons] at h
  rw [List.foldl_cons]
  cases hb : st x y b with
  |
   false =>
   have := cn_inner (x := x) (y := y) bs (cn x y s b) h.2
   have e : (cn x y s b).2 = s.2 := by
    unfold cn
    rw [hb]
    split <;> simp
   omega
  |
   true =>
   rw [pP bs _ fun c hc => by
    cases k : st x y c with
    | false => rfl
    | true => exact absurd (Es hb k) (h.1 c hc)]
   unfold cn
   rw [hb]
   split
   ·exact Int.le_refl _
   ·omega
theorem In.ov {b c a : Ib} (h : b.In c) (k : a.ov c) : a.ov b := ⟨Int.lt_of_lt_of_le k.1 h.r, Int.lt_of_le_of_lt h.l k.2.1, Int.lt_of_lt_of_le k.2.2.1 h.f, Int.lt_of_le_of_lt h.t k.2.2.2⟩
theorem In.vo {b c a : Ib} (h : b.In c) (k : c.ov a) : b.ov a := ⟨Int.lt_of_le_of_lt h.l k.1, Int.lt_of_lt_of_le k.2.1 h.r, Int.lt_of_le_of_lt h.t k.2.2.1, Int.lt_of_lt_of_le k.2.2.2 h.f⟩
theorem In.trans {a b c : Ib} (h : a.In b) (k : b.In c) : a.In c := ⟨Int.le_trans h.l k.l, Int.le_trans k.r h.r, Int.le_trans h.t k.t, Int.le_trans k.f h.f⟩
theorem
    oJ {R b c d : Ib} {p q : List Ib} (h : Part R (p ++ b :: q)) (hc : c.Pos) (hd : d.Pos) (ic : b.In c) (id : b.In d) (hn : ¬ c.ov d) (ha : c.ar + d.ar = b.ar) : Part R (p ++ c :: d :: q) := by
 have hb : b ∈ p ++ b :: q := List.mem_append_right _ (List.mem_cons_self ..)
 refine ⟨fun x hx => ?_, fun x hx => ?_, ?_, ?_⟩
 ·rcases List.mem_append.mp hx with k | k
  ·exact h.pos x (List.mem_append_left _ k)
  ·rcases List.mem_cons.mp k with rfl | k
   ·exact hc
   ·rcases List.mem_cons.mp k with rfl | k
    ·exact hd
    ·exact h.pos x (List.mem_append_right _ (List.mem_cons_of_mem _ k))
 ·rcases List.mem_append.mp hx with k | k
  ·exact h.inn x (List.mem_append_left _ k)
  ·rcases List.mem_cons.mp k with rfl | k
   ·exact In.trans (h.inn b hb) ic
   ·rcases List.mem_cons.mp k with rfl | k
    ·exact In.trans (h.inn b hb) id
    ·exact h.inn x (List.mem_append_right _ (List.mem_cons_of_mem _ k))
 ·have hd' := h.dis
  rw [List.pairwise_append, List.pairwise_cons] at hd'
  obtain ⟨h1, ⟨h2, h3⟩, h4⟩ := hd'
  rw [List.pairwise_append, List.pairwise_cons, List.pairwise_cons]
  refine ⟨h1, ⟨fun x hx => ?_, fun x hx k => h2 x hx (In.vo id k), h3⟩, fun x hx y hy => ?_⟩
  ·rcases List.mem_cons.mp hx with rfl | hx
   ·exact hn
   ·exact fun k => h2 x hx (In.vo ic k)
  ·rcases List.mem_cons.mp hy with rfl | hy
   ·exact fun k => h4 x hx b (List.mem_cons_self ..) (In.ov ic k)
   ·rcases List.mem_cons.mp hy with rfl | hy
    ·exact fun k => h4 x hx b (List.mem_cons_self ..) (In.ov id k)
    ·exact h4 x hx y (List.mem_cons_of_mem _ hy)
 ·have := h.sum
  simp only [List.map_append, List.map_cons, List.sum_append, List.sum_cons] at this ⊢
  omega
theorem part_one {R : Ib} (h : R.Pos) : Part R [R] := ⟨fun b hb => by rw [List.mem_singleton.mp hb]; exact h, fun b hb => by rw [List.mem_singleton.mp hb]; exact ⟨Int.le_refl _, Int.le_refl _, Int.le_refl _, Int.le_refl _⟩, List.pairwise_singleton _ _, by simp⟩
theorem cut_x {l t r f x : Int} (h1 : l < x) (h2 : x < r) (h3 : t < f) {R : Ib} {p q : List Ib} (h : Part R (p ++ ⟨l, t, r, f⟩ :: q)) : Part R (p ++ ⟨l, t, x, f⟩ :: ⟨x, t, r, f⟩ :: q) := by
 refine oJ h ⟨h1, h3⟩ ⟨h2, h3⟩ ⟨Int.le_refl _, Int.le_of_lt h2, Int.le_refl _, Int.le_refl _⟩ ⟨Int.le_of_lt h1, Int.le_refl _, Int.le_refl _, Int.le_refl _⟩ ?_ ?_
 ·unfold Ib.ov; dsimp only; omega
 ·unfold Ib.ar; dsimp only; rw [<- Int.add_mul]; congr 1; omega
theorem cut_y {l t r f y : Int} (h1 : t < y) (h2 : y < f) (h3 : l < r) {R : Ib} {p q : List Ib} (h : Part R (p ++ ⟨l, t, r, f⟩ :: q)) : Part R (p ++ ⟨l, t, r, y⟩ :: ⟨l, y, r, f⟩ :: q) := by
 refine oJ h ⟨h3, h1⟩ ⟨h3, h2⟩ ⟨Int.le_refl _, Int.le_refl _, Int.le_refl _, Int.le_of_lt h2⟩ ⟨Int.le_refl _, Int.le_refl _, Int.le_of_lt h1, Int.le_refl _⟩ ?_ ?_
 ·unfold Ib.ov; dsimp only; omega
 ·unfold Ib.ar; dsimp only; rw [<- Int.mul_add]; congr 1; omega
theorem wound1 {l t r f a b c d : Int} (h1 : l < a) (h2 : a < c) (h3 : c < r) (h4 : t < b) (h5 : b < d) (h6 : d < f) : Part ⟨l, t, r, f⟩ [⟨l, t, c, b⟩, ⟨c, t, r, d⟩, ⟨a, d, r, f⟩, ⟨l, b, a, f⟩, ⟨a, b, c, d⟩] := by
 have g1 := Int.lt_trans h1 h2
 have g2 := Int.lt_trans h2 h3
 have g3 := Int.lt_trans h4 h5
 have g4 := Int.lt_trans h5 h6
 refine ⟨?_, ?_, ?_, ?_⟩
 ·intro x hx
  simp only [List.mem_cons, List.not_mem_nil, or_false] at hx
  rcases hx with rfl | rfl | rfl | rfl | rfl
  all_goals constructor <;> assumption
 ·intro x hx
  simp only [List.mem_cons, List.not_mem_nil, or_false] at hx
  rcases hx with rfl | rfl | rfl | rfl | rfl
  all_goals constructor <;> first | exact Int.le_refl _ | (apply Int.le_of_lt; assumption) | exact Int.le_of_lt (Int.lt_trans g1 h3) | exact Int.le_of_lt (Int.lt_trans g3 h6)
 ·simp only [List.pairwise_cons, List.mem_cons, List.not_mem_nil, or_false, forall_eq_or_imp, forall_eq, Ib.ov, List.Pairwise.nil]
  refine ⟨⟨?_, ?_, ?_, ?_⟩, ⟨?_, ?_, ?_⟩, ⟨?_, ?_⟩, ?_, ?_⟩ <;> first | exact fun z => Int.lt_irrefl _ z.1 | exact fun z => Int.lt_irrefl _ z.2.1 | exact fun z => Int.lt_irrefl _ z.2.2.1 | exact fun z => Int.lt_irrefl _ z.2.2.2 | exact fun z => Int.lt_asymm h2 z.1 | exact fun z => Int.lt_asymm h2 z.2.1 | exact fun z => Int.lt_asymm h5 z.2.2.1 | exact fun z => Int.lt_asymm h5 z.2.2.2 | exact ⟨fun _ z => nomatch z, trivial⟩ | simp
 ·simp only [List.map_cons, List.map_nil, List.sum_cons, List.sum_nil, Ib.ar, Int.sub_mul, Int.mul_sub]
  omega
theorem wound2 {l t r f a b c d : Int} (h1 : l < a) (h2 : a < c) (h3 : c < r) (h4 : t < b) (h5 : b < d) (h6 : d < f) : Part ⟨l, t, r, f⟩ [⟨a, t, r, b⟩, ⟨c, b, r, f⟩, ⟨l, d, c, f⟩, ⟨l, t, a, d⟩, ⟨a, b, c, d⟩] := by
 have g1 := Int.lt_trans h1 h2
 have g2 := Int.lt_trans h2 h3
 have g3 := Int.lt_trans h4 h5
 have g4 := Int.lt_trans h5 h6
 refine ⟨?_, ?_, ?_, ?_⟩
 ·intro x hx
  simp only [List.mem_cons, List.not_mem_nil, or_false] at hx
  rcases hx with rfl | rfl | rfl | rfl | rfl
  all_goals constructor <;> assumption
 ·intro x hx
  simp only [List.mem_cons, List.not_mem_nil, or_false] at hx
  rcases hx with rfl | rfl | rfl | rfl | rfl
  all_goals constructor <;> first | exact Int.le_refl _ | (apply Int.le_of_lt; assumption) | exact Int.le_of_lt (Int.lt_trans g1 h3) | exact Int.le_of_lt (Int.lt_trans g3 h6)
 ·simp only [List.pairwise_cons, List.mem_cons, List.not_mem_nil, or_false, forall_eq_or_imp, forall_eq, Ib.ov, List.Pairwise.nil]
  refine ⟨⟨?_, ?_, ?_, ?_⟩, ⟨?_, ?_, ?_⟩, ⟨?_, ?_⟩, ?_, ?_⟩ <;> first | exact fun z => Int.lt_irrefl _ z.1 | exact fun z => Int.lt_irrefl _ z.2.1 | exact fun z => Int.lt_irrefl _ z.2.2.1 | exact fun z => Int.lt_irrefl _ z.2.2.2 | exact fun z => Int.lt_asymm h2 z.1 | exact fun z => Int.lt_asymm h2 z.2.1 | exact fun z => Int.lt_asymm h5 z.2.2.1 | exact fun z => Int.lt_asymm h5 z.2.2.2 | exact ⟨fun _ z => nomatch z, trivial⟩ | simp
 ·simp only [List.map_cons, List.map_nil, List.sum_cons, List.sum_nil, Ib.ar, Int.sub_mul, Int.mul_sub]
  omega
end Gd
set_option Elab.async false
set_option linter.all false
set_option maxRecDepth 100000
set_option maxHeartbeats 1000000
namespace L2
open PySem PySem.Spec PyProof.Rows
theorem Inv.turnedL {X : Cx} {pins : List (Addr × Obj)} {σ : St} {H : Hp} {s : Shared} {h' : Heap} {t' : Nat} {ch : List Addr} (I : Inv X pins σ H s) (k : ∀ b o, b ∉ ch -> s.heap.get? b = some o -> h'.get? b = some o) (hf : ∀ b ∈ ch, FpOk X pins H b) : Inv X pins σ H { s with heap := h', toks := t' } := by
 have away : ∀ b u, H b = some u -> b ∉ ch := fun b u e z => by have := (hf b z).1; rw [e] at this; cases this
 refine I.step (g' := s.gens) (d' := s.drawn) (ch := ch) (fun b hb => ⟨(hf b hb).2.2.2.1, (hf b hb).2.1, (hf b hb).2.2.2.2.1, (hf b hb).2.2.2.2.2⟩) (fun b o _ _ hc e _ => k b o hc e) (fun b o _ _ hc e _ => ⟨o.slots, k b o hc e⟩) (fun _ _ _ _ n => n)
  (fun b o hc e => ⟨o, k b o hc e⟩) (fun _ _ e => e) (fun _ _ _ e => e) (fun b ps e => ⟨#[], by rw [e]; simp⟩) (fun m hm => ?_) (fun b u e => ?_) I.bare
 ·obtain ⟨o, es, ep, ho, r⟩ := hm
  exact ⟨o, es, ep, k _ o (fun z => (hf _ z).2.1 rfl) ho, r⟩
 ·refine (I.hok b u e).stay (fun c v hc q => k c v ?_ q) (fun _ q => q) fun _ _ q => q
  rcases hc with z | z
  ·rw [z]; exact away b u e
  ·exact away c _ z
theorem FpOk.up {X : Cx} {pins : List (Addr × Obj)} {H : Hp} {b p : Addr} {o : HO} (f : FpOk X pins H b) (hn : b ≠ p) : FpOk X pins (upd H p o) b := ⟨by rw [aL hn]; exact f.1, f.2⟩
theorem qr {prog : Program} {w : World} {A : Around} {E : Value -> Shared -> Prop} {s : Shared} {j t : Addr} {n : Nat} {its : Array Value} {v : Value} {Q : Value -> Shared -> Prop} (hj : s.heap.IsTupleIter j t n) (ht : s.heap.IsTuple t its) (hv : its[n]? = some v)
  (k : ∀ h', h'.IsTupleIter j t (n + 1) -> Heap.SameBut j s.heap h' -> Q v { s with heap := h' }) : wpAny (model prog w) A (Builtin.SmallTypes.nextOf (.ref j)) Q E s := by
 obtain ⟨oj, ej, cj, dj⟩ := id hj
 obtain ⟨ot, et, _, m, dt⟩ := ht
 unfold Builtin.SmallTypes.nextOf
 refine wpAny_bind (wpAny_callSpecial?_slot (name := Str.ofString "__next__") hj.typeIs F.slot_tuple_iterator_next (wpAny_call_entry F.slot_tuple_iterator_next hj.typeIs F.entry_tuple_iterator_next ?_ (F.args_tuple_iterator_next_1 _)))
 show wpAny _ _ (field (.ref j) 0 >>= _) _ _ s
 refine wpAny_bind (wpAny_field ej dj (x := .ref t) rfl ?_)
 show wpAny _ _ (if (Value.ref t == Value.none) = true then _ else _) _ _ s; rw [if_neg (show ¬ ((Value.ref t == Value.none) = true) from Bool.false_ne_true)]
 show wpAny _ _ (field (.ref j) 1 >>= _) _ _ s
 refine wpAny_bind (wpAny_field ej dj (x := .int n 0) rfl ?_)
 show wpAny _ _ (seqItems? (.ref t) >>= _) _ _ s; refine wpAny_bind (wpAny_seqItems et dt ?_)
 simp only [Int.toNat_natCast, hv]
 refine wpAny_bind (wpAny_setField ej dj (by simp) (wpAny_pure ⟨v, rfl, wpAny_pure (k _ ?_ (Heap.SameBut.update ..))⟩))
 exact ⟨_, Heap.get?_update_self _ ej (Obj.isFreed_of_fields (Obj.data_mapFields dj _)), (Obj.cls_mapFields ..).trans cj, by rw [Obj.data_mapFields dj]; simp [rawInt]⟩
theorem lH {prog : Program} {w : World} {A : Around} {E : Value -> Shared -> Prop} {s : Shared} {j t : Addr} {n : Nat} {its : Array Value} {Q : Value -> Shared -> Prop} (hh : A.handled = none) (hj : s.heap.IsTupleIter j t n) (ht : s.heap.IsTuple t its) (hv : its[n]? = none)
  (k : ∀ h' e, Heap.ExtBut j s.heap h' -> (∃ o, h'.get? e = some o /\ o.cls = .type "StopIteration") -> E (.ref e) { s with heap := h' }) : wpAny (model prog w) A (Builtin.SmallTypes.nextOf (.ref j)) Q E s := by
 obtain ⟨oj, ej, cj, dj⟩ := id hj
 obtain ⟨ot, et, _, m, dt⟩ := ht
 unfold Builtin.SmallTypes.nextOf
 refine wpAny_bind (wpAny_callSpecial?_slot (name := Str.ofString "__next__") hj.typeIs F.slot_tuple_iterator_next (wpAny_call_entry F.slot_tuple_iterator_next hj.typeIs F.entry_tuple_iterator_next ?_ (F.args_tuple_iterator_next_1 _)))
 show wpAny _ _ (field (.ref j) 0 >>= _) _ _ s
 refine wpAny_bind (wpAny_field ej dj (x := .ref t) rfl ?_)
 show wpAny _ _ (if (Value.ref t == Value.none) = true then _ else _) _ _ s; rw [if_neg (show ¬ ((Value.ref t == Value.none) = true) from Bool.false_ne_true)]
 show wpAny _ _ (field (.ref j) 1 >>= _) _ _ s
 refine wpAny_bind (wpAny_field ej dj (x := .int n 0) rfl ?_)
 show wpAny _ _ (seqItems? (.ref t) >>= _) _ _ s; refine wpAny_bind (wpAny_seqItems et dt ?_)
 simp only [Int.toNat_natCast, hv]
 refine wpAny_bind (wpAny_rule (wpAny_bind (wpAny_setField ej dj (by simp) ?_))); show wpAny _ _ (newExc (.type "StopIteration") [] >>= _) _ _ _
 refine wpAny_bind ?_; simp only [newExc, newTuple]
 refine wpAny_bind (wpAny_newObj_type ?_ (by size_fits)); refine wpAny_bind (m := firstArgMember _ _) (wpAny_of_eq (a := Value.none) (by first | rfl | (simp only [firstArgMember]; rfl)) ?_)
 refine wpAny_newObj_type ?_ (by size_fits); simp only [raiseNew]
 refine wpAny_bind (wpAny_handled ?_); first | rw [show A.in1.handled = none from hh] | rw [hh]
 refine wpAny_bind (wpAny_pure (wpAny_throw ?_)); exact k _ _ (((Heap.SameBut.update ..).extBut.push _).push _) ⟨_, Heap.get?_push_size _ rfl, rfl⟩
theorem By {prog : Program} {w : World} {A : Around} (hh : A.handled = none) (j t : Addr) (ne : t ≠ j) (its : Array Value) : Draws prog w A j [j, t] its.size (fun i v => its[i]? = some v) (fun i h => h.IsTupleIter j t i /\ h.IsTuple t its) where
 live := fun _ _ z => let ⟨o, e, _⟩ := z.1; ⟨o, e⟩
 frame := fun _ _ _ z k => ⟨z.1.at fun o e => k j (by simp) o e, let ⟨o, e, r⟩ := z.2; ⟨o, k t (by simp) o e, r⟩⟩
 item := fun i s Q E hi z k => qr z.1 z.2 (v := its[i]) (by simp [hi]) fun h' z' sb => k _ h' s.toks (by simp [hi]) ⟨z', let ⟨o, e, r⟩ := z.2; ⟨o, (sb.2 t ne).trans e, r⟩⟩ sb
 done := fun s Q E z k => lH hh z.1 z.2 (by simp) k
theorem
    tV (l : Addr) (its : Array Value) (n : Nat) (dc : Option Addr) (sl : Array (Option Value)) :
  Meets (Builtin.«enumerate.__new__» ⟨[.type "enumerate", .ref l], []⟩) (fun _ R s => s.heap.get? l = some { cls := .type "tuple", dict := dc, data := .seq its n, slots := sl } /\
   R
    (.ok (.ret (.ref (s.heap.push { cls := .type "tuple_iterator", data := .fields #[.ref l, .int 0 0] }).objs.size)))
    { s with heap := (s.heap.push { cls := .type "tuple_iterator", data := .fields #[.ref l, .int 0 0] }).push { cls := .type "enumerate", data := .fields #[.none, .bool false, .ref s.heap.objs.size, rawInt 0, .none, .none] } }) :=
 .of_wp fun prog w A R s h => by
  obtain ⟨hp, g, d, tk, os⟩ := s; obtain ⟨hl, h⟩ := h
  have hsub := sub_enumerate
  have hT : Heap.IsTuple (Shared.heap ⟨hp, g, d, tk, os⟩) l its := ⟨_, hl, rfl, n, rfl⟩
  wp_walk using AutoSeq1.wpAny_loadPart' hl
  refine wpAny_stack_any fun st => wpAny_pure ?_
  split
  ·rename_i c _ _ _ _ _
   cases (c == Value.type "enumerate") <;> (wp_walk using AutoSeq1.wpAny_loadPart' hl, wpAny_pyIter_tuple hT; exact ⟨_, rfl, h⟩)
  ·wp_walk using AutoSeq1.wpAny_loadPart' hl, wpAny_pyIter_tuple hT; exact ⟨_, rfl, h⟩
theorem r9 {prog : Program} {w : World} {A : Around} {E : Value -> Shared -> Prop} {s : Shared} {l : Addr} {its : Array Value} {Q : Value -> Shared -> Prop} (hT : s.heap.IsTuple l its)
  (k : ∀ h', IsEnum h' (s.heap.objs.size + 1) s.heap.objs.size 0 .none -> h'.IsTupleIter s.heap.objs.size l 0 -> h'.objs.size = s.heap.objs.size + 2 -> (∀ b o, s.heap.get? b = some o -> h'.get? b = some o) -> Q (.ref (s.heap.objs.size + 1)) { s with heap := h' }) :
  wpAny (model prog w) A (call (.type "enumerate") [.ref l]) Q E s := by
 obtain ⟨⟨c, dc, dt, sl⟩, hl, hc, n, hd⟩ := hT
 have hc' : c = .type "tuple" := hc
 have hd' : dt = .seq its n := hd
 subst hc' hd'
 refine callType_new F.called_enumerate (by decide) (F.typeCall_enumerate_1 _) (F.newCall_enumerate_1 _) (fun obj => F.args_object_init_2 obj _) F.entry_enumerate_new (tV l its n dc sl) ⟨hl, ?_⟩
 have z1 : (s.heap.push { cls := .type "tuple_iterator", data := .fields #[.ref l, .int 0 0] }).objs.size = s.heap.objs.size + 1 := Heap.size_push ..
 show _ /\ _
 rw [z1]
 have he : IsEnum ((s.heap.push { cls := .type "tuple_iterator", data := .fields #[.ref l, .int 0 0] }).push { cls := .type "enumerate", data := .fields #[.none, .bool false, .ref s.heap.objs.size, rawInt 0, .none, .none] }) (s.heap.objs.size + 1) s.heap.objs.size 0 .none := by
  have z2 := Heap.get?_push_size (s.heap.push { cls := .type "tuple_iterator", data := .fields #[.ref l, .int 0 0] }) (o := { cls := .type "enumerate", data := .fields #[.none, .bool false, .ref s.heap.objs.size, rawInt 0, .none, .none] }) rfl
  rw [z1] at z2; exact z2
 exact ⟨⟨_, he, rfl⟩, k _ he ⟨_, Heap.get?_push_of_some _ (Heap.get?_push_size _ rfl), rfl, rfl⟩ (by rw [Heap.size_push, z1]) fun b o x => Heap.get?_push_of_some _ (Heap.get?_push_of_some _ x)⟩
noncomputable def SqB (K : PySem.W.Frag) (b : Bool) (H : Hp) (a : Addr) (xs : List V) : Prop := match b with
 | true => SqL K H a xs
 | false => SqT K H a xs
noncomputable def ItB (b : Bool) (h : Heap) (j a : Addr) (i : Nat) : Prop := match b with
 | true => h.IsListIter j a i
 | false => h.IsTupleIter j a i
theorem SqB.inj {X : Cx} {pins : List (Addr × Obj)} {σ : St} {H : Hp} {s : Shared} {b : Bool} {a : Addr} {xs ys : List V} (I : Inv X pins σ H s) (x : SqB X.K b H a xs) (y : SqB X.K b H a ys) : xs = ys := by
 cases b with
 | true => exact I.list_inj x y
 | false => exact I.tuple_inj x y
noncomputable def vF (K : PySem.W.Frag) (b : Bool) (a : Addr) : It :=
 ⟨fun i H => ∃ xs x, SqB K b H a xs /\ xs[i]? = some x, fun i H x H' => ∃ p u, x = .ref p /\ H p = none /\ H' = upd H p (.tup [.int (i : Nat), u]) /\ ∀ xs, SqB K b H a xs -> xs[i]? = some u, fun i H => ∃ xs, SqB K b H a xs /\ xs.length = i⟩
theorem p7 {X : Cx} {pins : List (Addr × Obj)} {σ : St} {H : Hp} {s : Shared} {b : Bool} {a j : Addr} {i : Nat} {xs : List V} (I : Inv X pins σ H s) (hh : X.A.handled = none) (hq : SqB X.K b H a xs) (hj : ItB b s.heap j a i) :
  ∃ (its : List Value) (St : Nat -> Heap -> Prop), Vals xs its /\ Draws X.prog X.w X.A.in1 j [j, a] its.length (fun i v => its[i]? = some v) St /\ St i s.heap /\ (∀ i h, St i h -> ItB b h j a i) /\ ∃ o n, s.heap.get? a = some o /\ o.cls = .type (if b then "list" else "tuple") /\ o.data = .seq its.toArray n := by
 cases b with
 |
  true =>
  obtain ⟨its, rv, p, hz⟩ := I.list hq
  obtain ⟨o, n, e, c, d, ds⟩ := p
  have hL : s.heap.IsList a its.toArray := ⟨o, e, c, n, ds⟩
  have hj' : s.heap.IsListIter j a i := hj
  have ne : a ≠ j := fun z => by
   subst z
   obtain ⟨o', e', c', _⟩ := hj'
   rw [e] at e'; cases e'
   rw [c] at c'; exact absurd (Value.type.inj c') (by decide)
  have D := Draws.list (prog := X.prog) (w := X.w) (A := X.A.in1) hh j a ne its.toArray
  refine ⟨its, fun i h => h.IsListIter j a i /\ h.IsList a its.toArray, rv, ?_, ⟨hj', hL⟩, fun _ _ z => z.1, o, n, e, c, ds⟩
  have e1 : its.toArray.size = its.length := by simp
  have e2 : (fun (i : Nat) (v : Value) => its.toArray[i]? = some v) = fun i v => its[i]? = some v := by funext i v; simp
  rw [e1, e2] at D
  exact D
 |
  false =>
  obtain ⟨its, rv, p, hz⟩ := I.tuple hq
  have hT : s.heap.IsTuple a its.toArray := p
  obtain ⟨o, e, c, n, ds⟩ := id hT
  have hj' : s.heap.IsTupleIter j a i := hj
  have ne : a ≠ j := fun z => by
   subst z
   obtain ⟨o', e', c', _⟩ := hj'
   rw [e] at e'; cases e'
   rw [c] at c'; exact absurd (Value.type.inj c') (by decide)
  have D := By (prog := X.prog) (w := X.w) (A := X.A.in1) hh j a ne its.toArray
  refine ⟨its, fun i h => h.IsTupleIter j a i /\ h.IsTuple a its.toArray, rv, ?_, ⟨hj', hT⟩, fun _ _ z => z.1, o, n, e, c, ds⟩
  have e1 : its.toArray.size = its.length := by simp
  have e2 : (fun (i : Nat) (v : Value) => its.toArray[i]? = some v) = fun i v => its[i]? = some v := by funext i v; simp
  rw [e1, e2] at D
  exact D
theorem p9 {b : Bool} {h : Heap} {j a : Addr} {i : Nat} (z : ItB b h j a i) : ∃ o, h.get? j = some o /\ (∀ v, o.data ≠ .cell v) /\ o.cls = .type (if b then "list_iterator" else "tuple_iterator") := by
 cases b with
 | true => obtain ⟨o, e, c, d⟩ := z; exact ⟨o, e, (fun v y => by rw [d] at y; cases y), c⟩
 | false => obtain ⟨o, e, c, d⟩ := z; exact ⟨o, e, (fun v y => by rw [d] at y; cases y), c⟩
theorem nX {b : Bool} {h h' : Heap} {j a : Addr} {i : Nat} (z : ItB b h j a i) (k : ∀ o, h.get? j = some o -> h'.get? j = some o) : ItB b h' j a i := by
 cases b with
 | true => obtain ⟨o, e, r⟩ := z; exact ⟨o, k o e, r⟩
 | false => obtain ⟨o, e, r⟩ := z; exact ⟨o, k o e, r⟩
theorem
    tG {P : Program} {w : World} {K : PySem.W.Frag} {elts : List Expr} {x1 : Nat} {tp : Pos} (b : Bool) (a e j : Addr) (hej : e ≠ j) : Turn P w K (.Tuple elts x1 tp) (vF K b a) [e, j] e (fun i h => (∃ old, IsEnum h e j ((i : Nat) : Int) old) /\ ItB b h j a i) where
 mem := by simp
 obj
   := fun i h st c hc => by
  rcases List.mem_cons.mp hc with rfl | hc
  ·obtain ⟨old, he⟩ := st.1
   exact ⟨_, he, fun v z => by cases z⟩
  ·have : c = j := by simpa using hc
   subst this
   obtain ⟨o, q1, q2, _⟩ := p9 st.2
   exact ⟨o, q1, q2⟩
 keep := fun i h h' st k => ⟨let ⟨old, he⟩ := st.1; ⟨old, k e (by simp) _ he⟩, nX st.2 fun o q => k j (by simp) o q⟩
 item :=
     by
  intro X hP hw hK hc i pins s σ H E I hf st hg
  subst hP hw hK
  obtain ⟨xs, x, hq, hx⟩ := hg
  obtain ⟨⟨old, he⟩, hj⟩ := st
  obtain ⟨its, St, rv, D, hst, hSt, oa, na, ea, ca, da⟩ := p7 I (I.ok.hd hc) hq hj
  obtain ⟨u, hu, ru⟩ := rv.get hx
  have hlt : i < its.length := (List.getElem?_eq_some_iff.mp hu).1
  have hea : e ≠ a := fun z => by
   subst z
   rw [he] at ea; cases ea
   cases b <;> exact absurd (Value.type.inj ca) (by decide)
  refine wpAny_pyNext_enum_itemD D he hst hlt hej (by simp [hej, hea]) fun y h' tk hy heo hst' ht hsz hk => ?_
  have : y = u := by rw [hu] at hy; exact (Option.some.inj hy).symm
  subst this
  refine ⟨_, rfl, wpAny_letOwnedTupleGo_enum (s := { s with heap := h', toks := tk + 1 }) heo fun h2 he2 sb => ?_⟩
  have hT : H s.heap.objs.size = none := I.hok.fresh (Nat.le_refl _)
  have hef := Heap.lt_size he
  obtain ⟨oj, q1, _, _⟩ := p9 hj
  have hjf := Heap.lt_size q1
  have I1 : Inv X pins σ (upd H s.heap.objs.size (.tup [.int (i : Nat), x])) { s with heap := s.heap.push { cls := .type "tuple", data := .seq #[.int (i : Nat) tk, y] }, toks := s.toks } :=
   I.laid (t' := s.toks) (fun c o q => Heap.get?_push_of_some _ q) (Nat.le_refl _) ⟨by show 2 <= sizeLine; decide, [.int (i : Nat) tk, y], .cons ⟨tk, rfl⟩ (.cons ru .nil), ⟨_, Heap.get?_push_size _ rfl, rfl, _, rfl⟩⟩
  have sb' : Heap.SameBut e h' h2 := sb
  have I2 : Inv X pins σ (upd H s.heap.objs.size (.tup [.int (i : Nat), x])) { s with heap := h2, toks := tk + 1 } :=
   Inv.turnedL (s := { s with heap := s.heap.push { cls := .type "tuple", data := .seq #[.int (i : Nat) tk, y] }, toks := s.toks }) (ch := [e, j]) (t' := tk + 1) I1 (fun c o hc' q => by
    have c1 : c ≠ e := fun z => hc' (by simp [z])
    have c2 : c ≠ j := fun z => hc' (by simp [z])
    rw [sb'.2 c c1]
    by_cases z : c = s.heap.objs.size
    ·subst z
     have q' : (s.heap.push { cls := .type "tuple", data := .seq #[.int (i : Nat) tk, y] }).get? s.heap.objs.size = some o := q
     rw [Heap.get?_push_size _ rfl] at q'
     cases q'
     exact ht
    ·refine hk c o c1 c2 ?_
     have q' : (s.heap.push { cls := .type "tuple", data := .seq #[.int (i : Nat) tk, y] }).get? c = some o := q
     rw [Heap.get?_push_ne _ _ _ z] at q'
     exact q') fun c hc' => by
    rcases List.mem_cons.mp hc' with rfl | hc'
    ·exact (hf c (by simp)).up (Nat.ne_of_lt hef)
    ·have : c = j := by simpa using hc'
     subst this
     exact (hf c (by simp)).up (Nat.ne_of_lt hjf)
  refine ⟨.ref s.heap.objs.size, _, I2, rfl, ⟨_, x, rfl, hT, rfl, fun ys hy' => by rw [SqB.inj I hy' hq]; exact hx⟩, ⟨⟨y, he2⟩, nX (hSt _ _ hst') fun o q => (sb'.2 j (Ne.symm hej)).trans q⟩, fun c hc' => ?_⟩
  rcases List.mem_cons.mp hc' with rfl | hc'
  ·exact ((hf c (by simp)).up (Nat.ne_of_lt hef)).1
  ·have : c = j := by simpa using hc'
   subst this
   exact ((hf c (by simp)).up (Nat.ne_of_lt hjf)).1
 done := by
  intro X hP hw hK hc i pins s σ H E I hf st hg
  subst hP hw hK
  obtain ⟨xs, hq, hx⟩ := hg
  obtain ⟨⟨old, he⟩, hj⟩ := st
  obtain ⟨its, St, rv, D, hst, hSt, oa, na, ea, ca, da⟩ := p7 I (I.ok.hd hc) hq hj
  have hl := rv.length
  subst hx
  rw [hl] at hst
  refine wpAny_pyNext_enum_endD D he hst fun h' eb => ⟨rfl, Inv.turnedL (ch := [j]) (t' := s.toks) I (fun c o hc' q => eb c o (fun z => hc' (by simp [z])) q) fun c hc' => ?_⟩
  have : c = j := by simpa using hc'
  subst this
  exact hf c (by simp)
 self := fun _ _ _ _ _ st h => let ⟨_, he⟩ := st.1; wpAny_pyIter_enum he h
theorem
    yV {X : Cx} {l : Expr} {tl : TA} {elts : List Expr} {x1 : Nat} {tp p pos : Pos} (hg : Gl X "enumerate") (hm : X.mg "enumerate" = none) (ha : PA X [l] tl) (hs : starEach [l] X.env = [(false, eval l X.env)] := by rfl) :
  PI X (.Tuple elts x1 tp) (.Call (.Name "enumerate" p) [l] [] pos) (fun σ H R => tl σ H fun vs H1 => ∃ (b : Bool) (a : Addr) (xs : List V), vs = [.ref a] /\ SqB X.K b H1 a xs /\ R (vF X.K b a) H1) := by
 intro pins s σ H R I h
 refine Call_ (jl I hg hm boot_enumerate (PyProof.Rows.callWith_type1 (thn (ha pos pins s σ H _ I h) fun us s1 ⟨vs, H1, I1, r1, q1⟩ => ?_) hs rfl))
 obtain ⟨b, a, xs, e, hq, q⟩ := q1
 subst e
 cases r1 with
 |
  cons r rr =>
  cases rr
  cases r
  have fin : ∀ h', IsEnum h' (s1.heap.objs.size + 1) s1.heap.objs.size 0 .none -> ItB b h' s1.heap.objs.size a 0 -> (∀ c o, s1.heap.get? c = some o -> h'.get? c = some o) ->
    wpAny (model X.prog X.w) X.A (pyIter (.ref (s1.heap.objs.size + 1))) (PIE X pins σ (.Tuple elts x1 tp) R) X.xe { s1 with heap := h' } := fun h' he hj hk => by
   refine wpAny_pyIter_enum he ⟨s1.heap.objs.size + 1, [s1.heap.objs.size + 1, s1.heap.objs.size], _, _, H1, rfl, I1.kept (t' := s1.toks) fun c o z => hk c o z, tG b a _ _ (Nat.succ_ne_self _), ⟨⟨.none, he⟩, hj⟩, fun c hc => ?_, q⟩
   rcases List.mem_cons.mp hc with rfl | hc
   ·exact I1.fpOk (Nat.le_succ _) (I1.hok.fresh (Nat.le_succ _))
   ·have : c = s1.heap.objs.size := by simpa using hc
    subst this
    exact I1.fpOk (Nat.le_refl _) (I1.hok.fresh (Nat.le_refl _))
  cases b with
  |
   true =>
   obtain ⟨its, rv, pp, hz⟩ := I1.list hq
   exact call_enumerate_list pp.isList fun h' he hit _ hk => fin h' he hit hk
  |
   false =>
   obtain ⟨its, rv, pp, hz⟩ := I1.tuple hq
   exact r9 (show s1.heap.IsTuple a its.toArray from pp) fun h' he hit _ hk => fin h' he hit hk
section
variable {prog : Program} {w : World} {A : Around} {E : Value -> Shared -> Prop} {s : Shared} {b1 b2 : Bool} {z p q j1 j2 a1 a2 : Addr} {n : Nat} {xs ys : Array Value} {x y u v : Value}
end
end L2
set_option Elab.async false
set_option linter.all false
set_option maxRecDepth 100000
set_option maxHeartbeats 1000000
namespace L2
open PySem PySem.Spec PyProof.Rows
noncomputable def ItZ (K : PySem.W.Frag) (b c : Bool) (a d : Addr) : It :=
 ⟨fun i H => ∃ xs ys x y, SqB K b H a xs /\ SqB K c H d ys /\ xs[i]? = some x /\ ys[i]? = some y,
  fun i H x H' => ∃ p u v, x = .ref p /\ H p = none /\ H' = upd H p (.tup [u, v]) /\ (∀ xs, SqB K b H a xs -> xs[i]? = some u) /\ ∀ ys, SqB K c H d ys -> ys[i]? = some v,
  fun i H => ∃ xs ys, SqB K b H a xs /\ SqB K c H d ys /\ (xs[i]? = none \/ ys[i]? = none)⟩
end L2
set_option Elab.async false
set_option linter.all false
set_option maxRecDepth 100000
namespace L2
open PySem PySem.Spec PyProof.Rows
inductive D where
 | non | bl (b : Bool) | int (i : Int) | str (x : Str) | ty (n : String) | glb (x : Str) | exc (x : Str) | tup (xs : List D) | ref (n : Nat) | kl (xs : List D)
 deriving Inhabited
inductive Ob where
 | lst (xs : List D) | fz (xs : List D) | set (xs : List Int) | dct (kvs : List (Key × D)) | any
 deriving Inhabited
abbrev AH := List Ob
abbrev AE := List (Option D)
inductive R (α : Type) where
 | ok (a : α) (h : AH) | exc (c : Str) (h : AH) | stuck
inductive SR where
 | nx (ae : AE) (h : AH) | rt (d : D) (h : AH) | bk (ae : AE) (h : AH) | ct (ae : AE) (h : AH) | exc (c : Str) (ae : AE) (h : AH) | stuck
abbrev ME := AE -> AH -> R D
abbrev MT := AE -> AH -> R Bool
abbrev MA := AE -> AH -> R (List D)
abbrev MS := AE -> AH -> SR
abbrev Fn := List D -> AH -> R D
noncomputable def R.bind {α β : Type} (r : R α) (f : α -> AH -> R β) : R β := match r with
 | .ok a h => f a h
 | .exc c h => .exc c h
 | .stuck => .stuck
section
variable (K : PySem.W.Frag) (mg : Str -> Option Value)
mutual
inductive RelD (ρ : List Addr) (H : Hp) : D -> V -> Prop where
 | non : RelD ρ H .non .non
 | bl (b : Bool) : RelD ρ H (.bl b) (.bl b)
 | int (i : Int) : RelD ρ H (.int i) (.int i)
 | str (x : Str) : RelD ρ H (.str x) (.str x)
 | ty (n : String) : RelD ρ H (.ty n) (.ty n)
 | glb {x : Str} {a : Addr} (m : mg x = some (.ref a)) : RelD ρ H (.glb x) (.ref a)
 | exc {x : Str} {a C : Addr} (m : mg x = some (.ref C)) (e : H a = some (.ext (vV a C))) : RelD ρ H (.exc x) (.ref a)
 | tup {p : Addr} {vs : List V} {ds : List D} (h : SqT K H p vs) (r : RelDs ρ H ds vs) : RelD ρ H (.tup ds) (.ref p)
 | ref {n : Nat} {a : Addr} (e : ρ[n]? = some a) : RelD ρ H (.ref n) (.ref a)
 | kl {a : Addr} {vs : List V} {ds : List D} (h : ∃ (o : Obj) (its : Array Value) (n : Nat), K.lookup a = some o /\ o.cls = .type "list" /\ o.dict = none /\ o.data = .seq its n /\ its.size <= sizeLine /\ Vals vs its.toList) (r : RelDs ρ H ds vs) : RelD ρ H (.kl ds) (.ref a)
inductive RelDs (ρ : List Addr) (H : Hp) : List D -> List V -> Prop where
 | nil : RelDs ρ H [] []
 | cons {d : D} {v : V} {ds : List D} {vs : List V} (r : RelD ρ H d v) (rr : RelDs ρ H ds vs) : RelDs ρ H (d :: ds) (v :: vs)
end
structure Le (ρ : List Addr) (H : Hp) (ρ' : List Addr) (H' : Hp) : Prop where
 pre : ∀ (n : Nat) (a : Addr), ρ[n]? = some a -> ρ'[n]? = some a
 tup : ∀ b xs, H b = some (.tup xs) -> H' b = some (.tup xs)
 frz : ∀ b o u, H b = some (.frz o u) -> H' b = some (.frz o u)
 ext : ∀ b φ, H b = some (.ext φ) -> H' b = some (.ext φ)
noncomputable def ObR (ρ : List Addr) (H : Hp) (a : Addr) : Ob -> Prop
 | .lst ds => ∃ vs, H a = some (.lst vs) /\ RelDs K mg ρ H ds vs
 | .fz ds => ∃ o vs, H a = some (.frz o (.lst vs)) /\ RelDs K mg ρ H ds vs
 | .set xs => xs.Nodup /\ H a = some (.set (fun i => decide (i ∈ xs)) xs.length)
 | .dct kvs => ∃ ws, H a = some (.dK ws) /\ ws.map (·.1) = kvs.map (·.1) /\ RelDs K mg ρ H (kvs.map (·.2)) (ws.map (·.2))
 | .any => ∃ o, H a = some o
structure Wd (ρ : List Addr) (h : AH) (H : Hp) : Prop where
 len : ρ.length = h.length
 nd : ρ.Nodup
 ob : ∀ (n : Nat) (a : Addr) (o : Ob), ρ[n]? = some a -> h[n]? = some o -> ObR K mg ρ H a o
structure RelE (ρ : List Addr) (H : Hp) (ae : AE) (σ : St) : Prop where
 len : ae.length = σ.length
 at_ : ∀ (i : Nat) (d : D), ae[i]? = some (some d) -> ∃ v, σ[i]? = some (some v) /\ RelD K mg ρ H d v
noncomputable def PostG {α : Type} (ρ : List Addr) (H : Hp) (E : XK) (k : α -> AH -> List Addr -> Hp -> Prop) : R α -> Prop
 | .ok a h => ∀ ρ' H', Le ρ H ρ' H' -> Wd K mg ρ' h H' -> k a h ρ' H'
 | .exc c h => ∀ ρ' H' C, Le ρ H ρ' H' -> Wd K mg ρ' h H' -> mg c = some (.ref C) -> E (.ref C) none H'
 | .stuck => False
abbrev eU (ρ : List Addr) (H : Hp) (Q : VK) (E : XK) (r : R D) : Prop := PostG K mg ρ H E (fun d _ ρ' H' => ∀ v, RelD K mg ρ' H' d v -> Q v H') r
abbrev qz (ρ : List Addr) (H : Hp) (Q : Bool -> Hp -> Prop) (E : XK) (r : R Bool) : Prop := PostG K mg ρ H E (fun b _ ρ' H' => Q b H') r
abbrev wI (ρ : List Addr) (H : Hp) (Q : List V -> Hp -> Prop) (E : XK) (r : R (List D)) : Prop := PostG K mg ρ H E (fun d _ ρ' H' => ∀ vs, RelDs K mg ρ' H' d vs -> Q vs H') r
noncomputable def PostS (ρ : List Addr) (H : Hp) (D : Ends) (ES : St -> XK) : SR -> Prop
 | .nx ae h => ∀ ρ' H' σ', Le ρ H ρ' H' -> Wd K mg ρ' h H' -> RelE K mg ρ' H' ae σ' -> D.nx σ' H'
 | .bk ae h => ∀ ρ' H' σ', Le ρ H ρ' H' -> Wd K mg ρ' h H' -> RelE K mg ρ' H' ae σ' -> D.bk σ' H'
 | .ct ae h => ∀ ρ' H' σ', Le ρ H ρ' H' -> Wd K mg ρ' h H' -> RelE K mg ρ' H' ae σ' -> D.ct σ' H'
 | .rt d h => ∀ ρ' H' v, Le ρ H ρ' H' -> Wd K mg ρ' h H' -> RelD K mg ρ' H' d v -> D.rt v H'
 | .exc c ae h => ∀ ρ' H' σ' C, Le ρ H ρ' H' -> Wd K mg ρ' h H' -> RelE K mg ρ' H' ae σ' -> mg c = some (.ref C) -> ES σ' (.ref C) none H'
 | .stuck => False
noncomputable def rdE (ES : St -> XK) (F : ME) : TE := fun σ H Q => ∃ ρ h ae, Wd K mg ρ h H /\ RelE K mg ρ H ae σ /\ eU K mg ρ H Q (ES σ) (F ae h)
noncomputable def rdT (ES : St -> XK) (F : MT) : TT := fun σ H Q => ∃ ρ h ae, Wd K mg ρ h H /\ RelE K mg ρ H ae σ /\ qz K mg ρ H Q (ES σ) (F ae h)
noncomputable def rdA (ES : St -> XK) (F : MA) : TA := fun σ H Q => ∃ ρ h ae, Wd K mg ρ h H /\ RelE K mg ρ H ae σ /\ wI K mg ρ H Q (ES σ) (F ae h)
noncomputable def rdS (ES : St -> XK) (F : MS) : TS := fun D σ H => ∃ ρ h ae, Wd K mg ρ h H /\ RelE K mg ρ H ae σ /\ PostS K mg ρ H D ES (F ae h)
noncomputable def spD (n : Nat) (S : Fn) : Sp := fun vs H Q E => ∃ ρ h ds, Wd K mg ρ h H /\ RelDs K mg ρ H ds vs /\ ds.length = n /\ eU K mg ρ H Q E (S ds h)
end
theorem rdE.el {K : PySem.W.Frag} {mg : Str -> Option Value} {ES : St -> XK} {F : ME} {σ : St} {H : Hp} {Q : VK} {C : Prop} (q : rdE K mg ES F σ H Q) (k : ∀ ρ h ae, Wd K mg ρ h H -> RelE K mg ρ H ae σ -> eU K mg ρ H Q (ES σ) (F ae h) -> C) : C := by
 obtain ⟨ρ, h, ae, w, re, p⟩ := q
 exact k ρ h ae w re p
theorem rdT.el {K : PySem.W.Frag} {mg : Str -> Option Value} {ES : St -> XK} {F : MT} {σ : St} {H : Hp} {Q : Bool -> Hp -> Prop} {C : Prop} (q : rdT K mg ES F σ H Q) (k : ∀ ρ h ae, Wd K mg ρ h H -> RelE K mg ρ H ae σ -> qz K mg ρ H Q (ES σ) (F ae h) -> C) : C := by
 obtain ⟨ρ, h, ae, w, re, p⟩ := q
 exact k ρ h ae w re p
theorem rdA.el {K : PySem.W.Frag} {mg : Str -> Option Value} {ES : St -> XK} {F : MA} {σ : St} {H : Hp} {Q : List V -> Hp -> Prop} {C : Prop} (q : rdA K mg ES F σ H Q) (k : ∀ ρ h ae, Wd K mg ρ h H -> RelE K mg ρ H ae σ -> wI K mg ρ H Q (ES σ) (F ae h) -> C) : C := by
 obtain ⟨ρ, h, ae, w, re, p⟩ := q
 exact k ρ h ae w re p
theorem rdS.el {K : PySem.W.Frag} {mg : Str -> Option Value} {ES : St -> XK} {F : MS} {σ : St} {H : Hp} {De : Ends} {C : Prop} (q : rdS K mg ES F De σ H) (k : ∀ ρ h ae, Wd K mg ρ h H -> RelE K mg ρ H ae σ -> PostS K mg ρ H De ES (F ae h) -> C) : C := by
 obtain ⟨ρ, h, ae, w, re, p⟩ := q
 exact k ρ h ae w re p
section
variable {K : PySem.W.Frag} {mg : Str -> Option Value} {ρ ρ' ρ1 : List Addr} {H H' H1 : Hp} {h h' : AH} {ae : AE} {σ : St}
theorem Le.refl : Le ρ H ρ H := ⟨fun _ _ e => e, fun _ _ e => e, fun _ _ _ e => e, fun _ _ e => e⟩
theorem Le.trans (a : Le ρ H ρ1 H1) (b : Le ρ1 H1 ρ' H') : Le ρ H ρ' H' :=
 ⟨fun n x e => b.pre n x (a.pre n x e), fun x y e => b.tup x y (a.tup x y e), fun x y z e => b.frz x y z (a.frz x y z e), fun x y e => b.ext x y (a.ext x y e)⟩
theorem Le.sqT {a : Addr} {xs : List V} (l : Le ρ H ρ' H') (q : SqT K H a xs) : SqT K H' a xs := by
 rcases q with (q | ⟨o, q⟩) | q
 ·exact .inl (.inl (l.tup _ _ q))
 ·exact .inl (.inr ⟨o, l.frz _ _ _ q⟩)
 ·exact .inr q
theorem RelD.mono (l : Le ρ H ρ' H') {d : D} {v : V} (r : RelD K mg ρ H d v) : RelD K mg ρ' H' d v :=
 RelD.rec (motive_1 := fun d v _ => RelD K mg ρ' H' d v) (motive_2 := fun ds vs _ => RelDs K mg ρ' H' ds vs) .non (fun b => .bl b) (fun i => .int i) (fun x => .str x) (fun n => .ty n) (fun m => .glb m) (fun m e => .exc m (l.ext _ _ e)) (fun h _ ih => .tup (l.sqT h) ih) (fun e => .ref (l.pre _ _ e)) (fun h _ ih => .kl h ih) .nil (fun _ _ a b => .cons a b) r
theorem RelDs.ind {M : List D -> List V -> Prop} (h0 : M [] []) (h1 : ∀ {d v ds vs}, RelD K mg ρ H d v -> RelDs K mg ρ H ds vs -> M ds vs -> M (d :: ds) (v :: vs)) {ds : List D} {vs : List V} (r : RelDs K mg ρ H ds vs) : M ds vs := by
 induction ds generalizing vs with
 | nil => cases r; exact h0
 |
  cons d ds ih =>
  cases r with
  | cons r rr => exact h1 r rr (ih rr)
theorem RelDs.mono (l : Le ρ H ρ' H') {ds : List D} {vs : List V} (r : RelDs K mg ρ H ds vs) : RelDs K mg ρ' H' ds vs := r.ind .nil fun r _ ih => .cons (r.mono l) ih
theorem RelDs.len {ds : List D} {vs : List V} (r : RelDs K mg ρ H ds vs) : ds.length = vs.length := r.ind (M := fun ds vs => ds.length = vs.length) rfl fun _ _ ih => congrArg (· + 1) ih
theorem RelDs.getD {ds : List D} {vs : List V} {i : Nat} {d : D} (r : RelDs K mg ρ H ds vs) (e : ds[i]? = some d) : ∃ v, vs[i]? = some v /\ RelD K mg ρ H d v :=
 r.ind (M := fun ds vs => ∀ i, ds[i]? = some d -> ∃ v, vs[i]? = some v /\ RelD K mg ρ H d v) (fun _ e => by rw [List.getElem?_nil] at e; cases e) (fun r _ ih i e => match i, e with
  | 0, e => by cases e; exact ⟨_, rfl, r⟩
  | i + 1, e => ih i e) i e
theorem RelDs.append {ds es : List D} {vs ws : List V} (r : RelDs K mg ρ H ds vs) (q : RelDs K mg ρ H es ws) : RelDs K mg ρ H (ds ++ es) (vs ++ ws) := r.ind (M := fun ds vs => RelDs K mg ρ H (ds ++ es) (vs ++ ws)) q fun r _ ih => .cons r ih
theorem RelDs.take {ds : List D} {vs : List V} (n : Nat) (r : RelDs K mg ρ H ds vs) : RelDs K mg ρ H (ds.take n) (vs.take n) :=
 r.ind (M := fun ds vs => ∀ n : Nat, RelDs K mg ρ H (ds.take n) (vs.take n)) (fun n => by rw [List.take_nil, List.take_nil]; exact .nil) (fun r _ ih n => by cases n with | zero => exact .nil | succ n => exact .cons r (ih n)) n
theorem RelDs.drop {ds : List D} {vs : List V} (n : Nat) (r : RelDs K mg ρ H ds vs) : RelDs K mg ρ H (ds.drop n) (vs.drop n) :=
 r.ind (M := fun ds vs => ∀ n : Nat, RelDs K mg ρ H (ds.drop n) (vs.drop n)) (fun n => by rw [List.drop_nil, List.drop_nil]; exact .nil) (fun r rr ih n => by cases n with | zero => exact .cons r rr | succ n => exact ih n) n
theorem RelDs.set {d : D} {v : V} (r : RelD K mg ρ H d v) {ds : List D} {vs : List V} (i : Nat) (q : RelDs K mg ρ H ds vs) : RelDs K mg ρ H (ds.set i d) (vs.set i v) :=
 q.ind (M := fun ds vs => ∀ i : Nat, RelDs K mg ρ H (ds.set i d) (vs.set i v)) (fun _ => .nil) (fun q qq ih i => by cases i with | zero => exact .cons r qq | succ i => exact .cons q (ih i)) i
theorem RelDs.ints : ∀ {ns : List Int} {vs : List V}, RelDs K mg ρ H (ns.map D.int) vs -> vs = ns.map V.int := by
 intro ns
 induction ns with
 | nil => intro vs r; cases r; rfl
 |
  cons n ns ih =>
  intro vs r
  cases r with
  | cons r rr => cases r; rw [ih rr]; rfl
theorem RelDs.bls : ∀ {ns : List Bool} {vs : List V}, RelDs K mg ρ H (ns.map D.bl) vs -> vs = ns.map V.bl := by
 intro ns
 induction ns with
 | nil => intro vs r; cases r; rfl
 |
  cons n ns ih =>
  intro vs r
  cases r with
  | cons r rr => cases r; rw [ih rr]; rfl
theorem RelE.mono (l : Le ρ H ρ' H') (r : RelE K mg ρ H ae σ) : RelE K mg ρ' H' ae σ := ⟨r.len, fun i d e => by
 obtain ⟨v, h1, h2⟩ := r.at_ i d e
 exact ⟨v, h1, h2.mono l⟩⟩
theorem RelE.set {d : D} {v : V} (i : Nat) (r : RelE K mg ρ H ae σ) (q : RelD K mg ρ H d v) : RelE K mg ρ H (ae.set i (some d)) (σ.set i (some v)) := ⟨by rw [List.length_set, List.length_set]; exact r.len, fun j d' e => by
 rw [List.getElem?_set] at e ⊢
 by_cases hij : i = j
 ·rw [if_pos hij] at e ⊢
  by_cases hi : i < ae.length
  ·rw [if_pos hi] at e
   cases e
   rw [if_pos (by rw [<- r.len]; exact hi)]
   exact ⟨v, rfl, q⟩
  ·rw [if_neg hi] at e; cases e
 ·rw [if_neg hij] at e ⊢
  exact r.at_ j d' e⟩
theorem ObR.mono {a : Addr} {o : Ob} (l : Le ρ H ρ' H') (e : H' a = H a) (q : ObR K mg ρ H a o) : ObR K mg ρ' H' a o := by
 cases o with
 | lst ds => obtain ⟨vs, h1, h2⟩ := q; exact ⟨vs, e.trans h1, h2.mono l⟩
 | fz ds => obtain ⟨o, vs, h1, h2⟩ := q; exact ⟨o, vs, e.trans h1, h2.mono l⟩
 | set xs => exact ⟨q.1, e.trans q.2⟩
 | dct kvs => obtain ⟨ws, h1, h2, h3⟩ := q; exact ⟨ws, e.trans h1, h2, h3.mono l⟩
 | any => obtain ⟨o, h1⟩ := q; exact ⟨o, e.trans h1⟩
theorem ObR.there {a : Addr} {o : Ob} (q : ObR K mg ρ H a o) : ∃ u, H a = some u := by
 cases o with
 | lst ds => obtain ⟨vs, h1, _⟩ := q; exact ⟨_, h1⟩
 | fz ds => obtain ⟨o, vs, h1, _⟩ := q; exact ⟨_, h1⟩
 | set xs => exact ⟨_, q.2⟩
 | dct kvs => obtain ⟨ws, h1, _⟩ := q; exact ⟨_, h1⟩
 | any => exact q
theorem Wd.fresh (w : Wd K mg ρ h H) {p : Addr} (hp : H p = none) : p ∉ ρ := fun hm => by
 obtain ⟨n, hn⟩ := List.getElem?_of_mem hm
 have hl : n < h.length := by rw [<- w.len]; exact (List.getElem?_eq_some_iff.mp hn).1
 obtain ⟨u, hu⟩ := (w.ob n p h[n] hn (List.getElem?_eq_getElem hl)).there
 rw [hp] at hu; cases hu
theorem dU {p : Addr} {o : HO} (hp : H p = none) : Le ρ H ρ (upd H p o) :=
 ⟨fun _ _ e => e, fun b xs e => by rw [aL (bR e hp)]; exact e, fun b xs u e => by rw [aL (bR e hp)]; exact e, fun b xs e => by rw [aL (bR e hp)]; exact e⟩
theorem pX {m : List Addr} : Le ρ H (ρ ++ m) H :=
 ⟨fun n a e => by rw [List.getElem?_append_left (List.getElem?_eq_some_iff.mp e).1]; exact e, fun _ _ e => e, fun _ _ _ e => e, fun _ _ e => e⟩
theorem
    Wd.alloc {p : Addr} {u : HO} {o : Ob} (w : Wd K mg ρ h H) (hp : H p = none) (hn : ObR K mg (ρ ++ [p]) (upd H p u) p o) : Wd K mg (ρ ++ [p]) (h ++ [o]) (upd H p u) := by
 refine ⟨by rw [List.length_append, List.length_append, w.len]; rfl, ?_, fun n a ob e1 e2 => ?_⟩
 ·rw [List.nodup_append]
  exact ⟨w.nd, by simp, fun a ha b hb => by rw [List.mem_singleton] at hb; subst hb; intro z; subst z; exact w.fresh hp ha⟩
 ·by_cases hl : n < ρ.length
  ·rw [List.getElem?_append_left hl] at e1
   rw [List.getElem?_append_left (by rw [<- w.len]; exact hl)] at e2
   have q := w.ob n a ob e1 e2
   obtain ⟨v, hv⟩ := q.there
   exact q.mono ((dU hp).trans pX) (aL (bR hv hp))
  ·have h1 : n = ρ.length := by
    have := (List.getElem?_eq_some_iff.mp e1).1
    rw [List.length_append] at this
    simp at this
    omega
   subst h1
   rw [List.getElem?_append_right (Nat.le_refl _), Nat.sub_self] at e1
   rw [w.len, List.getElem?_append_right (Nat.le_refl _), Nat.sub_self] at e2
   simp at e1 e2
   subst e1 e2
   exact hn
theorem Wd.tuple {p : Addr} {u : HO} (w : Wd K mg ρ h H) (hp : H p = none) : Wd K mg ρ h (upd H p u) :=
 ⟨w.len, w.nd, fun n a ob e1 e2 => by
  have q := w.ob n a ob e1 e2
  obtain ⟨v, hv⟩ := q.there
  exact q.mono (dU hp) (aL (bR hv hp))⟩
theorem qG {a : Addr} {o u : HO} (e : H a = some u) (hu : (∀ xs, u ≠ .tup xs) /\ (∀ x y, u ≠ .frz x y) /\ ∀ φ, u ≠ .ext φ) : Le ρ H ρ (upd H a o) := by
 refine ⟨fun _ _ e => e, fun b xs q => ?_, fun b x y q => ?_, fun b φ q => ?_⟩ <;> rw [aL] <;> (try exact q) <;> (intro z; subst z; rw [e] at q; have := Option.some.inj q; first | exact hu.1 _ this | exact hu.2.1 _ _ this | exact hu.2.2 _ this)
theorem Wd.write {n : Nat} {a : Addr} {o u : HO} {ob : Ob} (w : Wd K mg ρ h H) (ea : ρ[n]? = some a) (e : H a = some u) (hu : (∀ xs, u ≠ .tup xs) /\ (∀ x y, u ≠ .frz x y) /\ ∀ φ, u ≠ .ext φ)
  (hn : ObR K mg ρ (upd H a o) a ob) : Wd K mg ρ (h.set n ob) (upd H a o) := by
 refine ⟨by rw [List.length_set]; exact w.len, w.nd, fun m b ob' e1 e2 => ?_⟩
 rw [List.getElem?_set] at e2
 by_cases hm : n = m
 ·subst hm
  rw [ea] at e1; cases e1
  rw [if_pos rfl] at e2
  split at e2
  ·cases e2; exact hn
  ·cases e2
 ·rw [if_neg hm] at e2
  have q := w.ob m b ob' e1 e2
  refine q.mono (qG e hu) (aL fun z => hm ?_)
  subst z
  have h1 := (List.getElem?_eq_some_iff.mp e1)
  have h2 := (List.getElem?_eq_some_iff.mp ea)
  exact (List.getElem_inj (h₀ := h2.1) (h₁ := h1.1) w.nd).mp (h2.2.trans h1.2.symm)
theorem mQ {vs : List V} : (∀ xs, HO.lst vs ≠ .tup xs) /\ (∀ x y, HO.lst vs ≠ .frz x y) /\ ∀ φ, HO.lst vs ≠ .ext φ := ⟨fun _ z => (nomatch z), fun _ _ z => (nomatch z), fun _ z => (nomatch z)⟩
theorem PostG.mono {α : Type} {E : XK} {k : α -> AH -> List Addr -> Hp -> Prop} {r : R α} (l : Le ρ H ρ' H') (p : PostG K mg ρ H E k r) : PostG K mg ρ' H' E k r := by
 cases r with
 | ok d h => exact fun ρ2 H2 l2 => p ρ2 H2 (l.trans l2)
 | exc c h => exact fun ρ2 H2 C l2 => p ρ2 H2 C (l.trans l2)
 | stuck => exact p
theorem PostG.imp {α : Type} {E : XK} {k k' : α -> AH -> List Addr -> Hp -> Prop} {r : R α} (p : PostG K mg ρ H E k r) (i : ∀ a h1 ρ' H', Le ρ H ρ' H' -> Wd K mg ρ' h1 H' -> k a h1 ρ' H' -> k' a h1 ρ' H') : PostG K mg ρ H E k' r := by
 cases r with
 | ok d h => exact fun ρ2 H2 l2 w2 => i _ _ _ _ l2 w2 (p ρ2 H2 l2 w2)
 | exc c h => exact p
 | stuck => exact p
theorem PostG.bind {α β : Type} {E : XK} {k : β -> AH -> List Addr -> Hp -> Prop} {r : R α} {f : α -> AH -> R β} (p : PostG K mg ρ H E k (r.bind f)) : PostG K mg ρ H E (fun a h1 ρ' H' => PostG K mg ρ' H' E k (f a h1)) r := by
 cases r with
 | ok d h => exact fun ρ2 H2 l2 w2 => PostG.mono l2 p
 | exc c h => exact p
 | stuck => exact p
theorem PostS.mono {De : Ends} {ES : St -> XK} {r : SR} (l : Le ρ H ρ' H') (p : PostS K mg ρ H De ES r) : PostS K mg ρ' H' De ES r := by
 cases r with
 | nx ae h => exact fun ρ2 H2 σ l2 => p ρ2 H2 σ (l.trans l2)
 | bk ae h => exact fun ρ2 H2 σ l2 => p ρ2 H2 σ (l.trans l2)
 | ct ae h => exact fun ρ2 H2 σ l2 => p ρ2 H2 σ (l.trans l2)
 | rt d h => exact fun ρ2 H2 v l2 => p ρ2 H2 v (l.trans l2)
 | exc c ae h => exact fun ρ2 H2 σ C l2 => p ρ2 H2 σ C (l.trans l2)
 | stuck => exact p
end
end L2
set_option Elab.async false
set_option linter.all false
set_option maxRecDepth 100000
namespace L2
open PySem PySem.Spec PyProof.Rows
section
variable {X : Cx} {e : Expr} {es : List Expr} {st : Stmt} {sts : List Stmt}
theorem PE.imp {t t' : TE} (h : PE X e t) (k : ∀ σ H Q, t' σ H Q -> t σ H Q) : PE X e t' := fun pins s σ H Q I w => h pins s σ H Q I (k σ H Q w)
theorem PT.imp {t t' : TT} (h : PT X e t) (k : ∀ σ H Q, t' σ H Q -> t σ H Q) : PT X e t' := fun pins s σ H Q I w => h pins s σ H Q I (k σ H Q w)
theorem PW.imp {t t' : TT} (h : PW X e t) (k : ∀ σ H Q, t' σ H Q -> t σ H Q) : PW X e t' := fun wh pins s σ H Q I w => h wh pins s σ H Q I (k σ H Q w)
theorem PA.imp {t t' : TA} (h : PA X es t) (k : ∀ σ H Q, t' σ H Q -> t σ H Q) : PA X es t' := fun pos pins s σ H Q I w => h pos pins s σ H Q I (k σ H Q w)
theorem PS.imp {t t' : TS} (h : PS X st t) (k : ∀ D σ H, t' D σ H -> t D σ H) : PS X st t' := fun pins s σ H D I w => h pins s σ H D I (k D σ H w)
theorem PSs.imp {t t' : TS} (h : PSs X sts t) (k : ∀ D σ H, t' D σ H -> t D σ H) : PSs X sts t' := fun pins s σ H D I w => h pins s σ H D I (k D σ H w)
theorem PG.imp {t t' : TG} (h : PG X e t) (k : ∀ v σ H Q, t' v σ H Q -> t v σ H Q) : PG X e t' := fun pins s σ H v u Q I r w => h pins s σ H v u Q I r (k v σ H Q w)
theorem PGs.imp {t t' : TGs} (h : PGs X es t) (k : ∀ v σ H Q, t' v σ H Q -> t v σ H Q) : PGs X es t' := fun pins s σ H v u Q I r w => h pins s σ H v u Q I r (k v σ H Q w)
theorem PO.imp {o : Option Expr} {t t' : TO} (h : PO X o t) (k : ∀ σ H Q, t' σ H Q -> t σ H Q) : PO X o t' := fun pins s σ H Q I w => h pins s σ H Q I (k σ H Q w)
end
section
variable (K : PySem.W.Frag) (mg : Str -> Option Value) (X : Cx) (ES : St -> XK)
noncomputable def DE (e : Expr) (F : ME) : Prop := PE X e (rdE K mg ES F)
noncomputable def DT (e : Expr) (F : MT) : Prop := PT X e (rdT K mg ES F)
noncomputable def DW (e : Expr) (F : MT) : Prop := PW X e (rdT K mg ES F)
noncomputable def DA (es : List Expr) (F : MA) : Prop := PA X es (rdA K mg ES F)
noncomputable def DS (st : Stmt) (F : MS) : Prop := PS X st (rdS K mg ES F)
noncomputable def DSs (st : List Stmt) (F : MS) : Prop := PSs X st (rdS K mg ES F)
end
noncomputable def OpD (K : PySem.W.Frag) (mg : Str -> Option Value) (r : R2) (g : D -> D -> AH -> R D) : Prop := ∀ ρ h H dx dy x y Q E, Wd K mg ρ h H -> RelD K mg ρ H dx x -> RelD K mg ρ H dy y -> eU K mg ρ H Q E (g dx dy h) -> r x y H Q
noncomputable def UnD (K : PySem.W.Frag) (mg : Str -> Option Value) (r : V -> Hp -> VK -> Prop) (g : D -> AH -> R D) : Prop := ∀ ρ h H dx x Q E, Wd K mg ρ h H -> RelD K mg ρ H dx x -> eU K mg ρ H Q E (g dx h) -> r x H Q
noncomputable def bI (K : PySem.W.Frag) (mg : Str -> Option Value) (r : List V -> Hp -> VK -> Prop) (g : Fn) : Prop := ∀ ρ h H ds vs Q E, Wd K mg ρ h H -> RelDs K mg ρ H ds vs -> eU K mg ρ H Q E (g ds h) -> r vs H Q
noncomputable def cP (i : Nat) : ME := fun ae h => match ae[i]? with
 | some (some d) => .ok d h
 | _ => .stuck
noncomputable def eC (d : D) : ME := fun _ h => .ok d h
noncomputable def eOp (g : D -> D -> AH -> R D) (F G : ME) : ME := fun ae h => (F ae h).bind fun x h1 => (G ae h1).bind fun y h2 => g x y h2
noncomputable def eUn (g : D -> AH -> R D) (F : ME) : ME := fun ae h => (F ae h).bind g
noncomputable def rP : MA := fun _ h => .ok [] h
noncomputable def kJ (F : ME) (G : MA) : MA := fun ae h => (F ae h).bind fun x h1 => (G ae h1).bind fun xs h2 => .ok (x :: xs) h2
noncomputable def eFn (g : Fn) (A : MA) : ME := fun ae h => (A ae h).bind g
noncomputable def jB (ds : List D) (h : AH) : R D := if ds.length <= 16777216 then .ok (.tup ds) h else .stuck
noncomputable def dz (ds : List D) (h : AH) : R D := if ds.length <= 16777216 then .ok (.ref h.length) (h ++ [.lst ds]) else .stuck
noncomputable def asB (d : D) (h : AH) : R Bool := match d with
 | .bl b => .ok b h
 | _ => .stuck
noncomputable def jR (F G : ME) : ME := fun ae h => (F ae h).bind fun x h1 => (asB x h1).bind fun b h2 => if b = true then G ae h2 else .ok (.bl false) h2
noncomputable def vy (F : ME) : ME := fun ae h => (F ae h).bind fun x h1 => (asB x h1).bind fun b h2 => .ok (.bl (!b)) h2
noncomputable def eIf (c : MT) (F G : ME) : ME := fun ae h => (c ae h).bind fun b h1 => if b = true then F ae h1 else G ae h1
noncomputable def tOf (F : ME) : MT := fun ae h => (F ae h).bind asB
noncomputable def tAn (c d : MT) : MT := fun ae h => (c ae h).bind fun b h1 => if b = true then d ae h1 else .ok false h1
noncomputable def tO (c d : MT) : MT := fun ae h => (c ae h).bind fun b h1 => if b = true then .ok true h1 else d ae h1
noncomputable def tNo (c : MT) : MT := fun ae h => (c ae h).bind fun b h1 => .ok (!b) h1
section
variable {K : PySem.W.Frag} {mg : Str -> Option Value} {ρ : List Addr} {H : Hp} {h : AH}
theorem fT {Q : VK} {E : XK} {ds : List D} {vs : List V} {p : Addr} (w : Wd K mg ρ h H) (rs : RelDs K mg ρ H ds vs) (hp : H p = none) (q : eU K mg ρ H Q E (.ok (.ref h.length) (h ++ [.lst ds]))) : Q (.ref p) (upd H p (.lst vs)) := by
 have l : Le ρ H (ρ ++ [p]) (upd H p (.lst vs)) := (dU hp).trans pX
 refine q (ρ ++ [p]) _ l (w.alloc hp ⟨vs, df, rs.mono l⟩) _ (.ref ?_)
 rw [<- w.len, List.getElem?_append_right (Nat.le_refl _), Nat.sub_self]
 rfl
theorem jY {Q : VK} {E : XK} {ds : List D} {vs : List V} {p : Addr} (w : Wd K mg ρ h H) (rs : RelDs K mg ρ H ds vs) (hp : H p = none) (q : eU K mg ρ H Q E (.ok (.tup ds) h)) : Q (.ref p) (upd H p (.tup vs)) :=
 q ρ _ (dU hp) (w.tuple hp) _ (.tup (SqT.of df) (rs.mono (dU hp)))
theorem aK {Q : VK} {E : XK} {d : D} {v : V} (w : Wd K mg ρ h H) (r : RelD K mg ρ H d v) (q : eU K mg ρ H Q E (.ok d h)) : Q v H := q ρ H Le.refl w v r
end
section
variable {K : PySem.W.Frag} {mg : Str -> Option Value} {X : Cx} {ES : St -> XK} {e a b c : Expr} {es : List Expr} {F G : ME} {A : MA} {cf cg : MT} {pos : Pos}
theorem z0 (i : Nat) {x : Str} (hN : X.N[i]? = some x := by rfl) (hv : Vis X.env.scope x := by first | exact Or.inl rfl | exact Or.inr (Or.inl rfl) | exact Or.inr (Or.inr rfl)) (hd : (x == ("__debug__" : Str)) = false := by decide)
  (hcd : (x == ("__classdict__" : Str)) = false := by decide) : DE K mg X ES (.Name x pos) (cP i) := PE.imp (nW hN hv hd hcd) fun σ H Q q_ => q_.el fun ρ h ae w re p => by
 unfold cP at p
 split at p
 ·rename_i d ed
  obtain ⟨v, e1, r⟩ := re.at_ i d ed
  exact ⟨v, e1, aK w r p⟩
 ·exact p.elim
theorem kU {v : V} {d : D} (hp : PE X e (tC v)) (r : ∀ ρ H, RelD K mg ρ H d v) : DE K mg X ES e (eC d) := PE.imp hp fun σ H Q q_ => q_.el fun ρ h ae w re p => aK w (r ρ H) p
theorem zx {i : Int} {j : Nat} : DE K mg X ES (.Constant (.int i) j pos) (eC (.int i)) := kU BX fun _ _ => .int i
theorem Dj {i : Bool} {j : Nat} : DE K mg X ES (.Constant (.bool i) j pos) (eC (.bl i)) := kU El fun _ _ => .bl i
theorem Cd {j : Nat} : DE K mg X ES (.Constant .none j pos) (eC .non) := kU Az fun _ _ => .non
theorem AR {x : Str} {j : Nat} : DE K mg X ES (.Constant (.str x) j pos) (eC (.str x)) := kU BH fun _ _ => .str x
structure GC (K : PySem.W.Frag) (mg : Str -> Option Value) (x : Str) (d : D) : Prop where
 ex : ∃ u v, mg x = some u /\ RelV v u /\ ∀ ρ H, RelD K mg ρ H d v
theorem D7 {x : Str} {d : D} (hg : Gl X x) (ha : GC K mg x d) (hm : X.mg = mg := by rfl) (hd : (x == ("__debug__" : Str)) = false := by decide) : DE K mg X ES (.Name x pos) (eC d) := by
 subst hm
 obtain ⟨u, v, h1, h2, h3⟩ := ha.ex
 exact kU (yk hg h1 h2 hd) h3
theorem CY {x : Str} {n : String} (hg : Gl X x) (hm : mg x = none) (hv : bootBuiltins x = some (.type n)) (he : X.mg = mg := by rfl) (hn : x ≠ "__name__" := by decide) (hd : (x == ("__debug__" : Str)) = false := by decide) : DE K mg X ES (.Name x pos) (eC (.ty n)) := by
 subst he
 exact kU (yC hg hm hv (v := .ty n) rfl hn hd) fun _ _ => .ty n
theorem mJ {r : R2} {g : D -> D -> AH -> R D} (hd : OpD K mg r g) (σ : St) (H : Hp) (Q : VK) (q : rdE K mg ES (eOp g F G) σ H Q) : tOp r (rdE K mg ES F) (rdE K mg ES G) σ H Q := by
 obtain ⟨ρ, h, ae, w, re, p⟩ := q
 exact ⟨ρ, h, ae, w, re, p.bind.imp fun dx h1 ρ1 H1 l1 w1 p1 x rx => ⟨ρ1, h1, ae, w1, re.mono l1, p1.bind.imp fun dy h2 ρ2 H2 l2 w2 p2 y ry => hd ρ2 h2 H2 dx dy x y Q _ w2 (rx.mono l2) ry p2⟩⟩
theorem Ea {op : Operator} {r : R2} {g : D -> D -> AH -> R D} (ho : OpR X (binaryOp op) r) (hd : OpD K mg r g) (ha : DE K mg X ES a F) (hb : DE K mg X ES b G) : DE K mg X ES (.BinOp a op b pos) (eOp g F G) := PE.imp (Ee ho ha hb) (mJ hd)
theorem DC {r : R2} {g : D -> D -> AH -> R D} (hr : IxR X r) (hd : OpD K mg r g) (ha : DE K mg X ES a F) (hb : DE K mg X ES b G) (hs : lz b) : DE K mg X ES (.Subscript a b pos) (eOp g F G) := PE.imp (D2 hr ha hb hs) (mJ hd)
theorem AD {op : CmpOp} {r : R2} {g : D -> D -> AH -> R D} (ho : OpR X (compareOp op) r) (hd : OpD K mg r g) (ha : DE K mg X ES a F) (hb : DE K mg X ES b G) (hm : behindInMarks op b = false) : DE K mg X ES (.Compare a [op] [b] pos) (eOp g F G) := PE.imp (xN ho ha hb hm) (mJ hd)
theorem pk (σ : St) (H : Hp) (Q : Bool -> Hp -> Prop) (q : rdT K mg ES (tOf F) σ H Q) : rdE K mg ES F σ H fun x H' => ∃ k, x = .bl k /\ Q k H' := by
 obtain ⟨ρ, h, ae, w, re, p⟩ := q
 refine ⟨ρ, h, ae, w, re, p.bind.imp fun d h1 ρ1 H1 l1 w1 p1 x rx => ?_⟩
 unfold asB at p1
 split at p1
 ·cases rx; exact ⟨_, rfl, p1 ρ1 H1 Le.refl w1⟩
 ·exact p1.elim
theorem Ce {op : CmpOp} {r : R2} {g : D -> D -> AH -> R D} (ho : OpR X (compareOp op) r) (hd : OpD K mg r g) (ha : DE K mg X ES a F) (hb : DE K mg X ES b G) (hm : behindInMarks op b = false) : DT K mg X ES (.Compare a [op] [b] pos) (tOf (eOp g F G)) :=
 PT.imp (xu ho ha hb hm) fun σ H Q q => mJ hd σ H _ (pk σ H Q q)
theorem Ab (ha : DE K mg X ES a F) (he : ∀ whole, isTrue a X.env whole = (do let v <- whole; standAt a.pos; holding [v] (truthy v)) := by intro _; rfl) : DT K mg X ES a (tOf F) :=
 PT.imp (zQ ha he) fun σ H Q q => pk σ H Q q
theorem zf (ha : DT K mg X ES a cf) : DT K mg X ES (.UnaryOp .Not a pos) (tNo cf) := PT.imp (Au ha) fun σ H Q q_ => q_.el fun ρ h ae w re p =>
 ⟨ρ, h, ae, w, re, p.bind.imp fun b h1 ρ1 H1 l1 w1 p1 => p1 ρ1 H1 Le.refl w1⟩
theorem yw (ha : DT K mg X ES a cf) : DW K mg X ES (.BoolOp .And [a] pos) cf := xY ha
theorem zl (ha : DT K mg X ES a cf) : DW K mg X ES (.BoolOp .Or [a] pos) cf := Cr ha
theorem BE (ha : DT K mg X ES a cf) (hb : DW K mg X ES (.BoolOp .And (b :: es) pos) cg) : DW K mg X ES (.BoolOp .And (a :: b :: es) pos) (tAn cf cg) := PW.imp (ze ha hb) fun σ H Q q_ => q_.el fun ρ h ae w re p =>
 ⟨ρ, h, ae, w, re, p.bind.imp fun b h1 ρ1 H1 l1 w1 p1 => by
  cases b with
  | true => exact ⟨ρ1, h1, ae, w1, re.mono l1, p1⟩
  | false => exact p1 ρ1 H1 Le.refl w1⟩
theorem Di (ha : DT K mg X ES a cf) (hb : DW K mg X ES (.BoolOp .Or (b :: es) pos) cg) : DW K mg X ES (.BoolOp .Or (a :: b :: es) pos) (tO cf cg) := PW.imp (Dh ha hb) fun σ H Q q_ => q_.el fun ρ h ae w re p =>
 ⟨ρ, h, ae, w, re, p.bind.imp fun b h1 ρ1 H1 l1 w1 p1 => by
  cases b with
  | true => exact p1 ρ1 H1 Le.refl w1
  | false => exact ⟨ρ1, h1, ae, w1, re.mono l1, p1⟩⟩
theorem DW.dt (h : DW K mg X ES a cf) : DT K mg X ES a cf := PW.pt h
theorem AO {op} (h : DE K mg X ES a F) : DE K mg X ES (.BoolOp op [a] pos) F := zv h
theorem AI (ha : DE K mg X ES a F) (hb : DE K mg X ES (.BoolOp .And (b :: es) pos) G) : DE K mg X ES (.BoolOp .And (a :: b :: es) pos) (jR F G) := PE.imp (Ba ha hb) fun σ H Q q_ => q_.el fun ρ h ae w re p => by
 refine ⟨ρ, h, ae, w, re, p.bind.imp fun d h1 ρ1 H1 l1 w1 p1 x rx => ?_⟩
 unfold asB at p1
 split at p1
 ·rename_i b'
  cases rx
  refine ⟨b', rfl, ?_⟩
  cases b' with
  | true => exact ⟨ρ1, h1, ae, w1, re.mono l1, p1⟩
  | false => exact p1 ρ1 H1 Le.refl w1 _ (.bl false)
 ·exact p1.elim
theorem Ci (ha : DE K mg X ES a F) : DE K mg X ES (.UnaryOp .Not a pos) (vy F) := PE.imp (Be ha) fun σ H Q q_ => q_.el fun ρ h ae w re p => by
 refine ⟨ρ, h, ae, w, re, p.bind.imp fun d h1 ρ1 H1 l1 w1 p1 x rx => ?_⟩
 unfold asB at p1
 split at p1
 ·cases rx
  exact ⟨_, rfl, p1 ρ1 H1 Le.refl w1 _ (.bl _)⟩
 ·exact p1.elim
theorem Er (hc : DT K mg X ES c cf) (ha : DE K mg X ES a F) (hb : DE K mg X ES b G) : DE K mg X ES (.IfExp c a b pos) (eIf cf F G) := PE.imp (wk hc ha hb) fun σ H Q q_ => q_.el fun ρ h ae w re p =>
 ⟨ρ, h, ae, w, re, p.bind.imp fun b h1 ρ1 H1 l1 w1 p1 => by
  cases b with
  | true => exact ⟨ρ1, h1, ae, w1, re.mono l1, p1⟩
  | false => exact ⟨ρ1, h1, ae, w1, re.mono l1, p1⟩⟩
theorem CN {op : UnaryOp} {r : V -> Hp -> VK -> Prop} {g : D -> AH -> R D} (ho : UnR X (unaryOp op) r) (hd : UnD K mg r g) (ha : DE K mg X ES a F) : DE K mg X ES (.UnaryOp op a pos) (eUn g F) := PE.imp (DQ ho ha) fun σ H Q q_ => q_.el fun ρ h ae w re p =>
 ⟨ρ, h, ae, w, re, p.bind.imp fun d h1 ρ1 H1 l1 w1 p1 x rx => hd ρ1 h1 H1 d x Q _ w1 rx p1⟩
theorem Al : DA K mg X ES [] rP := PA.imp Cp fun σ H Q q_ => q_.el fun ρ h ae w re p => p ρ H Le.refl w _ .nil
theorem xD (ha : DE K mg X ES e F) (hr : DA K mg X ES es A) (hs : starEach (e :: es) X.env = (false, eval e X.env) :: starEach es X.env := by rfl) : DA K mg X ES (e :: es) (kJ F A) := PA.imp (yR ha hr hs) fun σ H Q q_ => q_.el fun ρ h ae w re p =>
 ⟨ρ, h, ae, w, re, p.bind.imp fun d h1 ρ1 H1 l1 w1 p1 x rx => ⟨ρ1, h1, ae, w1, re.mono l1, p1.bind.imp fun ds h2 ρ2 H2 l2 w2 p2 vs rs => p2 ρ2 H2 Le.refl w2 _ (.cons (rx.mono l2) rs)⟩⟩
theorem AM {x1} (h : DA K mg X ES es A) : DE K mg X ES (.Tuple es x1 pos) (eFn jB A) := PE.imp (zi h) fun σ H Q q_ => q_.el fun ρ h ae w re p =>
 ⟨ρ,
   h, ae, w, re, p.bind.imp fun ds h1 ρ1 H1 l1 w1 p1 vs rs => by
  unfold jB at p1
  split at p1
  ·rename_i hl
   exact ⟨by rw [<- rs.len]; exact hl, fun q hq => jY w1 rs hq p1⟩
  ·exact p1.elim⟩
theorem zt (h : DA K mg X ES es A) : DE K mg X ES (.List es pos) (eFn dz A) := PE.imp (Ad h) fun σ H Q q_ => q_.el fun ρ h ae w re p =>
 ⟨ρ,
   h, ae, w, re, p.bind.imp fun ds h1 ρ1 H1 l1 w1 p1 vs rs => by
  unfold dz at p1
  split at p1
  ·rename_i hl
   exact ⟨by rw [<- rs.len]; exact hl, fun q hq => fT w1 rs hq p1⟩
  ·exact p1.elim⟩
theorem wK {r : List V -> Hp -> VK -> Prop} {g : Fn} (hd : bI K mg r g) (σ : St) (H : Hp) (Q : VK) (q : rdE K mg ES (eFn g A) σ H Q) : tCB r (rdA K mg ES A) σ H Q := by
 obtain ⟨ρ, h, ae, w, re, p⟩ := q
 exact ⟨ρ, h, ae, w, re, p.bind.imp fun ds h1 ρ1 H1 l1 w1 p1 vs rs => hd ρ1 h1 H1 ds vs Q _ w1 rs p1⟩
theorem v5 {id : String} {r : List V -> Hp -> VK -> Prop} {g : Fn} {x : Str} {p : Pos} (hc : CallR X (.builtin id) r) (hd : bI K mg r g) (hg : Gl X x) (hm : mg x = none) (hv : bootBuiltins x = some (.builtin id)) (ha : DA K mg X ES (e :: es) A) (hk : X.mg = mg := by rfl) (hn : x ≠ "__name__" := by decide) (hdb : (x == ("__debug__" : Str)) = false := by decide)
  (he : starEach (e :: es) X.env = (false, eval e X.env) :: starEach es X.env := by rfl) (hpl : (backTo pos (starEach es X.env)).any (·.1) = false := by rfl) : DE K mg X ES (.Call (.Name x p) (e :: es) [] pos) (eFn g A) := by
 subst hk
 exact PE.imp (uF hc hg hm hv ha hn hdb he hpl) (wK hd)
theorem tE {T : String} {r : List V -> Hp -> VK -> Prop} {g : Fn} {x : Str} {p : Pos} (hc : CallR X (.type T) r) (hd : bI K mg r g) (hg : Gl X x) (hm : mg x = none) (hv : bootBuiltins x = some (.type T)) (ha : DA K mg X ES (e :: es) A) (hk : X.mg = mg := by rfl) (hn : x ≠ "__name__" := by decide) (hdb : (x == ("__debug__" : Str)) = false := by decide)
  (he : starEach (e :: es) X.env = (false, eval e X.env) :: starEach es X.env := by rfl) (hpl : (backTo pos (starEach es X.env)).any (·.1) = false := by rfl) : DE K mg X ES (.Call (.Name x p) (e :: es) [] pos) (eFn g A) := by
 subst hk
 exact PE.imp (sC hc hg hm hv ha hn hdb he hpl) (wK hd)
end
end L2
set_option Elab.async false
set_option linter.all false
set_option maxRecDepth 100000
namespace L2
open PySem PySem.Spec PyProof.Rows
noncomputable def SR.then (r : SR) (f : AE -> AH -> SR) : SR := match r with
 | .nx ae h => f ae h
 | .rt d h => .rt d h
 | .bk ae h => .bk ae h
 | .ct ae h => .ct ae h
 | .exc c ae h => .exc c ae h
 | .stuck => .stuck
noncomputable def R.toS {α : Type} (r : R α) (ae : AE) (f : α -> AH -> SR) : SR := match r with
 | .ok a h => f a h
 | .exc c h => .exc c ae h
 | .stuck => .stuck
noncomputable def sNx : MS := fun ae h => .nx ae h
noncomputable def uL (F G : MS) : MS := fun ae h => (F ae h).then G
noncomputable def uq (F : ME) : MS := fun ae h => (F ae h).toS ae fun d h1 => .rt d h1
noncomputable def rD (F : ME) : MS := fun ae h => (F ae h).toS ae fun _ h1 => .nx ae h1
noncomputable def sIf (c : MT) (F G : MS) : MS := fun ae h => (c ae h).toS ae fun b h1 => if b = true then F ae h1 else G ae h1
abbrev MG := D -> AE -> AH -> R AE
abbrev MGs := List D -> AE -> AH -> R AE
noncomputable def gu (F : ME) (g : MG) : MS := fun ae h => (F ae h).toS ae fun d h1 => (g d ae h1).toS ae fun ae' h2 => .nx ae' h2
noncomputable def gN (i : Nat) : MG := fun d ae h => .ok (ae.set i (some d)) h
noncomputable def gsN : MGs := fun ds ae h => match ds with
 | [] => .ok ae h
 | _ => .stuck
noncomputable def gsC (g : MG) (u : MGs) : MGs := fun ds ae h => match ds with
 | d :: r => (g d ae h).bind fun ae' h' => u r ae' h'
 | [] => .stuck
noncomputable def gT (u : MGs) : MG := fun d ae h => match d with
 | .tup ds => u ds ae h
 | _ => .stuck
noncomputable def gS (F G : ME) (w : D -> D -> D -> AH -> R Unit) : MG := fun v ae h => (F ae h).bind fun o h1 => (G ae h1).bind fun i h2 => (w o i v h2).bind fun _ h3 => .ok ae h3
noncomputable def vX (i j : Nat) (A : MA) : MS := fun ae h => (A ae h).toS ae fun ds h1 => match ds with
 | [d, e] => .nx ((ae.set i (some d)).set j (some e)) h1
 | _ => .stuck
noncomputable def oE (c : Str) (A : MA) : MS := fun ae h => (A ae h).toS ae fun ds h1 => if ds.length <= 16777216 then .exc c ae h1 else .stuck
section
variable (K : PySem.W.Frag) (mg : Str -> Option Value)
noncomputable def rdG (ES : St -> XK) (g : MG) : TG := fun v σ H Q => ∃ ρ h ae d, Wd K mg ρ h H /\ RelE K mg ρ H ae σ /\ RelD K mg ρ H d v /\ PostG K mg ρ H (ES σ) (fun ae' _ ρ' H' => ∀ σ', RelE K mg ρ' H' ae' σ' -> Q σ' H') (g d ae h)
noncomputable def rdGs (ES : St -> XK) (g : MGs) : TGs := fun vs σ H Q => ∃ ρ h ae ds, Wd K mg ρ h H /\ RelE K mg ρ H ae σ /\ RelDs K mg ρ H ds vs /\ PostG K mg ρ H (ES σ) (fun ae' _ ρ' H' => ∀ σ', RelE K mg ρ' H' ae' σ' -> Q σ' H') (g ds ae h)
noncomputable def DG (X : Cx) (ES : St -> XK) (e : Expr) (g : MG) : Prop := PG X e (rdG K mg ES g)
noncomputable def DGs (X : Cx) (ES : St -> XK) (es : List Expr) (g : MGs) : Prop := PGs X es (rdGs K mg ES g)
noncomputable def kg (X : Cx) (ES : St -> XK) : Prop := ∀ (pins : List (Addr × Obj)) (σ : St) (H : Hp) (s : Shared) (e : Value) (s' : Shared), Inv X pins σ H s -> CX1 X.prog X.w X.stack H s (ES σ) e s' -> X.xe e s'
end
theorem rdG.el {K : PySem.W.Frag} {mg : Str -> Option Value} {ES : St -> XK} {g : MG} {v : V} {σ : St} {H : Hp} {Q : St -> Hp -> Prop} {C : Prop} (q : rdG K mg ES g v σ H Q) (k : ∀ ρ h ae d, Wd K mg ρ h H -> RelE K mg ρ H ae σ -> RelD K mg ρ H d v -> PostG K mg ρ H (ES σ) (fun ae' _ ρ' H' => ∀ σ', RelE K mg ρ' H' ae' σ' -> Q σ' H') (g d ae h) -> C) : C := by
 obtain ⟨ρ, h, ae, d, w, re, rd, p⟩ := q
 exact k ρ h ae d w re rd p
theorem rdGs.el {K : PySem.W.Frag} {mg : Str -> Option Value} {ES : St -> XK} {g : MGs} {v : List V} {σ : St} {H : Hp} {Q : St -> Hp -> Prop} {C : Prop} (q : rdGs K mg ES g v σ H Q) (k : ∀ ρ h ae d, Wd K mg ρ h H -> RelE K mg ρ H ae σ -> RelDs K mg ρ H d v -> PostG K mg ρ H (ES σ) (fun ae' _ ρ' H' => ∀ σ', RelE K mg ρ' H' ae' σ' -> Q σ' H') (g d ae h) -> C) : C := by
 obtain ⟨ρ, h, ae, d, w, re, rd, p⟩ := q
 exact k ρ h ae d w re rd p
section
variable {K : PySem.W.Frag} {mg : Str -> Option Value} {X : Cx} {ES : St -> XK} {ρ : List Addr} {H : Hp} {h : AH} {ae : AE} {σ : St} {De : Ends}
theorem cF {α : Type} {r : R α} {f : α -> AH -> SR} {k : α -> AH -> List Addr -> Hp -> Prop} (p : PostS K mg ρ H De ES (r.toS ae f)) (re : RelE K mg ρ H ae σ)
  (i : ∀ a h1 ρ1 H1, Le ρ H ρ1 H1 -> Wd K mg ρ1 h1 H1 -> RelE K mg ρ1 H1 ae σ -> PostS K mg ρ1 H1 De ES (f a h1) -> k a h1 ρ1 H1) : PostG K mg ρ H (ES σ) k r := by
 cases r with
 | ok a h1 => exact fun ρ1 H1 l1 w1 => i a h1 ρ1 H1 l1 w1 (re.mono l1) (PostS.mono l1 p)
 | exc c h1 => exact fun ρ1 H1 C l1 w1 m => p ρ1 H1 σ C l1 w1 (re.mono l1) m
 | stuck => exact p
theorem gb {ae' : AE} (p : PostS K mg ρ H De ES (.nx ae' h)) (w : Wd K mg ρ h H) (re : RelE K mg ρ H ae' σ) : De.nx σ H := p ρ H σ Le.refl w re
theorem wu {r : SR} {f : AE -> AH -> SR} {N : St -> Hp -> Prop} (p : PostS K mg ρ H De ES (r.then f)) (i : ∀ ae1 h1 ρ1 H1 σ1, Le ρ H ρ1 H1 -> Wd K mg ρ1 h1 H1 -> RelE K mg ρ1 H1 ae1 σ1 -> PostS K mg ρ1 H1 De ES (f ae1 h1) -> N σ1 H1) : PostS K mg ρ H { De with nx := N } ES r := by
 cases r with
 | nx ae1 h1 => exact fun ρ1 H1 σ1 l1 w1 re1 => i ae1 h1 ρ1 H1 σ1 l1 w1 re1 (PostS.mono l1 p)
 | rt d h1 => exact p
 | bk ae1 h1 => exact p
 | ct ae1 h1 => exact p
 | exc c ae1 h1 => exact p
 | stuck => exact p
end
section
variable {K : PySem.W.Frag} {mg : Str -> Option Value} {X : Cx} {ES : St -> XK} {e a b c o i : Expr} {es : List Expr} {st : Stmt} {sts sts' : List Stmt} {F G : ME} {A : MA} {cf : MT} {U V' : MS} {g : MG} {gs : MGs} {pos : Pos}
theorem ym : DSs K mg X ES [] sNx := PSs.imp yc fun D σ H q_ => q_.el fun ρ h ae w re p => gb p w re
theorem y9 (h1 : DS K mg X ES st U) : DSs K mg X ES [st] U := y7 h1
theorem uA (h1 : DS K mg X ES st U) (h2 : DSs K mg X ES sts V') : DSs K mg X ES (st :: sts) (uL U V') := PSs.imp (wg h1 h2) fun D σ H q_ => q_.el fun ρ h ae w re p =>
 ⟨ρ, h, ae, w, re, wu p fun ae1 h1 ρ1 H1 σ1 l1 w1 re1 p1 => ⟨ρ1, h1, ae1, w1, re1, p1⟩⟩
theorem Ai (he : DE K mg X ES e F) : DS K mg X ES (.Return (some e) pos) (uq F) := PS.imp (BY he) fun D σ H q_ => q_.el fun ρ h ae w re p =>
 ⟨ρ, h, ae, w, re, cF p re fun d h1 ρ1 H1 l1 w1 re1 p1 v rv => p1 ρ1 H1 v Le.refl w1 rv⟩
theorem yX (he : DE K mg X ES e F) (hs : swapsWith e none pos.line X.env = pure false := by rfl) : DS K mg X ES (.Expr e pos) (rD F) := PS.imp (x8 he hs) fun D σ H q_ => q_.el fun ρ h ae w re p =>
 ⟨ρ, h, ae, w, re, cF p re fun d h1 ρ1 H1 l1 w1 re1 p1 v rv => gb p1 w1 re1⟩
theorem DJ (hc : DT K mg X ES c cf) (ha : DSs K mg X ES sts U) (hb : DSs K mg X ES sts' V') : DS K mg X ES (.If c sts sts' pos) (sIf cf U V') := PS.imp (DK hc ha hb) fun D σ H q_ => q_.el fun ρ h ae w re p =>
 ⟨ρ, h, ae, w, re, cF p re fun b h1 ρ1 H1 l1 w1 re1 p1 => by
  cases b with
  | true => exact ⟨ρ1, h1, ae, w1, re1, p1⟩
  | false => exact ⟨ρ1, h1, ae, w1, re1, p1⟩⟩
theorem yn {i : Nat} {x : Str} (hN : X.N.Nodup) (hi : X.N[i]? = some x) (hx : Loc X.env.scope x) (hf : X.fn x = true \/ X.env.scope.names.lookup x = some .local := by first | exact .inl rfl | exact .inr rfl | assumption) : DG K mg X ES (.Name x pos) (gN i) :=
 PG.imp (xO hN hi hx hf) fun v σ H Q q_ => q_.el fun ρ h ae d w re rd p => p ρ H Le.refl w _ (re.set i rd)
theorem xB : DGs K mg X ES [] gsN := PGs.imp xK fun vs σ H Q q_ => q_.el fun ρ h ae ds w re rd p => by
 cases rd with
 | nil => exact ⟨rfl, p ρ H Le.refl w _ re⟩
 | cons r rr => exact p.elim
theorem vJ (h1 : DG K mg X (fun _ => E0) e g) (h2 : DGs K mg X (fun _ => E0) es gs)
  (hs : (assignEach (e :: es) X.env).map (·.2) = assign e X.env :: (assignEach es X.env).map (·.2) := by rfl) : DGs K mg X (fun _ => E0) (e :: es) (gsC g gs) := PGs.imp (v3 h1 h2 hs) fun vs σ H Q q_ => q_.el fun ρ h ae ds w re rd p => by
 cases rd with
 | nil => exact p.elim
 | cons r rr => exact ⟨_, _, rfl, ρ, h, ae, _, w, re, r, p.bind.imp fun ae1 h1 ρ1 H1 l1 w1 p1 σ1 re1 => ⟨ρ1, h1, ae1, _, w1, re1, rr.mono l1, p1⟩⟩
theorem Cw {k n : Nat} (hK : X.K = K) (hc : X.calm = true) (h : DGs K mg X (fun _ => E0) es gs)
  (hn : (assignEach es X.env).length = n := by rfl) (hst : (assignEach es X.env).findIdx? (·.1) = none := by rfl) : DG K mg X (fun _ => E0) (.Tuple es k pos) (gT fun ds ae h => if ds.length = n then gs ds ae h else .stuck) := by
 subst hK
 refine PG.imp (B4 hc h hn hst) fun v σ H Q q_ => q_.el fun ρ h ae d w re rd p => ?_
 unfold gT at p
 cases rd with
 |
  tup q rs =>
  dsimp only at p
  split at p
  ·rename_i hl
   exact ⟨_, _, rfl, q, by rw [<- rs.len]; exact hl, ρ, h, ae, _, w, re, rs, p⟩
  ·exact p.elim
 | _ => exact p.elim
noncomputable def noX {α : Type} (r : R α) : R α := match r with
 | .exc _ _ => .stuck
 | .ok a h => .ok a h
 | .stuck => .stuck
theorem DG.weak (hg : DG K mg X (fun _ => E0) e g) : DG K mg X ES e (fun d ae h => noX (g d ae h)) := PG.imp hg fun v σ H Q q_ => q_.el fun ρ h ae d w re rd p => by
 refine ⟨ρ, h, ae, d, w, re, rd, ?_⟩
 try dsimp only at p
 cases q : g d ae h with
 | ok a h1 => rw [q] at p; exact p
 | exc c h1 => rw [q] at p; exact p.elim
 | stuck => rw [q] at p; exact p.elim
noncomputable def rk (K : PySem.W.Frag) (mg : Str -> Option Value) (r : lR) (f : D -> D -> D -> AH -> R Unit) : Prop := ∀ ρ h H do_ di dv o i v (Q : Hp -> Prop) E, Wd K mg ρ h H -> RelD K mg ρ H do_ o -> RelD K mg ρ H di i -> RelD K mg ρ H dv v -> PostG K mg ρ H E (fun _ _ _ H' => Q H') (f do_ di dv h) -> r o i v H Q
theorem oK (he : DE K mg X ES e F) (hg : DG K mg X ES a g) (hs : swapsWithSole [a] e pos.line X.env = pure false := by rfl) (hw : swappedStores [a] e X.env = pure none := by rfl)
  (h1 : (assignEach [a] X.env).map (·.2) = [assign a X.env] := by rfl) : DS K mg X ES (.Assign [a] e pos) (gu F g) := PS.imp (Ae he hg hs hw h1) fun D σ H q_ => q_.el fun ρ h ae w re p =>
 ⟨ρ, h, ae, w, re, cF p re fun d h1 ρ1 H1 l1 w1 re1 p1 v rv => ⟨ρ1, h1, ae, d, w1, re1, rv, cF p1 re1 fun ae2 h2 ρ2 H2 l2 w2 re2 p2 σ' re' => gb p2 w2 re'⟩⟩
theorem zo {i : Nat} {x : Str} {pos' : Pos} (hN : X.N.Nodup) (hi : X.N[i]? = some x) (hx : Loc X.env.scope x) (he : DE K mg X ES e F) (hs : swapsWith e (some (.Name x pos')) pos.line X.env = pure false := by rfl) (hf : X.fn x = true \/ X.env.scope.names.lookup x = some .local := by first | exact .inl rfl | exact .inr rfl | assumption) :
  DS K mg X ES (.Assign [.Name x pos'] e pos) (gu F (gN i)) := PS.imp (Bp hN hi hx he hs hf) fun D σ H q_ => q_.el fun ρ h ae w re p =>
 ⟨ρ, h, ae, w, re, cF p re fun d h1 ρ1 H1 l1 w1 re1 p1 v rv => gb p1 w1 (re1.set i rv)⟩
theorem
    Cg {i j : Nat} {x y : Str} {px py pt : Pos} {kt k2 pt2} (hc : X.calm = true) (hN : X.N.Nodup) (hi : X.N[i]? = some x) (hj : X.N[j]? = some y) (hij : i ≠ j)
  (hx : X.env.scope.names.lookup x = some .local) (hy : X.env.scope.names.lookup y = some .local) (ha : DA K mg X ES [a, b] A)
  (hw : swappedStores [.Tuple [.Name x px, .Name y py] kt pt] (.Tuple [a, b] k2 pt2) X.env = pure (some [x, y]))
  (hs : swapsWithSole [.Tuple [.Name x px, .Name y py] kt pt] (.Tuple [a, b] k2 pt2) pos.line X.env = pure false := by rfl) :
  DS K mg X ES (.Assign [.Tuple [.Name x px, .Name y py] kt pt] (.Tuple [a, b] k2 pt2) pos) (vX i j A) := PS.imp (BO hc hN hi hj hij hx hy ha hw hs) fun D σ H q_ => q_.el fun ρ h ae w re p =>
 ⟨ρ, h, ae, w, re, cF p re fun ds h1 ρ1 H1 l1 w1 re1 p1 vs rs => by
  split at p1
  ·cases rs with
   |
    cons r1 rs =>
    cases rs with
    |
     cons r2 rs =>
     cases rs
     exact ⟨_, _, rfl, gb p1 w1 ((re1.set i r1).set j r2)⟩
  ·exact p1.elim⟩
theorem
    vj {x : Str} {C : Addr} {E : XK} {np cpos : Pos} (hc : X.calm = true) (hR : Rz X E) (hg : Gl X x) (hm : mg x = some (.ref C)) (hq : PySem.W.excIn X.K C eL "ValueError.__new__" = true) (ha : DA K mg X (fun _ => E) (e :: es) A) (hk : X.mg = mg := by rfl)
  (he : starEach (e :: es) X.env = (false, eval e X.env) :: starEach es X.env := by rfl) (hplain : (backTo cpos (starEach es X.env)).any (·.1) = false := by rfl) (hd : (x == ("__debug__" : Str)) = false := by decide) :
  DS K mg X (fun _ => E) (.Raise (some (.Call (.Name x np) (e :: es) [] cpos)) none pos) (oE x A) := by
 subst hk
 exact
    PS.imp (uS hc hR hg hm hq ha he hplain hd) fun D σ H q_ => q_.el fun ρ h ae w re p =>
  ⟨ρ,
    h, ae, w, re, cF p re fun ds h1 ρ1 H1 l1 w1 re1 p1 vs rs => by
   split at p1
   ·rename_i hl
    exact ⟨by rw [<- rs.len]; exact hl, p1 ρ1 H1 σ C Le.refl w1 re1 hm⟩
   ·exact p1.elim⟩
theorem yh {x : Str} {p : Pos} {k n : Nat} {ps : List Str} {S : Fn} (C : Callee X.prog X.w X.K X.mg X.base x k ps (spD K mg n S)) (hr : Room k X.A) (hg : Gl X x) (hx : kg X ES) (ha : DA K mg X ES (e :: es) A)
  (hdb : (x == ("__debug__" : Str)) = false := by decide) (he : starEach (e :: es) X.env = (false, eval e X.env) :: starEach es X.env := by rfl) (hpl : (backTo pos (starEach es X.env)).any (·.1) = false := by rfl) :
  DE K mg X ES (.Call (.Name x p) (e :: es) [] pos) (eFn (fun ds h => if ds.length = n then S ds h else .stuck) A) := by
 obtain ⟨f, fd, F', m, kp, bb, _⟩ := C.ex
 intro pins s σ H Q I hh
 refine wpAny_Call_Name_kw (lI I hg m ?_ hdb)
 have rd : rdA K mg ES A σ H (fun vs H1 => spD K mg n S vs H1 Q (ES σ)) := by
  obtain ⟨ρ, h, ae, w, re, p⟩ := hh
  refine ⟨ρ, h, ae, w, re, p.bind.imp fun ds h1 ρ1 H1 l1 w1 p1 vs rs => ?_⟩
  split at p1
  ·rename_i hl
   exact ⟨ρ1, h1, ds, w1, rs, hl, p1⟩
  ·exact p1.elim
 refine PySem.W.callWith_K (h₀ := X.base) I.ok.mod.kin kp (wpAny_mono (ha pos pins s σ H _ I rd) (fun us s1 ⟨vs, H1, I1, r, q⟩ => ⟨I1.kIn, ?_⟩) fun _ _ z => z) he hpl
 have hl : (us ++ []).length = ps.length := by rw [List.append_nil, <- r.length]; exact F'.len _ _ _ _ q
 refine wpAny_call (codeAny_mono (F'.run X.A X.stack s1 H1 ⟨us, []⟩ us vs Q (ES σ) hr I1.env0 (by simpa using bb s1 us I1.kIn hl) r q) fun r s' hq => ?_)
 cases r with
 | error ex => exact hx pins σ H1 s1 ex s' I1 hq
 |
  ok fl =>
  cases fl with
  | ret u => exact I1.after hq
  | next => exact False.elim hq
  | brk => exact False.elim hq
  | cont => exact False.elim hq
noncomputable def fnD (n : Nat) (F : MS) : Fn := fun ds h => match F (ds.map some ++ List.replicate (n - ds.length) none) h with
 | .nx _ h' => .ok .non h'
 | .rt d h' => .ok d h'
 | .exc c _ h' => .exc c h'
 | _ => .stuck
theorem ak {E : XK} (hp : oF (CX1 X.prog X.w) X E) : kg X (fun _ => E) := fun pins σ H s e s' I h => hp pins σ H s e s' I h
theorem fZ : kg X (fun _ => E0) := fun pins σ H s e s' I h => CO pins σ H s e s' I h
end
section
variable {P : Program} {w : World} {K : PySem.W.Frag} {mg : Str -> Option Value} {base : Heap} {x : Str} {st : Stmt} {k : Nat} {ps N : List Str} {F : MS}
theorem se {ρ : List Addr} {H : Hp} {ds : List D} {vs : List V} (rs : RelDs K mg ρ H ds vs) : RelE K mg ρ H (ds.map some ++ List.replicate (N.length - ds.length) none) (en N vs) := by
 unfold en
 refine ⟨by rw [List.length_append, List.length_append, List.length_map, List.length_map, List.length_replicate, List.length_replicate, rs.len], fun i d e => ?_⟩
 by_cases hi : i < ds.length
 ·rw [List.getElem?_append_left (by rw [List.length_map]; exact hi), List.getElem?_map] at e
  have e' : ds[i]? = some d := by
   cases q : ds[i]? with
   | none => rw [q] at e; cases e
   | some z => rw [q] at e; cases e; rfl
  obtain ⟨v, h1, h2⟩ := rs.getD e'
  refine ⟨v, ?_, h2⟩
  rw [List.getElem?_append_left (by rw [List.length_map, <- rs.len]; exact hi), List.getElem?_map, h1]; rfl
 ·rw [List.getElem?_append_right (by rw [List.length_map]; omega), List.getElem?_replicate] at e
  split at e <;> cases e
theorem Def.okD (D : Def K mg x st) (S : FnScope N ps (aA st))
  (hb : ∀ (kV doc pm : Value) (an : Option Addr) (cdv ct : Value) (us : List Value), us.length = ps.length -> bindArgs (PySem.W.fnOf x x (dN st) (cA st) (aA st) .none kV doc pm an cdv ct) ⟨us, []⟩ = pure (ps.zip us))
  (hbody : ∀ (f : Addr) (cdv : Value) (A : Around) (outer : List Env) (s : Shared) (H : Hp) (E : XK), Room k (A.deeper (envOfC x (aA st) s.heap.objs.size f cdv)) ->
   DSs K mg (dY (CX1 P w) P w K mg base N x (aA st) f cdv A outer s H E) (fun _ => E) (cA st) F) : Callee P w K mg base x (k + 1) ps (spD K mg ps.length (fnD N.length F)) := by
 refine D.okR S hb (fun vs H Q E ⟨ρ, h, ds, w, rs, hl, p⟩ => by rw [<- rs.len]; exact hl) fun f cdv A outer s H vs Q E hr ⟨ρ, h, ds, w', rs, hl, p⟩ => ?_
 refine ⟨_, hbody f cdv A outer s H E hr, ρ, h, _, w', se rs, ?_⟩
 unfold fnD at p
 split at p
 ·rename_i e; rw [e]; exact fun ρ1 H1 σ1 l1 w1 re1 => p ρ1 H1 l1 w1 _ .non
 ·rename_i e; rw [e]; exact fun ρ1 H1 v l1 w1 rv => p ρ1 H1 l1 w1 v rv
 ·rename_i e; rw [e]; exact fun ρ1 H1 σ1 C l1 w1 re1 m => p ρ1 H1 C l1 w1 m
 ·exact p.elim
end
end L2
set_option Elab.async false
set_option linter.all false
set_option maxRecDepth 100000
namespace L2
open PySem PySem.Spec PyProof.Rows
noncomputable def bG (h : AH) (n : Nat) : Option (List D) := match h[n]? with
 | some (.lst xs) => some xs
 | some (.fz xs) => some xs
 | _ => none
noncomputable def dH (h : AH) : D -> Option (List D)
 | .tup xs => some xs
 | .ref n => bG h n
 | .kl xs => some xs
 | _ => none
section
variable {K : PySem.W.Frag} {mg : Str -> Option Value} {ρ : List Addr} {H : Hp} {h : AH}
theorem cI (w : Wd K mg ρ h H) {n : Nat} {a : Addr} {xs : List D} (ea : ρ[n]? = some a) (e : bG h n = some xs) : ∃ vs, SqL K H a vs /\ RelDs K mg ρ H xs vs := by
 unfold bG at e
 split at e
 ·rename_i ys eo
  cases e
  obtain ⟨vs, h1, h2⟩ := w.ob n a _ ea eo
  exact ⟨vs, SqL.of h1, h2⟩
 ·rename_i ys eo
  cases e
  obtain ⟨o, vs, h1, h2⟩ := w.ob n a _ ea eo
  exact ⟨vs, .inl (.inr ⟨o, h1⟩), h2⟩
 ·cases e
theorem eV (w : Wd K mg ρ h H) {d : D} {v : V} {xs : List D} (r : RelD K mg ρ H d v) (e : dH h d = some xs) : ∃ p vs, v = .ref p /\ (SqL K H p vs \/ SqT K H p vs) /\ RelDs K mg ρ H xs vs := by
 cases r with
 |
  tup q rs =>
  have e' : some _ = some xs := e
  cases e'
  exact ⟨_, _, rfl, .inr q, rs⟩
 |
  ref ea =>
  obtain ⟨vs, h1, h2⟩ := cI w ea e
  exact ⟨_, vs, rfl, .inl h1, h2⟩
 |
  kl q rs =>
  have e' : some _ = some xs := e
  cases e'
  exact ⟨_, _, rfl, .inl (.inr q), rs⟩
 | _ => cases e
end
noncomputable def g2 (f : Int -> Int -> R D) (x y : D) : R D := match x, y with
 | .int i, .int j => f i j
 | _, _ => .stuck
noncomputable def gI (f : Int -> Int -> D) : D -> D -> AH -> R D := fun x y h => match x, y with
 | .int i, .int j => .ok (f i j) h
 | _, _ => .stuck
open Classical in
noncomputable def gIc (C : Int -> Int -> Prop) (f : Int -> Int -> D) : D -> D -> AH -> R D := fun x y h => match x, y with
 | .int i, .int j => if C i j then .ok (f i j) h else .stuck
 | _, _ => .stuck
section
variable {K : PySem.W.Frag} {mg : Str -> Option Value} {X : Cx}
theorem gJ {f : Int -> Int -> V} {g : Int -> Int -> D} (hr : ∀ i j ρ H, RelD K mg ρ H (g i j) (f i j)) : OpD K mg (rI0 f) (gI g) := fun ρ h H dx dy x y Q E w rx ry p => by
 unfold gI at p
 split at p
 ·cases rx; cases ry; exact ⟨_, _, rfl, rfl, aK w (hr _ _ ρ H) p⟩
 ·exact p.elim
theorem mG {C : Int -> Int -> Prop} {f : Int -> Int -> V} {g : Int -> Int -> D} (hr : ∀ i j ρ H, RelD K mg ρ H (g i j) (f i j)) : OpD K mg (rI C f) (gIc C g) := fun ρ h H dx dy x y Q E w rx ry p => by
 unfold gIc at p
 split at p
 ·cases rx; cases ry
  split at p
  ·rename_i hc; exact ⟨_, _, rfl, rfl, hc, aK w (hr _ _ ρ H) p⟩
  ·exact p.elim
 ·exact p.elim
noncomputable def gOr (g g' : D -> D -> AH -> R D) : D -> D -> AH -> R D := fun x y h => match g x y h with
 | .stuck => g' x y h
 | r => r
theorem OpD.or {r r' : R2} {g g' : D -> D -> AH -> R D} (a : OpD K mg r g) (b : OpD K mg r' g') : OpD K mg (fun x y H Q => r x y H Q \/ r' x y H Q) (gOr g g') := fun ρ h H dx dy x y Q E w rx ry p => by
 unfold gOr at p
 split at p
 ·exact .inr (b ρ h H dx dy x y Q E w rx ry p)
 ·exact .inl (a ρ h H dx dy x y Q E w rx ry p)
end
noncomputable def j3 : D -> D -> AH -> R D := fun x y h => match x, y with
 | .ref n, .ref m => match h[n]?, h[m]? with
  | some (.lst xs), some (.lst ys) => if xs.length + ys.length <= 16777216 then .ok (.ref h.length) (h ++ [.lst (xs ++ ys)]) else .stuck
  | _, _ => .stuck
 | .tup xs, .tup ys => if xs.length + ys.length <= 16777216 then .ok (.tup (xs ++ ys)) h else .stuck
 | _, _ => .stuck
noncomputable def gIx : D -> D -> AH -> R D := fun x y h => match dH h x, y with
 | some xs, .int i => match atI xs i with
  | some d => .ok d h
  | none => .stuck
 | _, _ => .stuck
section
variable {K : PySem.W.Frag} {mg : Str -> Option Value} {X : Cx}
noncomputable def jz (K : PySem.W.Frag) : R2 := fun x y H Q => ∃ a b ys, x = .ref a /\ y = .ref b /\ SqT K H a [] /\ SqT K H b ys /\ Q (.ref b) H
theorem yS : OpR X (binaryOp .Add) (jz X.K) := by
 intro pins s σ H x y v u Q I rx ry h
 obtain ⟨a, b, ys, rfl, rfl, ha, hb, q⟩ := h
 cases rx
 cases ry
 obtain ⟨its, r1, p1, _⟩ := I.tuple ha
 obtain ⟨its2, r2, p2, _⟩ := I.tuple hb
 have e : its = [] := r1.nil_iff.mpr rfl
 subst e
 obtain ⟨⟨cls, dd, data, sl⟩, ho, hc, n, hd⟩ := id p1
 obtain ⟨⟨cls2, dd2, data2, sl2⟩, ho2, hc2, n2, hd2⟩ := id p2
 simp only at hc hd hc2 hd2
 subst hc hd hc2 hd2
 exact concat_meets ⟨_, ho, rfl⟩ ⟨_, ho2, rfl⟩ noFill_tuple_add seq_tuple_add PySem.F.slot_tuple_add PySem.F.entry_tuple_add (PySem.F.args_tuple_add_2 _ _)
  (tuple_addW0 _ _ _ _ n n2 dd dd2 sl sl2 rfl) ⟨ho, ho2, ⟨.ref b, H, I, rfl, q⟩⟩
theorem
    xP : OpD K mg (fun x y H Q => lV x y H Q \/ (jw K x y H Q \/ jz K x y H Q)) j3 := fun ρ h H dx dy x y Q E w rx ry p => by
 unfold j3 at p
 split at p
 ·cases
     rx with
  |
   ref ea =>
   cases ry with
   |
    ref eb =>
    split at p
    ·rename_i xs ys e1 e2
     split at p
     ·rename_i hl
      obtain ⟨vs, q1, r1⟩ := w.ob _ _ _ ea e1
      obtain ⟨ws, q2, r2⟩ := w.ob _ _ _ eb e2
      exact .inl ⟨_, _, vs, ws, rfl, rfl, q1, q2, by rw [<- r1.len, <- r2.len]; exact hl, fun p' hp => fT w (r1.append r2) hp p⟩
     ·exact p.elim
    ·exact p.elim
 ·cases
     rx with
  |
   tup q1 r1 =>
   cases ry with
   |
    tup q2 r2 =>
    split at p
    ·rename_i hl
     cases r1 with
     | nil => exact .inr (.inr ⟨_, _, _, rfl, rfl, q1, q2, aK w (.tup q2 r2) p⟩)
     |
      cons r0 r1 =>
      refine .inr (.inl ⟨_, _, _, _, rfl, rfl, q1, q2, (fun z => nomatch z), by rw [<- (RelDs.cons r0 r1).len, <- r2.len]; exact hl, fun z => ?_, fun _ p' hp => jY w ((RelDs.cons r0 r1).append r2) hp p⟩)
      subst z
      cases r2
      rw [List.append_nil] at p
      exact aK w (.tup q1 (.cons r0 r1)) p
    ·exact p.elim
 ·exact p.elim
theorem xq {ρ : List Addr} {H : Hp} {xs : List D} {vs : List V} (r : RelDs K mg ρ H xs vs) {i : Int} {d : D} (e : atI xs i = some d) : ∃ v, atI vs i = some v /\ RelD K mg ρ H d v := by
 unfold atI at e ⊢
 rw [<- r.len]
 cases q : ixN xs.length i with
 | none => rw [q] at e; cases e
 | some j => rw [q] at e; exact r.getD e
theorem BL : OpD K mg (fun x y H Q => qT K x y H Q \/ qy K x y H Q) gIx := fun ρ h H dx dy x y Q E w rx ry p => by
 unfold gIx at p
 split at p
 ·rename_i xs i e1
  split at p
  ·rename_i d e2
   cases ry
   obtain ⟨pa, vs, rfl, hq, rs⟩ := eV w rx e1
   obtain ⟨v, e3, rv⟩ := xq rs e2
   rcases hq with hq | hq
   ·exact .inl ⟨_, _, _, _, rfl, rfl, hq, e3, aK w rv p⟩
   ·exact .inr ⟨_, _, _, _, rfl, rfl, hq, e3, aK w rv p⟩
  ·exact p.elim
 ·exact p.elim
theorem ixK (h : X.K = K) : IxR X (fun x y H Q => qT K x y H Q \/ qy K x y H Q) := by subst h; exact yd.or Bf
theorem catK (h : X.K = K) : OpR X (binaryOp .Add) (fun x y H Q => lV x y H Q \/ (jw K x y H Q \/ jz K x y H Q)) := by subst h; exact B5.or (x9.or yS)
end
noncomputable def dP : Nat -> AH -> D -> Option PyData
 | 0, _, _ => none
 | _ + 1, _, .non => some .none
 | _ + 1, _, .bl b => some (.bool b)
 | _ + 1, _, .int i => some (.int i)
 | _ + 1, _, .str x => some (.str x)
 | k + 1, h, .tup xs => (xs.mapM (dP k h)).map .tuple
 | k + 1, h, .ref n => match bG h n with
  | some xs => (xs.mapM (dP k h)).map .list
  | none => none
 | _ + 1, _, _ => none
theorem
    me {K : PySem.W.Frag} {mg : Str -> Option Value} {ρ : List Addr} {H : Hp} {f : D -> Option PyData} (hf : ∀ d v pd, RelD K mg ρ H d v -> f d = some pd -> Rep K H v pd) : ∀ {xs : List D} {vs : List V} {ps : List PyData}, RelDs K mg ρ H xs vs -> xs.mapM f = some ps -> Reps K H vs ps := by
 intro xs
 induction xs with
 |
  nil =>
  intro vs ps r e
  cases r
  have e' : some [] = some _ := e
  cases e'; exact .nil
 |
  cons x xs ih =>
  intro vs ps r e
  cases r with
  |
   cons r rr =>
   rw [List.mapM_cons] at e
   cases q : f x with
   | none => rw [q] at e; cases e
   |
    some pd =>
    rw [q] at e
    cases q2 : xs.mapM f with
    | none => rw [q2] at e; cases e
    |
     some pds =>
     rw [q2] at e
     have e' : some (pd :: pds) = some ps := e
     cases e'
     exact .cons (hf _ _ _ r q) (ih rr q2)
theorem
    ij {K : PySem.W.Frag} {mg : Str -> Option Value} {ρ : List Addr} {H : Hp} {h : AH} (w : Wd K mg ρ h H) : ∀ (k : Nat) {d : D} {v : V} {pd : PyData}, RelD K mg ρ H d v -> dP k h d = some pd -> Rep K H v pd
 | 0, _, _, _, _, e => by cases e
 |
  k + 1, d, v, pd, r, e => by
  cases r with
  | non => have e' : some _ = some pd := e; cases e'; exact .non
  | bl b => have e' : some _ = some pd := e; cases e'; exact .bl b
  | int b => have e' : some _ = some pd := e; cases e'; exact .int b
  | str b => have e' : some _ = some pd := e; cases e'; exact .str b
  |
   tup q rs =>
   rename_i ds
   have e' : (ds.mapM (dP k h)).map PyData.tuple = some pd := e
   cases q2 : ds.mapM (dP k h) with
   | none => rw [q2] at e'; cases e'
   |
    some ps =>
    rw [q2] at e'
    cases e'
    exact .tup q (me (fun d v pd r e => ij w k r e) rs q2)
  |
   ref ea =>
   rename_i n a
   unfold dP at e
   split at e
   ·rename_i xs e1
    obtain ⟨vs, h1, h2⟩ := cI w ea e1
    cases q2 : xs.mapM (dP k h) with
    | none => rw [q2] at e; cases e
    |
     some ps =>
     rw [q2] at e
     cases e
     exact .lst h1 (me (fun d v pd r e => ij w k r e) h2 q2)
   ·cases e
  | _ => cases e
noncomputable def nu (h : AH) (x y : D) : Option Bool := match dP 64 h x, dP 64 h y with
 | some a, some b => if SeqAt.shaped a = true /\ SeqAt.shaped b = true then some (PyData.eqv a b) else none
 | _, _ => none
noncomputable def gEq (neg : Bool) : D -> D -> AH -> R D := fun x y h => match nu h x y with
 | some b => .ok (.bl (if neg then !b else b)) h
 | none => .stuck
section
variable {K : PySem.W.Frag} {mg : Str -> Option Value} {X : Cx}
theorem pG {ρ : List Addr} {H : Hp} {h : AH} {dx dy : D} {x y : V} {b : Bool} (w : Wd K mg ρ h H) (rx : RelD K mg ρ H dx x) (ry : RelD K mg ρ H dy y) (e : nu h dx dy = some b) :
  ∃ a c, Rep K H x a /\ Rep K H y c /\ SeqAt.shaped a = true /\ SeqAt.shaped c = true /\ PyData.eqv a c = b := by
 unfold nu at e
 split at e
 ·rename_i a c e1 e2
  split at e
  ·rename_i hs
   cases e
   exact ⟨a, c, ij w 64 rx e1, ij w 64 ry e2, hs.1, hs.2, rfl⟩
  ·cases e
 ·cases e
theorem Cv : OpD K mg (rF K) (gEq false) := fun ρ h H dx dy x y Q E w rx ry p => by
 unfold gEq at p
 split at p
 ·rename_i b e
  obtain ⟨a, c, h1, h2, h3, h4, rfl⟩ := pG w rx ry e
  exact ⟨a, c, h1, h2, h3, h4, aK w (.bl _) p⟩
 ·exact p.elim
theorem Cj : OpD K mg (rC K) (gEq true) := fun ρ h H dx dy x y Q E w rx ry p => by
 unfold gEq at p
 split at p
 ·rename_i b e
  obtain ⟨a, c, h1, h2, h3, h4, rfl⟩ := pG w rx ry e
  exact ⟨a, c, h1, h2, h3, h4, aK w (.bl _) p⟩
 ·exact p.elim
end
section
variable {K : PySem.W.Frag} {mg : Str -> Option Value} {X : Cx} {ρ : List Addr} {H : Hp}
noncomputable def jm (neg : Bool) : D -> D -> AH -> R D := fun x y h => match x, y with
 | .non, .non => .ok (.bl (!neg)) h
 | _, .non => .ok (.bl neg) h
 | _, _ => .stuck
theorem xV : OpD K mg (fun x y H Q => y = .non /\ Q (.bl (decide (x = .non))) H) (jm false) := fun ρ h H dx dy x y Q E w rx ry p => by
 unfold jm at p
 split at p
 ·cases rx; cases ry; exact ⟨rfl, aK w (.bl _) p⟩
 ·rename_i hne
  cases ry
  refine ⟨rfl, ?_⟩
  have e : decide (x = V.non) = false := by
   rw [decide_eq_false_iff_not]
   rintro rfl
   cases rx
   exact hne rfl
  rw [e]
  exact aK w (.bl _) p
 ·exact p.elim
theorem uY : OpD K mg (fun x y H Q => y = .non /\ Q (.bl (!decide (x = .non))) H) (jm true) := fun ρ h H dx dy x y Q E w rx ry p => by
 unfold jm at p
 split at p
 ·cases rx; cases ry; exact ⟨rfl, aK w (.bl _) p⟩
 ·rename_i hne
  cases ry
  refine ⟨rfl, ?_⟩
  have e : decide (x = V.non) = false := by
   rw [decide_eq_false_iff_not]
   rintro rfl
   cases rx
   exact hne rfl
  rw [e]
  exact aK w (.bl _) p
 ·exact p.elim
end
end L2
set_option Elab.async false
set_option linter.all false
set_option maxRecDepth 100000
namespace L2
open PySem PySem.Spec PyProof.Rows
inductive AIt where
 | lst (n : Nat) (xs : List D) | tup (xs : List D) | rng (lo : Int) (k : Nat) | enm (s : AIt) | zip (s t : AIt)
noncomputable def fA : Nat -> List D -> List D
 | _, [] => []
 | i, d :: ds => .tup [.int (i : Nat), d] :: fA (i + 1) ds
noncomputable def AIt.items : AIt -> List D
 | .lst _ xs => xs
 | .tup xs => xs
 | .rng lo k => (List.range k).map fun i => D.int (lo + (i : Nat))
 | .enm s => fA 0 s.items
 | .zip s t => List.zipWith (fun x y => .tup [x, y]) s.items t.items
noncomputable def AIt.guard : AIt -> AH -> Prop
 | .lst n xs, h => bG h n = some xs
 | .enm s, h => s.guard h
 | .zip s t, h => s.guard h /\ t.guard h
 | _, _ => True
noncomputable def SrcR (K : PySem.W.Frag) (mg : Str -> Option Value) (ρ : List Addr) (H : Hp) : AIt -> Bool -> Addr -> Prop
 | .lst n _, true, a => ρ[n]? = some a
 | .tup xs, false, p => ∃ vs, SqT K H p vs /\ RelDs K mg ρ H xs vs
 | _, _, _ => False
noncomputable def ItR (K : PySem.W.Frag) (mg : Str -> Option Value) (ρ : List Addr) (H : Hp) : AIt -> It -> Prop
 | .lst n _, J => ∃ a, ρ[n]? = some a /\ J = Itl K a
 | .tup xs, J => ∃ p vs, SqT K H p vs /\ RelDs K mg ρ H xs vs /\ J = Itt K p
 | .rng lo k, J => J = Itr lo k
 | .enm s, J => ∃ b a, SrcR K mg ρ H s b a /\ J = vF K b a
 | .zip s t, J => ∃ b c a d, SrcR K mg ρ H s b a /\ SrcR K mg ρ H t c d /\ J = ItZ K b c a d
theorem nJ : ∀ {ds : List D} {k i : Nat} {e : D}, (fA k ds)[i]? = some e -> ∃ d, ds[i]? = some d /\ e = .tup [.int ((k + i : Nat) : Int), d]
 | [], _, _, _, q => by simp [fA] at q
 | d :: ds, k, 0, e, q => ⟨d, rfl, by simpa [fA] using q.symm⟩
 |
  d :: ds, k, i + 1, e, q => by
  obtain ⟨d', q1, q2⟩ := nJ (ds := ds) (k := k + 1) (i := i) (e := e) (by simpa [fA] using q)
  refine ⟨d', by simpa using q1, ?_⟩
  rw [q2]
  congr 4
  omega
theorem n6 : ∀ (ds : List D) (k : Nat), (fA k ds).length = ds.length
 | [], _ => rfl
 | _ :: ds, k => by show (fA (k + 1) ds).length + 1 = ds.length + 1; rw [n6 ds]
section
variable {K : PySem.W.Frag} {mg : Str -> Option Value} {ρ ρ1 : List Addr} {H H1 : Hp} {h h1 : AH}
theorem SrcR.at_ {s : AIt} {b : Bool} {a : Addr} (r : SrcR K mg ρ H s b a) (l : Le ρ H ρ1 H1) (w : Wd K mg ρ1 h1 H1) (g : s.guard h1) : ∃ vs, SqB K b H1 a vs /\ RelDs K mg ρ1 H1 s.items vs := by
 cases s with
 |
  lst n xs =>
  cases b with
  | true => exact cI w (l.pre _ _ r) g
  | false => exact r.elim
 |
  tup xs =>
  cases b with
  | true => exact r.elim
  | false => obtain ⟨vs, q, rs⟩ := r; exact ⟨vs, l.sqT q, rs.mono l⟩
 | rng _ _ => cases b <;> exact r.elim
 | enm _ => cases b <;> exact r.elim
 | zip _ _ => cases b <;> exact r.elim
theorem
    ItR.step {it : AIt} {J : It} (hJ : ItR K mg ρ H it J) (l : Le ρ H ρ1 H1) (w : Wd K mg ρ1 h1 H1) (g : it.guard h1) :
  (∀ (i : Nat) (d : D), it.items[i]? = some d -> J.go i H1 /\ ∀ x H', J.yld i H1 x H' -> Le ρ1 H1 ρ1 H' /\ Wd K mg ρ1 h1 H' /\ RelD K mg ρ1 H' d x) /\ J.stop it.items.length H1 := by
 cases it with
 |
  lst n xs =>
  obtain ⟨a, ea, rfl⟩ := hJ
  obtain ⟨vs, q, rs⟩ := cI w (l.pre _ _ ea) g
  refine ⟨fun i d e => ?_, vs, q, by rw [<- rs.len]; exact Nat.le_refl _⟩
  obtain ⟨v, ev, rv⟩ := rs.getD e
  refine ⟨⟨vs, v, q, ev⟩, fun x H' ⟨e1, y⟩ => ?_⟩
  subst e1
  have := (y vs q).symm.trans ev
  cases this
  exact ⟨Le.refl, w, rv⟩
 |
  tup xs =>
  obtain ⟨p, vs, q, rs, rfl⟩ := hJ
  have q1 := l.sqT q
  have rs1 := rs.mono l
  refine ⟨fun i d e => ?_, vs, q1, by rw [<- rs1.len]; exact Nat.le_refl _⟩
  obtain ⟨v, ev, rv⟩ := rs1.getD e
  refine ⟨⟨vs, v, q1, ev⟩, fun x H' ⟨e1, y⟩ => ?_⟩
  subst e1
  have := (y vs q1).symm.trans ev
  cases this
  exact ⟨Le.refl, w, rv⟩
 |
  rng lo k =>
  cases hJ
  refine ⟨fun i d e => ?_, ?_⟩
  ·have e' : ((List.range k).map fun i => D.int (lo + (i : Nat)))[i]? = some d := e
   rw [List.getElem?_map] at e'
   cases q : (List.range k)[i]? with
   | none => rw [q] at e'; cases e'
   |
    some j =>
    rw [q] at e'
    have hj := List.getElem?_eq_some_iff.mp q
    have e2 := hj.2
    rw [List.getElem_range] at e2
    subst e2
    cases e'
    refine ⟨show i < k by simpa using hj.1, fun x H' ⟨e1, e2⟩ => ?_⟩
    subst e1 e2
    exact ⟨Le.refl, w, .int _⟩
  ·show k <= ((List.range k).map fun i => D.int (lo + (i : Nat))).length
   simp
 |
  enm s =>
  obtain ⟨b, a, r, rfl⟩ := hJ
  obtain ⟨vs, q, rs⟩ := r.at_ l w g
  refine ⟨fun i d e => ?_, vs, q, by show vs.length = (fA 0 s.items).length; rw [n6, rs.len]⟩
  obtain ⟨d', q1, rfl⟩ := nJ (show (fA 0 s.items)[i]? = some d from e)
  obtain ⟨v, ev, rv⟩ := rs.getD q1
  refine ⟨⟨vs, v, q, ev⟩, fun x H' ⟨p, u, e1, hp, e2, hu⟩ => ?_⟩
  subst e1 e2
  have := (hu vs q).symm.trans ev
  cases this
  rw [Nat.zero_add]
  exact ⟨dU hp, w.tuple hp, .tup (SqT.of df) (.cons (.int _) (.cons (rv.mono (dU hp)) .nil))⟩
 |
  zip s t =>
  obtain ⟨b, c, a, d, r1, r2, rfl⟩ := hJ
  obtain ⟨vs, q, rs⟩ := r1.at_ l w g.1
  obtain ⟨us, q', rs'⟩ := r2.at_ l w g.2
  refine ⟨fun i e ei => ?_, vs, us, q, q', ?_⟩
  ·have ei' : (List.zipWith (fun x y => D.tup [x, y]) s.items t.items)[i]? = some e := ei
   rw [List.getElem?_zipWith] at ei'
   cases k1 : s.items[i]? with
   | none => rw [k1] at ei'; cases ei'
   |
    some d1 =>
    cases k2 : t.items[i]? with
    | none => rw [k1, k2] at ei'; cases ei'
    |
     some d2 =>
     rw [k1, k2] at ei'
     cases ei'
     obtain ⟨v, ev, rv⟩ := rs.getD k1
     obtain ⟨v', ev', rv'⟩ := rs'.getD k2
     refine ⟨⟨vs, us, v, v', q, q', ev, ev'⟩, fun x H' ⟨p, u, u', e1, hp, e2, hu, hu'⟩ => ?_⟩
     subst e1 e2
     have := (hu vs q).symm.trans ev
     cases this
     have := (hu' us q').symm.trans ev'
     cases this
     exact ⟨dU hp, w.tuple hp, .tup (SqT.of df) (.cons (rv.mono (dU hp)) (.cons (rv'.mono (dU hp)) .nil))⟩
  ·have hl : (AIt.zip s t).items.length = min s.items.length t.items.length := List.length_zipWith ..
   rw [hl, rs.len, rs'.len]
   rcases Nat.le_total vs.length us.length with z | z
   ·left; rw [Nat.min_eq_left z]; exact List.getElem?_eq_none (Nat.le_refl _)
   ·right; rw [Nat.min_eq_right z]; exact List.getElem?_eq_none (Nat.le_refl _)
end
noncomputable def SR.loop (r : SR) (f : AE -> AH -> SR) : SR := match r with
 | .nx ae h => f ae h
 | .ct ae h => f ae h
 | .bk ae h => .nx ae h
 | .rt d h => .rt d h
 | .exc c ae h => .exc c ae h
 | .stuck => .stuck
open Classical in
noncomputable def ie (G : AH -> Prop) (g : MG) (B : MS) : List D -> MS
 | [], ae, h => if G h then .nx ae h else .stuck
 | d :: ds, ae, h => if G h then (g d ae h).toS ae fun ae1 h1 => (B ae1 h1).loop (ie G g B ds) else .stuck
abbrev MI := AE -> AH -> R AIt
noncomputable def uu (I : MI) (g : MG) (B : MS) : MS := fun ae h => (I ae h).toS ae fun it h1 => ie it.guard g B it.items ae h1
open Classical in
noncomputable def lcL (G : AH -> Prop) (g : MG) (c : MT) (F : ME) : List D -> List D -> AE -> AH -> R (List D)
 | [], acc, _, h => if G h then .ok acc h else .stuck
 | d :: ds, acc, ae, h => if G h /\ acc.length < 16777216 then (g d ae h).bind fun ae1 h1 => (c ae1 h1).bind fun b h2 => if b = true then (F ae1 h2).bind fun y h3 => lcL G g c F ds (acc ++ [y]) ae1 h3 else lcL G g c F ds acc ae1 h2 else .stuck
noncomputable def iM (sub : List (Option Nat)) (ae : AE) : AE := sub.map fun o => o.bind fun i => (ae[i]?).bind id
noncomputable def eLC (I : MI) (sub : List (Option Nat)) (g : MG) (c : MT) (F : ME) : ME := fun ae h => (I ae h).bind fun it h1 => (noX (lcL it.guard g c F it.items [] (iM sub ae) h1)).bind dz
noncomputable def tY : MT := fun _ h => .ok true h
section
variable (K : PySem.W.Frag) (mg : Str -> Option Value)
noncomputable def rdI (ES : St -> XK) (F : MI) : TI := fun σ H R' => ∃ ρ h ae, Wd K mg ρ h H /\ RelE K mg ρ H ae σ /\ PostG K mg ρ H (ES σ) (fun it _ ρ' H' => ∀ J, ItR K mg ρ' H' it J -> R' J H') (F ae h)
noncomputable def DI (X : Cx) (ES : St -> XK) (tg iter : Expr) (F : MI) : Prop := PI X tg iter (rdI K mg ES F)
end
noncomputable def u3 (F : ME) : MI := fun ae h => (F ae h).bind fun d h1 => match d with
 | .tup xs => .ok (.tup xs) h1
 | .ref n => match bG h1 n with
  | some xs => .ok (.lst n xs) h1
  | none => .stuck
 | _ => .stuck
noncomputable def vw (A : MA) : MI := fun ae h => (A ae h).bind fun ds h1 => match ds with
 | [.int j] => if -(2 ^ 62) <= j /\ j < 2 ^ 62 then .ok (.rng 0 j.toNat) h1 else .stuck
 | _ => .stuck
noncomputable def gm (d : D) (h : AH) : Option AIt := match d with
 | .tup xs => some (.tup xs)
 | .ref n => (bG h n).map (.lst n)
 | _ => none
noncomputable def vR (A : MA) : MI := fun ae h => (A ae h).bind fun ds h1 => match ds with
 | [d] => (match gm d h1 with
  | some s => .ok (.enm s) h1
  | none => .stuck)
 | _ => .stuck
section
variable {K : PySem.W.Frag} {mg : Str -> Option Value} {X : Cx} {ES : St -> XK} {tg iter e a b c elt : Expr} {F : ME} {A : MA} {I : MI} {g : MG} {cf : MT} {U : MS} {sts : List Stmt} {pos : Pos}
theorem PI.imp {t t' : TI} (h : PI X tg iter t) (k : ∀ σ H Q, t' σ H Q -> t σ H Q) : PI X tg iter t' := fun pins s σ H Q I w => h pins s σ H Q I (k σ H Q w)
theorem Bz {l : Expr} {tl : TE} (hl : PE X l tl) : PI X tg l (fun σ H R => tl σ H fun x H1 => (∃ a, x = .ref a /\ (∃ xs, SqL X.K H1 a xs) /\ R (Itl X.K a) H1) \/ (∃ a, x = .ref a /\ (∃ xs, SqT X.K H1 a xs) /\ R (Itt X.K a) H1)) := by
 intro pins s σ H R I h
 refine thn (hl pins s σ H _ I h) fun v s1 ⟨x, H1, I1, r1, q1⟩ => ?_
 rcases q1 with ⟨a, e, ⟨xs, hq⟩, q⟩ | ⟨a, e, ⟨xs, hq⟩, q⟩
 ·subst e
  cases r1
  obtain ⟨its, rv, p, hz⟩ := I1.list hq
  refine wpAny_pyIter_list p.isList ?_
  refine ⟨s1.heap.objs.size, [s1.heap.objs.size], _, _, H1, rfl, I1.kept (t' := s1.toks) fun b o e => Heap.get?_push_of_some _ e, sT a _, ⟨_, Heap.get?_push_size _ rfl, rfl, rfl⟩, fun b hb => ?_, q⟩
  have e : b = s1.heap.objs.size := by simpa using hb
  subst e
  exact I1.fpOk (Nat.le_refl _) (I1.hok.fresh (Nat.le_refl _))
 ·subst e
  cases r1
  obtain ⟨its, rv, p, hz⟩ := I1.tuple hq
  refine wpAny_pyIter_tuple (show s1.heap.IsTuple a its.toArray from p) ?_
  refine ⟨s1.heap.objs.size, [s1.heap.objs.size], _, _, H1, rfl, I1.kept (t' := s1.toks) fun b o e => Heap.get?_push_of_some _ e, rf a _, ⟨_, Heap.get?_push_size _ rfl, rfl, rfl⟩, fun b hb => ?_, q⟩
  have e : b = s1.heap.objs.size := by simpa using hb
  subst e
  exact I1.fpOk (Nat.le_refl _) (I1.hok.fresh (Nat.le_refl _))
theorem BZ (hK : X.K = K) (he : DE K mg X ES e F) : DI K mg X ES tg e (u3 F) := by
 subst hK
 refine PI.imp (Bz he) fun σ H R ⟨ρ, h, ae, w, re, p⟩ => ⟨ρ, h, ae, w, re, p.bind.imp fun d h1 ρ1 H1 l1 w1 p1 v rv => ?_⟩
 cases rv with
 | tup q rs => exact .inr ⟨_, rfl, ⟨_, q⟩, p1 ρ1 H1 Le.refl w1 _ ⟨_, _, q, rs, rfl⟩⟩
 |
  ref ea =>
  dsimp only at p1
  split at p1
  ·rename_i xs e1
   obtain ⟨vs, q, rs⟩ := cI w1 ea e1
   exact .inl ⟨_, rfl, ⟨_, q⟩, p1 ρ1 H1 Le.refl w1 _ ⟨_, ea, rfl⟩⟩
  ·exact p1.elim
 | _ => exact p1.elim
theorem
    sS {p : Pos} (hg : Gl X "range") (hm : mg "range" = none) (ha : DA K mg X ES [a] A) (hk : X.mg = mg := by rfl) (hs : starEach [a] X.env = [(false, eval a X.env)] := by rfl) : DI K mg X ES tg (.Call (.Name "range" p) [a] [] pos) (vw A) := by
 subst hk
 refine PI.imp (tX hg hm ha hs) fun σ H R ⟨ρ, h, ae, w, re, p⟩ => ⟨ρ, h, ae, w, re, p.bind.imp fun ds h1 ρ1 H1 l1 w1 p1 vs rs => ?_⟩
 split at p1
 ·cases rs with
  |
   cons r rs =>
   cases r; cases rs
   split at p1
   ·rename_i hb
    exact ⟨_, rfl, hb.1, hb.2, p1 ρ1 H1 Le.refl w1 _ rfl⟩
   ·exact p1.elim
 ·exact p1.elim
theorem tM {ρ : List Addr} {H : Hp} {h : AH} {d : D} {v : V} {s : AIt} (w : Wd K mg ρ h H) (r : RelD K mg ρ H d v) (q : gm d h = some s) : ∃ b p, v = .ref p /\ SrcR K mg ρ H s b p /\ ∃ vs, SqB K b H p vs := by
 cases r with
 | tup hq rs => cases q; exact ⟨false, _, rfl, ⟨_, hq, rs⟩, _, hq⟩
 |
  ref ea =>
  obtain ⟨xs, q1, rfl⟩ := Option.map_eq_some_iff.mp q
  obtain ⟨vs, h1, h2⟩ := cI w ea q1
  exact ⟨true, _, rfl, ea, vs, h1⟩
 | _ => cases q
theorem
    zc {elts : List Expr} {x1 : Nat} {tp p : Pos} (hK : X.K = K) (hg : Gl X "enumerate") (hm : mg "enumerate" = none) (ha : DA K mg X ES [a] A) (hk : X.mg = mg := by rfl) (hs : starEach [a] X.env = [(false, eval a X.env)] := by rfl) : DI K mg X ES (.Tuple elts x1 tp) (.Call (.Name "enumerate" p) [a] [] pos) (vR A) := by
 subst hk hK
 refine PI.imp (yV hg hm ha hs) fun σ H R ⟨ρ, h, ae, w, re, p⟩ => ⟨ρ, h, ae, w, re, p.bind.imp fun ds h1 ρ1 H1 l1 w1 p1 vs rs => ?_⟩
 split at p1
 ·cases rs with
  |
   cons r rs =>
   cases rs
   split at p1
   ·rename_i s q
    obtain ⟨b, pa, rfl, sr, xs, hx⟩ := tM w1 r q
    exact ⟨b, pa, xs, rfl, hx, p1 ρ1 H1 Le.refl w1 _ ⟨b, pa, sr, rfl⟩⟩
   ·exact p1.elim
 ·exact p1.elim
theorem mZ {ρ : List Addr} {H : Hp} {De : Ends} {r : SR} {f : AE -> AH -> SR} {N : St -> Hp -> Prop} (p : PostS K mg ρ H De ES (r.loop f)) (i : ∀ ae1 h1 ρ1 H1 σ1, Le ρ H ρ1 H1 -> Wd K mg ρ1 h1 H1 -> RelE K mg ρ1 H1 ae1 σ1 -> PostS K mg ρ1 H1 De ES (f ae1 h1) -> N σ1 H1) :
  PostS K mg ρ H { De with nx := N, ct := N, bk := De.nx } ES r := by
 cases r with
 | nx ae1 h1 => exact fun ρ1 H1 σ1 l1 w1 re1 => i ae1 h1 ρ1 H1 σ1 l1 w1 re1 (PostS.mono l1 p)
 | rt d h1 => exact p
 | bk ae1 h1 => exact p
 | ct ae1 h1 => exact fun ρ1 H1 σ1 l1 w1 re1 => i ae1 h1 ρ1 H1 σ1 l1 w1 re1 (PostS.mono l1 p)
 | exc c ae1 h1 => exact p
 | stuck => exact p
theorem
    zR (hp : PassesOwn (model X.prog X.w) X.A X.env X.xe) (hc : X.calm = true) (hi : DI K mg X ES tg iter I) (hg : DG K mg X ES tg g) (hb : DSs K mg X ES sts U)
  (hs : ∀ x, foldedSetIterable iter X.env x = pure x := by intro _; rfl) : DS K mg X ES (.For tg iter sts [] pos) (uu I g U) := by
 refine PS.imp (Cn hp hc hi hg hb hs) fun De σ H q_ => q_.el fun ρ h ae w re p => ⟨ρ, h, ae, w, re, cF p re fun it h1 ρ1 H1 l1 w1 re1 p1 J hJ => ?_⟩
 refine ⟨fun i m σ2 H2 => m = it.items.length - i /\ i <= it.items.length /\ ∃ ρ2 h2 ae2, Le ρ1 H1 ρ2 H2 /\ Wd K mg ρ2 h2 H2 /\ RelE K mg ρ2 H2 ae2 σ2 /\ PostS K mg ρ2 H2 De ES (ie it.guard g U (it.items.drop i) ae2 h2), ⟨_, rfl, Nat.zero_le _, ρ1, h1, ae, Le.refl, w1, re1, p1⟩, ?_⟩
 rintro i m σ2 H2 ⟨rfl, hi', ρ2, h2, ae2, l2, w2, re2, p2⟩
 by_cases hlt : i < it.items.length
 ·have hd : it.items.drop i = it.items[i] :: it.items.drop (i + 1) := List.drop_eq_getElem_cons hlt
  rw [hd] at p2
  unfold ie at p2
  split at p2
  ·rename_i hG
   obtain ⟨st, _⟩ := hJ.step l2 w2 hG
   obtain ⟨go, yl⟩ := st i it.items[i] (List.getElem?_eq_getElem hlt)
   refine .inr ⟨go, fun σ' H' => ∃ ρ3 h3 ae3, Le ρ1 H1 ρ3 H' /\ Wd K mg ρ3 h3 H' /\ RelE K mg ρ3 H' ae3 σ' /\ PostS K mg ρ3 H' De ES (ie it.guard g U (it.items.drop (i + 1)) ae3 h3),
    fun σ' H' ⟨ρ3, h3, ae3, q⟩ => ⟨_, by omega, rfl, hlt, ρ3, h3, ae3, q⟩, fun x H' hy => ?_⟩
   obtain ⟨ly, wy, rx⟩ := yl x H' hy
   refine ⟨ρ2, h2, ae2, _, wy, re2.mono ly, rx, cF (PostS.mono ly p2) (re2.mono ly) fun ae3 h3 ρ3 H3 l3 w3 re3 p3 σ' re' => ⟨ρ3, h3, ae3, w3, re', mZ p3 fun ae4 h4 ρ4 H4 σ4 l4 w4 re4 p4 => ⟨ρ4, h4, ae4, ((l2.trans ly).trans l3).trans l4, w4, re4, p4⟩⟩⟩
  ·exact p2.elim
 ·have hi2 : i = it.items.length := by omega
  subst hi2
  rw [List.drop_length] at p2
  unfold ie at p2
  split at p2
  ·rename_i hG
   exact .inl ⟨(hJ.step l2 w2 hG).2, gb p2 w2 re2⟩
  ·exact p2.elim
theorem
    wb {ρ : List Addr} {H : Hp} {ae : AE} {σ : St} (re : RelE K mg ρ H ae σ) (sub : List (Option Nat)) : RelE K mg ρ H (iM sub ae) (cH sub σ) := by
 unfold iM cH
 refine ⟨by rw [List.length_map, List.length_map], fun j d e => ?_⟩
 rw [List.getElem?_map] at e ⊢
 cases q : sub[j]? with
 | none => rw [q] at e; cases e
 |
  some o =>
  rw [q] at e
  cases o with
  | none => cases e
  |
   some i =>
   have e' : (ae[i]?).bind id = some d := Option.some.inj e
   cases q2 : ae[i]? with
   | none => rw [q2] at e'; cases e'
   |
    some z =>
    rw [q2] at e'
    have e3 : z = some d := e'
    subst e3
    obtain ⟨v, h1, h2⟩ := re.at_ i d q2
    refine ⟨v, ?_, h2⟩
    show some ((σ[i]?).bind id) = some (some v)
    rw [h1]; rfl
theorem j7 {α : Type} {ρ : List Addr} {H : Hp} {E : XK} {r : R α} {f : α -> AH -> R (List D)} {m : List D -> AH -> R D} {k : D -> AH -> List Addr -> Hp -> Prop} (p : PostG K mg ρ H E k ((noX (r.bind f)).bind m)) :
  PostG K mg ρ H E0 (fun a h1 ρ' H' => PostG K mg ρ' H' E k ((noX (f a h1)).bind m)) r := by
 cases r with
 | ok a h1 => exact fun ρ1 H1 l1 w1 => PostG.mono l1 p
 | exc c h1 => exact p.elim
 | stuck => exact p.elim
theorem
    wX {sub : List (Option Nat)} (σ : St) (H : Hp) (Q : VK) (q : rdE K mg ES (eLC I sub g cf F) σ H Q) : jH (rdI K mg ES I) sub (rdG K mg (fun _ => E0) g) (rdT K mg (fun _ => E0) cf) (rdE K mg (fun _ => E0) F) σ H Q := by
 obtain ⟨ρ, h, ae, w, re, p⟩ := q
 refine ⟨ρ, h, ae, w, re, p.bind.imp fun it h1 ρ1 H1 l1 w1 p1 J hJ => ?_⟩
 have re1 := wb (re.mono l1) sub
 refine ⟨fun i m ys σ2 H2 => m = it.items.length - i /\ i <= it.items.length /\ ∃ ρ2 h2 ae2 acc, Le ρ1 H1 ρ2 H2 /\ Wd K mg ρ2 h2 H2 /\ RelE K mg ρ2 H2 ae2 σ2 /\ RelDs K mg ρ2 H2 acc ys /\
   PostG K mg ρ2 H2 (ES σ) (fun d _ ρ' H' => ∀ v, RelD K mg ρ' H' d v -> Q v H') ((noX (lcL it.guard g cf F (it.items.drop i) acc ae2 h2)).bind dz),
  ⟨_, rfl, Nat.zero_le _, ρ1, h1, iM sub ae, [], Le.refl, w1, re1, .nil, p1⟩, ?_⟩
 rintro i m ys σ2 H2 ⟨rfl, hi', ρ2, h2, ae2, acc, l2, w2, re2, rs, p2⟩
 by_cases hlt : i < it.items.length
 ·have hd : it.items.drop i = it.items[i] :: it.items.drop (i + 1) := List.drop_eq_getElem_cons hlt
  rw [hd] at p2
  unfold lcL at p2
  split at p2
  ·rename_i hG
   obtain ⟨st, _⟩ := hJ.step l2 w2 hG.1
   obtain ⟨go, yl⟩ := st i it.items[i] (List.getElem?_eq_getElem hlt)
   refine .inr ⟨go, by rw [<- rs.len]; exact hG.2, fun ys' σ' H' => ∃ ρ3 h3 ae3 acc3, Le ρ1 H1 ρ3 H' /\ Wd K mg ρ3 h3 H' /\ RelE K mg ρ3 H' ae3 σ' /\ RelDs K mg ρ3 H' acc3 ys' /\
     PostG K mg ρ3 H' (ES σ) (fun d _ ρ' H' => ∀ v, RelD K mg ρ' H' d v -> Q v H') ((noX (lcL it.guard g cf F (it.items.drop (i + 1)) acc3 ae3 h3)).bind dz),
    fun ys' σ' H' ⟨ρ3, h3, ae3, acc3, q⟩ => ⟨_, by omega, rfl, hlt, ρ3, h3, ae3, acc3, q⟩, fun x H' hy => ?_⟩
   obtain ⟨ly, wy, rx⟩ := yl x H' hy
   refine ⟨ρ2, h2, ae2, _, wy, re2.mono ly, rx, (j7 (PostG.mono ly p2)).imp fun ae3 h3 ρ3 H3 l3 w3 p3 σ3 re3 => ⟨ρ3, h3, ae3, w3, re3, (j7 p3).imp fun b h4 ρ4 H4 l4 w4 p4 => ?_⟩⟩
   cases b with
   | true => exact ⟨ρ4, h4, ae3, w4, re3.mono l4, (j7 p4).imp fun y h5 ρ5 H5 l5 w5 p5 v rv => ⟨ρ5, h5, ae3, acc ++ [y], (((l2.trans ly).trans l3).trans l4).trans l5, w5, (re3.mono l4).mono l5, ((((rs.mono ly).mono l3).mono l4).mono l5).append (.cons rv .nil), p5⟩⟩
   | false => exact ⟨ρ4, h4, ae3, acc, ((l2.trans ly).trans l3).trans l4, w4, re3.mono l4, ((rs.mono ly).mono l3).mono l4, p4⟩
  ·exact p2.elim
 ·have hi2 : i = it.items.length := by omega
  subst hi2
  rw [List.drop_length] at p2
  unfold lcL at p2
  split at p2
  ·rename_i hG
   refine .inl ⟨(hJ.step l2 w2 hG).2, ?_⟩
   have p3 : PostG K mg ρ2 H2 (ES σ) (fun d _ ρ' H' => ∀ v, RelD K mg ρ' H' d v -> Q v H') (dz acc h2) := p2
   unfold dz at p3
   split at p3
   ·rename_i hl
    exact ⟨by rw [<- rs.len]; exact hl, fun q hq => fT w2 rs hq p3⟩
   ·exact p3.elim
  ·exact p2.elim
theorem D1 {scope : Scope} (M : List Str) (kn : List (Str × NameKind)) (N : List Str) (sub : List (Option Nat))
  (hc : X.calm = true) (hi : DI K mg X ES tg iter I)
  (hg : ∀ cl C s₂ H fp, DG K mg (bu X N scope cl C s₂ H fp) (fun _ => E0) tg g) (he : ∀ cl C s₂ H fp, DE K mg (bu X N scope cl C s₂ H fp) (fun _ => E0) elt F)
  (hM : X.N = M := by rfl) (hkn : X.env.scope.names = kn := by rfl) (hsub : gh M scope.names sub N = true := by decide +kernel)
  (hk : scope.kind = .function := by rfl) (hnc : ∀ x ∈ scope.names, x.2 ≠ .cell := by decide +kernel) (hnames : ∀ x ∈ scope.names, x.2 = .local -> scope.names.lookup x.1 = some .local := by decide +kernel)
  (hfr : je kn scope.names = true := by decide +kernel)
  (hsl : sub.length = N.length := by rfl) (hs : ∀ x, foldedSetIterable iter X.env x = pure x := by intro _; rfl) :
  DE K mg X ES (.ListComp elt [⟨tg, iter, [], 0⟩] scope pos) (eLC I sub g tY F) :=
 PE.imp (CF M kn N sub hc hi hg he hM hkn hsub hk hnc hnames hfr hsl hs) fun σ H Q q => by
  have := wX (cf := tY) σ H Q q
  obtain ⟨ρ, h, ae, w, re, p⟩ := this
  refine ⟨ρ, h, ae, w, re, p.imp fun it h1 ρ1 H1 l1 w1 k J hJ => ?_⟩
  obtain ⟨W, w0, tn⟩ := k J hJ
  refine ⟨W, w0, fun i m ys σ2 H2 hW => ?_⟩
  rcases tn i m ys σ2 H2 hW with z | ⟨go, hl, Nx, hN, st⟩
  ·exact .inl z
  ·refine .inr ⟨go, hl, Nx, hN, fun x H' hy => ?_⟩
   obtain ⟨ρ3, h3, ae3, d3, w3, re3, rd3, p3⟩ := st x H' hy
   refine ⟨ρ3, h3, ae3, d3, w3, re3, rd3, p3.imp fun ae4 h4 ρ4 H4 l4 w4 k4 σ4 re4 => ?_⟩
   obtain ⟨ρ5, h5, ae5, w5, re5, p5⟩ := k4 σ4 re4
   exact p5 ρ5 _ Le.refl w5
theorem AN {sub : List (Option Nat)} (σ : St) (H : Hp) (Q : VK) (q : rdE K mg ES (eLC I sub g tY F) σ H Q) : jH (rdI K mg ES I) sub (rdG K mg (fun _ => E0) g) vg (rdE K mg (fun _ => E0) F) σ H Q := by
 have := wX (cf := tY) σ H Q q
 obtain ⟨ρ, h, ae, w, re, p⟩ := this
 refine ⟨ρ, h, ae, w, re, p.imp fun it h1 ρ1 H1 l1 w1 k J hJ => ?_⟩
 obtain ⟨W, w0, tn⟩ := k J hJ
 refine ⟨W, w0, fun i m ys σ2 H2 hW => ?_⟩
 rcases tn i m ys σ2 H2 hW with z | ⟨go, hl, Nx, hN, st⟩
 ·exact .inl z
 ·refine .inr ⟨go, hl, Nx, hN, fun x H' hy => ?_⟩
  obtain ⟨ρ3, h3, ae3, d3, w3, re3, rd3, p3⟩ := st x H' hy
  refine ⟨ρ3, h3, ae3, d3, w3, re3, rd3, p3.imp fun ae4 h4 ρ4 H4 l4 w4 k4 σ4 re4 => ?_⟩
  obtain ⟨ρ5, h5, ae5, w5, re5, p5⟩ := k4 σ4 re4
  exact p5 ρ5 _ Le.refl w5
theorem yp {t : TE} {i : Nat} (ht : ∀ σ H Q, rdE K mg ES F σ H Q -> t σ H Q) (De : Ends) (σ : St) (H : Hp) (q : rdS K mg ES (gu F (gN i)) De σ H) : nS t (kK i) De σ H := by
 obtain ⟨ρ, h, ae, w, re, p⟩ := q
 exact ht σ H _ ⟨ρ, h, ae, w, re, cF p re fun d h1 ρ1 H1 l1 w1 re1 p1 v rv => gb p1 w1 (re1.set i rv)⟩
theorem DX {scope : Scope} {px spos : Pos} {iT : Nat} {xT : Str} (M : List Str) (kn : List (Str × NameKind)) (N : List Str) (sub : List (Option Nat))
  (hc : X.calm = true) (hN : X.N.Nodup) (hix : X.N[iT]? = some xT) (hxl : Loc X.env.scope xT) (hi : DI K mg X ES tg iter I)
  (hg : ∀ cl C s₂ H fp, DG K mg (bu X N scope cl C s₂ H fp) (fun _ => E0) tg g) (he : ∀ cl C s₂ H fp, DE K mg (bu X N scope cl C s₂ H fp) (fun _ => E0) elt F)
  (hsw : swapsWith (.ListComp elt [⟨tg, iter, [], 0⟩] scope pos) (some (.Name xT px)) spos.line X.env = pure true := by rfl)
  (hM : X.N = M := by rfl) (hkn : X.env.scope.names = kn := by rfl) (hsub : gh M scope.names sub N = true := by decide +kernel)
  (hk : scope.kind = .function := by rfl) (hnc : ∀ x ∈ scope.names, x.2 ≠ .cell := by decide +kernel) (hnames : ∀ x ∈ scope.names, x.2 = .local -> scope.names.lookup x.1 = some .local := by decide +kernel)
  (hfr : je kn scope.names = true := by decide +kernel)
  (hsl : sub.length = N.length := by rfl) (hs : ∀ x, foldedSetIterable iter X.env x = pure x := by intro _; rfl) (hf : X.fn xT = true \/ X.env.scope.names.lookup xT = some .local := by first | exact .inl rfl | exact .inr rfl | assumption) :
  DS K mg X ES (.Assign [.Name xT px] (.ListComp elt [⟨tg, iter, [], 0⟩] scope pos) spos) (gu (eLC I sub g tY F) (gN iT)) :=
 PS.imp (DN M kn N sub hc hN hix hxl hi hg he hsw hM hkn hsub hk hnc hnames hfr hsl hs hf) (yp AN)
end
noncomputable def whN (c : MT) (B : MS) : Nat -> MS
 | 0, _, _ => .stuck
 | k + 1, ae, h => (c ae h).toS ae fun b h1 => if b = true then (B ae h1).loop (whN c B k) else .nx ae h1
open Classical in
noncomputable def sWh (c : MT) (B : MS) : MS := fun ae h => if q : ∃ k, whN c B k ae h ≠ .stuck then whN c B q.choose ae h else .stuck
theorem
    j6 {c : MT} {B : MS} : ∀ {k : Nat} {ae : AE} {h : AH}, whN c B k ae h ≠ .stuck -> whN c B (k + 1) ae h = whN c B k ae h
 | 0, _, _, q => absurd rfl q
 |
  k + 1, ae, h, q => by
  have e1 : whN c B (k + 2) ae h = (c ae h).toS ae fun b h1 => if b = true then (B ae h1).loop (whN c B (k + 1)) else .nx ae h1 := rfl
  have e2 : whN c B (k + 1) ae h = (c ae h).toS ae fun b h1 => if b = true then (B ae h1).loop (whN c B k) else .nx ae h1 := rfl
  rw [e2] at q
  rw [e1, e2]
  cases r : c ae h with
  | exc _ _ => rfl
  | stuck => rfl
  |
   ok b h1 =>
   rw [r] at q
   cases b with
   | false => rfl
   |
    true =>
    have q' : (B ae h1).loop (whN c B k) ≠ .stuck := q
    show (B ae h1).loop (whN c B (k + 1)) = (B ae h1).loop (whN c B k)
    cases s : B ae h1 with
    | nx a2 h2 => rw [s] at q'; exact j6 q'
    | ct a2 h2 => rw [s] at q'; exact j6 q'
    | _ => rfl
theorem sY {c : MT} {B : MS} {k j : Nat} {ae : AE} {h : AH} (q : whN c B k ae h ≠ .stuck) (hj : k <= j) : whN c B j ae h = whN c B k ae h := by
 induction hj with
 | refl => rfl
 | step _ ih => rw [j6 (by rw [ih]; exact q), ih]
theorem sF {c : MT} {B : MS} {k : Nat} {ae : AE} {h : AH} (q : whN c B k ae h ≠ .stuck) : sWh c B ae h = whN c B k ae h := by
 have hq : ∃ k, whN c B k ae h ≠ .stuck := ⟨k, q⟩
 unfold sWh
 rw [dif_pos hq]
 rcases Nat.le_total hq.choose k with z | z
 ·exact (sY hq.choose_spec z).symm
 ·exact sY q z
section
variable {K : PySem.W.Frag} {mg : Str -> Option Value} {X : Cx} {ES : St -> XK} {c : Expr} {cf : MT} {U : MS} {sts : List Stmt} {pos : Pos}
theorem vE (hp : PassesOwn (model X.prog X.w) X.A X.env X.xe) (hc : DT K mg X ES c cf) (hb : DSs K mg X ES sts U) : DS K mg X ES (.While c sts [] pos) (sWh cf U) := by
 refine PS.imp (vk hp hc hb) fun De σ H q_ => q_.el fun ρ h ae w re p => ?_
 have hx : ∃ k, whN cf U k ae h ≠ .stuck := Classical.byContradiction fun z => by
  unfold sWh at p
  rw [dif_neg z] at p
  exact p.elim
 obtain ⟨k, hk⟩ := hx
 rw [sF hk] at p
 refine ⟨fun m σ2 H2 => ∃ ρ2 h2 ae2, Wd K mg ρ2 h2 H2 /\ RelE K mg ρ2 H2 ae2 σ2 /\ PostS K mg ρ2 H2 De ES (whN cf U m ae2 h2), ⟨k, ρ, h, ae, w, re, p⟩, ?_⟩
 rintro m σ2 H2 ⟨ρ2, h2, ae2, w2, re2, p2⟩
 cases m with
 | zero => exact p2.elim
 |
  succ m =>
  refine ⟨ρ2, h2, ae2, w2, re2, cF p2 re2 fun b h3 ρ3 H3 l3 w3 re3 p3 => ?_⟩
  cases b with
  | true => exact ⟨fun σ' H' => ∃ ρ4 h4 ae4, Wd K mg ρ4 h4 H' /\ RelE K mg ρ4 H' ae4 σ' /\ PostS K mg ρ4 H' De ES (whN cf U m ae4 h4), fun σ' H' q => ⟨m, Nat.lt_succ_self _, q⟩, ρ3, h3, ae2, w3, re3, mZ p3 fun ae4 h4 ρ4 H4 σ4 l4 w4 re4 p4 => ⟨ρ4, h4, ae4, w4, re4, p4⟩⟩
  | false => exact gb p3 w3 re3
end
end L2
set_option Elab.async false
set_option linter.all false
set_option maxRecDepth 100000
namespace L2
open PySem PySem.Spec PyProof.Rows
noncomputable def oX : Fn := fun ds h => match ds with
 | [d] => match dH h d with
  | some xs => .ok (.int xs.length) h
  | none => match d with
   | .str z => if z.length <= 16777216 then .ok (.int z.length) h else .stuck
   | _ => .stuck
 | _ => .stuck
noncomputable def qV : Fn := fun ds h => match ds with
 | [.int i] => .ok (.int (if i < 0 then -i else i)) h
 | _ => .stuck
noncomputable def mH : Fn := fun ds h => match ds with
 | [.int i, .int j] => .ok (.int (if j > i then j else i)) h
 | _ => .stuck
noncomputable def mM : Fn := fun ds h => match ds with
 | [.int i, .int j] => .ok (.int (if j < i then j else i)) h
 | _ => .stuck
noncomputable def gj : List D -> Option (List Bool)
 | [] => some []
 | .bl b :: r => (gj r).map (b :: ·)
 | _ => none
noncomputable def eY : List D -> Option (List Int)
 | [] => some []
 | .int b :: r => (eY r).map (b :: ·)
 | _ => none
theorem oU : ∀ {ds : List D} {bs : List Bool}, gj ds = some bs -> ds = bs.map D.bl
 | [], bs, e => by cases e; rfl
 |
  .bl b :: r, bs, e => by
  have e' : (gj r).map (b :: ·) = some bs := e
  cases q : gj r with
  | none => rw [q] at e'; cases e'
  | some z => rw [q] at e'; cases e'; rw [oU q]; rfl
theorem l7 : ∀ {ds : List D} {bs : List Int}, eY ds = some bs -> ds = bs.map D.int
 | [], bs, e => by cases e; rfl
 |
  .int b :: r, bs, e => by
  have e' : (eY r).map (b :: ·) = some bs := e
  cases q : eY r with
  | none => rw [q] at e'; cases e'
  | some z => rw [q] at e'; cases e'; rw [l7 q]; rfl
noncomputable def nQ : Fn := fun ds h => match ds with
 | [.ref n] => match (bG h n).bind gj with
  | some bs => .ok (.bl (bs.all id)) h
  | none => .stuck
 | _ => .stuck
noncomputable def oi : Fn := fun ds h => match ds with
 | [.ref n] => match (bG h n).bind eY with
  | some ns => .ok (.int ns.sum) h
  | none => .stuck
 | _ => .stuck
noncomputable def kH : Fn := fun ds h => match ds with
 | [d] => match dH h d with
  | some xs => .ok (.ref h.length) (h ++ [.lst xs])
  | none => .stuck
 | _ => .stuck
noncomputable def qD : Fn := fun ds h => match ds with
 | [.int i] => .ok (.int i) h
 | [.bl b] => .ok (.int (if b then 1 else 0)) h
 | _ => .stuck
section
variable {K : PySem.W.Frag} {mg : Str -> Option Value} {X : Cx}
theorem
    zw : bI K mg (fun xs H Q => (∃ p ys, xs = [.ref p] /\ (SqL K H p ys \/ SqT K H p ys) /\ Q (.int ys.length) H) \/ (∃ z, xs = [.str z] /\ z.length <= sizeLine /\ Q (.int z.length) H)) oX := fun ρ h H ds vs Q E w rs p => by
 unfold oX at p
 split at p
 ·cases
     rs with
  |
   cons r rs =>
   cases rs
   split at p
   ·rename_i xs e
    obtain ⟨pa, vs, rfl, hq, rs⟩ := eV w r e
    exact .inl ⟨_, _, rfl, hq, by rw [<- rs.len]; exact aK w (.int _) p⟩
   ·split at p
    ·cases r
     split at p
     ·rename_i hl; exact .inr ⟨_, rfl, hl, aK w (.int _) p⟩
     ·exact p.elim
    ·exact p.elim
 ·exact p.elim
theorem eA (h : X.K = K) : CallR X (.builtin "len") (fun xs H Q => (∃ p ys, xs = [.ref p] /\ (SqL K H p ys \/ SqT K H p ys) /\ Q (.int ys.length) H) \/ (∃ z, xs = [.str z] /\ z.length <= sizeLine /\ Q (.int z.length) H)) := by subst h; exact oO.or nK
theorem Ag : bI K mg (fun xs H Q => ∃ i, xs = [.int i] /\ Q (.int (if i < 0 then -i else i)) H) qV := fun ρ h H ds vs Q E w rs p => by
 unfold qV at p
 split at p
 ·cases rs with
  | cons r rs => cases r; cases rs; exact ⟨_, rfl, aK w (.int _) p⟩
 ·exact p.elim
theorem xt : bI K mg (fun xs H Q => ∃ i j, xs = [.int i, .int j] /\ Q (.int (if j > i then j else i)) H) mH := fun ρ h H ds vs Q E w rs p => by
 unfold mH at p
 split at p
 ·cases rs with
  | cons r rs => cases rs with | cons r2 rs => cases r; cases r2; cases rs; exact ⟨_, _, rfl, aK w (.int _) p⟩
 ·exact p.elim
theorem xU : bI K mg (fun xs H Q => ∃ i j, xs = [.int i, .int j] /\ Q (.int (if j < i then j else i)) H) mM := fun ρ h H ds vs Q E w rs p => by
 unfold mM at p
 split at p
 ·cases rs with
  | cons r rs => cases rs with | cons r2 rs => cases r; cases r2; cases rs; exact ⟨_, _, rfl, aK w (.int _) p⟩
 ·exact p.elim
theorem
    zW : bI K mg (fun xs H Q => ∃ (a : Addr) (bs : List Bool), xs = [.ref a] /\ SqL K H a (bs.map V.bl) /\ Q (.bl (bs.all id)) H) nQ := fun ρ h H ds vs Q E w rs p => by
 unfold nQ at p
 split at p
 ·cases
     rs with
  |
   cons r rs =>
   cases r with
   |
    ref ea =>
    cases rs
    split at p
    ·rename_i bs e
     obtain ⟨xs, q, e2⟩ := Option.bind_eq_some_iff.mp e
     ·obtain ⟨vs, h1, h2⟩ := cI w ea q
      rw [oU e2] at h2
      rw [h2.bls] at h1
      exact ⟨_, bs, rfl, h1, aK w (.bl _) p⟩
    ·exact p.elim
 ·exact p.elim
theorem
    zD : bI K mg (fun xs H Q => ∃ (a : Addr) (ns : List Int), xs = [.ref a] /\ SqL K H a (ns.map V.int) /\ Q (.int ns.sum) H) oi := fun ρ h H ds vs Q E w rs p => by
 unfold oi at p
 split at p
 ·cases
     rs with
  |
   cons r rs =>
   cases r with
   |
    ref ea =>
    cases rs
    split at p
    ·rename_i bs e
     obtain ⟨xs, q, e2⟩ := Option.bind_eq_some_iff.mp e
     ·obtain ⟨vs, h1, h2⟩ := cI w ea q
      rw [l7 e2] at h2
      rw [h2.ints] at h1
      exact ⟨_, bs, rfl, h1, aK w (.int _) p⟩
    ·exact p.elim
 ·exact p.elim
theorem
    yE : bI K mg (fun xs H Q => ∃ p ys, xs = [.ref p] /\ (SqL K H p ys \/ SqT K H p ys) /\ ∀ l, H l = none -> Q (.ref l) (upd H l (.lst ys))) kH := fun ρ h H ds vs Q E w rs p => by
 unfold kH at p
 split at p
 ·cases rs with
  |
   cons r rs =>
   cases rs
   split at p
   ·rename_i xs e
    obtain ⟨pa, vs, rfl, hq, rs⟩ := eV w r e
    exact ⟨_, _, rfl, hq, fun l hl => fT w rs hl p⟩
   ·exact p.elim
 ·exact p.elim
theorem Br : bI K mg (fun xs H Q => (∃ i, xs = [.int i] /\ Q (.int i) H) \/ ∃ k, xs = [.bl k] /\ Q (.int (if k then 1 else 0)) H) qD := fun ρ h H ds vs Q E w rs p => by
 unfold qD at p
 split at p
 ·cases rs with
  | cons r rs => cases r; cases rs; exact .inl ⟨_, rfl, aK w (.int _) p⟩
 ·cases rs with
  | cons r rs => cases r; cases rs; exact .inr ⟨_, rfl, aK w (.int _) p⟩
 ·exact p.elim
theorem Ao (h : X.K = K) : CallR X (.type "list") (fun xs H Q => ∃ p ys, xs = [.ref p] /\ (SqL K H p ys \/ SqT K H p ys) /\ ∀ l, H l = none -> Q (.ref l) (upd H l (.lst ys))) := by subst h; exact oY
end
inductive Cl where
 | b (n : String) | o (x : Str)
 deriving DecidableEq
noncomputable def tyD (h : AH) : D -> Option Cl
 | .non => some (.b "NoneType")
 | .bl _ => some (.b "bool")
 | .int _ => some (.b "int")
 | .str _ => some (.b "str")
 | .tup _ => some (.b "tuple")
 | .exc x => some (.o x)
 | .ref n => match h[n]? with
  | some (.lst _) => some (.b "list")
  | some (.fz _) => some (.b "list")
  | some (.dct _) => some (.b "dict")
  | _ => none
 | _ => none
noncomputable def clD : D -> Option Cl
 | .ty n => some (.b n)
 | .glb x => some (.o x)
 | _ => none
noncomputable def ClV (mg : Str -> Option Value) : Cl -> Value -> Prop
 | .b n, v => v = .type n
 | .o x, v => ∃ a, v = .ref a /\ mg x = some (.ref a)
abbrev eI := List (Cl × Cl × Bool)
structure KitsOk (K : PySem.W.Frag) (mg : Str -> Option Value) (kt : eI) : Prop where
 one : ∀ p ∈ kt, ∀ t v, ClV mg p.1 t -> ClV mg p.2.1 v -> PySem.W.kitOne K t v = some p.2.2
 xc : ∀ p ∈ kt, ∀ x C, p.1 = .o x -> mg x = some (.ref C) -> XCls K C
noncomputable def kit (kt : eI) (t c : Cl) : Option Bool := (kt.find? fun p => decide (p.1 = t) && decide (p.2.1 = c)).map (·.2.2)
noncomputable def eO (kt : eI) (t : Cl) : List Cl -> Option Bool
 | [] => some false
 | c :: r => match kit kt t c with
  | some true => some true
  | some false => eO kt t r
  | none => none
noncomputable def nt (kt : eI) : Fn := fun ds h => match ds with
 | [d, c] => match tyD h d with
  | some t => match c with
   | .tup cs => match cs.mapM clD with
    | some (c0 :: cr) => match eO kt t (c0 :: cr), kit kt t c0 with
     | some b, some _ => .ok (.bl b) h
     | _, _ => .stuck
    | _ => .stuck
   | c => match clD c with
    | some cl => match kit kt t cl with
     | some b => .ok (.bl b) h
     | none => .stuck
    | none => .stuck
  | none => .stuck
 | _ => .stuck
theorem lU {kt : eI} {t c : Cl} {b : Bool} (e : kit kt t c = some b) : (t, c, b) ∈ kt := by
 unfold kit at e
 cases q : kt.find? (fun p => decide (p.1 = t) && decide (p.2.1 = c)) with
 | none => rw [q] at e; cases e
 |
  some p =>
  rw [q] at e
  have h1 := List.find?_some q
  have h2 := List.mem_of_find?_eq_some q
  simp only [Bool.and_eq_true, decide_eq_true_eq] at h1
  obtain ⟨p1, p2, p3⟩ := p
  have e3 : p3 = b := Option.some.inj e
  obtain ⟨rfl, rfl⟩ := h1
  subst e3
  exact h2
section
variable {K : PySem.W.Frag} {mg : Str -> Option Value} {X : Cx} {ρ : List Addr} {H : Hp} {h : AH}
theorem pB {kt : eI} (ok : KitsOk K mg kt) (w : Wd K mg ρ h H) {d : D} {v : V} {t c : Cl} {b : Bool} (r : RelD K mg ρ H d v) (e : tyD h d = some t) (k : kit kt t c = some b) : ∃ tv, TyX K H v tv /\ ClV mg t tv := by
 cases r with
 | non => cases e; exact ⟨_, .of .non, rfl⟩
 | bl => cases e; exact ⟨_, .of (.bl _), rfl⟩
 | int => cases e; exact ⟨_, .of (.int _), rfl⟩
 | str => cases e; exact ⟨_, .of (.str _), rfl⟩
 | tup q rs => cases e; exact ⟨_, .sqT q, rfl⟩
 |
  exc m ex =>
  cases e
  exact ⟨_, .exc ex (ok.xc _ (lU k) _ _ rfl m), _, rfl, m⟩
 |
  ref ea =>
  unfold tyD at e
  dsimp only at e
  split at e
  ·rename_i e1; cases e; obtain ⟨vs, h1, h2⟩ := w.ob _ _ _ ea e1; exact ⟨_, .of (.lst h1), rfl⟩
  ·rename_i e1; cases e; obtain ⟨o, vs, h1, h2⟩ := w.ob _ _ _ ea e1; exact ⟨_, .of (.frz h1), rfl⟩
  ·rename_i e1; cases e; obtain ⟨ws, h1, _⟩ := w.ob _ _ _ ea e1; exact ⟨_, .of (.dK h1), rfl⟩
  ·cases e
 | _ => cases e
theorem pw {d : D} {v : V} {c : Cl} (r : RelD K mg ρ H d v) (e : clD d = some c) : ∃ cv, eG v = some cv /\ ClV mg c cv := by
 cases r with
 | ty n => cases e; exact ⟨_, rfl, rfl⟩
 | glb m => cases e; exact ⟨_, rfl, _, rfl, m⟩
 | _ => cases e
theorem
    vA : ∀ {ds : List D} {vs : List V} {cs : List Cl}, RelDs K mg ρ H ds vs -> ds.mapM clD = some cs -> ∃ cvs, vs.mapM eG = some cvs /\ Paired (ClV mg) cs cvs := by
 intro ds
 induction ds with
 |
  nil =>
  intro vs cs r e
  cases r
  have e' : some ([] : List Cl) = some cs := e
  cases e'; exact ⟨[], rfl, .nil⟩
 |
  cons d ds ih =>
  intro vs cs r e
  cases r with
  |
   cons r rr =>
   rw [List.mapM_cons] at e
   cases q : clD d with
   | none => rw [q] at e; cases e
   |
    some c =>
    rw [q] at e
    cases q2 : ds.mapM clD with
    | none => rw [q2] at e; cases e
    |
     some cs' =>
     rw [q2] at e
     have e' : some (c :: cs') = some cs := e
     cases e'
     obtain ⟨cv, h1, h2⟩ := pw r q
     obtain ⟨cvs, h3, h4⟩ := ih rr q2
     refine ⟨cv :: cvs, ?_, .cons h2 h4⟩
     rw [List.mapM_cons, h1, h3]; rfl
theorem
    sQ {kt : eI} (ok : KitsOk K mg kt) {t : Cl} {tv : Value} (ht : ClV mg t tv) : ∀ {cs : List Cl} {cvs : List Value} {b : Bool}, Paired (ClV mg) cs cvs -> eO kt t cs = some b -> PySem.W.kitAny K tv cvs = some b := by
 intro cs
 induction cs with
 |
  nil =>
  intro cvs b r e
  cases r
  cases e; rfl
 |
  cons c cs ih =>
  intro cvs b r e
  cases r with
  |
   cons r rr =>
   unfold eO at e
   unfold PySem.W.kitAny
   cases q : kit kt t c with
   | none => rw [q] at e; cases e
   |
    some z =>
    rw [q] at e
    rw [ok.one _ (lU q) _ _ ht r]
    cases z with
    | true => exact e
    | false => exact ih rr e
theorem sN : CallR X (.builtin "isinstance") (fun xs H Q => ∃ x tp cs t vs b, xs = [x, .ref tp] /\ SqT X.K H tp cs /\ TyX X.K H x t /\ cs.mapM eG = some vs /\ PySem.W.kitAny X.K t vs = some b /\ Q (.bl b) H) := by
 intro pins s σ H xs us Q I r h
 obtain ⟨x, tp, cs, t, vs, b, rfl, ht, ty, hc, hk, q⟩ := h
 obtain ⟨u, w', rfl, rx, rc⟩ := mT r
 cases rc
 obtain ⟨its, rv, ⟨o, e, c, n, d⟩, _⟩ := I.tuple ht
 obtain rfl := mf hc rv
 obtain ⟨Hh, Z, p, hne⟩ := pJ I rx ty
 obtain ⟨oc, od, odt, osl⟩ := o
 have c' : oc = .type "tuple" := c
 have d' : odt = .seq its.toArray n := d
 subst c' d'
 exact PySem.W.kia_tup Z I.kIn p e hk hne fun tk => ⟨.bl b, H, I.tok _, rfl, q⟩
theorem kx (hK : X.K = K) : CallR X (.builtin "isinstance") (fun xs H Q => (∃ x c t v b, xs = [x, c] /\ TyX K H x t /\ eG c = some v /\ PySem.W.kitOne K t v = some b /\ Q (.bl b) H) \/
  (∃ x tp cs t vs b, xs = [x, .ref tp] /\ SqT K H tp cs /\ TyX K H x t /\ cs.mapM eG = some vs /\ PySem.W.kitAny K t vs = some b /\ Q (.bl b) H)) := by subst hK; exact v7.or sN
theorem
    CB {kt : eI} (ok : KitsOk K mg kt) : bI K mg (fun xs H Q => (∃ x c t v b, xs = [x, c] /\ TyX K H x t /\ eG c = some v /\ PySem.W.kitOne K t v = some b /\ Q (.bl b) H) \/
  (∃ x tp cs t vs b, xs = [x, .ref tp] /\ SqT K H tp cs /\ TyX K H x t /\ cs.mapM eG = some vs /\ PySem.W.kitAny K t vs = some b /\ Q (.bl b) H)) (nt kt) := fun ρ h H ds vs Q E w rs p => by
 unfold nt at p
 split at p
 ·cases
     rs with
  |
   cons r rs =>
   cases rs with
   |
    cons r2 rs =>
    cases rs
    split at p
    ·rename_i t e1
     split at p
     ·split
         at p
      ·rename_i cs c0 cr e2
       split at p
       ·rename_i b b' e3 e4
        cases r2 with
        |
         tup q rs2 =>
         obtain ⟨tv, h1, h2⟩ := pB ok w r e1 e4
         obtain ⟨cvs, h3, h4⟩ := vA rs2 e2
         exact .inr ⟨_, _, _, tv, cvs, b, rfl, q, h1, h3, sQ ok h2 h4 e3, aK w (.bl _) p⟩
       ·exact p.elim
      ·exact p.elim
     ·split at p
      ·rename_i cl e2
       split at p
       ·rename_i b e3
        obtain ⟨tv, h1, h2⟩ := pB ok w r e1 e3
        obtain ⟨cv, h3, h4⟩ := pw r2 e2
        exact .inl ⟨_, _, tv, cv, b, rfl, h1, h3, ok.one _ (lU e3) _ _ h2 h4, aK w (.bl _) p⟩
       ·exact p.elim
      ·exact p.elim
    ·exact p.elim
 ·exact p.elim
end
end L2
set_option Elab.async false
set_option linter.all false
set_option maxRecDepth 100000
namespace L2
open PySem PySem.Spec PyProof.Rows
noncomputable def wO (h : AH) : D -> Bool
 | .ref n => (bG h n).isSome
 | _ => false
section
variable {K : PySem.W.Frag} {mg : Str -> Option Value} {X : Cx} {ES : St -> XK} {o e : Expr} {es : List Expr} {F G : ME} {A : MA} {pos : Pos}
end
noncomputable def xh (h : AH) (d : D) (f : Nat -> List D -> R D) : R D := match d with
 | .ref n => match h[n]? with
  | some (.lst xs) => f n xs
  | _ => .stuck
 | _ => .stuck
section
variable {K : PySem.W.Frag} {mg : Str -> Option Value} {X : Cx} {ρ : List Addr} {H : Hp} {h : AH}
inductive EqsR (K : PySem.W.Frag) (H : Hp) (y : V) (pd : PyData) : List V -> List Bool -> Prop where
 | nil : EqsR K H y pd [] []
 | cons {x : V} {px : PyData} {xs : List V} {bs : List Bool} (rx : Rep K H x px) (hx : SeqAt.shaped px = true) (r : EqsR K H y pd xs bs) : EqsR K H y pd (x :: xs) (PyData.eqv px pd :: bs)
end
noncomputable def wL (o i v : D) (h : AH) : R Unit := match o, i with
 | .ref n, .int k => match h[n]? with
  | some (.lst xs) => match ixN xs.length k with
   | some j => .ok () (h.set n (.lst (xs.set j v)))
   | none => .stuck
  | _ => .stuck
 | _, _ => .stuck
section
variable {K : PySem.W.Frag} {mg : Str -> Option Value} {X : Cx} {ES : St -> XK} {o i : Expr} {F G : ME} {pos : Pos}
theorem
    xn : rk K mg qE wL := fun ρ h H do_ di dv o i v Q E w ro ri rv p => by
 unfold wL at p
 split at p
 ·cases
     ro with
  |
   ref ea =>
   cases ri
   split at p
   ·rename_i n k xs e
    split at p
    ·rename_i j ej
     obtain ⟨vs, h1, h2⟩ := w.ob _ _ _ ea e
     have l : Le ρ H ρ (upd H _ (.lst (vs.set j v))) := qG h1 mQ
     exact ⟨_, vs, _, j, rfl, rfl, h1, by rw [<- h2.len]; exact ej, p ρ _ l (w.write ea h1 mQ ⟨_, df, (h2.set rv j).mono l⟩)⟩
    ·exact p.elim
   ·exact p.elim
 ·exact p.elim
theorem AG {t : lR} {f : D -> D -> D -> AH -> R Unit} (ho : DE K mg X ES o F) (hi : DE K mg X ES i G) (hs : rG X t) (hd : rk K mg t f)
  (ha : ∀ v, assign (.Subscript o i pos) X.env v = (do
   let ov <- holding [v] (eval o X.env)
   let iv <- holding [v, ov] (eval i X.env)
   standAt pos
   holding [v, ov, iv] (setItem ov iv v)
   release [v, ov, iv] []) := by intro _; rfl) : DG K mg X ES (.Subscript o i pos) (gS F G f) :=
 PG.imp (AJ ho hi hs ha) fun v σ H Q q_ => q_.el fun ρ h ae d w re rd p =>
  ⟨ρ, h, ae, w, re, p.bind.imp fun do_ h1 ρ1 H1 l1 w1 p1 o' ro => ⟨ρ1, h1, ae, w1, re.mono l1, p1.bind.imp fun di h2 ρ2 H2 l2 w2 p2 i' ri =>
   hd ρ2 h2 H2 do_ di d o' i' v _ _ w2 (ro.mono l2) ri ((rd.mono l1).mono l2) (p2.bind.imp fun _ h3 ρ3 H3 l3 w3 p3 => p3 ρ3 H3 Le.refl w3 σ (((re.mono l1).mono l2).mono l3))⟩⟩
end
noncomputable def cutD (xs : List D) (lo hi : Option Int) : List D := (xs.drop (HT.sIx xs.length 0 lo)).take (HT.sIx xs.length xs.length hi - HT.sIx xs.length 0 lo)
abbrev MO := AE -> AH -> R (Option Int)
noncomputable def qK : MO := fun _ h => .ok none h
noncomputable def qW (F : ME) : MO := fun ae h => (F ae h).bind fun d h1 => match d with
 | .int i => .ok (some i) h1
 | _ => .stuck
noncomputable def gSl (x : D) (lo hi : Option Int) (h : AH) : R D := match x with
 | .tup xs => if HT.sIx xs.length 0 lo = 0 /\ HT.sIx xs.length xs.length hi = xs.length then .stuck else .ok (.tup (cutD xs lo hi)) h
 | .ref n => match bG h n with
  | some xs => .ok (.ref h.length) (h ++ [.lst (cutD xs lo hi)])
  | none => .stuck
 | _ => .stuck
noncomputable def eSl (F : ME) (L U : MO) : ME := fun ae h => (F ae h).bind fun x h1 => (L ae h1).bind fun lo h2 => (U ae h2).bind fun hi h3 => gSl x lo hi h3
section
variable {K : PySem.W.Frag} {mg : Str -> Option Value} {X : Cx} {ES : St -> XK} {e : Expr} {F : ME} {L U : MO} {lo hi : Option Expr} {pos p2 : Pos}
noncomputable def rdO (K : PySem.W.Frag) (mg : Str -> Option Value) (ES : St -> XK) (F : MO) : TO := fun σ H Q => ∃ ρ h ae, Wd K mg ρ h H /\ RelE K mg ρ H ae σ /\ PostG K mg ρ H (ES σ) (fun o _ ρ' H' => Q o H') (F ae h)
noncomputable def DO (K : PySem.W.Frag) (mg : Str -> Option Value) (X : Cx) (ES : St -> XK) (e : Option Expr) (F : MO) : Prop := PO X e (rdO K mg ES F)
theorem x4 : DO K mg X ES none qK := PO.imp x5 fun σ H Q ⟨ρ, h, ae, w, re, p⟩ => p ρ H Le.refl w
theorem yt (he : DE K mg X ES e F) : DO K mg X ES (some e) (qW F) := PO.imp (xJ he) fun σ H Q ⟨ρ, h, ae, w, re, p⟩ => ⟨ρ, h, ae, w, re, p.bind.imp fun d h1 ρ1 H1 l1 w1 p1 v rv => by
 split at p1
 ·cases rv; exact ⟨_, rfl, p1 ρ1 H1 Le.refl w1⟩
 ·exact p1.elim⟩
theorem qe {ρ : List Addr} {H : Hp} {xs : List D} {vs : List V} (r : RelDs K mg ρ H xs vs) (lo hi : Option Int) : RelDs K mg ρ H (cutD xs lo hi) (jb vs lo hi) := by
 unfold cutD jb
 rw [<- r.len]
 exact (r.drop _).take _
theorem slK (h : X.K = K) : SlR X (fun x lo hi H Q => rSlL K x lo hi H Q \/ rSlT K x lo hi H Q) := by subst h; exact yD.or zy
theorem
    uK (hK : X.K = K) (he : DE K mg X ES e F) (hl : DO K mg X ES lo L) (hu : DO K mg X ES hi U) : DE K mg X ES (.Subscript e (.Slice lo hi none p2) pos) (eSl F L U) :=
 PE.imp (
     wm (slK hK) he hl hu) fun σ H Q q_ => q_.el fun ρ h ae w re p => ⟨ρ, h, ae, w, re, p.bind.imp fun d h1 ρ1 H1 l1 w1 p1 x rx => ⟨ρ1, h1, ae, w1, re.mono l1, p1.bind.imp fun lo h2 ρ2 H2 l2 w2 p2 => ⟨ρ2, h2, ae, w2, (re.mono l1).mono l2, p2.bind.imp fun hi h3 ρ3 H3 l3 w3 p3 => by
  have rx3 := (rx.mono l2).mono l3
  unfold gSl at p3
  split at p3
  ·split at p3
   ·exact p3.elim
   ·rename_i hn
    cases rx3 with
    | tup q rs => exact .inr ⟨_, _, rfl, q, by rw [<- rs.len]; exact hn, fun l hl => jY w3 (qe rs lo hi) hl p3⟩
  ·split at p3
   ·rename_i xs e1
    cases rx3 with
    |
     ref ea =>
     obtain ⟨vs, q, rs⟩ := cI w3 ea e1
     exact .inl ⟨_, _, rfl, q, fun l hl => fT w3 (qe rs lo hi) hl p3⟩
   ·exact p3.elim
  ·exact p3.elim⟩⟩⟩
end
noncomputable def oR (d : D) (h : AH) : R Bool := match d with
 | .non => .ok false h
 | .bl b => .ok b h
 | .int i => .ok (i != 0) h
 | d => match dH h d with
  | some xs => .ok (!xs.isEmpty) h
  | none => .stuck
noncomputable def tTr (F : ME) : MT := fun ae h => (F ae h).bind oR
section
variable {K : PySem.W.Frag} {mg : Str -> Option Value} {X : Cx} {ES : St -> XK} {a : Expr} {F : ME}
theorem vn (hK : X.K = K) (ha : DE K mg X ES a F) (he : ∀ whole, isTrue a X.env whole = (do let v <- whole; standAt a.pos; holding [v] (truthy v)) := by intro _; rfl) : DT K mg X ES a (tTr F) := by
 subst hK
 refine PT.imp (vv ha he) fun σ H Q q_ => q_.el fun ρ h ae w re p => ⟨ρ, h, ae, w, re, p.bind.imp fun d h1 ρ1 H1 l1 w1 p1 x rx => ?_⟩
 have items : ∀ {xs : List D}, dH h1 d = some xs -> Q (!xs.isEmpty) H1 -> ∃ k, uU X.K x H1 k /\ Q k H1 := fun {xs} e q => by
  obtain ⟨pa, vs, rfl, hq, rs⟩ := eV w1 rx e
  have ee : xs.isEmpty = vs.isEmpty := by cases rs <;> rfl
  rw [ee] at q
  rcases hq with hq | hq
  ·exact ⟨_, .inl ⟨vs, hq, rfl⟩, q⟩
  ·exact ⟨_, .inr (.inl ⟨vs, hq, rfl⟩), q⟩
 unfold oR at p1
 split at p1
 ·cases rx; exact ⟨_, rfl, p1 ρ1 H1 Le.refl w1⟩
 ·cases rx; exact ⟨_, rfl, p1 ρ1 H1 Le.refl w1⟩
 ·cases rx; exact ⟨_, rfl, p1 ρ1 H1 Le.refl w1⟩
 ·split at p1
  ·rename_i xs e1; exact items e1 (p1 ρ1 H1 Le.refl w1)
  ·exact p1.elim
end
end L2
set_option Elab.async false
set_option linter.all false
set_option maxRecDepth 100000
namespace L2
open PySem PySem.Spec PyProof.Rows
section
variable {X : Cx} {pins pins2 pn : List (Addr × Obj)} {σ : St} {H : Hp} {s : Shared} {xe : Value -> Shared -> Prop}
end
section
variable {K : PySem.W.Frag} {mg : Str -> Option Value} {X : Cx} {ES : St -> XK} {x n : Str} {C : Addr} {i : Nat} {body suite : List Stmt} {b₀ : Stmt} {B U : MS} {np hpos pos : Pos} {mro : List Str}
end
structure Script (h : AH) (d : D) (ns : List Int) : Prop where
 form : (∃ n, d = .ref n /\ h[n]? = some (.fz (ns.map D.int))) \/ d = .kl (ns.map D.int)
theorem gW {K : PySem.W.Frag} {mg : Str -> Option Value} {ρ : List Addr} {H : Hp} : ∀ (ns : List Int), RelDs K mg ρ H (ns.map D.int) (ns.map V.int)
 | [] => .nil
 | _ :: r => .cons (.int _) (gW r)
theorem uv {P : Program} {w : World} {K : PySem.W.Frag} {mg : Str -> Option Value} {base : Heap} {x y : Str} {k : Nat} {S : Fn} (C : Callee P w K mg base x k [y] (spD K mg 1 S))
  (hS : ∀ (d : D) (h : AH) (ns : List Int), ns.length <= 63 -> Script h d ns -> ∃ h', S [d] h = .ok (.bl true) h') : Callee P w K mg base x k [y] (fun vs H Q _ => ∃ (a : Addr) (ns : List Int), vs = [.ref a] /\ kZ H /\ SqL K H a (ns.map V.int) /\ ns.length <= 63 /\ ∀ H', Q (.bl true) H') := by
 refine C.imp fun vs H Q E ⟨a, ns, e, hO, hq, hl, q⟩ => ?_
 subst e
 rcases hq with (hq | ⟨o, hq⟩) | hq
 ·rcases hO a with z | ⟨o, xs, z⟩ <;> rw [hq] at z <;> cases z
 ·obtain ⟨h', e⟩ := hS (.ref 0) [.fz (ns.map D.int)] ns hl ⟨.inl ⟨0, rfl, rfl⟩⟩
  refine ⟨[a], [.fz (ns.map D.int)], [.ref 0], ⟨rfl, by simp, fun n b ob e1 e2 => ?_⟩, .cons (.ref rfl) .nil, rfl, ?_⟩
  ·cases n with
   | zero => cases e1; cases e2; exact ⟨o, _, hq, gW ns⟩
   | succ n => simp at e1
  ·rw [e]
   exact fun ρ' H' l' w' v rv => by cases rv; exact q H'
 ·obtain ⟨h', e⟩ := hS (.kl (ns.map D.int)) [] ns hl ⟨.inr rfl⟩
  refine ⟨[], [], [.kl (ns.map D.int)], ⟨rfl, by simp, fun n b ob e1 e2 => by simp at e1⟩, .cons (.kl hq (gW ns)) .nil, rfl, ?_⟩
  rw [e]
  exact fun ρ' H' l' w' v rv => by cases rv; exact q H'
theorem walk_lawD {l : PySem.W.OpenLaw} {q : Program} {loose : List Str} {XP : (Str -> Option Value) -> Heap -> Prop} {YP : World -> Heap -> Prop} {d : DefRec} {K : Params -> PySem.W.Frag} {x : Str} {k : Nat} (hn : l.most = some 63) (hdf : d.params.defaults = []) (hr : Room k callerA)
  (hY : ∀ (w : World) (h : Heap), YP w h -> (K w.params).In h)
  (F : ∀ (w : World) (mg : Str -> Option Value) (h : Heap), (K w.params).In h -> h.Ns mainGlobals mg -> ∀ base : Heap, (K w.params).In base -> base.Ns mainGlobals mg -> Callee l.prog w (K w.params) mg base d.name k [x] (fun vs H Q _ => ∃ (a : Addr) (ns : List Int), vs = [.ref a] /\ kZ H /\ SqL (K w.params) H a (ns.map V.int) /\ ns.length <= 63 /\ ∀ H', Q (.bl true) H'))
  (D : ∀ (w : World) (mg : Str -> Option Value) (h : Heap), (K w.params).In h -> h.Ns mainGlobals mg -> ∃ st, Def (K w.params) mg d.name st /\ ∀ (kV doc pm : Value) (an : Option Addr) (cdv ct : Value) (us : List Value), us.length = 1 -> bindArgs (PySem.W.fnOf d.name d.name (dN st) (cA st) (aA st) .none kV doc pm an cdv ct) ⟨us, []⟩ = pure ([x].zip us)) :
  PySem.W.WalkO q loose XP YP l.row.toRowW d [] (fun f vs => PySem.call f vs) := by
 refine L2.walk_of (n := 63) (k := k) (x := x) (CX := fun w => CX1 l.prog w) (sp := fun w => fun vs H Q _ => ∃ (a : Addr) (ns : List Int), vs = [.ref a] /\ kZ H /\ SqL (K w.params) H a (ns.map V.int) /\ ns.length <= 63 /\ ∀ H', Q (.bl true) H') hn (by decide) hdf hr hY (fun w mg fa h KX G hmg => ?_) (fun _ _ a ns hl hO hS => ⟨a, ns, rfl, hO, hS, hl, fun _ => rfl⟩) fun _ _ _ _ _ ⟨_, _, _, _, _, _, _, _, _, z⟩ => z
 obtain ⟨st, Dd, hbind⟩ := D w mg h KX G
 obtain ⟨f, fd, Ff, m⟩ := Dd.ex
 have e := hmg.symm.trans m
 cases e
 obtain ⟨oc, od, kV, doc, pm, an, cdv, ct, osl, rfl, lk, hcd⟩ := Ff.ex
 refine ⟨_, fun s u => .of_eq (hbind kV doc pm an cdv ct [u] rfl), fun base kb nb => ?_⟩
 obtain ⟨f', fd', F', m', kp', b', oc', od', osl', lk'⟩ := (F w mg h KX G base kb nb).ex
 rw [m] at m'
 cases m'
 rw [lk] at lk'
 cases lk'
 exact F'
end L2
set_option Elab.async false
set_option linter.all false
set_option maxRecDepth 100000
namespace L2
open PySem PySem.Spec PyProof.Rows
mutual
inductive Bel (N : Nat) : D -> Prop where
 | non : Bel N .non
 | bl (b : Bool) : Bel N (.bl b)
 | int (i : Int) : Bel N (.int i)
 | str (x : Str) : Bel N (.str x)
 | ty (n : String) : Bel N (.ty n)
 | glb (x : Str) : Bel N (.glb x)
 | exc (x : Str) : Bel N (.exc x)
 | tup {ds : List D} (r : Bels N ds) : Bel N (.tup ds)
 | ref {n : Nat} (h : n < N) : Bel N (.ref n)
 | kl {ds : List D} (r : Bels N ds) : Bel N (.kl ds)
inductive Bels (N : Nat) : List D -> Prop where
 | nil : Bels N []
 | cons {d : D} {ds : List D} (r : Bel N d) (rr : Bels N ds) : Bels N (d :: ds)
end
noncomputable def u5 (N : Nat) : Ob -> Prop
 | .lst xs => Bels N xs
 | .fz xs => Bels N xs
 | .dct kvs => Bels N (kvs.map (·.2))
 | _ => True
section
variable {K : PySem.W.Frag} {mg : Str -> Option Value} {ρ ρ1 ρ2 : List Addr} {H H1 : Hp} {h : AH}
end
inductive Rf (h : AH) : R D -> R D -> Prop where
 | stuck (r : R D) : Rf h r .stuck
 | eq (r : R D) : Rf h r r
 | val {d : D} {h2 g : AH} (hl : h2.length = h.length) (ho : ∀ (n : Nat) (o : Ob), h2[n]? = some o -> h[n]? = some o \/ u5 h.length o) (hd : Bel h.length d) : Rf h (.ok d (h2 ++ g)) (.ok d h2)
 | exc {c : Str} {h2 g : AH} (hl : h2.length = h.length) (ho : ∀ (n : Nat) (o : Ob), h2[n]? = some o -> h[n]? = some o \/ u5 h.length o) : Rf h (.exc c (h2 ++ g)) (.exc c h2)
 | lst {m : Nat} {h1 h2 : AH} {ys : List D} (hl : h2.length = h.length) (ho : ∀ (n : Nat) (o : Ob), h2[n]? = some o -> h[n]? = some o \/ u5 h.length o) (hs : ∀ (n : Nat) (o : Ob), h2[n]? = some o -> h1[n]? = some o) (em : h1[m]? = some (.lst ys)) (hm : h.length <= m) (hy : Bels h.length ys) : Rf h (.ok (.ref m) h1) (.ok (.ref h.length) (h2 ++ [.lst ys]))
section
variable {K : PySem.W.Frag} {mg : Str -> Option Value} {ρ : List Addr} {H : Hp} {h : AH}
end
end L2
set_option Elab.async false
set_option linter.all false
set_option maxRecDepth 100000
namespace L2
open PySem PySem.Spec PyProof.Rows
noncomputable def rO : D -> D -> AH -> R D := gOr (gI fun i j => .int (i + j)) j3
noncomputable def u9 : D -> D -> AH -> R D := gI fun i j => .int (i - j)
noncomputable def CMulA (i j : Int) : Prop := wR i j \/ CMul i j
noncomputable def uT : D -> D -> AH -> R D := gIc CMulA fun i j => .int (i * j)
noncomputable def vP : D -> D -> AH -> R D := gIc CDivB fun i j => .int (i.fdiv j)
noncomputable def vb : D -> D -> AH -> R D := gIc (fun _ j => j ≠ 0) fun i j => .int (i.fmod j)
noncomputable def vx : D -> D -> AH -> R D := gIc lg fun i j => .int (i ^ j.toNat)
noncomputable def gLt : D -> D -> AH -> R D := gI fun i j => .bl (decide (i < j))
noncomputable def gLe : D -> D -> AH -> R D := gI fun i j => .bl (decide (i <= j))
noncomputable def gGt : D -> D -> AH -> R D := gI fun i j => .bl (decide (j < i))
noncomputable def gGe : D -> D -> AH -> R D := gI fun i j => .bl (decide (j <= i))
noncomputable def rb : D -> AH -> R D := fun x h => match x with
 | .int i => .ok (.int (-i)) h
 | _ => .stuck
noncomputable def qL (n : Nat) (S : Fn) (A : MA) : ME := eFn (fun ds h => if ds.length = n then S ds h else .stuck) A
section
variable {K : PySem.W.Frag} {mg : Str -> Option Value} {X : Cx}
theorem aO (h : X.K = K) : OpR X (binaryOp .Add) (fun x y H Q => rI0 (fun i j => .int (i + j)) x y H Q \/ (lV x y H Q \/ (jw K x y H Q \/ jz K x y H Q))) := Cs.or (catK h)
theorem Bb : OpD K mg (fun x y H Q => rI0 (fun i j => .int (i + j)) x y H Q \/ (lV x y H Q \/ (jw K x y H Q \/ jz K x y H Q))) rO := (gJ fun _ _ _ _ => .int _).or xP
theorem B2 : OpD K mg (rI0 fun i j => .int (i - j)) u9 := gJ fun _ _ _ _ => .int _
theorem ba : OpR X (binaryOp .Mult) (rI CMulA fun i j => .int (i * j)) := by
 intro pins s σ H x y v u Q I rx ry h
 obtain ⟨i, j, e1, e2, hc, q⟩ := h
 rcases hc with hc | hc
 ·exact xo pins s σ H x y v u Q I rx ry ⟨i, j, e1, e2, hc, q⟩
 ·exact A7 pins s σ H x y v u Q I rx ry ⟨i, j, e1, e2, hc, q⟩
theorem BR : OpD K mg (rI CMulA fun i j => .int (i * j)) uT := mG fun _ _ _ _ => .int _
theorem Ak : OpD K mg (rI CDivB fun i j => .int (i.fdiv j)) vP := mG fun _ _ _ _ => .int _
theorem Cf : OpD K mg (rI (fun _ j => j ≠ 0) fun i j => .int (i.fmod j)) vb := mG fun _ _ _ _ => .int _
theorem BN : OpD K mg (rI lg fun i j => .int (i ^ j.toNat)) vx := mG fun _ _ _ _ => .int _
theorem DR : OpD K mg (rI0 fun i j => .bl (decide (i < j))) gLt := gJ fun _ _ _ _ => .bl _
theorem Ef : OpD K mg (rI0 fun i j => .bl (decide (i <= j))) gLe := gJ fun _ _ _ _ => .bl _
theorem D5 : OpD K mg (rI0 fun i j => .bl (decide (j < i))) gGt := gJ fun _ _ _ _ => .bl _
theorem Eu : OpD K mg (rI0 fun i j => .bl (decide (j <= i))) gGe := gJ fun _ _ _ _ => .bl _
theorem AF : UnD K mg (rU fun i => .int (-i)) rb := fun ρ h H dx x Q E w rx p => by
 unfold rb at p
 split at p
 ·cases rx; exact ⟨_, rfl, aK w (.int _) p⟩
 ·exact p.elim
variable {ES : St -> XK} {e : Expr} {es : List Expr} {A : MA} {pos : Pos}
theorem vB {x : Str} {p : Pos} {k n : Nat} {ps : List Str} {S : Fn} (C : Callee X.prog X.w X.K X.mg X.base x k ps (spD K mg n S)) (hr : Room k X.A) (hg : Gl X x) (hx : kg X ES) (ha : DA K mg X ES (e :: es) A)
  (hdb : (x == ("__debug__" : Str)) = false := by decide) (he : starEach (e :: es) X.env = (false, eval e X.env) :: starEach es X.env := by rfl) (hpl : (backTo pos (starEach es X.env)).any (·.1) = false := by rfl) :
  DE K mg X ES (.Call (.Name x p) (e :: es) [] pos) (qL n S A) := yh C hr hg hx ha hdb he hpl
end
section
variable {ae : AE} {h : AH}
@[simp] theorem gP {α β : Type} (a : α) (h : AH) (f : α -> AH -> R β) : (R.ok a h).bind f = f a h := rfl
end
end L2
set_option Elab.async false
set_option linter.all false
set_option maxRecDepth 100000
namespace L2
open PySem PySem.Spec PyProof.Rows
theorem mm {pd : PyData} (h1 : pd.canLay0 = true) (h2 : pd.depth <= 64) : SeqAt.shaped pd = true := by
 unfold SeqAt.shaped
 rw [h1, decide_eq_true h2]; rfl
noncomputable def Sm (n : Nat) (x : Int) : Prop := x.natAbs < 2 ^ n
theorem Sm.mono {n m : Nat} {x : Int} (h : Sm n x) (l : n <= m) : Sm m x := Nat.lt_of_lt_of_le h (Nat.pow_le_pow_right (by omega) l)
theorem Sm.mul {n m : Nat} {x y : Int} (h : Sm n x) (k : Sm m y) : Sm (n + m) (x * y) := by
 unfold Sm at *
 rw [Int.natAbs_mul, Nat.pow_add]
 exact Nat.mul_lt_mul'' h k
theorem Sm.add' {n : Nat} {x y : Int} (h : Sm n x) (k : Sm n y) : Sm (n + 1) (x + y) := by
 unfold Sm at *
 have h3 : 2 ^ (n + 1) = 2 ^ n + 2 ^ n := by rw [Nat.pow_succ]; omega
 have h4 : (x + y).natAbs <= x.natAbs + y.natAbs := Int.natAbs_add_le x y
 omega
theorem Sm.bits {n : Nat} {x : Int} (h : Sm n x) : Builtin.Int.intBits x <= n := intBits_le_iff.mpr h
theorem Sm.of_le {n : Nat} {x y : Int} (h : Sm n y) (l : x.natAbs <= y.natAbs) : Sm n x := Nat.lt_of_le_of_lt l h
theorem CMulA.of {n m : Nat} {x y : Int} (h : Sm n x) (k : Sm m y) (hn : n <= 100000) (hm : m <= 100000) : CMulA x y := .inl ⟨Nat.le_trans h.bits hn, Nat.le_trans k.bits hm⟩
theorem CMulA.left {x y : Int} (h : -(2 ^ 64) < x) (k : x < 2 ^ 64) : CMulA x y := .inr (.inl ⟨h, k⟩)
theorem CMulA.right {x y : Int} (h : -(2 ^ 64) < y) (k : y < 2 ^ 64) : CMulA x y := .inr (.inr ⟨h, k⟩)
theorem CDivB.of {x y : Int} (h0 : y ≠ 0) (h : Sm 8000 y) : CDivB x y := ⟨h0, h.bits⟩
structure Sz (n : Nat) (q : Rat) : Prop where
 top : Sm n q.num
 bot : Sm n (q.den : Int)
theorem Sz.mono {n m : Nat} {q : Rat} (h : Sz n q) (l : n <= m) : Sz m q := ⟨h.top.mono l, h.bot.mono l⟩
theorem t5 {a b : Int} (hb : b ≠ 0) : ((a : Rat) / (b : Rat)).num * b = a * ((a : Rat) / (b : Rat)).den := by
 have h2 := Rat.num_divInt_den ((a : Rat) / (b : Rat))
 have h3 : Rat.divInt ((a : Rat) / (b : Rat)).num (((a : Rat) / (b : Rat)).den : Int) = Rat.divInt a b := by rw [h2, Rat.divInt_eq_div]
 exact (Rat.divInt_eq_divInt_iff (by have := ((a : Rat) / (b : Rat)).den_nz; omega) hb).mp h3
theorem p8 (q : Rat) : Int.gcd q.num q.den = 1 := by
 have := q.reduced
 exact this
theorem mS {a b : Int} (hb : b ≠ 0) : Fr.T a b = ((a : Rat) / (b : Rat)).num /\ Fr.B a b = (((a : Rat) / (b : Rat)).den : Int) := by
 refine Fr.uniq (Fr.B_pos hb) (by have := ((a : Rat) / (b : Rat)).den_pos; omega) (Fr.low hb) (p8 _) ?_
 have h1 := Fr.cross (a := a) hb
 have h2 := t5 (a := a) hb
 generalize ((a : Rat) / (b : Rat)).num = n at *
 generalize (((a : Rat) / (b : Rat)).den : Int) = d at *
 generalize Fr.T a b = x at *
 generalize Fr.B a b = y at *
 have h3 : (x * d) * b = (n * y) * b := by
  calc x * d * b = (x * b) * d := by rw [Int.mul_right_comm]
   _ = a * y * d := by rw [h1]
   _ = (a * d) * y := by rw [Int.mul_right_comm]
   _ = n * b * y := by rw [h2]
   _ = n * y * b := by rw [Int.mul_right_comm]
 exact Int.eq_of_mul_eq_mul_right hb h3
theorem rZ {a b : Int} (hb : b ≠ 0) : ((a : Rat) / (b : Rat)).num.natAbs <= a.natAbs := by
 have h := (mS (a := a) hb).1
 rw [<- h]
 have h1 := Fr.T_mul (a := a) hb
 have h2 := Fr.dv_ne (a := a) hb
 have h3 : (Fr.T a b).natAbs * (Fr.dv a b).natAbs = a.natAbs := by rw [<- Int.natAbs_mul, h1]
 have h4 : 1 <= (Fr.dv a b).natAbs := by omega
 calc (Fr.T a b).natAbs = (Fr.T a b).natAbs * 1 := by omega
  _ <= (Fr.T a b).natAbs * (Fr.dv a b).natAbs := Nat.mul_le_mul_left _ h4
  _ = a.natAbs := h3
theorem rn {a b : Int} (hb : b ≠ 0) : ((((a : Rat) / (b : Rat)).den : Int)).natAbs <= b.natAbs := by
 have h := (mS (a := a) hb).2
 rw [<- h]
 have h1 := Fr.B_mul (a := a) hb
 have h2 := Fr.dv_ne (a := a) hb
 have h3 : (Fr.B a b).natAbs * (Fr.dv a b).natAbs = b.natAbs := by rw [<- Int.natAbs_mul, h1]
 have h4 : 1 <= (Fr.dv a b).natAbs := by omega
 calc (Fr.B a b).natAbs = (Fr.B a b).natAbs * 1 := by omega
  _ <= (Fr.B a b).natAbs * (Fr.dv a b).natAbs := Nat.mul_le_mul_left _ h4
  _ = b.natAbs := h3
theorem Sz.div {n m : Nat} {a b : Int} (hb : b ≠ 0) (ha : Sm n a) (hb' : Sm m b) (k : Nat) (h1 : n <= k) (h2 : m <= k) : Sz k ((a : Rat) / (b : Rat)) :=
 ⟨(ha.of_le (rZ hb)).mono h1, (hb'.of_le (rn hb)).mono h2⟩
theorem dh (q : Rat) : (q.den : Int) ≠ 0 := by have := q.den_nz; omega
theorem fF (q : Rat) : q = (q.num : Rat) / ((q.den : Int) : Rat) := by
 have := Rat.num_divInt_den q
 rw [Rat.divInt_eq_div] at this
 exact this.symm
theorem kq {b : Int} (h : b ≠ 0) : (b : Rat) ≠ 0 := by
 intro z
 exact h (by exact_mod_cast z)
theorem pE (p q : Rat) : p + q = ((p.num * q.den + q.num * p.den : Int) : Rat) / ((p.den * q.den : Int) : Rat) := by
 have h1 := kq (dh p)
 have h2 := kq (dh q)
 conv => lhs; rw [fF p, fF q]
 simp only [Rat.intCast_add, Rat.intCast_mul]
 grind
theorem pM (p q : Rat) : p * q = ((p.num * q.num : Int) : Rat) / ((p.den * q.den : Int) : Rat) := by
 have h1 := kq (dh p)
 have h2 := kq (dh q)
 conv => lhs; rw [fF p, fF q]
 simp only [Rat.intCast_mul]
 grind
theorem Sz.add {n m : Nat} {p q : Rat} (hp : Sz n p) (hq : Sz m q) : Sz (n + m + 1) (p + q) := by
 rw [pE]
 have h1 := (hp.top.mul hq.bot)
 have h2 := (hq.top.mul hp.bot)
 exact Sz.div (by have := dh p; have := dh q; exact Int.mul_ne_zero ‹_› ‹_›) (h1.add' (by rw [Nat.add_comm n m]; exact h2)) (hp.bot.mul hq.bot) _ (by omega) (by omega)
theorem Sz.mul {n m : Nat} {p q : Rat} (hp : Sz n p) (hq : Sz m q) : Sz (n + m) (p * q) := by
 rw [pM]
 exact Sz.div (by have := dh p; have := dh q; exact Int.mul_ne_zero ‹_› ‹_›) (hp.top.mul hq.top) (hp.bot.mul hq.bot) _ (by omega) (by omega)
theorem ya {q : Rat} : 0 < q.num ↔ 0 < q := by
 have h1 := Rat.num_nonneg (q := q)
 have h2 := Rat.num_eq_zero (q := q)
 constructor
 ·intro h
  refine Rat.lt_of_le_of_ne (h1.mp (by omega)) fun z => ?_
  have := h2.mpr z.symm
  omega
 ·intro h
  have h3 := h1.mpr (Rat.le_of_lt h)
  have h4 : q.num ≠ 0 := fun z => (Rat.ne_of_lt h) (h2.mp z).symm
  omega
theorem Ax (p q : Rat) : p < q ↔ p.num * q.den < q.num * p.den := Rat.lt_iff p q
section
variable {α β : Type} (ae : AE) (h : AH)
end
noncomputable def Vl (mg : Str -> Option Value) (c : Cl) (u : Value) : Prop := match c with
 | .b n => u = .type n
 | .o x => mg x = some u
theorem Et {K : PySem.W.Frag} {mg : Str -> Option Value} {c d : Cl} {tu cu t v : Value} {b : Bool} (e : PySem.W.kitOne K tu cu = some b) (hc : Vl mg c tu) (hd : Vl mg d cu) (h1 : ClV mg c t) (h2 : ClV mg d v) : PySem.W.kitOne K t v = some b := by
 have f : ∀ {c : Cl} {u t : Value}, Vl mg c u -> ClV mg c t -> u = t := by
  intro c u t h1 h2
  cases c with
  | b n => exact (show u = _ from h1).trans (show t = _ from h2).symm
  |
   o x =>
   obtain ⟨a, rfl, m⟩ := h2
   have h1' : mg x = some u := h1
   rw [m] at h1'
   exact (Option.some.inj h1').symm
 rw [<- f hc h1, <- f hd h2]
 exact e
theorem uy {K : PySem.W.Frag} {mg : Str -> Option Value} : KitsOk K mg [] := ⟨fun p hp => (nomatch hp), fun p hp => (nomatch hp)⟩
theorem aG {K : PySem.W.Frag} {mg : Str -> Option Value} {c d : Cl} {tu cu : Value} {b : Bool} {kt : eI} (e : PySem.W.kitOne K tu cu = some b) (hc : Vl mg c tu) (hd : Vl mg d cu) (hx : ∀ x C, c = .o x -> mg x = some (.ref C) -> XCls K C) (r : KitsOk K mg kt) : KitsOk K mg ((c, d, b) :: kt) :=
 ⟨fun p hp t v h1 h2 => by
  rcases List.mem_cons.mp hp with rfl | hp
  ·exact Et e hc hd h1 h2
  ·exact r.one p hp t v h1 h2, fun p hp x C e' m => by
  rcases List.mem_cons.mp hp with rfl | hp
  ·exact hx x C e' m
  ·exact r.xc p hp x C e' m⟩
theorem bg {K : PySem.W.Frag} {mg : Str -> Option Value} {n : String} : ∀ x C, Cl.b n = .o x -> mg x = some (.ref C) -> XCls K C := fun _ _ e => nomatch e
theorem BG {K : PySem.W.Frag} {h : Heap} {mg : Str -> Option Value} {x : Str} {i : Int} {t : Tok} (X : K.In h) (G : h.Ns mainGlobals mg) (e : PySem.W.nsIn K mainGlobals x = some (some (.int i t))) : GC K mg x (.int i) :=
 ⟨_, .int i, PySem.W.mg_of X G e, ⟨t, rfl⟩, fun _ _ => .int i⟩
end L2
set_option Elab.async false
set_option linter.all false
set_option maxRecDepth 100000
namespace L2
open PySem PySem.Spec PyProof.Rows
section
variable {K : PySem.W.Frag} {mg : Str -> Option Value} {X : Cx} {ES : St -> XK} {pos : Pos}
end
end L2
set_option Elab.async false
set_option linter.all false
set_option maxRecDepth 100000
set_option maxHeartbeats 1000000
namespace L2
open PySem PySem.Spec PyProof.Rows
variable {K : PySem.W.Frag} {mg : Str -> Option Value}
end L2
set_option Elab.async false
set_option linter.all false
set_option maxRecDepth 100000
namespace L2
open PySem PySem.Spec PyProof.Rows
section
variable {K : PySem.W.Frag} {mg : Str -> Option Value} {X : Cx} {ES : St -> XK} {e : Expr} {es : List Expr} {A : MA} {pos : Pos}
end
end L2
set_option Elab.async false
set_option linter.all false
set_option maxRecDepth 100000
namespace L2
open PySem PySem.Spec PyProof.Rows
section
variable {K : PySem.W.Frag} {mg : Str -> Option Value} {X : Cx} {ES : St -> XK} {e a b c o lo hi : Expr} {F G L U : ME} {pos p2 : Pos} {ρ : List Addr} {H : Hp} {h : AH} {ae : AE}
theorem m9 {β : Type} {i : Nat} {E : XK} {k : β -> AH -> List Addr -> Hp -> Prop} {f : D -> AH -> R β} (p : PostG K mg ρ H E k ((cP i ae h).bind f)) : ∃ d, ae[i]? = some (some d) /\ PostG K mg ρ H E k (f d h) := by
 unfold cP at p
 split at p
 ·exact ⟨_, by assumption, p⟩
 ·exact p.elim
theorem oz {i : Nat} {r r' : R2} {g g' : D -> D -> AH -> R D} (hd : OpD K mg r g) (hd' : OpD K mg r' g') (σ : St) (H : Hp) (Q : VK) (q : rdE K mg ES (jR (eOp g F (cP i)) (eOp g' (cP i) G)) σ H Q) : nC r r' (rdE K mg ES F) (tVar i) (rdE K mg ES G) σ H Q := by
 obtain ⟨ρ, h, ae, w, re, p⟩ := q
 refine ⟨ρ, h, ae, w, re, (PostG.bind (PostG.bind p)).imp fun dx h1 ρ1 H1 l1 w1 p1 x rx => ?_⟩
 obtain ⟨d, ed, p2⟩ := m9 p1
 obtain ⟨v, ev, rv⟩ := re.at_ i d ed
 refine ⟨v, ev, hd ρ1 h1 H1 dx d x v _ (ES σ) w1 rx (rv.mono l1) (p2.imp fun z h3 ρ3 H3 l3 w3 p3 vz rz => ?_)⟩
 unfold asB at p3
 split at p3
 ·rename_i b'
  cases rz
  refine ⟨b', rfl, ?_⟩
  cases b' with
  |
   true =>
   obtain ⟨d', ed', p4⟩ := m9 p3
   rw [ed] at ed'
   cases ed'
   exact ⟨ρ3, h3, ae, w3, (re.mono l1).mono l3, (PostG.bind p4).imp fun dw h5 ρ5 H5 l5 w5 p5 w' rw' => hd' ρ5 h5 H5 d dw v w' Q _ w5 (((rv.mono l1).mono l3).mono l5) rw' p5⟩
  | false => exact p3 ρ3 H3 Le.refl w3 _ (.bl false)
 ·exact p3.elim
theorem
    yI {Q : Bool -> Hp -> Prop} {E : XK} {A B : ME} (p : qz K mg ρ H Q E (tAn (tOf A) (tOf B) ae h)) : eU K mg ρ H (fun x H' => ∃ k, x = .bl k /\ Q k H') E (jR A B ae h) := by
 unfold tAn tOf at p
 unfold jR
 cases qa : A ae h with
 | stuck => rw [qa] at p; exact p
 | exc c h1 => rw [qa] at p; exact p
 |
  ok x h1 =>
  rw [qa] at p
  cases x with
  |
   bl b =>
   cases b with
   |
    true =>
    change PostG K mg ρ H E _ ((B ae h1).bind asB) at p
    show PostG K mg ρ H E _ (B ae h1)
    cases qb : B ae h1 with
    | stuck => rw [qb] at p; exact p
    | exc c h2 => rw [qb] at p; exact p
    |
     ok y h2 =>
     rw [qb] at p
     cases y with
     | bl b2 => exact fun ρ' H' l w v rv => by cases rv; exact ⟨b2, rfl, p ρ' H' l w⟩
     | _ => exact p.elim
   | false => exact fun ρ' H' l w v rv => by cases rv; exact ⟨false, rfl, p ρ' H' l w⟩
  | _ => exact p.elim
theorem uW (i : Nat) {x : Str} {px : Pos} {op op' : CmpOp} {r r' : R2} {g g' : D -> D -> AH -> R D} (ho : OpR X (compareOp op) r) (hd : OpD K mg r g) (ho' : OpR X (compareOp op') r') (hd' : OpD K mg r' g') (ha : DE K mg X ES a F) (hc : DE K mg X ES c G) (hN : X.N[i]? = some x := by rfl) (hv : Vis X.env.scope x := by first | exact Or.inl rfl | exact Or.inr (Or.inl rfl) | exact Or.inr (Or.inr rfl)) (hx : (x == ("__debug__" : Str)) = false := by decide)
  (hcd : (x == ("__classdict__" : Str)) = false := by decide) (hm : lastMarks [op, op'] [.Name x px, c] = false := by with_unfolding_all rfl) : DE K mg X ES (.Compare a [op, op'] [.Name x px, c] pos) (jR (eOp g F (cP i)) (eOp g' (cP i) G)) :=
 PE.imp (vL ho ho' ha (nW hN hv hx hcd) hc hm) (oz hd hd')
theorem vY (i : Nat) {x : Str} {px : Pos} {op op' : CmpOp} {r r' : R2} {g g' : D -> D -> AH -> R D} (ho : OpR X (compareOp op) r) (hd : OpD K mg r g) (ho' : OpR X (compareOp op') r') (hd' : OpD K mg r' g') (ha : DE K mg X ES a F) (hc : DE K mg X ES c G) (hN : X.N[i]? = some x := by rfl) (hv : Vis X.env.scope x := by first | exact Or.inl rfl | exact Or.inr (Or.inl rfl) | exact Or.inr (Or.inr rfl)) (hx : (x == ("__debug__" : Str)) = false := by decide)
  (hcd : (x == ("__classdict__" : Str)) = false := by decide) (hm : lastMarks [op, op'] [.Name x px, c] = false := by with_unfolding_all rfl) : DT K mg X ES (.Compare a [op, op'] [.Name x px, c] pos) (tAn (tOf (eOp g F (cP i))) (tOf (eOp g' (cP i) G))) :=
 PT.imp (vD ho ho' ha (nW hN hv hx hcd) hc hm) fun σ H Q q_ => q_.el fun ρ h ae w re p => oz hd hd' σ H _ ⟨ρ, h, ae, w, re, yI p⟩
noncomputable def tStS (to tl th : TE) : TG := fun v σ H Q => to σ H fun o H1 => tl σ H1 fun i H2 => th σ H2 fun j H3 => ∃ (l b : Addr) (xs ys : List V) (m n : Int), o = .ref l /\ v = .ref b /\ i = .int m /\ j = .int n /\ H3 l = some (.lst xs) /\ H3 b = some (.lst ys) /\ l ≠ b /\ 0 <= m /\ m <= n /\ n <= xs.length /\ xs.length + ys.length <= sizeLine /\ Q σ (upd H3 l (.lst (xs.take m.toNat ++ ys ++ xs.drop n.toNat)))
theorem uo {to tl th : TE} (ho : PE X o to) (hl : PE X lo tl) (hu : PE X hi th)
  (ha : ∀ v, assign (.Subscript o (.Slice (some lo) (some hi) none p2) pos) X.env v = (do
   let ov <- holding [v] (eval o X.env)
   let iv <- holding [v, ov] (eval (.Slice (some lo) (some hi) none p2) X.env)
   standAt pos
   holding [v, ov, iv] (setItem ov iv v)
   release [iv, v, ov] []) := by intro _; rfl) : PG X (.Subscript o (.Slice (some lo) (some hi) none p2) pos) (tStS to tl th) := by
 intro pins s σ H v u Q I r h
 rw [ha]
 refine wpAny_bind (wpAny_holding (thn (ho pins s σ H _ I h) fun ov s1 ⟨x, H1, I1, r1, q1⟩ => ?_))
 refine wpAny_bind (wpAny_holding ?_)
 refine wpAny_Slice ?_
 rw [evalPart_some, evalPart_some]
 refine thn (hl pins s1 σ H1 _ I1 q1) fun vl s2 ⟨y, H2, I2, r2, q2⟩ => thn (hu pins s2 σ H2 _ I2 q2) fun vu s3 ⟨z, H3, I3, r3, q3⟩ => ?_
 rw [evalPart_none]
 refine wpAny_pure ?_
 have I4 : Inv X pins σ H3 { s3 with heap := s3.heap.push { cls := .type "slice", data := .fields #[vl, vu, .none] } } := I3.kept (t' := s3.toks) fun b ob q => Heap.get?_push_of_some _ q
 obtain ⟨l, b, xs, ys, m, n, e1, e2, e3, e4, hx, hy, hne, h0, hmn, hn, hz, q⟩ := q3
 subst e1 e2 e3 e4
 cases r
 cases r1
 refine wpAny_bind (wpAny_standAt (wpAny_bind (wpAny_holding (sg I4 hx hy hne (Heap.IsSliceOf.new ..) r2 r3 h0 hmn hn hz fun s4 I5 => ?_))))
 exact wpAny_release ⟨σ, _, I5, q⟩
noncomputable def wSl (o i v : D) (h : AH) : R Unit := match o, i, v with
 | .ref n, .tup [.int a, .int c], .ref m => match h[n]?, h[m]? with
  | some (.lst xs), some (.lst ys) => if n ≠ m /\ 0 <= a /\ a <= c /\ c <= xs.length /\ xs.length + ys.length <= 16777216 then .ok () (h.set n (.lst (xs.take a.toNat ++ ys ++ xs.drop c.toNat))) else .stuck
  | _, _ => .stuck
 | _, _, _ => .stuck
theorem
    vZ (ho : DE K mg X ES o F) (hl : DE K mg X ES lo L) (hu : DE K mg X ES hi U)
  (ha : ∀ v, assign (.Subscript o (.Slice (some lo) (some hi) none p2) pos) X.env v = (do
   let ov <- holding [v] (eval o X.env)
   let iv <- holding [v, ov] (eval (.Slice (some lo) (some hi) none p2) X.env)
   standAt pos
   holding [v, ov, iv] (setItem ov iv v)
   release [iv, v, ov] []) := by intro _; rfl) : DG K mg X ES (.Subscript o (.Slice (some lo) (some hi) none p2) pos) (gS F (eFn jB (kJ L (kJ U rP))) wSl) :=
 PG.imp (
     uo ho hl hu ha) fun v σ H Q q_ => q_.el fun ρ h ae d w re rd p =>
  ⟨ρ,
    h, ae, w, re, p.bind.imp fun do_ h1 ρ1 H1 l1 w1 p1 o' ro => ⟨ρ1, h1, ae, w1, re.mono l1, (PostG.bind (PostG.bind (PostG.bind p1))).imp fun d1 h2 ρ2 H2 l2 w2 p2 i' ri => ⟨ρ2, h2, ae, w2, (re.mono l1).mono l2, (PostG.bind (PostG.bind p2)).imp fun d2 h3 ρ3 H3 l3 w3 p3 j' rj => by
   have p4 : PostG K mg ρ3 H3 (ES σ) (fun ae' _ ρ' H' => ∀ σ', RelE K mg ρ' H' ae' σ' -> Q σ' H') ((wSl do_ (.tup [d1, d2]) d h3).bind fun _ h4 => .ok ae h4) := ((p3 ρ3 H3 Le.refl w3) ρ3 H3 Le.refl w3) ρ3 H3 Le.refl w3
   have ro3 := (ro.mono l2).mono l3
   have rd3 := ((rd.mono l1).mono l2).mono l3
   have ri3 := ri.mono l3
   unfold wSl at p4
   split at p4
   ·rename_i n a c m e1
    cases e1
    cases ri3
    cases rj
    cases ro3 with
    |
     ref ea =>
     cases rd3 with
     |
      ref eb =>
      split at p4
      ·rename_i xs ys e1 e2
       split at p4
       ·rename_i hc
        obtain ⟨hnm, h0, hac, hcl, hz⟩ := hc
        obtain ⟨vs, q1, r1⟩ := w3.ob _ _ _ ea e1
        obtain ⟨us, q2, r2⟩ := w3.ob _ _ _ eb e2
        have l' := qG (ρ := ρ3) (o := .lst (vs.take a.toNat ++ us ++ vs.drop c.toNat)) q1 mQ
        refine ⟨_, _, vs, us, a, c, rfl, rfl, rfl, rfl, q1, q2, fun z => hnm ?_, h0, hac, by rw [<- r1.len]; exact hcl, by rw [<- r1.len, <- r2.len]; exact hz, p4 ρ3 _ l' (w3.write ea q1 mQ ⟨_, df, (((r1.take _).append r2).append (r1.drop _)).mono l'⟩) σ ((((re.mono l1).mono l2).mono l3).mono l')⟩
        subst z
        have hn := (List.getElem?_eq_some_iff.mp ea).1
        exact (List.getElem?_inj hn w3.nd).mp (by rw [ea, eb])
       ·exact p4.elim
      ·exact p4.elim
   ·exact p4.elim⟩⟩⟩
end
end L2
set_option Elab.async false
set_option linter.all false
set_option maxRecDepth 100000
namespace L3
open PySem PySem.Spec PyProof.Rows L2
set_option genInjectivity true in
inductive Val where
 | non | bl (b : Bool) | int (i : Int) | str (x : Str) | ty (n : String) | glb (x : Str) | exc (x : Str)
 | tup (xs : List Val) | lst (xs : List Val) | kl (xs : List Val) | dct (kvs : List (Key × Val)) | set (xs : List Int)
 deriving Inhabited
mutual
inductive Rd (P : Nat -> Prop) (h : AH) : D -> Val -> Prop where
 | non : Rd P h .non .non
 | bl (b : Bool) : Rd P h (.bl b) (.bl b)
 | int (i : Int) : Rd P h (.int i) (.int i)
 | str (x : Str) : Rd P h (.str x) (.str x)
 | ty (n : String) : Rd P h (.ty n) (.ty n)
 | glb (x : Str) : Rd P h (.glb x) (.glb x)
 | exc (x : Str) : Rd P h (.exc x) (.exc x)
 | tup {ds : List D} {vs : List Val} (r : Rds P h ds vs) : Rd P h (.tup ds) (.tup vs)
 | kl {ds : List D} {vs : List Val} (r : Rds P h ds vs) : Rd P h (.kl ds) (.kl vs)
 | cell {n : Nat} {o : Ob} {v : Val} (p : P n) (e : h[n]? = some o) (r : Rc P h o v) : Rd P h (.ref n) v
inductive Rc (P : Nat -> Prop) (h : AH) : Ob -> Val -> Prop where
 | lst {ds : List D} {vs : List Val} (r : Rds P h ds vs) : Rc P h (.lst ds) (.lst vs)
 | fz {ds : List D} {vs : List Val} (r : Rds P h ds vs) : Rc P h (.fz ds) (.kl vs)
 | dct {ws : List (Key × D)} {us : List (Key × Val)} (r : Rk P h ws us) : Rc P h (.dct ws) (.dct us)
 | set (xs : List Int) : Rc P h (.set xs) (.set xs)
inductive Rds (P : Nat -> Prop) (h : AH) : List D -> List Val -> Prop where
 | nil : Rds P h [] []
 | cons {d : D} {v : Val} {ds : List D} {vs : List Val} (r : Rd P h d v) (rr : Rds P h ds vs) : Rds P h (d :: ds) (v :: vs)
inductive Rk (P : Nat -> Prop) (h : AH) : List (Key × D) -> List (Key × Val) -> Prop where
 | nil : Rk P h [] []
 | cons {k : Key} {d : D} {v : Val} {ds : List (Key × D)} {vs : List (Key × Val)} (r : Rd P h d v) (rr : Rk P h ds vs) : Rk P h ((k, d) :: ds) ((k, v) :: vs)
end
section
variable {P P' : Nat -> Prop} {h h' : AH}
abbrev Mov (P P' : Nat -> Prop) (h h' : AH) : Prop := ∀ n o, P n -> h[n]? = some o -> P' n /\ h'[n]? = some o
theorem Rd.mono (m : Mov P P' h h') {d : D} {v : Val} (r : Rd P h d v) : Rd P' h' d v := @Rd.rec P h (fun d v _ => Rd P' h' d v) (fun o v _ => Rc P' h' o v) (fun ds vs _ => Rds P' h' ds vs) (fun ws us _ => Rk P' h' ws us) .non (fun b => .bl b) (fun i => .int i) (fun x => .str x) (fun n => .ty n) (fun x => .glb x) (fun x => .exc x) (fun _ ih => .tup ih) (fun _ ih => .kl ih) (fun p e _ ih => .cell (m _ _ p e).1 (m _ _ p e).2 ih) (fun _ ih => .lst ih) (fun _ ih => .fz ih) (fun _ ih => .dct ih) (fun xs => .set xs) .nil (fun _ _ a b => .cons a b) .nil (fun _ _ a b => .cons a b) d v r
theorem Rds.ind {M : List D -> List Val -> Prop} (h0 : M [] []) (h1 : ∀ {d v ds vs}, Rd P h d v -> Rds P h ds vs -> M ds vs -> M (d :: ds) (v :: vs)) {ds : List D} {vs : List Val} (r : Rds P h ds vs) : M ds vs := by
 induction ds generalizing vs with
 | nil => cases r; exact h0
 |
  cons d ds ih =>
  cases r with
  | cons r rr => exact h1 r rr (ih rr)
theorem Rk.ind {M : List (Key × D) -> List (Key × Val) -> Prop} (h0 : M [] []) (h1 : ∀ {k d v ds vs}, Rd P h d v -> Rk P h ds vs -> M ds vs -> M ((k, d) :: ds) ((k, v) :: vs)) {ds : List (Key × D)} {vs : List (Key × Val)} (r : Rk P h ds vs) : M ds vs := by
 induction ds generalizing vs with
 | nil => cases r; exact h0
 |
  cons d ds ih =>
  cases r with
  | cons r rr => exact h1 r rr (ih rr)
theorem Rds.mono (m : Mov P P' h h') {d : List D} {v : List Val} (r : Rds P h d v) : Rds P' h' d v := r.ind .nil fun r _ ih => .cons (r.mono m) ih
theorem Rk.mono (m : Mov P P' h h') {d : List (Key × D)} {v : List (Key × Val)} (r : Rk P h d v) : Rk P' h' d v := r.ind .nil fun r _ ih => .cons (r.mono m) ih
theorem Rc.mono (m : Mov P P' h h') {d : Ob} {v : Val} (r : Rc P h d v) : Rc P' h' d v := by
 cases r with
 | lst r => exact .lst (r.mono m)
 | fz r => exact .fz (r.mono m)
 | dct r => exact .dct (r.mono m)
 | set xs => exact .set xs
theorem Rds.len {ds : List D} {vs : List Val} (r : Rds P h ds vs) : ds.length = vs.length := r.ind (M := fun ds vs => ds.length = vs.length) rfl fun _ _ ih => congrArg (· + 1) ih
theorem Rds.get {ds : List D} {vs : List Val} {i : Nat} {v : Val} (r : Rds P h ds vs) (e : vs[i]? = some v) : ∃ d, ds[i]? = some d /\ Rd P h d v :=
 r.ind (M := fun ds vs => ∀ i, vs[i]? = some v -> ∃ d, ds[i]? = some d /\ Rd P h d v) (fun _ e => by rw [List.getElem?_nil] at e; cases e) (fun r _ ih i e => match i, e with
  | 0, e => by cases e; exact ⟨_, rfl, r⟩
  | i + 1, e => ih i e) i e
theorem Rds.append {ds es : List D} {vs ws : List Val} (r : Rds P h ds vs) (q : Rds P h es ws) : Rds P h (ds ++ es) (vs ++ ws) := r.ind (M := fun ds vs => Rds P h (ds ++ es) (vs ++ ws)) q fun r _ ih => .cons r ih
theorem Rds.take {ds : List D} {vs : List Val} (n : Nat) (r : Rds P h ds vs) : Rds P h (ds.take n) (vs.take n) :=
 r.ind (M := fun ds vs => ∀ n : Nat, Rds P h (ds.take n) (vs.take n)) (fun n => by rw [List.take_nil, List.take_nil]; exact .nil) (fun r _ ih n => by cases n with | zero => exact .nil | succ n => exact .cons r (ih n)) n
theorem Rds.drop {ds : List D} {vs : List Val} (n : Nat) (r : Rds P h ds vs) : Rds P h (ds.drop n) (vs.drop n) :=
 r.ind (M := fun ds vs => ∀ n : Nat, Rds P h (ds.drop n) (vs.drop n)) (fun n => by rw [List.drop_nil, List.drop_nil]; exact .nil) (fun r rr ih n => by cases n with | zero => exact .cons r rr | succ n => exact ih n) n
theorem Rds.set {d : D} {v : Val} (r : Rd P h d v) {ds : List D} {vs : List Val} (i : Nat) (q : Rds P h ds vs) : Rds P h (ds.set i d) (vs.set i v) :=
 q.ind (M := fun ds vs => ∀ i : Nat, Rds P h (ds.set i d) (vs.set i v)) (fun _ => .nil) (fun q qq ih i => by cases i with | zero => exact .cons r qq | succ i => exact .cons q (ih i)) i
noncomputable def ShR (P : Nat -> Prop) (h : AH) (d : D) (v : Val) : Prop := Rd P h d v \/ ∃ n o, d = .ref n /\ h[n]? = some o /\ Rc P h o v
inductive ShRs (P : Nat -> Prop) (h : AH) : List D -> List Val -> Prop where
 | nil : ShRs P h [] []
 | cons {d : D} {v : Val} {ds : List D} {vs : List Val} (r : ShR P h d v) (rr : ShRs P h ds vs) : ShRs P h (d :: ds) (v :: vs)
noncomputable def Val.items : Val -> Option (List Val)
 | .tup xs => some xs
 | .lst xs => some xs
 | .kl xs => some xs
 | _ => none
theorem ShR.int {d : D} {i : Int} (r : ShR P h d (.int i)) : d = .int i := by
 rcases r with r | ⟨n, o, rfl, e, r⟩
 ·cases r with
  | int => rfl
  | cell p e r => cases r
 ·cases r
theorem ShR.str {d : D} {i : Str} (r : ShR P h d (.str i)) : d = .str i := by
 rcases r with r | ⟨n, o, rfl, e, r⟩
 ·cases r with
  | str => rfl
  | cell p e r => cases r
 ·cases r
theorem ShR.bl {d : D} {i : Bool} (r : ShR P h d (.bl i)) : d = .bl i := by
 rcases r with r | ⟨n, o, rfl, e, r⟩
 ·cases r with
  | bl => rfl
  | cell p e r => cases r
 ·cases r
theorem ShR.non {d : D} (r : ShR P h d .non) : d = .non := by
 rcases r with r | ⟨n, o, rfl, e, r⟩
 ·cases r with
  | non => rfl
  | cell p e r => cases r
 ·cases r
theorem ShR.exc {d : D} {x : Str} (r : ShR P h d (.exc x)) : d = .exc x := by
 rcases r with r | ⟨n, o, rfl, e, r⟩
 ·cases r with
  | exc => rfl
  | cell p e r => cases r
 ·cases r
theorem ShR.ty {d : D} {x : String} (r : ShR P h d (.ty x)) : d = .ty x := by
 rcases r with r | ⟨n, o, rfl, e, r⟩
 ·cases r with
  | ty => rfl
  | cell p e r => cases r
 ·cases r
theorem ShR.glb {d : D} {x : Str} (r : ShR P h d (.glb x)) : d = .glb x := by
 rcases r with r | ⟨n, o, rfl, e, r⟩
 ·cases r with
  | glb => rfl
  | cell p e r => cases r
 ·cases r
theorem ShR.tup {d : D} {vs : List Val} (r : ShR P h d (.tup vs)) : ∃ ds, d = .tup ds /\ Rds P h ds vs := by
 rcases r with r | ⟨n, o, rfl, e, r⟩
 ·cases r with
  | tup r => exact ⟨_, rfl, r⟩
  | cell p e r => cases r
 ·cases r
theorem Rc.seq {n : Nat} {o : Ob} {vs : List Val} (e : h[n]? = some o) (r : Rc P h o (.lst vs)) : ∃ ds, h[n]? = some (.lst ds) /\ bG h n = some ds /\ Rds P h ds vs := by
 cases r with
 | lst r => exact ⟨_, e, by unfold bG; rw [e], r⟩
theorem ShR.lst {d : D} {vs : List Val} (r : ShR P h d (.lst vs)) : ∃ n ds, d = .ref n /\ h[n]? = some (.lst ds) /\ bG h n = some ds /\ Rds P h ds vs := by
 rcases r with r | ⟨n, o, rfl, e, r⟩
 ·cases r with
  |
   cell p e r =>
   obtain ⟨ds, q, r⟩ := Rc.seq e r
   exact ⟨_, ds, rfl, q, r⟩
 ·obtain ⟨ds, q, r⟩ := Rc.seq e r
  exact ⟨_, ds, rfl, q, r⟩
theorem ShR.kl {d : D} {vs : List Val} (r : ShR P h d (.kl vs)) : ∃ ds, Rds P h ds vs /\ (d = .kl ds \/ ∃ n, d = .ref n /\ bG h n = some ds) := by
 rcases r with r | ⟨n, o, rfl, e, r⟩
 ·cases r with
  | kl r => exact ⟨_, r, .inl rfl⟩
  | cell p e r => cases r with | fz r => exact ⟨_, r, .inr ⟨_, rfl, by unfold bG; rw [e]⟩⟩
 ·cases r with | fz r => exact ⟨_, r, .inr ⟨_, rfl, by unfold bG; rw [e]⟩⟩
theorem ShR.dct {d : D} {us : List (Key × Val)} (r : ShR P h d (.dct us)) : ∃ n ws, d = .ref n /\ h[n]? = some (.dct ws) /\ Rk P h ws us := by
 rcases r with r | ⟨n, o, rfl, e, r⟩
 ·cases r with
  | cell p e r => cases r with | dct r => exact ⟨_, _, rfl, e, r⟩
 ·cases r with | dct r => exact ⟨_, _, rfl, e, r⟩
theorem ShR.items {d : D} {v : Val} {vs : List Val} (r : ShR P h d v) (e : v.items = some vs) : ∃ ds, dH h d = some ds /\ Rds P h ds vs := by
 cases v with
 | tup xs => cases e; obtain ⟨ds, rfl, q⟩ := r.tup; exact ⟨ds, rfl, q⟩
 | lst xs => cases e; obtain ⟨n, ds, rfl, _, e, q⟩ := r.lst; exact ⟨ds, e, q⟩
 |
  kl xs =>
  cases e
  obtain ⟨ds, q, rfl | ⟨n, rfl, e⟩⟩ := r.kl
  ·exact ⟨ds, rfl, q⟩
  ·exact ⟨ds, e, q⟩
 | _ => cases e
end
inductive Sl where
 | no | sh (v : Val) | ow (v : Val) | mu (v : Val) | lo (v : Val) | lm (v : Val)
 deriving Inhabited
abbrev E3 := List Sl
noncomputable def Sl.val : Sl -> Option Val
 | .no => none
 | .sh v => some v
 | .ow v => some v
 | .mu v => some v
 | .lo v => some v
 | .lm v => some v
noncomputable def Sl.mt : Sl -> Bool
 | .ow _ => true
 | .mu _ => true
 | _ => false
noncomputable def Sl.lk : Sl -> Bool
 | .lo _ => true
 | .lm _ => true
 | _ => false
abbrev Ns := List (Option Nat)
noncomputable def Oc (X : Nat -> Prop) (ns : Ns) (n : Nat) : Prop := ¬ X n /\ some n ∉ ns
noncomputable def bY : Ob -> Prop
 | .fz _ => False
 | .any => False
 | _ => True
noncomputable def SlR (P : Nat -> Prop) (h0 : Nat) (n : Option (Option Nat)) (d : Option (Option D)) (h : AH) : Sl -> Prop
 | .no => n = some none
 | .sh v => n = some none /\ ∃ x, d = some (some x) /\ Rd P h x v
 | .ow v => ∃ m o, n = some (some m) /\ d = some (some (.ref m)) /\ h0 <= m /\ h[m]? = some o /\ bY o /\ Rc P h o v
 | .lo v => ∃ m o, n = some (some m) /\ d = some (some (.ref m)) /\ h0 <= m /\ h[m]? = some o /\ bY o /\ Rc P h o v
 | .mu v => ∃ m o, n = some (some m) /\ d = some (some (.ref m)) /\ h[m]? = some o /\ bY o /\ Rc P h o v
 | .lm v => ∃ m o, n = some (some m) /\ d = some (some (.ref m)) /\ h[m]? = some o /\ bY o /\ Rc P h o v
structure Sat (X : Nat -> Prop) (h0 : Nat) (ns : Ns) (e : E3) (ae : AE) (h : AH) : Prop where
 l1 : ae.length = e.length
 l2 : ns.length = e.length
 lh : h0 <= h.length
 xl : ∀ (n : Nat), X n -> n < h.length
 inj : ∀ (i j n : Nat), ns[i]? = some (some n) -> ns[j]? = some (some n) -> i = j
 nx : ∀ (i n : Nat), ns[i]? = some (some n) -> ¬ X n
 sl : ∀ (i : Nat) (s : Sl), e[i]? = some s -> SlR (Oc X ns) h0 (ns[i]?) (ae[i]?) h s
noncomputable def Mt (ns : Ns) (e : E3) (n : Nat) : Prop := ∃ (i : Nat) (s : Sl), ns[i]? = some (some n) /\ e[i]? = some s /\ s.mt = true
structure Stp (ns : Ns) (e : E3) (h : AH) (ns' : Ns) (e' : E3) (h' : AH) : Prop where
 len : h.length <= h'.length
 keep : ∀ (m : Nat) (o : Ob), h[m]? = some o -> ¬ Mt ns e m -> h'[m]? = some o
 nw : ∀ (i n : Nat), ns'[i]? = some (some n) -> ns[i]? = some (some n) \/ h.length <= n
 lk : ∀ (i : Nat) (s : Sl), e[i]? = some s -> s.lk = true -> e'[i]? = some s /\ ns'[i]? = ns[i]?
 lk' : ∀ (i : Nat) (s : Sl), e'[i]? = some s -> s.lk = true -> e[i]? = some s /\ ns'[i]? = ns[i]?
 mu : ∀ (i : Nat) (v : Val), e'[i]? = some (.mu v) -> ∃ u, e[i]? = some (.mu u) /\ ns'[i]? = ns[i]?
 mu' : ∀ (i : Nat) (u : Val), e[i]? = some (.mu u) -> ∃ v, e'[i]? = some (.mu v) /\ ns'[i]? = ns[i]?
section
variable {X : Nat -> Prop} {h0 : Nat} {ns ns' ns1 ns2 : Ns} {e e' e1 e2 : E3} {ae : AE} {h h' h1 h2 : AH}
theorem bh {n : Nat} : some n ∈ ns ↔ ∃ i : Nat, ns[i]? = some (some n) := by
 constructor
 ·intro m; exact List.getElem?_of_mem m
 ·rintro ⟨i, e⟩; exact List.mem_of_getElem? e
theorem Sat.own (S : Sat X h0 ns e ae h) {i n : Nat} (q : ns[i]? = some (some n)) : ∃ s v o, e[i]? = some s /\ (s.mt = true \/ s.lk = true) /\ s.val = some v /\ ae[i]? = some (some (.ref n)) /\ h[n]? = some o /\ bY o /\ Rc (Oc X ns) h o v := by
 have hi : i < e.length := by rw [<- S.l2]; exact (List.getElem?_eq_some_iff.mp q).1
 have hs := S.sl i e[i] (List.getElem?_eq_getElem hi)
 refine ⟨e[i], ?_⟩
 have he := List.getElem?_eq_getElem hi
 generalize e[i] = s at *
 rw [q] at hs
 cases s with
 | no => cases hs
 | sh v => cases hs.1
 | ow v => obtain ⟨m, o, e1, e2, _, e3, e4, e5⟩ := hs; cases e1; exact ⟨v, o, he, .inl rfl, rfl, e2, e3, e4, e5⟩
 | lo v => obtain ⟨m, o, e1, e2, _, e3, e4, e5⟩ := hs; cases e1; exact ⟨v, o, he, .inr rfl, rfl, e2, e3, e4, e5⟩
 | mu v => obtain ⟨m, o, e1, e2, e3, e4, e5⟩ := hs; cases e1; exact ⟨v, o, he, .inl rfl, rfl, e2, e3, e4, e5⟩
 | lm v => obtain ⟨m, o, e1, e2, e3, e4, e5⟩ := hs; cases e1; exact ⟨v, o, he, .inr rfl, rfl, e2, e3, e4, e5⟩
theorem Stp.refl : Stp ns e h ns e h := ⟨Nat.le_refl _, fun _ _ q _ => q, fun _ _ q => .inl q, fun _ _ q _ => ⟨q, rfl⟩, fun _ _ q _ => ⟨q, rfl⟩, fun _ _ q => ⟨_, q, rfl⟩, fun _ _ q => ⟨_, q, rfl⟩⟩
theorem
    Stp.trans (S : Sat X h0 ns e ae h) (a : Stp ns e h ns1 e1 h1) (b : Stp ns1 e1 h1 ns2 e2 h2) : Stp ns e h ns2 e2 h2 := by
 refine ⟨Nat.le_trans a.len b.len, fun m o q hm => ?_, fun i n q => ?_, fun i s q hl => ?_, fun i s q hl => ?_, fun i v q => ?_, fun i v q => ?_⟩
 ·refine b.keep m o (a.keep m o q hm) fun ⟨i, s, z1, z2, z3⟩ => hm ?_
  have hlt := (List.getElem?_eq_some_iff.mp q).1
  rcases a.nw i m z1 with z | z
  ·obtain ⟨s0, v, o', q1, q2, _⟩ := S.own z
   rcases q2 with q2 | q2
   ·exact ⟨i, s0, z, q1, q2⟩
   ·have := (a.lk i s0 q1 q2).1
    rw [z2] at this
    cases this
    exfalso
    cases s <;> first | cases z3; done | cases q2; done
  ·omega
 ·rcases b.nw i n q with z | z
  ·exact a.nw i n z
  ·exact .inr (Nat.le_trans a.len z)
 ·obtain ⟨q1, q2⟩ := a.lk i s q hl
  obtain ⟨q3, q4⟩ := b.lk i s q1 hl
  exact ⟨q3, q4.trans q2⟩
 ·obtain ⟨q1, q2⟩ := b.lk' i s q hl
  obtain ⟨q3, q4⟩ := a.lk' i s q1 hl
  exact ⟨q3, q2.trans q4⟩
 ·obtain ⟨u, q1, q2⟩ := b.mu i v q
  obtain ⟨u', q3, q4⟩ := a.mu i u q1
  exact ⟨u', q3, q2.trans q4⟩
 ·obtain ⟨u, q1, q2⟩ := a.mu' i v q
  obtain ⟨u', q3, q4⟩ := b.mu' i u q1
  exact ⟨u', q3, q4.trans q2⟩
theorem Stp.mov (S : Sat X h0 ns e ae h) (a : Stp ns e h ns1 e1 h1) : Mov (Oc X ns) (Oc X ns1) h h1 := fun n o p q => by
 have hlt := (List.getElem?_eq_some_iff.mp q).1
 have hm : ¬ Mt ns e n := fun ⟨i, s, z, _⟩ => p.2 (bh.mpr ⟨i, z⟩)
 refine ⟨⟨p.1, fun z => ?_⟩, a.keep n o q hm⟩
 obtain ⟨i, z⟩ := bh.mp z
 rcases a.nw i n z with z | z
 ·exact p.2 (bh.mpr ⟨i, z⟩)
 ·omega
theorem cU {n : Nat} {o : Ob} (q : h[n]? = some o) : n < h.length := (List.getElem?_eq_some_iff.mp q).1
theorem js {n : Nat} {o : Ob} {g : AH} (q : h[n]? = some o) : (h ++ g)[n]? = some o := by rw [List.getElem?_append_left (cU q)]; exact q
theorem xC {o : Ob} : (h ++ [o])[h.length]? = some o := by rw [List.getElem?_append_right (Nat.le_refl _), Nat.sub_self]; rfl
theorem SlR.mono {P P' : Nat -> Prop} {n : Option (Option Nat)} {d : Option (Option D)} {s : Sl} (m : Mov P P' h h') (k : ∀ j o, n = some (some j) -> h[j]? = some o -> h'[j]? = some o) (r : SlR P h0 n d h s) : SlR P' h0 n d h' s := by
 cases s with
 | no => exact r
 | sh v => obtain ⟨q, x, q1, q2⟩ := r; exact ⟨q, x, q1, q2.mono m⟩
 | ow v => obtain ⟨j, o, q1, q2, q3, q4, q5, q6⟩ := r; exact ⟨j, o, q1, q2, q3, k j o q1 q4, q5, q6.mono m⟩
 | lo v => obtain ⟨j, o, q1, q2, q3, q4, q5, q6⟩ := r; exact ⟨j, o, q1, q2, q3, k j o q1 q4, q5, q6.mono m⟩
 | mu v => obtain ⟨j, o, q1, q2, q4, q5, q6⟩ := r; exact ⟨j, o, q1, q2, k j o q1 q4, q5, q6.mono m⟩
 | lm v => obtain ⟨j, o, q1, q2, q4, q5, q6⟩ := r; exact ⟨j, o, q1, q2, k j o q1 q4, q5, q6.mono m⟩
noncomputable def Xn (X : Nat -> Prop) (n : Nat) : Nat -> Prop := fun m => X m \/ m = n
theorem Sat.grow (S : Sat X h0 ns e ae h) (o : Ob) : Sat (Xn X h.length) h0 ns e ae (h ++ [o]) := by
 have mv : Mov (Oc X ns) (Oc (Xn X h.length) ns) h (h ++ [o]) := fun n o' p q => ⟨⟨fun z => by
  rcases z with z | z
  ·exact p.1 z
  ·have := cU q; omega, p.2⟩, js q⟩
 refine ⟨S.l1, S.l2, by rw [List.length_append]; have := S.lh; omega, fun n z => ?_, S.inj, fun i n q z => ?_, fun i s q => (S.sl i s q).mono mv fun j o' _ q' => js q'⟩
 ·rw [List.length_append]
  rcases z with z | z
  ·have := S.xl n z; omega
  ·subst z; show h.length < h.length + 1; omega
 ·rcases z with z | z
  ·exact S.nx i n q z
  ·obtain ⟨_, _, _, _, _, _, _, q', _⟩ := S.own q
   have := cU q'; omega
theorem Sat.weak {Y : Nat -> Prop} (S : Sat Y h0 ns e ae h) (hx : ∀ n, X n -> Y n) : Sat X h0 ns e ae h :=
 ⟨S.l1, S.l2, S.lh, fun n z => S.xl n (hx n z), S.inj, fun i n q z => S.nx i n q (hx n z), fun i s q => (S.sl i s q).mono (fun n o p q => ⟨⟨fun z => p.1 (hx n z), p.2⟩, q⟩) fun _ _ _ q => q⟩
theorem Stp.grow (o : Ob) : Stp ns e h ns e (h ++ [o]) := ⟨by rw [List.length_append]; omega, fun _ _ q _ => js q, fun _ _ q => .inl q, fun _ _ q _ => ⟨q, rfl⟩, fun _ _ q _ => ⟨q, rfl⟩, fun _ _ q => ⟨_, q, rfl⟩, fun _ _ q => ⟨_, q, rfl⟩⟩
end
end L3
set_option Elab.async false
set_option linter.all false
set_option maxRecDepth 100000
namespace L3
open PySem PySem.Spec PyProof.Rows L2
section
variable {X : Nat -> Prop} {h0 : Nat} {ns ns' : Ns} {e e' : E3} {ae : AE} {h h' hs : AH}
theorem bJ {α : Type} {l : List α} {i j : Nat} {a b : α} (hi : i < l.length) (q : (l.set i a)[j]? = some b) : (j = i /\ b = a) \/ (j ≠ i /\ l[j]? = some b) := by
 rw [List.getElem?_set] at q
 by_cases z : i = j
 ·subst z
  rw [if_pos rfl, if_pos hi] at q
  exact .inl ⟨rfl, (Option.some.inj q).symm⟩
 ·rw [if_neg z] at q
  exact .inr ⟨fun y => z y.symm, q⟩
theorem bZ {α : Type} {l : List α} {i : Nat} {a : α} (hi : i < l.length) : (l.set i a)[i]? = some a := by rw [List.getElem?_set, if_pos rfl, if_pos hi]
theorem bP {α : Type} {l : List α} {i j : Nat} {a : α} (hi : j ≠ i) : (l.set i a)[j]? = l[j]? := by rw [List.getElem?_set_ne (fun y => hi y.symm)]
theorem eS {i n : Nat} (p : Oc X ns n) : Oc X (ns.set i none) n := ⟨p.1, fun z => by
 rcases List.mem_or_eq_of_mem_set z with z | z
 ·exact p.2 z
 ·cases z⟩
theorem Sat.putN (S : Sat X h0 ns e ae h) {i : Nat} (hi : i < e.length) {s : Sl} {d : Option D} (q : SlR (Oc X (ns.set i none)) h0 (some none) (some d) h s) : Sat X h0 (ns.set i none) (e.set i s) (ae.set i d) h := by
 have hn : i < ns.length := by rw [S.l2]; exact hi
 have ha : i < ae.length := by rw [S.l1]; exact hi
 refine ⟨by rw [List.length_set, List.length_set]; exact S.l1, by rw [List.length_set, List.length_set]; exact S.l2, S.lh, S.xl, fun j k n q1 q2 => ?_, fun j n q1 => ?_, fun j s' q1 => ?_⟩
 ·rcases bJ hn q1 with ⟨_, z⟩ | ⟨_, z⟩
  ·cases z
  rcases bJ hn q2 with ⟨_, y⟩ | ⟨_, y⟩
  ·cases y
  exact S.inj j k n z y
 ·rcases bJ hn q1 with ⟨_, z⟩ | ⟨_, z⟩
  ·cases z
  exact S.nx j n z
 ·rcases bJ hi q1 with ⟨rfl, rfl⟩ | ⟨z, q2⟩
  ·rw [bZ hn, bZ ha]; exact q
  ·rw [bP z, bP z]
   exact (S.sl j s' q2).mono (fun n o p q => ⟨eS p, q⟩) fun _ _ _ q => q
theorem Sat.putN' (S : Sat X h0 ns e ae h) {i : Nat} (hi : i < e.length) {s : Sl} (q : SlR (Oc X (ns.set i none)) h0 (some none) (ae[i]?) h s) : Sat X h0 (ns.set i none) (e.set i s) ae h := by
 have ha : i < ae.length := by rw [S.l1]; exact hi
 have := S.putN hi (s := s) (d := ae[i]) (by rw [List.getElem?_eq_getElem ha] at q; exact q)
 rw [List.set_getElem_self] at this
 exact this
theorem Sat.putO {n : Nat} {o : Ob} {v : Val} (S : Sat (Xn X n) h0 ns e ae h) (hx : ¬ X n) {i : Nat} (hi : i < e.length) (hn0 : h0 <= n) (eo : h[n]? = some o) (hf : bY o) (r : Rc (Oc (Xn X n) ns) h o v) : Sat X h0 (ns.set i (some n)) (e.set i (.ow v)) (ae.set i (some (.ref n))) h := by
 have hn : i < ns.length := by rw [S.l2]; exact hi
 have ha : i < ae.length := by rw [S.l1]; exact hi
 have nn : ∀ j : Nat, ns[j]? ≠ some (some n) := fun j q => S.nx j n q (.inr rfl)
 have mv : Mov (Oc (Xn X n) ns) (Oc X (ns.set i (some n))) h h := fun m o' p q => ⟨⟨fun z => p.1 (.inl z), fun z => by
  rcases List.mem_or_eq_of_mem_set z with z | z
  ·exact p.2 z
  ·cases z; exact p.1 (.inr rfl)⟩, q⟩
 refine ⟨by rw [List.length_set, List.length_set]; exact S.l1, by rw [List.length_set, List.length_set]; exact S.l2, S.lh, fun m z => S.xl m (.inl z), fun j k m q1 q2 => ?_, fun j m q1 z => ?_, fun j s' q1 => ?_⟩
 ·rcases bJ hn q1 with ⟨z1, z⟩ | ⟨z1, z⟩ <;> rcases bJ hn q2 with ⟨y1, y⟩ | ⟨y1, y⟩
  ·rw [z1, y1]
  ·cases z; exact absurd y (nn k)
  ·cases y; exact absurd z (nn j)
  ·exact S.inj j k m z y
 ·rcases bJ hn q1 with ⟨_, y⟩ | ⟨_, y⟩
  ·cases y; exact hx z
  ·exact S.nx j m y (.inl z)
 ·rcases bJ hi q1 with ⟨rfl, rfl⟩ | ⟨z, q2⟩
  ·rw [bZ hn, bZ ha]; exact ⟨n, o, rfl, rfl, hn0, eo, hf, r.mono mv⟩
  ·rw [bP z, bP z]
   exact (S.sl j s' q2).mono mv fun _ _ _ q => q
noncomputable def Sl.pl : Sl -> Bool
 | .no => true
 | .sh _ => true
 | .ow _ => true
 | _ => false
theorem Stp.put {ns0 : Ns} {e0 : E3} (A : Stp ns0 e0 hs ns e h) {i : Nat} (hi : i < e.length) {x : Option Nat} (hx : ∀ n, x = some n -> hs.length <= n) {s s0 : Sl} (q0 : e[i]? = some s0) (p0 : s0.pl = true) (p : s.pl = true) (l2 : ns.length = e.length) : Stp ns0 e0 hs (ns.set i x) (e.set i s) h := by
 have hn : i < ns.length := by rw [l2]; exact hi
 refine ⟨A.len, A.keep, fun j n q => ?_, fun j s' q hl => ?_, fun j s' q hl => ?_, fun j v q => ?_, fun j v q => ?_⟩
 ·rcases bJ hn q with ⟨_, z⟩ | ⟨_, z⟩
  ·exact .inr (hx n z.symm)
  ·exact A.nw j n z
 ·obtain ⟨q1, q2⟩ := A.lk j s' q hl
  have z : j ≠ i := fun z => by
   subst z
   rw [q0] at q1; cases q1
   cases s0 <;> first | cases p0; done | cases hl; done
  rw [bP z, bP z]; exact ⟨q1, q2⟩
 ·rcases bJ hi q with ⟨_, z⟩ | ⟨z, q1⟩
  ·subst z; cases s' <;> first | cases p; done | cases hl; done
  ·rw [bP z]; exact A.lk' j s' q1 hl
 ·rcases bJ hi q with ⟨_, z⟩ | ⟨z, q1⟩
  ·subst z; cases p
  ·rw [bP z]; exact A.mu j v q1
 ·obtain ⟨u, q1, q2⟩ := A.mu' j v q
  have z : j ≠ i := fun z => by
   subst z
   rw [q0] at q1; cases q1; cases p0
  exact ⟨u, by rw [bP z]; exact q1, by rw [bP z]; exact q2⟩
end
inductive Tm where
 | val (v : Val) | new (v : Val) | bor (i : Nat)
inductive R3 (α : Type) where
 | ok (a : α) (e : E3) | exc (c : Str) (e : E3) | stuck
noncomputable def R3.bind {α β : Type} (r : R3 α) (f : α -> E3 -> R3 β) : R3 β := match r with
 | .ok a e => f a e
 | .exc c e => .exc c e
 | .stuck => .stuck
abbrev ME3 := E3 -> R3 Tm
abbrev MT3 := E3 -> R3 Bool
abbrev MA3 := E3 -> R3 (List Tm)
noncomputable def Po {δ α : Type} (X : Nat -> Prop) (h0 : Nat) (ns : Ns) (e : E3) (ae : AE) (h : AH) (rel : Ns -> E3 -> AH -> δ -> α -> Prop) (r2 : R δ) : R3 α -> Prop
 | .stuck => True
 | .ok t e' => ∃ d h' ns', r2 = .ok d h' /\ Stp ns e h ns' e' h' /\ Sat X h0 ns' e' ae h' /\ rel ns' e' h' d t
 | .exc c e' => ∃ h' ns', r2 = .exc c h' /\ Stp ns e h ns' e' h' /\ Sat X h0 ns' e' ae h'
noncomputable def relE (X : Nat -> Prop) (h0 L : Nat) (ae : AE) (ns : Ns) (e : E3) (h : AH) (d : D) : Tm -> Prop
 | .val v => Rd (Oc X ns) h d v
 | .new v => ∃ n o, d = .ref n /\ L <= n /\ ¬ X n /\ h[n]? = some o /\ bY o /\ Sat (Xn X n) h0 ns e ae h /\ Rc (Oc (Xn X n) ns) h o v
 | .bor i => ae[i]? = some (some d)
noncomputable def relT (_ : Ns) (_ : E3) (_ : AH) (b c : Bool) : Prop := b = c
inductive TsR (X : Nat -> Prop) (ns : Ns) (ae : AE) (h : AH) : List D -> List Tm -> Prop where
 | nil : TsR X ns ae h [] []
 | val {d : D} {v : Val} {ds : List D} {ts : List Tm} (r : Rd (Oc X ns) h d v) (rr : TsR X ns ae h ds ts) : TsR X ns ae h (d :: ds) (.val v :: ts)
 | bor {d : D} {i : Nat} {ds : List D} {ts : List Tm} (q : ae[i]? = some (some d)) (rr : TsR X ns ae h ds ts) : TsR X ns ae h (d :: ds) (.bor i :: ts)
noncomputable def relA (X : Nat -> Prop) (ae : AE) (ns : Ns) (_ : E3) (h : AH) (ds : List D) (ts : List Tm) : Prop := TsR X ns ae h ds ts
noncomputable def RE (F : ME) (G : ME3) : Prop := ∀ X h0 L ns e ae h, Sat X h0 ns e ae h -> L <= h.length -> Po X h0 ns e ae h (relE X h0 L ae) (F ae h) (G e)
noncomputable def RT (F : MT) (G : MT3) : Prop := ∀ X h0 ns e ae h, Sat X h0 ns e ae h -> Po X h0 ns e ae h relT (F ae h) (G e)
noncomputable def RA (F : MA) (G : MA3) : Prop := ∀ X h0 ns e ae h, Sat X h0 ns e ae h -> Po X h0 ns e ae h (relA X ae) (F ae h) (G e)
section
variable {X : Nat -> Prop} {h0 L : Nat} {ns ns' : Ns} {e e' : E3} {ae : AE} {h h' : AH}
theorem Po.bind {δ δ' α α' : Type} {rel : Ns -> E3 -> AH -> δ -> α -> Prop} {rel' : Ns -> E3 -> AH -> δ' -> α' -> Prop} {r2 : R δ} {r3 : R3 α} {f2 : δ -> AH -> R δ'} {f3 : α -> E3 -> R3 α'} (S : Sat X h0 ns e ae h) (p : Po X h0 ns e ae h rel r2 r3)
  (k : ∀ d t h' ns' e', Stp ns e h ns' e' h' -> Sat X h0 ns' e' ae h' -> rel ns' e' h' d t -> Po X h0 ns' e' ae h' rel' (f2 d h') (f3 t e')) : Po X h0 ns e ae h rel' (r2.bind f2) (r3.bind f3) := by
 cases r3 with
 | stuck => trivial
 | exc c e' => obtain ⟨h', ns', q, q1, q2⟩ := p; subst q; exact ⟨h', ns', rfl, q1, q2⟩
 |
  ok t e' =>
  obtain ⟨d, h', ns', q, q1, q2, q3⟩ := p
  subst q
  have := k d t h' ns' e' q1 q2 q3
  show Po X h0 ns e ae h rel' (f2 d h') (f3 t e')
  generalize f3 t e' = r at *
  cases r with
  | stuck => trivial
  | exc c e2 => obtain ⟨h2, ns2, y, y1, y2⟩ := this; exact ⟨h2, ns2, y, q1.trans S y1, y2⟩
  | ok t2 e2 => obtain ⟨d2, h2, ns2, y, y1, y2, y3⟩ := this; exact ⟨d2, h2, ns2, y, q1.trans S y1, y2, y3⟩
theorem Po.ret {δ α : Type} {rel : Ns -> E3 -> AH -> δ -> α -> Prop} {d : δ} {t : α} (S : Sat X h0 ns e ae h) (q : rel ns e h d t) : Po X h0 ns e ae h rel (.ok d h) (.ok t e) := ⟨d, h, ns, rfl, .refl, S, q⟩
theorem TsR.stp {ds : List D} {ts : List Tm} (S : Sat X h0 ns e ae h) (a : Stp ns e h ns' e' h') (r : TsR X ns ae h ds ts) : TsR X ns' ae h' ds ts := by
 induction r with
 | nil => exact .nil
 | val r _ ih => exact .val (r.mono (a.mov S)) ih
 | bor q _ ih => exact .bor q ih
noncomputable def rs (e : E3) : Tm -> Option Val
 | .val v => some v
 | .new v => some v
 | .bor i => (e[i]?).bind Sl.val
theorem Sat.bor (S : Sat X h0 ns e ae h) {i : Nat} {d : D} {v : Val} (q : ae[i]? = some (some d)) (r : (e[i]?).bind Sl.val = some v) : ShR (Oc X ns) h d v := by
 cases z : e[i]? with
 | none => rw [z] at r; cases r
 |
  some s =>
  rw [z] at r
  have y := S.sl i s z
  rw [q] at y
  have r' : s.val = some v := r
  cases s with
  | no => cases r'
  | sh u => cases r'; obtain ⟨_, x, e1, e2⟩ := y; cases e1; exact .inl e2
  | ow u => cases r'; obtain ⟨m, o, _, e2, _, e3, _, e4⟩ := y; cases e2; exact .inr ⟨m, o, rfl, e3, e4⟩
  | lo u => cases r'; obtain ⟨m, o, _, e2, _, e3, _, e4⟩ := y; cases e2; exact .inr ⟨m, o, rfl, e3, e4⟩
  | mu u => cases r'; obtain ⟨m, o, _, e2, e3, _, e4⟩ := y; cases e2; exact .inr ⟨m, o, rfl, e3, e4⟩
  | lm u => cases r'; obtain ⟨m, o, _, e2, e3, _, e4⟩ := y; cases e2; exact .inr ⟨m, o, rfl, e3, e4⟩
theorem relE.new {d : D} {v : Val} (r : relE X h0 L ae ns e h d (.new v)) : Rd (Oc X ns) h d v := by
 obtain ⟨n, o, rfl, _, hx, eo, _, S, rc⟩ := r
 exact .cell ⟨hx, fun z => by obtain ⟨i, z⟩ := bh.mp z; exact S.nx i n z (.inr rfl)⟩ eo (rc.mono fun m o p q => ⟨⟨fun z => p.1 (.inl z), p.2⟩, q⟩)
theorem relE.sh {d : D} {t : Tm} {v : Val} (S : Sat X h0 ns e ae h) (r : relE X h0 L ae ns e h d t) (q : rs e t = some v) : ShR (Oc X ns) h d v := by
 cases t with
 | val u => cases q; exact .inl r
 | new u => cases q; exact .inl r.new
 | bor i => exact S.bor r q
theorem relE.stp {d : D} {t : Tm} (S : Sat X h0 ns e ae h) (a : Stp ns e h ns' e' h') (r : relE X h0 L ae ns e h d t) (hn : ∀ v, t ≠ .new v) : relE X h0 L ae ns' e' h' d t := by
 cases t with
 | val u => exact Rd.mono (a.mov S) r
 | new u => exact absurd rfl (hn u)
 | bor i => exact r
noncomputable def Tm.drop : Tm -> Tm
 | .new v => .val v
 | t => t
theorem relE.drop {d : D} {t : Tm} (r : relE X h0 L ae ns e h d t) : relE X h0 L ae ns e h d t.drop /\ ∀ v, t.drop ≠ .new v := by
 cases t with
 | val u => exact ⟨r, fun _ z => nomatch z⟩
 | new u => exact ⟨r.new, fun _ z => nomatch z⟩
 | bor i => exact ⟨r, fun _ z => nomatch z⟩
noncomputable def rss (e : E3) : List Tm -> Option (List Val)
 | [] => some []
 | t :: ts => match rs e t, rss e ts with
  | some v, some vs => some (v :: vs)
  | _, _ => none
theorem TsR.sh {ds : List D} {ts : List Tm} {vs : List Val} (S : Sat X h0 ns e ae h) (r : TsR X ns ae h ds ts) (q : rss e ts = some vs) : ShRs (Oc X ns) h ds vs := by
 induction r generalizing vs with
 | nil => cases q; exact .nil
 |
  val r _ ih =>
  unfold rss at q
  split at q
  ·rename_i e1 e2; cases q; cases e1; exact .cons (.inl r) (ih e2)
  ·cases q
 |
  bor q' _ ih =>
  unfold rss at q
  split at q
  ·rename_i e1 e2; cases q; exact .cons (S.bor q' e1) (ih e2)
  ·cases q
end
inductive Bv where
 | val (v : Val) | new (v : Val) | stuck
noncomputable def BvR (P : Nat -> Prop) (h : AH) (r : R D) : Bv -> Prop
 | .val v => ∃ d, r = .ok d h /\ Rd P h d v
 | .new v => ∃ o, r = .ok (.ref h.length) (h ++ [o]) /\ bY o /\ Rc P h o v
 | .stuck => True
noncomputable def Bv.at (b : Bv) (e : E3) : R3 Tm := match b with
 | .val v => .ok (.val v) e
 | .new v => .ok (.new v) e
 | .stuck => .stuck
theorem BvR.po {X : Nat -> Prop} {h0 L : Nat} {ns : Ns} {e : E3} {ae : AE} {h : AH} {r : R D} {b : Bv} (S : Sat X h0 ns e ae h) (hl : L <= h.length) (q : BvR (Oc X ns) h r b) : Po X h0 ns e ae h (relE X h0 L ae) r (b.at e) := by
 cases b with
 | stuck => trivial
 | val v => obtain ⟨d, rfl, r⟩ := q; exact Po.ret S r
 |
  new v =>
  obtain ⟨o, rfl, hf, r⟩ := q
  have S' := S.grow o
  refine ⟨_, _, ns, rfl, .grow o, S'.weak fun n z => .inl z, h.length, o, rfl, hl, fun z => ?_, xC, hf, S', r.mono fun n o' p q => ⟨⟨fun z => ?_, p.2⟩, js q⟩⟩
  ·have := S.xl _ z; omega
  ·rcases z with z | z
   ·exact p.1 z
   ·have := cU q; omega
noncomputable def RU (g2 : D -> AH -> R D) (g3 : Val -> Bv) : Prop := ∀ P h d v, ShR P h d v -> BvR P h (g2 d h) (g3 v)
noncomputable def RO (g2 : D -> D -> AH -> R D) (g3 : Val -> Val -> Bv) : Prop := ∀ P h d1 d2 v1 v2, ShR P h d1 v1 -> ShR P h d2 v2 -> BvR P h (g2 d1 d2 h) (g3 v1 v2)
noncomputable def RFn (g2 : Fn) (g3 : List Val -> Bv) : Prop := ∀ P h ds vs, ShRs P h ds vs -> BvR P h (g2 ds h) (g3 vs)
noncomputable def vT (i : Nat) : ME3 := fun e => match e[i]? with
 | some (.sh v) => .ok (.val v) e
 | some .no => .stuck
 | some _ => .ok (.bor i) e
 | none => .stuck
noncomputable def vC (v : Val) : ME3 := fun e => .ok (.val v) e
noncomputable def vUn (g : Val -> Bv) (F : ME3) : ME3 := fun e => (F e).bind fun t e1 => match rs e1 t with
 | some v => (g v).at e1
 | none => .stuck
noncomputable def vOp (g : Val -> Val -> Bv) (F G : ME3) : ME3 := fun e => (F e).bind fun t1 e1 => (G e1).bind fun t2 e2 => match rs e2 t1.drop, rs e2 t2 with
 | some v1, some v2 => (g v1 v2).at e2
 | _, _ => .stuck
noncomputable def vNil : MA3 := fun e => .ok [] e
noncomputable def wA (F : ME3) (A : MA3) : MA3 := fun e => (F e).bind fun t e1 => (A e1).bind fun ts e2 => .ok (t.drop :: ts) e2
noncomputable def vFn (g : List Val -> Bv) (A : MA3) : ME3 := fun e => (A e).bind fun ts e1 => match rss e1 ts with
 | some vs => (g vs).at e1
 | none => .stuck
noncomputable def cN (e : E3) : Tm -> Option (E3 × Val)
 | .val v => some (e, v)
 | .new v => some (e, v)
 | .bor i => match e[i]? with
  | some (.sh v) => some (e, v)
  | some (.ow v) => some (e.set i (.sh v), v)
  | _ => none
noncomputable def dem (e : E3) : List Tm -> Option (E3 × List Val)
 | [] => some (e, [])
 | t :: ts => match cN e t with
  | some (e1, v) => match dem e1 ts with
   | some (e2, vs) => some (e2, v :: vs)
   | none => none
  | none => none
noncomputable def vTup (A : MA3) : ME3 := fun e => (A e).bind fun ts e1 => match dem e1 ts with
 | some (e2, vs) => if vs.length <= 16777216 then .ok (.val (.tup vs)) e2 else .stuck
 | none => .stuck
noncomputable def vLst (A : MA3) : ME3 := fun e => (A e).bind fun ts e1 => match dem e1 ts with
 | some (e2, vs) => if vs.length <= 16777216 then .ok (.new (.lst vs)) e2 else .stuck
 | none => .stuck
noncomputable def bOf : Option Val -> Option Bool
 | some (.bl b) => some b
 | _ => none
noncomputable def vAnd (F G : ME3) : ME3 := fun e => (F e).bind fun t e1 => match bOf (rs e1 t) with
 | some true => G e1
 | some false => .ok (.val (.bl false)) e1
 | none => .stuck
noncomputable def vNot (F : ME3) : ME3 := fun e => (F e).bind fun t e1 => match bOf (rs e1 t) with
 | some b => .ok (.val (.bl (!b))) e1
 | none => .stuck
noncomputable def vIf (c : MT3) (F G : ME3) : ME3 := fun e => (c e).bind fun b e1 => if b = true then F e1 else G e1
noncomputable def cOf (F : ME3) : MT3 := fun e => (F e).bind fun t e1 => match bOf (rs e1 t) with
 | some b => .ok b e1
 | none => .stuck
noncomputable def cAn (c d : MT3) : MT3 := fun e => (c e).bind fun b e1 => if b = true then d e1 else .ok false e1
noncomputable def cO (c d : MT3) : MT3 := fun e => (c e).bind fun b e1 => if b = true then .ok true e1 else d e1
noncomputable def cNo (c : MT3) : MT3 := fun e => (c e).bind fun b e1 => .ok (!b) e1
noncomputable def cY : MT3 := fun e => .ok true e
noncomputable def qZ : Val -> Option Bool
 | .non => some false
 | .bl b => some b
 | .int i => some (i != 0)
 | .tup xs => some (!xs.isEmpty)
 | .lst xs => some (!xs.isEmpty)
 | .kl xs => some (!xs.isEmpty)
 | _ => none
noncomputable def cTr (F : ME3) : MT3 := fun e => (F e).bind fun t e1 => match (rs e1 t).bind qZ with
 | some b => .ok b e1
 | none => .stuck
section
variable {F G : ME} {F3 G3 : ME3} {A : MA} {A3 : MA3} {c d : MT} {c3 d3 : MT3}
theorem zH (i : Nat) : RE (cP i) (vT i) := fun X h0 L ns e ae h S hl => by
 unfold vT
 cases q : e[i]? with
 | none => trivial
 |
  some s =>
  have y := S.sl i s q
  cases s with
  | no => trivial
  | sh v => obtain ⟨_, x, e1, e2⟩ := y; unfold cP; rw [e1]; exact Po.ret S e2
  | ow v => obtain ⟨m, o, _, e2, _⟩ := y; unfold cP; rw [e2]; exact Po.ret S e2
  | lo v => obtain ⟨m, o, _, e2, _⟩ := y; unfold cP; rw [e2]; exact Po.ret S e2
  | mu v => obtain ⟨m, o, _, e2, _⟩ := y; unfold cP; rw [e2]; exact Po.ret S e2
  | lm v => obtain ⟨m, o, _, e2, _⟩ := y; unfold cP; rw [e2]; exact Po.ret S e2
theorem lF {d : D} {v : Val} (r : ∀ P h, Rd P h d v) : RE (eC d) (vC v) := fun X h0 L ns e ae h S hl => Po.ret S (r _ _)
theorem DL {g : D -> AH -> R D} {g3 : Val -> Bv} (hg : RU g g3) (hF : RE F F3) : RE (eUn g F) (vUn g3 F3) := fun X h0 L ns e ae h S hl =>
 Po.bind S (hF X h0 L ns e ae h S hl) fun d t h1 ns1 e1 a1 S1 r1 => by
  try dsimp only
  split
  ·rename_i v q
   exact BvR.po S1 (Nat.le_trans hl a1.len) (hg _ _ _ _ (r1.sh S1 q))
  ·trivial
theorem C9 {g : D -> D -> AH -> R D} {g3 : Val -> Val -> Bv} (hg : RO g g3) (hF : RE F F3) (hG : RE G G3) : RE (eOp g F G) (vOp g3 F3 G3) := fun X h0 L ns e ae h S hl =>
 Po.bind S (hF X h0 L ns e ae h S hl) fun d1 t1 h1 ns1 e1 a1 S1 r1 => Po.bind S1 (hG X h0 L ns1 e1 ae h1 S1 (Nat.le_trans hl a1.len)) fun d2 t2 h2 ns2 e2 a2 S2 r2 => by
  try dsimp only
  split
  ·rename_i v1 v2 q1 q2
   obtain ⟨r1', hn⟩ := r1.drop
   exact BvR.po S2 (Nat.le_trans hl (Nat.le_trans a1.len a2.len)) (hg _ _ _ _ _ _ ((r1'.stp S1 a2 hn).sh S2 q1) (r2.sh S2 q2))
  ·trivial
theorem Cz : RA rP vNil := fun X h0 ns e ae h S => Po.ret S .nil
theorem yB (hF : RE F F3) (hA : RA A A3) : RA (kJ F A) (wA F3 A3) := fun X h0 ns e ae h S =>
 Po.bind S (hF X h0 0 ns e ae h S (Nat.zero_le _)) fun d1 t1 h1 ns1 e1 a1 S1 r1 => Po.bind S1 (hA X h0 ns1 e1 ae h1 S1) fun ds ts h2 ns2 e2 a2 S2 r2 => by
  obtain ⟨r1', hn⟩ := r1.drop
  have r3 := r1'.stp S1 a2 hn
  refine Po.ret S2 ?_
  show TsR X ns2 ae h2 (d1 :: ds) (t1.drop :: ts)
  generalize t1.drop = t at *
  cases t with
  | val v => exact .val r3 r2
  | new v => exact absurd rfl (hn v)
  | bor i => exact .bor r3 r2
theorem CH {g : Fn} {g3 : List Val -> Bv} (hg : RFn g g3) (hA : RA A A3) : RE (eFn g A) (vFn g3 A3) := fun X h0 L ns e ae h S hl =>
 Po.bind S (hA X h0 ns e ae h S) fun ds ts h1 ns1 e1 a1 S1 r1 => by
  try dsimp only
  split
  ·rename_i vs q
   exact BvR.po S1 (Nat.le_trans hl a1.len) (hg _ _ _ _ (TsR.sh S1 r1 q))
  ·trivial
theorem BK {X : Nat -> Prop} {h0 : Nat} {ns : Ns} {e : E3} {ae : AE} {h : AH} {i : Nat} {v : Val} (S : Sat X h0 ns e ae h) (q : e[i]? = some (.ow v)) : ∃ n, ae[i]? = some (some (.ref n)) /\ Sat X h0 (ns.set i none) (e.set i (.sh v)) ae h /\ Stp ns e h (ns.set i none) (e.set i (.sh v)) h /\ Rd (Oc X (ns.set i none)) h (.ref n) v := by
 obtain ⟨n, o, q1, q2, _, q3, _, q4⟩ := S.sl i _ q
 have hi := (List.getElem?_eq_some_iff.mp q).1
 have hn : i < ns.length := by rw [S.l2]; exact hi
 have r : Rd (Oc X (ns.set i none)) h (.ref n) v := .cell ⟨S.nx i n q1, fun z => by
  obtain ⟨j, z⟩ := bh.mp z
  rcases bJ hn z with ⟨_, y⟩ | ⟨y, z⟩
  ·cases y
  ·exact y (S.inj j i n z q1)⟩ q3 (q4.mono fun m o p q => ⟨eS p, q⟩)
 exact ⟨n, q2, S.putN' hi ⟨rfl, _, q2, r⟩, Stp.refl.put (x := none) hi (fun _ z => by cases z) q rfl rfl S.l2, r⟩
theorem eP {X : Nat -> Prop} {h0 L : Nat} {ns : Ns} {e e' : E3} {ae : AE} {h : AH} {d : D} {t : Tm} {v : Val} (S : Sat X h0 ns e ae h) (r : relE X h0 L ae ns e h d t) (q : cN e t = some (e', v)) : ∃ ns', Sat X h0 ns' e' ae h /\ Stp ns e h ns' e' h /\ Rd (Oc X ns') h d v := by
 cases t with
 | val u => cases q; exact ⟨ns, S, .refl, r⟩
 | new u => cases q; exact ⟨ns, S, .refl, r.new⟩
 |
  bor i =>
  unfold cN at q
  dsimp only at q
  have r' : ae[i]? = some (some d) := r
  split at q
  ·rename_i u q1; cases q
   obtain ⟨_, x, e1, e2⟩ := S.sl i _ q1
   rw [r'] at e1; cases e1
   exact ⟨ns, S, .refl, e2⟩
  ·rename_i u q1; cases q
   obtain ⟨n, e1, S', a', e2⟩ := BK S q1
   rw [r'] at e1; cases e1
   exact ⟨_, S', a', e2⟩
  ·cases q
theorem
    lO {X : Nat -> Prop} {h0 : Nat} {ae : AE} {h : AH} {ts : List Tm} : ∀ {ds : List D} {vs : List Val} {ns : Ns} {e e' : E3}, Sat X h0 ns e ae h -> TsR X ns ae h ds ts -> dem e ts = some (e', vs) -> ∃ ns', Sat X h0 ns' e' ae h /\ Stp ns e h ns' e' h /\ Rds (Oc X ns') h ds vs := by
 induction ts with
 | nil => intro ds vs ns e e' S r q; cases r; cases q; exact ⟨ns, S, .refl, .nil⟩
 |
  cons t ts ih =>
  intro ds vs ns e e' S r q
  unfold dem at q
  split at q
  ·rename_i e1 v q1
   split at q
   ·rename_i e2 vs' q2
    cases q
    have hr : ∃ d ds', ds = d :: ds' /\ relE X h0 0 ae ns e h d t /\ TsR X ns ae h ds' ts := by
     cases r with
     | val r rr => exact ⟨_, _, rfl, r, rr⟩
     | bor r rr => exact ⟨_, _, rfl, r, rr⟩
    obtain ⟨d, ds', rfl, hr⟩ := hr
    obtain ⟨ns1, S1, a1, r1⟩ := eP S hr.1 q1
    obtain ⟨ns2, S2, a2, r2⟩ := ih S1 (hr.2.stp S a1) q2
    exact ⟨ns2, S2, a1.trans S a2, .cons (r1.mono (a2.mov S1)) r2⟩
   ·cases q
  ·cases q
theorem
    zM (hA : RA A A3) : RE (eFn jB A) (vTup A3) := fun X h0 L ns e ae h S hl =>
 Po.bind S (hA X h0 ns e ae h S) fun ds ts h1 ns1 e1 a1 S1 r1 => by
  try dsimp only
  split
  ·rename_i e2 vs q
   split
   ·rename_i hv
    obtain ⟨ns2, S2, a2, r2⟩ := lO S1 r1 q
    exact ⟨.tup ds, h1, ns2, by unfold jB; rw [if_pos (by rw [r2.len]; exact hv)], a2, S2, .tup r2⟩
   ·trivial
  ·trivial
theorem
    zm (hA : RA A A3) : RE (eFn dz A) (vLst A3) := fun X h0 L ns e ae h S hl =>
 Po.bind S (hA X h0 ns e ae h S) fun ds ts h1 ns1 e1 a1 S1 r1 => by
  try dsimp only
  split
  ·rename_i e2 vs q
   split
   ·rename_i hv
    obtain ⟨ns2, S2, a2, r2⟩ := lO S1 r1 q
    have p := BvR.po (r := dz ds h1) (b := .new (.lst vs)) S2 (Nat.le_trans hl a1.len) ⟨.lst ds, by unfold dz; rw [if_pos (by rw [r2.len]; exact hv)], trivial, .lst r2⟩
    obtain ⟨d, h', ns', y, y1, y2, y3⟩ := p
    exact ⟨d, h', ns', y, a2.trans S1 y1, y2, y3⟩
   ·trivial
  ·trivial
theorem kL {X : Nat -> Prop} {h0 L : Nat} {ae : AE} {ns1 : Ns} {e1 : E3} {h1 : AH} {d1 : D} {t1 : Tm} {b : Bool} (S1 : Sat X h0 ns1 e1 ae h1) (r1 : relE X h0 L ae ns1 e1 h1 d1 t1) (q : bOf (rs e1 t1) = some b) : d1 = .bl b := by
 unfold bOf at q
 split at q
 ·rename_i b' q'; cases q; exact (r1.sh S1 q').bl
 ·cases q
theorem Bo (hF : RE F F3) (hG : RE G G3) : RE (jR F G) (vAnd F3 G3) := fun X h0 L ns e ae h S hl =>
 Po.bind S (hF X h0 L ns e ae h S hl) fun d1 t1 h1 ns1 e1 a1 S1 r1 => by
  try dsimp only
  split
  ·rename_i q; rw [kL S1 r1 q]; exact hG X h0 L ns1 e1 ae h1 S1 (Nat.le_trans hl a1.len)
  ·rename_i q; rw [kL S1 r1 q]; exact Po.ret S1 (.bl false)
  ·trivial
theorem BA (hF : RE F F3) : RE (vy F) (vNot F3) := fun X h0 L ns e ae h S hl =>
 Po.bind S (hF X h0 L ns e ae h S hl) fun d1 t1 h1 ns1 e1 a1 S1 r1 => by
  try dsimp only
  split
  ·rename_i q; rw [kL S1 r1 q]; exact Po.ret S1 (.bl _)
  ·trivial
theorem D3 (hc : RT c c3) (hF : RE F F3) (hG : RE G G3) : RE (eIf c F G) (vIf c3 F3 G3) := fun X h0 L ns e ae h S hl =>
 Po.bind S (hc X h0 ns e ae h S) fun b b' h1 ns1 e1 a1 S1 r1 => by
  cases r1
  try dsimp only
  split
  ·exact hF X h0 L ns1 e1 ae h1 S1 (Nat.le_trans hl a1.len)
  ·exact hG X h0 L ns1 e1 ae h1 S1 (Nat.le_trans hl a1.len)
theorem Ds (hF : RE F F3) : RT (tOf F) (cOf F3) := fun X h0 ns e ae h S =>
 Po.bind S (hF X h0 0 ns e ae h S (Nat.zero_le _)) fun d1 t1 h1 ns1 e1 a1 S1 r1 => by
  try dsimp only
  split
  ·rename_i q; rw [kL S1 r1 q]; exact Po.ret S1 rfl
  ·trivial
theorem CJ (hc : RT c c3) (hd : RT d d3) : RT (tAn c d) (cAn c3 d3) := fun X h0 ns e ae h S =>
 Po.bind S (hc X h0 ns e ae h S) fun b b' h1 ns1 e1 a1 S1 r1 => by
  cases r1
  try dsimp only
  split
  ·exact hd X h0 ns1 e1 ae h1 S1
  ·exact Po.ret S1 rfl
theorem rt_o (hc : RT c c3) (hd : RT d d3) : RT (tO c d) (cO c3 d3) := fun X h0 ns e ae h S =>
 Po.bind S (hc X h0 ns e ae h S) fun b b' h1 ns1 e1 a1 S1 r1 => by
  cases r1
  try dsimp only
  split
  ·exact Po.ret S1 rfl
  ·exact hd X h0 ns1 e1 ae h1 S1
theorem EH (hc : RT c c3) : RT (tNo c) (cNo c3) := fun X h0 ns e ae h S =>
 Po.bind S (hc X h0 ns e ae h S) fun b b' h1 ns1 e1 a1 S1 r1 => by
  cases r1
  exact Po.ret S1 rfl
theorem rt_y : RT tY cY := fun X h0 ns e ae h S => Po.ret S rfl
theorem x3 {P : Nat -> Prop} {h : AH} {d : D} {v : Val} {b : Bool} (r : ShR P h d v) (q : qZ v = some b) : oR d h = .ok b h := by
 have emp : ∀ {ds : List D} {vs : List Val}, Rds P h ds vs -> ds.isEmpty = vs.isEmpty := fun r => by cases r <;> rfl
 cases v with
 | non => cases q; rw [r.non]; rfl
 | bl b => cases q; rw [r.bl]; rfl
 | int i => cases q; rw [r.int]; rfl
 | tup xs => cases q; obtain ⟨ds, rfl, r2⟩ := r.tup; show R.ok (!ds.isEmpty) h = _; rw [emp r2]
 |
  lst xs =>
  cases q
  obtain ⟨n, ds, rfl, _, e1, r1⟩ := r.lst
  rw [<- emp r1]
  unfold oR dH; dsimp only; rw [e1]
 |
  kl xs =>
  cases q
  obtain ⟨ds, r2, rfl | ⟨n, rfl, e1⟩⟩ := r.kl
  ·show R.ok (!ds.isEmpty) h = _; rw [emp r2]
  ·rw [<- emp r2]
   unfold oR dH; dsimp only; rw [e1]
 | _ => cases q
theorem CM (hF : RE F F3) : RT (tTr F) (cTr F3) := fun X h0 ns e ae h S =>
 Po.bind S (hF X h0 0 ns e ae h S (Nat.zero_le _)) fun d1 t1 h1 ns1 e1 a1 S1 r1 => by
  try dsimp only
  split
  ·rename_i b q
   obtain ⟨v, q1, q2⟩ := Option.bind_eq_some_iff.mp q
   rw [x3 (r1.sh S1 q1) q2]
   exact Po.ret S1 rfl
  ·trivial
end
end L3
set_option Elab.async false
set_option linter.all false
set_option maxRecDepth 100000
namespace L3
open PySem PySem.Spec PyProof.Rows L2
inductive Rt where
 | val (v : Val) | new (v : Val)
inductive SR3 where
 | nx (e : E3) | rt (r : Rt) (e : E3) | bk (e : E3) | ct (e : E3) | exc (c : Str) (e : E3) | stuck
abbrev MS3 := E3 -> SR3
noncomputable def RtR (X : Nat -> Prop) (h0 : Nat) (ns : Ns) (e : E3) (ae : AE) (h : AH) (d : D) : Rt -> Prop
 | .val v => Sat X h0 ns e ae h /\ Rd (Oc X ns) h d v
 | .new v => ∃ n o, d = .ref n /\ h0 <= n /\ ¬ X n /\ h[n]? = some o /\ bY o /\ Sat (Xn X n) h0 ns e ae h /\ Rc (Oc (Xn X n) ns) h o v
noncomputable def PoS (X : Nat -> Prop) (h0 : Nat) (ns : Ns) (e : E3) (h : AH) (r2 : SR) : SR3 -> Prop
 | .stuck => True
 | .nx e' => ∃ ae' h' ns', r2 = .nx ae' h' /\ Stp ns e h ns' e' h' /\ Sat X h0 ns' e' ae' h'
 | .bk e' => ∃ ae' h' ns', r2 = .bk ae' h' /\ Stp ns e h ns' e' h' /\ Sat X h0 ns' e' ae' h'
 | .ct e' => ∃ ae' h' ns', r2 = .ct ae' h' /\ Stp ns e h ns' e' h' /\ Sat X h0 ns' e' ae' h'
 | .exc c e' => ∃ ae' h' ns', r2 = .exc c ae' h' /\ Stp ns e h ns' e' h' /\ Sat X h0 ns' e' ae' h'
 | .rt r e' => ∃ d ae' h' ns', r2 = .rt d h' /\ Stp ns e h ns' e' h' /\ RtR X h0 ns' e' ae' h' d r
noncomputable def RS (F : MS) (G : MS3) : Prop := ∀ X h0 ns e ae h, Sat X h0 ns e ae h -> PoS X h0 ns e h (F ae h) (G e)
noncomputable def R3.toS {α : Type} (r : R3 α) (f : α -> E3 -> SR3) : SR3 := match r with
 | .ok a e => f a e
 | .exc c e => .exc c e
 | .stuck => .stuck
noncomputable def SR3.then (r : SR3) (f : E3 -> SR3) : SR3 := match r with
 | .nx e => f e
 | r => r
section
variable {X : Nat -> Prop} {h0 L : Nat} {ns ns1 ns' : Ns} {e e1 e' : E3} {ae : AE} {h h1 h' : AH}
theorem PoS.after {r2 : SR} {r3 : SR3} (S : Sat X h0 ns e ae h) (a : Stp ns e h ns1 e1 h1) (p : PoS X h0 ns1 e1 h1 r2 r3) : PoS X h0 ns e h r2 r3 := by
 cases r3 with
 | stuck => trivial
 | nx e' => obtain ⟨ae', h', ns', q, q1, q2⟩ := p; exact ⟨ae', h', ns', q, a.trans S q1, q2⟩
 | bk e' => obtain ⟨ae', h', ns', q, q1, q2⟩ := p; exact ⟨ae', h', ns', q, a.trans S q1, q2⟩
 | ct e' => obtain ⟨ae', h', ns', q, q1, q2⟩ := p; exact ⟨ae', h', ns', q, a.trans S q1, q2⟩
 | exc c e' => obtain ⟨ae', h', ns', q, q1, q2⟩ := p; exact ⟨ae', h', ns', q, a.trans S q1, q2⟩
 | rt r e' => obtain ⟨d, ae', h', ns', q, q1, q2⟩ := p; exact ⟨d, ae', h', ns', q, a.trans S q1, q2⟩
theorem PoS.toS {δ α : Type} {rel : Ns -> E3 -> AH -> δ -> α -> Prop} {r2 : R δ} {r3 : R3 α} {f2 : δ -> AH -> SR} {f3 : α -> E3 -> SR3} (p : Po X h0 ns e ae h rel r2 r3)
  (k : ∀ d t h' ns' e', Stp ns e h ns' e' h' -> Sat X h0 ns' e' ae h' -> rel ns' e' h' d t -> PoS X h0 ns e h (f2 d h') (f3 t e')) : PoS X h0 ns e h (r2.toS ae f2) (r3.toS f3) := by
 cases r3 with
 | stuck => trivial
 | exc c e' => obtain ⟨h', ns', rfl, q1, q2⟩ := p; exact ⟨ae, h', ns', rfl, q1, q2⟩
 | ok t e' => obtain ⟨d, h', ns', rfl, q1, q2, q3⟩ := p; exact k d t h' ns' e' q1 q2 q3
theorem PoS.nx {ae' : AE} (a : Stp ns e h ns' e' h') (S : Sat X h0 ns' e' ae' h') : PoS X h0 ns e h (.nx ae' h') (.nx e') := ⟨ae', h', ns', rfl, a, S⟩
end
noncomputable def wNx : MS3 := fun e => .nx e
noncomputable def wSeq (F G : MS3) : MS3 := fun e => (F e).then G
noncomputable def xb (F : ME3) : MS3 := fun e => (F e).toS fun _ e1 => .nx e1
noncomputable def wIf (c : MT3) (F G : MS3) : MS3 := fun e => (c e).toS fun b e1 => if b = true then F e1 else G e1
noncomputable def ll (t : Tm) (e : E3) : SR3 := match t with
 | .val v => .rt (.val v) e
 | .new v => .rt (.new v) e
 | .bor i => match e[i]? with
  | some (.sh v) => .rt (.val v) e
  | some (.ow v) => .rt (.new v) (e.set i .no)
  | _ => .stuck
noncomputable def wRet (F : ME3) : MS3 := fun e => (F e).toS ll
noncomputable def gC (o : Bool) (i : Nat) (t : Tm) (e : E3) : SR3 := match e[i]? with
 | some s0 => if s0.pl = true then (match t with
  | .val v => .nx (e.set i (.sh v))
  | .new v => .nx (e.set i (if o = true then .ow v else .sh v))
  | .bor j => match cN e (.bor j) with
   | some (e2, v) => .nx (e2.set i (.sh v))
   | none => .stuck) else .stuck
 | none => .stuck
noncomputable def wAsg (o : Bool) (i : Nat) (F : ME3) : MS3 := fun e => (F e).toS (gC o i)
abbrev MG3 := Val -> E3 -> Option E3
abbrev kd := List Val -> E3 -> Option E3
noncomputable def pN (i : Nat) : MG3 := fun v e => match e[i]? with
 | some s => if s.pl = true then some (e.set i (.sh v)) else none
 | none => none
noncomputable def psN : kd := fun vs e => match vs with
 | [] => some e
 | _ => none
noncomputable def psC (g : MG3) (u : kd) : kd := fun vs e => match vs with
 | v :: r => (g v e).bind fun e1 => u r e1
 | [] => none
noncomputable def pT (n : Nat) (u : kd) : MG3 := fun v e => match v with
 | .tup vs => if vs.length = n then u vs e else none
 | _ => none
noncomputable def w9 (F : ME3) (g : MG3) : MS3 := fun e => (F e).toS fun t e1 => match cN e1 t with
 | some (e2, v) => match g v e2 with
  | some e3 => .nx e3
  | none => .stuck
 | none => .stuck
noncomputable def wPar (i j : Nat) (A : MA3) : MS3 := fun e => (A e).toS fun ts e1 => match dem e1 ts with
 | some (e2, [v, u]) => match (pN i v e2).bind (pN j u) with
  | some e3 => .nx e3
  | none => .stuck
 | _ => .stuck
noncomputable def tQ (c : Str) (A : MA3) : MS3 := fun e => (A e).toS fun ts e1 => if ts.length <= 16777216 then .exc c e1 else .stuck
noncomputable def RG (g2 : MG) (g3 : MG3) : Prop := ∀ X h0 ns e ae h d v e', Sat X h0 ns e ae h -> Rd (Oc X ns) h d v -> g3 v e = some e' -> ∃ ae' ns', g2 d ae h = .ok ae' h /\ Sat X h0 ns' e' ae' h /\ Stp ns e h ns' e' h
noncomputable def RGs (g2 : MGs) (g3 : kd) : Prop := ∀ X h0 ns e ae h ds vs e', Sat X h0 ns e ae h -> Rds (Oc X ns) h ds vs -> g3 vs e = some e' -> ∃ ae' ns', g2 ds ae h = .ok ae' h /\ Sat X h0 ns' e' ae' h /\ Stp ns e h ns' e' h
section
variable {F G : ME} {F3 G3 : ME3} {A : MA} {A3 : MA3} {c d : MT} {c3 d3 : MT3} {U V : MS} {U3 V3 : MS3} {g : MG} {g3 : MG3} {gs : MGs} {gs3 : kd}
theorem Dy : RS sNx wNx := fun X h0 ns e ae h S => .nx .refl S
theorem Ck (hU : RS U U3) (hV : RS V V3) : RS (uL U V) (wSeq U3 V3) := fun X h0 ns e ae h S => by
 have p := hU X h0 ns e ae h S
 show PoS X h0 ns e h ((U ae h).then V) ((U3 e).then V3)
 generalize U3 e = r at *
 cases r with
 | stuck => trivial
 | nx e' => obtain ⟨ae', h', ns', q, q1, q2⟩ := p; rw [q]; exact PoS.after S q1 (hV X h0 ns' e' ae' h' q2)
 | bk e' => obtain ⟨ae', h', ns', q, q1, q2⟩ := p; rw [q]; exact ⟨ae', h', ns', rfl, q1, q2⟩
 | ct e' => obtain ⟨ae', h', ns', q, q1, q2⟩ := p; rw [q]; exact ⟨ae', h', ns', rfl, q1, q2⟩
 | exc c e' => obtain ⟨ae', h', ns', q, q1, q2⟩ := p; rw [q]; exact ⟨ae', h', ns', rfl, q1, q2⟩
 | rt r e' => obtain ⟨d, ae', h', ns', q, q1, q2⟩ := p; rw [q]; exact ⟨d, ae', h', ns', rfl, q1, q2⟩
theorem yo (hF : RE F F3) : RS (rD F) (xb F3) := fun X h0 ns e ae h S => PoS.toS (hF X h0 0 ns e ae h S (Nat.zero_le _)) fun d t h1 ns1 e1 a1 S1 r1 => .nx a1 S1
theorem C7 (hc : RT c c3) (hU : RS U U3) (hV : RS V V3) : RS (sIf c U V) (wIf c3 U3 V3) := fun X h0 ns e ae h S => PoS.toS (hc X h0 ns e ae h S) fun b b' h1 ns1 e1 a1 S1 r1 => by
 cases r1
 try dsimp only
 split
 ·exact PoS.after S a1 (hU X h0 ns1 e1 ae h1 S1)
 ·exact PoS.after S a1 (hV X h0 ns1 e1 ae h1 S1)
theorem
    Av (hF : RE F F3) : RS (uq F) (wRet F3) := fun X h0 ns e ae h S => PoS.toS (hF X h0 h0 ns e ae h S S.lh) fun d t h1 ns1 e1 a1 S1 r1 => by
 cases t with
 | val v => exact ⟨d, ae, h1, ns1, rfl, a1, S1, r1⟩
 | new v => obtain ⟨n, o, q⟩ := r1; exact ⟨d, ae, h1, ns1, rfl, a1, n, o, q⟩
 |
  bor i =>
  unfold ll
  dsimp only
  have r' : ae[i]? = some (some d) := r1
  split
  ·rename_i v q
   obtain ⟨_, x, e1', e2⟩ := S1.sl i _ q
   rw [r'] at e1'; cases e1'
   exact ⟨d, ae, h1, ns1, rfl, a1, S1, e2⟩
  ·rename_i v q
   obtain ⟨n, o, q1, q2, q3, q4, q5, q6⟩ := S1.sl i _ q
   rw [r'] at q2; cases q2
   have hi := (List.getElem?_eq_some_iff.mp q).1
   have hn : i < ns1.length := by rw [S1.l2]; exact hi
   have mv : Mov (Oc X ns1) (Oc (Xn X n) (ns1.set i none)) h1 h1 := fun m o' p q' => ⟨⟨fun z => by
    rcases z with z | rfl
    ·exact p.1 z
    ·exact p.2 (bh.mpr ⟨i, q1⟩), (eS p).2⟩, q'⟩
   have S2 := S1.putN' hi (s := .no) rfl
   refine ⟨.ref n, ae, h1, ns1.set i none, rfl, a1.put (x := none) hi (fun _ z => by cases z) q rfl rfl S1.l2, n, o, rfl, q3, S1.nx i n q1, q4, q5, ⟨S2.l1, S2.l2, S2.lh, fun m z => ?_, S2.inj, fun j m qj z => ?_, fun j s qj => ?_⟩, q6.mono mv⟩
   ·rcases z with z | rfl
    ·exact S2.xl m z
    ·exact cU q4
   ·rcases z with z | rfl
    ·exact S2.nx j m qj z
    ·rcases bJ hn qj with ⟨_, y⟩ | ⟨y, z⟩
     ·cases y
     ·exact y (S1.inj j i _ z q1)
   ·rcases bJ hi qj with ⟨rfl, rfl⟩ | ⟨z, qj'⟩
    ·rw [bZ hn]; rfl
    ·rw [bP z]
     exact (S1.sl j s qj').mono mv fun _ _ _ q => q
  ·trivial
theorem
    As (o : Bool) (i : Nat) (hF : RE F F3) : RS (gu F (gN i)) (wAsg o i F3) := fun X h0 ns e ae h S => PoS.toS (hF X h0 h.length ns e ae h S (Nat.le_refl _)) fun d t h1 ns1 e1 a1 S1 r1 => by
 show PoS X h0 ns e h (.nx (ae.set i (some d)) h1) (gC o i t e1)
 unfold gC
 split
 ·rename_i s0 q0
  split
  ·rename_i p0
   have hi := (List.getElem?_eq_some_iff.mp q0).1
   cases t with
   | val v => exact .nx (a1.put (x := none) (s := .sh v) hi (fun _ z => by cases z) q0 p0 rfl S1.l2) (S1.putN hi ⟨rfl, d, rfl, Rd.mono (fun m o p q => ⟨eS p, q⟩) r1⟩)
   |
    new v =>
    try dsimp only
    split
    ·obtain ⟨n, ob, rfl, q1, q2, q3, q4, q5, q6⟩ := r1
     exact .nx (a1.put (x := some n) (s := .ow v) hi (fun m z => by cases z; exact q1) q0 p0 rfl S1.l2) (Sat.putO q5 q2 hi (Nat.le_trans S.lh q1) q3 q4 q6)
    ·exact .nx (a1.put (x := none) (s := .sh v) hi (fun _ z => by cases z) q0 p0 rfl S1.l2) (S1.putN hi ⟨rfl, d, rfl, Rd.mono (fun m o p q => ⟨eS p, q⟩) r1.new⟩)
   |
    bor j =>
    try dsimp only
    split
    ·rename_i e2 v q2
     obtain ⟨ns2, S2, a2, r2⟩ := eP S1 r1 q2
     have hq : ∃ s2, e2[i]? = some s2 /\ s2.pl = true := by
      unfold cN at q2
      dsimp only at q2
      split at q2
      ·cases q2; exact ⟨s0, q0, p0⟩
      ·rename_i u q3
       cases q2
       by_cases z : i = j
       ·subst z; exact ⟨_, bZ hi, rfl⟩
       ·exact ⟨s0, by rw [bP z]; exact q0, p0⟩
      ·cases q2
     obtain ⟨s2, hq1, hq2⟩ := hq
     have hi2 := (List.getElem?_eq_some_iff.mp hq1).1
     exact .nx ((a1.trans S a2).put (x := none) (s := .sh v) hi2 (fun _ z => by cases z) hq1 hq2 rfl S2.l2) (S2.putN hi2 ⟨rfl, d, rfl, Rd.mono (fun m o p q => ⟨eS p, q⟩) r2⟩)
    ·trivial
  ·trivial
 ·trivial
theorem wx (i : Nat) : RG (gN i) (pN i) := fun X h0 ns e ae h d v e' S r q => by
 unfold pN at q
 split at q
 ·rename_i s q0
  split at q
  ·rename_i p0
   cases q
   have hi := (List.getElem?_eq_some_iff.mp q0).1
   exact ⟨_, ns.set i none, rfl, S.putN hi ⟨rfl, d, rfl, Rd.mono (fun m o p q => ⟨eS p, q⟩) r⟩, Stp.refl.put (x := none) (s := .sh v) hi (fun _ z => by cases z) q0 p0 rfl S.l2⟩
  ·cases q
 ·cases q
theorem DF : RGs gsN psN := fun X h0 ns e ae h ds vs e' S r q => by
 cases r with
 | nil => cases q; exact ⟨ae, ns, rfl, S, .refl⟩
 | cons _ _ => cases q
theorem EB (hg : RG g g3) (hs : RGs gs gs3) : RGs (gsC g gs) (psC g3 gs3) := fun X h0 ns e ae h ds vs e' S r q => by
 cases r with
 | nil => cases q
 |
  cons r rr =>
  obtain ⟨e1, q1, q2⟩ := Option.bind_eq_some_iff.mp q
  obtain ⟨ae1, ns1, p1, S1, a1⟩ := hg _ _ _ _ _ _ _ _ _ S r q1
  obtain ⟨ae2, ns2, p2, S2, a2⟩ := hs _ _ _ _ _ _ _ _ _ S1 (rr.mono (a1.mov S)) q2
  refine ⟨ae2, ns2, ?_, S2, a1.trans S a2⟩
  unfold gsC; dsimp only; rw [p1]; exact p2
theorem rg_t (n : Nat) (hs : RGs gs gs3) : RG (gT fun ds ae h => if ds.length = n then gs ds ae h else .stuck) (pT n gs3) := fun X h0 ns e ae h d v e' S r q => by
 unfold pT at q
 split at q
 ·split at q
  ·rename_i hn
   obtain ⟨ds, rfl, r2⟩ := ShR.tup (.inl r)
   obtain ⟨ae1, ns1, p1, S1, a1⟩ := hs _ _ _ _ _ _ _ _ _ S r2 q
   refine ⟨ae1, ns1, ?_, S1, a1⟩
   unfold gT; dsimp only; rw [if_pos (by rw [r2.len]; exact hn)]; exact p1
  ·cases q
 ·cases q
theorem AB (hg : RG g g3) : RG (fun d ae h => noX (g d ae h)) g3 := fun X h0 ns e ae h d v e' S r q => by
 obtain ⟨ae1, ns1, p1, S1, a1⟩ := hg _ _ _ _ _ _ _ _ _ S r q
 exact ⟨ae1, ns1, by dsimp only; rw [p1]; rfl, S1, a1⟩
theorem yA (hF : RE F F3) (hg : RG g g3) : RS (gu F g) (w9 F3 g3) := fun X h0 ns e ae h S => PoS.toS (hF X h0 0 ns e ae h S (Nat.zero_le _)) fun d t h1 ns1 e1 a1 S1 r1 => by
 try dsimp only
 split
 ·rename_i e2 v q
  obtain ⟨ns2, S2, a2, r2⟩ := eP S1 r1 q
  split
  ·rename_i e3 q3
   obtain ⟨ae3, ns3, p3, S3, a3⟩ := hg _ _ _ _ _ _ _ _ _ S2 r2 q3
   rw [p3]
   exact .nx ((a1.trans S a2).trans S a3) S3
  ·trivial
 ·trivial
theorem
    zJ (i j : Nat) (hA : RA A A3) : RS (vX i j A) (wPar i j A3) := fun X h0 ns e ae h S => PoS.toS (hA X h0 ns e ae h S) fun ds ts h1 ns1 e1 a1 S1 r1 => by
 try dsimp only
 cases q : dem e1 ts with
 | none => trivial
 |
  some w =>
  obtain ⟨e2, vs⟩ := w
  obtain ⟨ns2, S2, a2, r2⟩ := lO S1 r1 q
  match vs, ds, r2 with
  | [], _, _ => trivial
  | [_], _, _ => trivial
  | _ :: _ :: _ :: _, _, _ => trivial
  |
   [v, u], [d, d'], r2 =>
   dsimp only
   split
   ·rename_i e3 q3
    obtain ⟨e4, q4, q5⟩ := Option.bind_eq_some_iff.mp q3
    cases r2 with
    |
     cons r rr =>
     cases rr with
     |
      cons r' rr =>
      obtain ⟨ae3, ns3, p3, S3, a3⟩ := wx i _ _ _ _ _ _ _ _ _ S2 r q4
      obtain ⟨ae4, ns4, p4, S4, a4⟩ := wx j _ _ _ _ _ _ _ _ _ S3 (r'.mono (a3.mov S2)) q5
      have z3 : ae3 = ae.set i (some d) := by have := p3; unfold gN at this; cases this; rfl
      have z4 : ae4 = ae3.set j (some d') := by have := p4; unfold gN at this; cases this; rfl
      subst z4 z3
      exact .nx (((a1.trans S a2).trans S a3).trans S a4) S4
   ·trivial
theorem TsR.len {X : Nat -> Prop} {ns : Ns} {ae : AE} {h : AH} {ds : List D} {ts : List Tm} (r : TsR X ns ae h ds ts) : ds.length = ts.length := by
 induction r with
 | nil => rfl
 | val _ _ ih => rw [List.length_cons, List.length_cons, ih]
 | bor _ _ ih => rw [List.length_cons, List.length_cons, ih]
theorem uI (x : Str) (hA : RA A A3) : RS (oE x A) (tQ x A3) := fun X h0 ns e ae h S => PoS.toS (hA X h0 ns e ae h S) fun ds ts h1 ns1 e1 a1 S1 r1 => by
 try dsimp only
 by_cases hl : ts.length <= 16777216
 ·rw [if_pos hl, if_pos (by rw [TsR.len r1]; exact hl)]
  exact ⟨ae, h1, ns1, rfl, a1, S1⟩
 ·rw [if_neg hl]; trivial
end
noncomputable def Sl.re (s : Sl) (u : Val) : Sl := match s with
 | .ow _ => .ow u
 | .mu _ => .mu u
 | s => s
noncomputable def Sl.mv : Sl -> Option Val
 | .ow v => some v
 | .mu v => some v
 | _ => none
section
variable {X : Nat -> Prop} {h0 L : Nat} {ns ns1 ns' : Ns} {e e1 e' : E3} {ae : AE} {h h1 h' : AH}
theorem Sat.write (S : Sat X h0 ns e ae h) {i : Nat} {s : Sl} {u : Val} (q : e[i]? = some s) (hm : s.mv = some u) : ∃ n o, ae[i]? = some (some (.ref n)) /\ h[n]? = some o /\ bY o /\ Rc (Oc X ns) h o u /\
  ∀ o' u', bY o' -> Rc (Oc X ns) h o' u' -> Mov (Oc X ns) (Oc X ns) h (h.set n o') /\ Sat X h0 ns (e.set i (s.re u')) ae (h.set n o') /\ Stp ns e h ns (e.set i (s.re u')) (h.set n o') := by
 have hi := (List.getElem?_eq_some_iff.mp q).1
 have key : ∃ n o, ns[i]? = some (some n) /\ ae[i]? = some (some (.ref n)) /\ h[n]? = some o /\ bY o /\ Rc (Oc X ns) h o u /\ s.mt = true /\ (∀ o' u', bY o' -> Rc (Oc X ns) (h.set n o') o' u' -> SlR (Oc X ns) h0 (some (some n)) (some (some (.ref n))) (h.set n o') (s.re u')) := by
  have y := S.sl i s q
  cases s with
  | ow v => cases hm; obtain ⟨n, o, q1, q2, q3, q4, q5, q6⟩ := y; exact ⟨n, o, q1, q2, q4, q5, q6, rfl, fun o' u' hf r => ⟨n, o', rfl, rfl, q3, bZ (cU q4), hf, r⟩⟩
  | mu v => cases hm; obtain ⟨n, o, q1, q2, q4, q5, q6⟩ := y; exact ⟨n, o, q1, q2, q4, q5, q6, rfl, fun o' u' hf r => ⟨n, o', rfl, rfl, bZ (cU q4), hf, r⟩⟩
  | _ => cases hm
 obtain ⟨n, o, k1, k2, k3, k4, k5, k6, k7⟩ := key
 refine ⟨n, o, k2, k3, k4, k5, fun o' u' hf r => ?_⟩
 have mv : Mov (Oc X ns) (Oc X ns) h (h.set n o') := fun m ob p q' => ⟨p, by
  have : m ≠ n := fun z => p.2 (bh.mpr ⟨i, by rw [z]; exact k1⟩)
  rw [bP this]; exact q'⟩
 refine ⟨mv, ⟨by rw [List.length_set]; exact S.l1, by rw [List.length_set]; exact S.l2, by rw [List.length_set]; exact S.lh, fun m z => by rw [List.length_set]; exact S.xl m z, S.inj, S.nx, fun j s' qj => ?_⟩, ?_⟩
 ·rcases bJ hi qj with ⟨rfl, rfl⟩ | ⟨z, qj'⟩
  ·rw [k1, k2]; exact k7 o' u' hf (r.mono mv)
  ·refine (S.sl j s' qj').mono mv fun m ob qm qo => ?_
   have : m ≠ n := fun y => by subst y; exact z (S.inj j i m qm k1)
   rw [bP this]; exact qo
 ·refine ⟨by rw [List.length_set]; exact Nat.le_refl _, fun m ob qm hM => ?_, fun _ _ q => .inl q, fun j s' qj hl => ?_, fun j s' qj hl => ?_, fun j v qj => ?_, fun j v qj => ?_⟩
  ·have : m ≠ n := fun y => by subst y; exact hM ⟨i, s, k1, q, k6⟩
   rw [bP this]; exact qm
  ·have z : j ≠ i := fun z => by subst z; rw [q] at qj; cases qj; cases s <;> first | cases hl; done | cases k6; done
   rw [bP z]; exact ⟨qj, rfl⟩
  ·rcases bJ hi qj with ⟨_, y⟩ | ⟨z, qj'⟩
   ·subst y; cases s <;> first | cases hl; done | cases k6; done
   ·exact ⟨qj', rfl⟩
  ·rcases bJ hi qj with ⟨rfl, y⟩ | ⟨z, qj'⟩
   ·cases s with
    | mu w => exact ⟨w, q, rfl⟩
    | ow w => cases y
    | _ => cases k6
   ·exact ⟨v, qj', rfl⟩
  ·by_cases z : j = i
   ·subst z; rw [q] at qj; cases qj; exact ⟨u', bZ hi, rfl⟩
   ·exact ⟨v, by rw [bP z]; exact qj, rfl⟩
end
noncomputable def rY (w2 : D -> D -> D -> AH -> R Unit) (w3 : Val -> Val -> Val -> Option Val) : Prop := ∀ P h n o u di vi d v u', ¬ P n -> h[n]? = some o -> bY o -> Rc P h o u -> ShR P h di vi -> Rd P h d v -> w3 u vi v = some u' -> ∃ o', w2 (.ref n) di d h = .ok () (h.set n o') /\ bY o' /\ Rc P h o' u'
noncomputable def wSet (i : Nat) (G : ME3) (F : ME3) (w : Val -> Val -> Val -> Option Val) : MS3 := fun e => (F e).toS fun t e1 => match (e1[i]?).bind Sl.mv with
 | none => .stuck
 | some _ => (G e1).toS fun t2 e2 => match rs e2 t2 with
  | none => .stuck
  | some vi => match cN e2 t.drop with
   | none => .stuck
   | some (e3, v) => match e3[i]? with
    | none => .stuck
    | some s => match s.mv with
     | none => .stuck
     | some u => match w u vi v with
      | some u' => .nx (e3.set i (s.re u'))
      | none => .stuck
noncomputable def RM (m2 : D -> List D -> AH -> R D) (m3 : Val -> List Val -> Option (Val × Val)) : Prop := ∀ P h n o u ds vs u' v, h[n]? = some o -> bY o -> Rc P h o u -> Rds P h ds vs -> m3 u vs = some (u', v) -> wO h (.ref n) = true /\ ∃ o' d, m2 (.ref n) ds h = .ok d (h.set n o') /\ bY o' /\ Rc P h o' u' /\ Rd P h d v
noncomputable def la : Val -> Bool
 | .lst _ => true
 | _ => false
section
variable {F G : ME} {F3 G3 : ME3} {A : MA} {A3 : MA3}
theorem yH {X : Nat -> Prop} {h0 : Nat} {ns : Ns} {e : E3} {ae : AE} {h : AH} (S : Sat X h0 ns e ae h) {i : Nat} {u : Val} (q : (e[i]?).bind Sl.mv = some u) : ∃ n o, ae[i]? = some (some (.ref n)) /\ h[n]? = some o /\ bY o /\ Rc (Oc X ns) h o u := by
 obtain ⟨s, q1, q2⟩ := Option.bind_eq_some_iff.mp q
 obtain ⟨n, o, k1, k2, k3, k4, _⟩ := S.write q1 q2
 exact ⟨n, o, k1, k2, k3, k4⟩
theorem
    Bl {w2 : D -> D -> D -> AH -> R Unit} {w3 : Val -> Val -> Val -> Option Val} (i : Nat) (hw : rY w2 w3) (hG : RE G G3) (hF : RE F F3) : RS (gu F (gS (cP i) G w2)) (wSet i G3 F3 w3) := fun X h0 ns e ae h S => PoS.toS (hF X h0 0 ns e ae h S (Nat.zero_le _)) fun d t h1 ns1 e1 a1 S1 r1 => by
 try dsimp only
 cases qm : (e1[i]?).bind Sl.mv with
 | none => trivial
 |
  some u0 =>
  obtain ⟨n0, o0, b1, b2, b3, b4⟩ := yH S1 qm
  have L2e : ∀ h', (gS (cP i) G w2 d ae h').toS ae (fun ae' h2 => SR.nx ae' h2) = (G ae h').toS ae fun di h2 => (w2 (.ref n0) di d h2).toS ae fun _ h3 => .nx ae h3 := fun h' => by
   unfold gS cP
   rw [b1]
   simp only [gP]
   cases G ae h' with
   |
    ok di h2 =>
    simp only [gP]
    show _ = (w2 (.ref n0) di d h2).toS ae fun _ h3 => .nx ae h3
    cases w2 (.ref n0) di d h2 <;> rfl
   | exc c h2 => rfl
   | stuck => rfl
  rw [L2e]
  refine PoS.after S a1 (PoS.toS (hG X h0 0 ns1 e1 ae h1 S1 (Nat.zero_le _)) fun di t2 h2 ns2 e2 a2 S2 r2 => ?_)
  try dsimp only
  cases qi : rs e2 t2 with
  | none => trivial
  |
   some vi =>
   try dsimp only
   cases qd : cN e2 t.drop with
   | none => trivial
   |
    some w =>
    obtain ⟨e3, v⟩ := w
    try dsimp only
    obtain ⟨r1', hn⟩ := r1.drop
    have r3 := r1'.stp S1 a2 hn
    have si := r2.sh S2 qi
    obtain ⟨ns3, S3, a3, r4⟩ := eP S2 r3 qd
    have si3 : ShR (Oc X ns3) h2 di vi := by
     rcases si with z | ⟨n, o, z1, z2, z3⟩
     ·exact .inl (z.mono (a3.mov S2))
     ·exact .inr ⟨n, o, z1, z2, z3.mono (a3.mov S2)⟩
    cases q3 : e3[i]? with
    | none => trivial
    |
     some s =>
     try dsimp only
     cases q4 : s.mv with
     | none => trivial
     |
      some u =>
      try dsimp only
      cases q5 : w3 u vi v with
      | none => trivial
      |
       some u' =>
       obtain ⟨n, o, k1, k2, k3, k4, k5⟩ := S3.write q3 q4
       rw [b1] at k1; cases k1
       have nP : ¬ Oc X ns3 n0 := fun p => by
        have z1 := ((k5 (.lst []) (.lst []) trivial (.lst .nil)).1 _ _ p k2).2
        have z2 := ((k5 (.lst [.non]) (.lst [.non]) trivial (.lst (.cons .non .nil))).1 _ _ p k2).2
        rw [bZ (cU k2)] at z1 z2
        rw [<- z2] at z1
        cases z1
       obtain ⟨o', p1, p2, p3⟩ := hw _ _ _ _ _ _ _ _ _ _ nP k2 k3 k4 si3 r4 q5
       obtain ⟨mv, S4, a4⟩ := k5 o' u' p2 p3
       rw [p1]
       exact .nx ((a2.trans S1 a3).trans S1 a4) S4
end
end L3
set_option Elab.async false
set_option linter.all false
set_option maxRecDepth 100000
namespace L3
open PySem PySem.Spec PyProof.Rows L2
noncomputable def iF : Sl -> Sl
 | .ow v => .lo v
 | .mu v => .lm v
 | s => s
noncomputable def jE : Sl -> Sl
 | .lo v => .ow v
 | .lm v => .mu v
 | s => s
noncomputable def lock (e : E3) (k : Nat) : E3 := match e[k]? with
 | some s => e.set k (iF s)
 | none => e
noncomputable def unlock (e : E3) (k : Nat) : E3 := match e[k]? with
 | some s => e.set k (jE s)
 | none => e
noncomputable def lockO (e : E3) : Option Nat -> E3
 | some k => lock e k
 | none => e
noncomputable def ef (e : E3) : Option Nat -> E3
 | some k => unlock e k
 | none => e
section
variable {X : Nat -> Prop} {h0 L : Nat} {ns ns1 ns' : Ns} {e e1 e' : E3} {ae ae' : AE} {h h1 h' : AH}
theorem SlR.lock {P : Nat -> Prop} {n : Option (Option Nat)} {d : Option (Option D)} {s : Sl} (r : SlR P h0 n d h s) : SlR P h0 n d h (iF s) := by cases s <;> exact r
theorem SlR.unlock {P : Nat -> Prop} {n : Option (Option Nat)} {d : Option (Option D)} {s : Sl} (r : SlR P h0 n d h s) : SlR P h0 n d h (jE s) := by cases s <;> exact r
theorem Sat.lock (S : Sat X h0 ns e ae h) (k : Nat) : Sat X h0 ns (lock e k) ae h := by
 unfold L3.lock
 split
 ·rename_i s q
  have hi := (List.getElem?_eq_some_iff.mp q).1
  refine ⟨by rw [List.length_set]; exact S.l1, by rw [List.length_set]; exact S.l2, S.lh, S.xl, S.inj, S.nx, fun j s' qj => ?_⟩
  rcases bJ hi qj with ⟨rfl, rfl⟩ | ⟨z, qj'⟩
  ·exact (S.sl j s q).lock
  ·exact S.sl j s' qj'
 ·exact S
theorem Sat.unlock (S : Sat X h0 ns e ae h) (k : Nat) : Sat X h0 ns (unlock e k) ae h := by
 unfold L3.unlock
 split
 ·rename_i s q
  have hi := (List.getElem?_eq_some_iff.mp q).1
  refine ⟨by rw [List.length_set]; exact S.l1, by rw [List.length_set]; exact S.l2, S.lh, S.xl, S.inj, S.nx, fun j s' qj => ?_⟩
  rcases bJ hi qj with ⟨rfl, rfl⟩ | ⟨z, qj'⟩
  ·exact (S.sl j s q).unlock
  ·exact S.sl j s' qj'
 ·exact S
theorem gK {k j : Nat} (z : j ≠ k) : (lock e k)[j]? = e[j]? := by
 unfold lock; split
 ·rw [bP z]
 ·rfl
theorem gf {k j : Nat} (z : j ≠ k) : (unlock e k)[j]? = e[j]? := by
 unfold unlock; split
 ·rw [bP z]
 ·rfl
theorem lq {k : Nat} {s : Sl} (q : e[k]? = some s) : (lock e k)[k]? = some (iF s) := by
 unfold lock; rw [q]; exact bZ (List.getElem?_eq_some_iff.mp q).1
theorem iS {k : Nat} {s : Sl} (q : e[k]? = some s) : (unlock e k)[k]? = some (jE s) := by
 unfold unlock; rw [q]; exact bZ (List.getElem?_eq_some_iff.mp q).1
theorem Stp.unlock {k : Nat} {s : Sl} (q : e[k]? = some s) (hs : s.mt = true) (a : Stp ns (L3.lock e k) h ns' e' h') : Stp ns e h ns' (L3.unlock e' k) h' := by
 have hl : (iF s).lk = true := by cases s <;> first | rfl | cases hs
 have hu : jE (iF s) = s := by cases s <;> first | rfl | cases hs
 obtain ⟨qk, nk⟩ := a.lk k _ (lq q) hl
 refine ⟨a.len, fun m o qm hM => a.keep m o qm fun ⟨j, s', z1, z2, z3⟩ => hM ?_, a.nw, fun j s' qj hj => ?_, fun j s' qj hj => ?_, fun j v qj => ?_, fun j v qj => ?_⟩
 ·by_cases z : j = k
  ·subst z; exact ⟨j, s, z1, q, hs⟩
  ·rw [gK z] at z2; exact ⟨j, s', z1, z2, z3⟩
 ·have z : j ≠ k := fun z => by subst z; rw [q] at qj; cases qj; cases s <;> first | cases hs; done | cases hj; done
  rw [gf z]
  exact a.lk j s' (by rw [gK z]; exact qj) hj
 ·have z : j ≠ k := fun z => by
   subst z
   rw [iS qk, hu] at qj; cases qj; cases s <;> first | cases hs; done | cases hj; done
  rw [gf z] at qj
  obtain ⟨y1, y2⟩ := a.lk' j s' qj hj
  rw [gK z] at y1
  exact ⟨y1, y2⟩
 ·by_cases z : j = k
  ·subst z; rw [iS qk, hu] at qj; cases qj; exact ⟨v, q, nk⟩
  ·rw [gf z] at qj
   obtain ⟨u, y1, y2⟩ := a.mu j v qj
   rw [gK z] at y1
   exact ⟨u, y1, y2⟩
 ·by_cases z : j = k
  ·subst z; rw [q] at qj; cases qj; exact ⟨v, by rw [iS qk, hu], nk⟩
  ·obtain ⟨u, y1, y2⟩ := a.mu' j v (by rw [gK z]; exact qj)
   exact ⟨u, by rw [gf z]; exact y1, y2⟩
end
abbrev MI3 := E3 -> R3 (List Val × Option Nat)
noncomputable def Stay (X : Nat -> Prop) (ns : Ns) (k : Option Nat) (h h' : AH) : Prop := ∀ (m : Nat) (o : Ob), h[m]? = some o -> (Oc X ns m \/ ∃ j : Nat, k = some j /\ ns[j]? = some (some m)) -> h'[m]? = some o
noncomputable def m6 (X : Nat -> Prop) (ns : Ns) (e : E3) (h : AH) (it : AIt) (p : List Val × Option Nat) : Prop :=
 Rds (Oc X ns) h it.items p.1 /\ (∀ h', Stay X ns p.2 h h' -> it.guard h') /\ ∀ k : Nat, p.2 = some k -> ∃ s, e[k]? = some s /\ s.mt = true
noncomputable def RI (I : MI) (J : MI3) : Prop := ∀ X h0 ns e ae h, Sat X h0 ns e ae h -> Po X h0 ns e ae h (m6 X) (I ae h) (J e)
noncomputable def gk : Val -> Option (List Val)
 | .tup xs => some xs
 | .lst xs => some xs
 | _ => none
noncomputable def gB (t : Tm) (e : E3) : Option (List Val × Option Nat) := match t with
 | .val v => (gk v).map fun xs => (xs, none)
 | .new v => (gk v).map fun xs => (xs, none)
 | .bor k => match e[k]? with
  | some (.sh v) => (gk v).map fun xs => (xs, none)
  | some (.ow (.lst xs)) => some (xs, some k)
  | some (.mu (.lst xs)) => some (xs, some k)
  | _ => none
noncomputable def wW (F : ME3) : MI3 := fun e => (F e).bind fun t e1 => match gB t e1 with
 | some p => .ok p e1
 | none => .stuck
noncomputable def fB : Nat -> List Val -> List Val
 | _, [] => []
 | i, d :: ds => .tup [.int (i : Nat), d] :: fB (i + 1) ds
noncomputable def wN (A : MA3) : MI3 := fun e => (A e).bind fun ts e1 => match ts with
 | [t] => (match gB t e1 with
  | some p => .ok (fB 0 p.1, p.2) e1
  | none => .stuck)
 | _ => .stuck
noncomputable def rR (lo : Int) (k : Nat) : List Val := (List.range k).map fun i => Val.int (lo + (i : Nat))
structure RgB (j : Int) : Prop where
 lo : -(2 ^ 62) <= j
 hi : j < 2 ^ 62
noncomputable def iE : List Val -> Option (List Val)
 | [.int j] => @ite _ (RgB j) (Classical.propDecidable _) (some (rR 0 j.toNat)) none
 | _ => none
noncomputable def vM (f : List Val -> Option (List Val)) (A : MA3) : MI3 := fun e => (A e).bind fun ts e1 => match (rss e1 ts).bind f with
 | some xs => .ok (xs, none) e1
 | none => .stuck
section
variable {F : ME} {F3 : ME3} {A : MA} {A3 : MA3}
theorem qS {X : Nat -> Prop} {h0 : Nat} {ns : Ns} {e : E3} {ae : AE} {h : AH} {d : D} {v : Val} {xs : List Val} (S : Sat X h0 ns e ae h) (r : Rd (Oc X ns) h d v) (q : gk v = some xs) : ∃ it, gm d h = some it /\ m6 X ns e h it (xs, none) := by
 cases v with
 |
  tup ys =>
  cases q
  obtain ⟨ds, rfl, r2⟩ := ShR.tup (.inl r)
  exact ⟨_, rfl, r2, fun _ _ => trivial, fun _ z => nomatch z⟩
 |
  lst ys =>
  cases q
  cases r with
  |
   cell p eo rc =>
   rename_i n o
   obtain ⟨ds, _, e1, r1⟩ := Rc.seq eo rc
   refine ⟨.lst n ds, by unfold gm; dsimp only; rw [e1]; rfl, r1, fun h' st => ?_, fun _ z => nomatch z⟩
   show bG h' n = some ds
   have := st n o eo (.inl p)
   unfold bG at e1 ⊢
   rw [eo] at e1
   rw [this]; exact e1
 | _ => cases q
theorem
    tD {X : Nat -> Prop} {h0 L : Nat} {ns : Ns} {e : E3} {ae : AE} {h : AH} {d : D} {t : Tm} {p : List Val × Option Nat} (S : Sat X h0 ns e ae h) (r : relE X h0 L ae ns e h d t) (q : gB t e = some p) : ∃ it, gm d h = some it /\ m6 X ns e h it p := by
 cases t with
 | val v => obtain ⟨xs, q1, rfl⟩ := Option.map_eq_some_iff.mp q; exact qS S r q1
 | new v => obtain ⟨xs, q1, rfl⟩ := Option.map_eq_some_iff.mp q; exact qS S r.new q1
 |
  bor k =>
  have r' : ae[k]? = some (some d) := r
  have own : ∀ {s xs}, e[k]? = some s -> s.mv = some (.lst xs) -> ∃ it, gm d h = some it /\ m6 X ns e h it (xs, some k) := fun {s xs} q qm => by
   have hns : ∃ n, ns[k]? = some (some n) /\ ae[k]? = some (some (.ref n)) := by
    have y := S.sl k s q
    cases s with
    | ow v => obtain ⟨n, o, y1, y2, _⟩ := y; exact ⟨n, y1, y2⟩
    | mu v => obtain ⟨n, o, y1, y2, _⟩ := y; exact ⟨n, y1, y2⟩
    | _ => cases qm
   obtain ⟨n, y1, y2⟩ := hns
   obtain ⟨n', o, k1, k2, k3, k4, _⟩ := S.write q qm
   rw [y2] at k1; cases k1
   rw [r'] at y2; cases y2
   obtain ⟨ds, _, e2, r2⟩ := Rc.seq k2 k4
   refine ⟨.lst n ds, by unfold gm; dsimp only; rw [e2]; rfl, r2, fun h' st => ?_, fun j z => ?_⟩
   ·show bG h' n = some ds
    have := st n o k2 (.inr ⟨k, rfl, y1⟩)
    unfold bG at e2 ⊢
    rw [k2] at e2
    rw [this]; exact e2
   ·cases z; exact ⟨s, q, by cases s <;> first | rfl | cases qm⟩
  unfold gB at q
  dsimp only at q
  split at q
  ·rename_i v qs
   obtain ⟨_, x, e2, r2⟩ := S.sl k _ qs
   rw [r'] at e2; cases e2
   obtain ⟨xs, q1, rfl⟩ := Option.map_eq_some_iff.mp q
   exact qS S r2 q1
  ·rename_i xs qs; cases q; exact own qs rfl
  ·rename_i xs qs; cases q; exact own qs rfl
  ·cases q
noncomputable def u4 (d : D) (h : AH) : R AIt := match d with
 | .tup xs => .ok (.tup xs) h
 | .ref n => match bG h n with
  | some xs => .ok (.lst n xs) h
  | none => .stuck
 | _ => .stuck
theorem xr {d : D} {h : AH} {it : AIt} (q : gm d h = some it) : u4 d h = .ok it h := by
 cases d with
 | tup xs => cases q; rfl
 |
  ref n =>
  obtain ⟨xs, y1, rfl⟩ := Option.map_eq_some_iff.mp (show (bG h n).map (AIt.lst n) = some it from q)
  unfold u4; dsimp only; rw [y1]
 | _ => cases q
theorem Cu (hF : RE F F3) : RI (u3 F) (wW F3) := fun X h0 ns e ae h S =>
 Po.bind S (hF X h0 0 ns e ae h S (Nat.zero_le _)) fun d t h1 ns1 e1 a1 S1 r1 => by
  show Po X h0 ns1 e1 ae h1 (m6 X) (u4 d h1) _
  cases q : gB t e1 with
  | none => trivial
  |
   some p =>
   dsimp only
   obtain ⟨it, q1, q2⟩ := tD S1 r1 q
   exact ⟨it, h1, ns1, xr q1, .refl, S1, q2⟩
theorem yW {P : Nat -> Prop} {h : AH} {ds : List D} {vs : List Val} (k : Nat) (r : Rds P h ds vs) : Rds P h (fA k ds) (fB k vs) :=
 r.ind (M := fun ds vs => ∀ k, Rds P h (fA k ds) (fB k vs)) (fun _ => .nil) (fun r _ ih k => .cons (.tup (.cons (.int _) (.cons r .nil))) (ih (k + 1))) k
theorem tsr1 {X : Nat -> Prop} {h0 : Nat} {ns : Ns} {e : E3} {ae : AE} {h : AH} {ds : List D} {t : Tm} (r : TsR X ns ae h ds [t]) : ∃ d, ds = [d] /\ relE X h0 0 ae ns e h d t := by
 cases r with
 | val r rr => cases rr; exact ⟨_, rfl, r⟩
 | bor r rr => cases rr; exact ⟨_, rfl, r⟩
theorem
    Bd (hA : RA A A3) : RI (vR A) (wN A3) := fun X h0 ns e ae h S =>
 Po.bind S (hA X h0 ns e ae h S) fun ds ts h1 ns1 e1 a1 S1 r1 => by
  match ts, r1 with
  | [], _ => trivial
  | _ :: _ :: _, _ => trivial
  |
   [t], r1 =>
   obtain ⟨d, rfl, r2⟩ := tsr1 (h0 := h0) (e := e1) r1
   dsimp only
   cases q : gB t e1 with
   | none => trivial
   |
    some p =>
    obtain ⟨it, q1, q2, q3, q4⟩ := tD S1 r2 q
    rw [q1]
    exact ⟨.enm it, h1, ns1, rfl, .refl, S1, yW 0 q2, q3, q4⟩
theorem yQ {P : Nat -> Prop} {h : AH} (lo : Int) (k : Nat) : Rds P h (AIt.rng lo k).items (rR lo k) := by
 show Rds P h ((List.range k).map fun i => D.int (lo + (i : Nat))) ((List.range k).map fun i => Val.int (lo + (i : Nat)))
 generalize List.range k = l
 induction l with
 | nil => exact .nil
 | cons i l ih => exact .cons (.int _) ih
theorem gp {P : Nat -> Prop} {h : AH} {ds : List D} {v : Val} (r : ShRs P h ds [v]) : ∃ d, ds = [d] /\ ShR P h d v := by
 cases r with | cons r rr => cases rr; exact ⟨_, rfl, r⟩
theorem qx {P : Nat -> Prop} {h : AH} {ds : List D} {v u : Val} (r : ShRs P h ds [v, u]) : ∃ d d', ds = [d, d'] /\ ShR P h d v /\ ShR P h d' u := by
 cases r with | cons r rr => cases rr with | cons r' rr => cases rr; exact ⟨_, _, rfl, r, r'⟩
theorem EW {f2 : List D -> AH -> R AIt} {f3 : List Val -> Option (List Val)} (hf : ∀ P h ds vs xs, ShRs P h ds vs -> f3 vs = some xs -> ∃ lo k, f2 ds h = .ok (.rng lo k) h /\ xs = rR lo k) (hA : RA A A3) : RI (fun ae h => (A ae h).bind f2) (vM f3 A3) := fun X h0 ns e ae h S =>
 Po.bind S (hA X h0 ns e ae h S) fun ds ts h1 ns1 e1 a1 S1 r1 => by
  try dsimp only
  split
  ·rename_i xs q
   obtain ⟨vs, q1, q2⟩ := Option.bind_eq_some_iff.mp q
   obtain ⟨lo, k, p1, rfl⟩ := hf _ _ _ _ _ (TsR.sh S1 r1 q1) q2
   rw [p1]
   exact Po.ret S1 ⟨yQ _ _, fun _ _ => trivial, fun _ z => nomatch z⟩
  ·trivial
theorem
    BU (hA : RA A A3) : RI (vw A) (vM iE A3) := EW (f2 := fun ds h1 => match ds with
 | [.int j] => if -(2 ^ 62) <= j /\ j < 2 ^ 62 then .ok (.rng 0 j.toNat) h1 else .stuck
 |
  _ => .stuck) (fun P h ds vs xs r q => by
  unfold iE at q
  split at q
  ·split at q
   ·rename_i hb
    cases q
    obtain ⟨d, rfl, r2⟩ := gp r
    obtain rfl := r2.int
    exact ⟨_, _, by dsimp only; rw [if_pos ⟨hb.lo, hb.hi⟩], rfl⟩
   ·cases q
  ·cases q) hA
end
noncomputable def SR3.loop (r : SR3) (f : E3 -> SR3) : SR3 := match r with
 | .nx e => f e
 | .ct e => f e
 | .bk e => .nx e
 | .rt d e => .rt d e
 | .exc c e => .exc c e
 | .stuck => .stuck
noncomputable def du (g : MG3) (B : MS3) : List Val -> MS3
 | [], e => .nx e
 | v :: vs, e => match g v e with
  | some e1 => (B e1).loop (du g B vs)
  | none => .stuck
noncomputable def SR3.unl (k : Option Nat) (r : SR3) : SR3 := match r with
 | .nx e => .nx (ef e k)
 | .ct e => .ct (ef e k)
 | .bk e => .bk (ef e k)
 | .rt d e => .rt d (ef e k)
 | .exc c e => .exc c (ef e k)
 | .stuck => .stuck
noncomputable def wFor (I : MI3) (g : MG3) (B : MS3) : MS3 := fun e => (I e).toS fun p e1 => (du g B p.1 (lockO e1 p.2)).unl p.2
section
variable {I : MI} {I3 : MI3} {g : MG} {g3 : MG3} {B : MS} {B3 : MS3} {c : MT} {c3 : MT3} {F : ME} {F3 : ME3}
theorem PoS.loop {X : Nat -> Prop} {h0 : Nat} {ns : Ns} {e : E3} {ae : AE} {h : AH} {r2 : SR} {r3 : SR3} {f2 : AE -> AH -> SR} {f3 : E3 -> SR3} (p : PoS X h0 ns e h r2 r3)
  (k : ∀ ae' h' ns' e', Stp ns e h ns' e' h' -> Sat X h0 ns' e' ae' h' -> PoS X h0 ns e h (f2 ae' h') (f3 e')) : PoS X h0 ns e h (r2.loop f2) (r3.loop f3) := by
 cases r3 with
 | stuck => trivial
 | nx e' => obtain ⟨ae', h', ns', q, q1, q2⟩ := p; rw [q]; exact k ae' h' ns' e' q1 q2
 | ct e' => obtain ⟨ae', h', ns', q, q1, q2⟩ := p; rw [q]; exact k ae' h' ns' e' q1 q2
 | bk e' => obtain ⟨ae', h', ns', q, q1, q2⟩ := p; rw [q]; exact ⟨ae', h', ns', rfl, q1, q2⟩
 | exc c e' => obtain ⟨ae', h', ns', q, q1, q2⟩ := p; rw [q]; exact ⟨ae', h', ns', rfl, q1, q2⟩
 | rt r e' => obtain ⟨d, ae', h', ns', q, q1, q2⟩ := p; rw [q]; exact ⟨d, ae', h', ns', rfl, q1, q2⟩
theorem yF {X : Nat -> Prop} {h0 : Nat} {ns ns' : Ns} {e e' : E3} {ae : AE} {h h' : AH} {k : Option Nat} (S : Sat X h0 ns e ae h) (hk : ∀ j : Nat, k = some j -> ∃ s, e[j]? = some s /\ s.mt = true) (a : Stp ns (lockO e k) h ns' e' h') : Stay X ns k h h' := fun m o q hm => by
 refine a.keep m o q fun ⟨i, s, z1, z2, z3⟩ => ?_
 rcases hm with hm | ⟨j, rfl, hj⟩
 ·exact hm.2 (bh.mpr ⟨i, z1⟩)
 ·have : i = j := S.inj i j m z1 hj
  subst this
  obtain ⟨s', y1, y2⟩ := hk i rfl
  have : (lockO e (some i))[i]? = some (iF s') := lq y1
  rw [this] at z2; cases z2
  cases s' <;> first | cases y2; done | cases z3; done
theorem PoS.unl {X : Nat -> Prop} {h0 : Nat} {ns : Ns} {e : E3} {h : AH} {k : Option Nat} {r2 : SR} {r3 : SR3} (hk : ∀ j : Nat, k = some j -> ∃ s, e[j]? = some s /\ s.mt = true) (p : PoS X h0 ns (lockO e k) h r2 r3) : PoS X h0 ns e h r2 (r3.unl k) := by
 cases k with
 | none => cases r3 <;> exact p
 |
  some j =>
  obtain ⟨s, y1, y2⟩ := hk j rfl
  cases r3 with
  | stuck => trivial
  | nx e' => obtain ⟨ae', h', ns', q, q1, q2⟩ := p; exact ⟨ae', h', ns', q, q1.unlock y1 y2, q2.unlock j⟩
  | ct e' => obtain ⟨ae', h', ns', q, q1, q2⟩ := p; exact ⟨ae', h', ns', q, q1.unlock y1 y2, q2.unlock j⟩
  | bk e' => obtain ⟨ae', h', ns', q, q1, q2⟩ := p; exact ⟨ae', h', ns', q, q1.unlock y1 y2, q2.unlock j⟩
  | exc c e' => obtain ⟨ae', h', ns', q, q1, q2⟩ := p; exact ⟨ae', h', ns', q, q1.unlock y1 y2, q2.unlock j⟩
  |
   rt r e' =>
   obtain ⟨d, ae', h', ns', q, q1, q2⟩ := p
   refine ⟨d, ae', h', ns', q, q1.unlock y1 y2, ?_⟩
   cases r with
   | val v => exact ⟨q2.1.unlock j, q2.2⟩
   | new v => obtain ⟨n, o, z1, z2, z3, z4, z5, z6, z7⟩ := q2; exact ⟨n, o, z1, z2, z3, z4, z5, z6.unlock j, z7⟩
theorem Sat.lockO {X : Nat -> Prop} {h0 : Nat} {ns : Ns} {e : E3} {ae : AE} {h : AH} (S : Sat X h0 ns e ae h) (k : Option Nat) : Sat X h0 ns (lockO e k) ae h := by
 cases k with
 | none => exact S
 | some k => exact S.lock k
theorem
    yx {X : Nat -> Prop} {h0 : Nat} {ns : Ns} {e : E3} {ae : AE} {h : AH} {G : AH -> Prop} (S : Sat X h0 ns e ae h) (hg : RG g g3) (hB : RS B B3) (hG : ∀ ns' e' h', Stp ns e h ns' e' h' -> G h') :
  ∀ {ds : List D} {vs : List Val}, Rds (Oc X ns) h ds vs -> ∀ {ns1 : Ns} {e1 : E3} {ae1 : AE} {h1 : AH}, Stp ns e h ns1 e1 h1 -> Sat X h0 ns1 e1 ae1 h1 -> PoS X h0 ns e h (ie G g B ds ae1 h1) (du g3 B3 vs e1) := by
 intro ds
 induction ds with
 |
  nil =>
  intro vs r ns1 e1 ae1 h1 a1 S1
  cases r
  unfold ie
  rw [if_pos (hG _ _ _ a1)]
  exact .nx a1 S1
 |
  cons d0 ds ih =>
  intro vs r ns1 e1 ae1 h1 a1 S1
  cases r with
  |
   cons r rr =>
   unfold ie du
   rw [if_pos (hG _ _ _ a1)]
   split
   ·rename_i e2 q
    obtain ⟨ae2, ns2, p2, S2, a2⟩ := hg _ _ _ _ _ _ _ _ _ S1 (r.mono (a1.mov S)) q
    rw [p2]
    have a12 := a1.trans S a2
    show PoS X h0 ns e h ((B ae2 h1).loop _) _
    refine PoS.loop (ae := ae) (PoS.after S a12 (hB X h0 ns2 e2 ae2 h1 S2)) fun ae3 h3 ns3 e3 a3 S3 => ih rr a3 S3
   ·trivial
theorem Bi (hI : RI I I3) (hg : RG g g3) (hB : RS B B3) : RS (uu I g B) (wFor I3 g3 B3) := fun X h0 ns e ae h S => PoS.toS (hI X h0 ns e ae h S) fun it p h1 ns1 e1 a1 S1 r1 => by
 obtain ⟨r2, gd, hk⟩ := r1
 refine PoS.after S a1 (PoS.unl hk ?_)
 have S2 := S1.lockO p.2
 exact yx S2 hg hB (fun ns' e' h' a => gd h' (yF S1 hk a)) r2 .refl S2
noncomputable def whV (c : MT3) (B : MS3) : Nat -> MS3
 | 0, _ => .stuck
 | k + 1, e => (c e).toS fun b e1 => if b = true then (B e1).loop (whV c B k) else .nx e1
open Classical in
noncomputable def wWh (c : MT3) (B : MS3) : MS3 := fun e => if q : ∃ k, whV c B k e ≠ .stuck then whV c B q.choose e else .stuck
theorem
    jT {c : MT3} {B : MS3} : ∀ {k : Nat} {e : E3}, whV c B k e ≠ .stuck -> whV c B (k + 1) e = whV c B k e
 | 0, _, q => absurd rfl q
 |
  k + 1, e, q => by
  have e1 : whV c B (k + 2) e = (c e).toS fun b e1 => if b = true then (B e1).loop (whV c B (k + 1)) else .nx e1 := rfl
  have e2 : whV c B (k + 1) e = (c e).toS fun b e1 => if b = true then (B e1).loop (whV c B k) else .nx e1 := rfl
  rw [e2] at q
  rw [e1, e2]
  cases r : c e with
  | exc _ _ => rfl
  | stuck => rfl
  |
   ok b h1 =>
   rw [r] at q
   cases b with
   | false => rfl
   |
    true =>
    have q' : (B h1).loop (whV c B k) ≠ .stuck := q
    show (B h1).loop (whV c B (k + 1)) = (B h1).loop (whV c B k)
    cases s : B h1 with
    | nx a2 => rw [s] at q'; exact jT q'
    | ct a2 => rw [s] at q'; exact jT q'
    | _ => rfl
theorem sG {c : MT3} {B : MS3} {k j : Nat} {e : E3} (q : whV c B k e ≠ .stuck) (hj : k <= j) : whV c B j e = whV c B k e := by
 induction hj with
 | refl => rfl
 | step _ ih => rw [jT (by rw [ih]; exact q), ih]
theorem kB {c : MT3} {B : MS3} {k : Nat} {e : E3} (q : whV c B k e ≠ .stuck) : wWh c B e = whV c B k e := by
 have hq : ∃ k, whV c B k e ≠ .stuck := ⟨k, q⟩
 unfold wWh
 rw [dif_pos hq]
 rcases Nat.le_total hq.choose k with z | z
 ·exact (sG hq.choose_spec z).symm
 ·exact sG q z
theorem
    u6 (c : MT3) (B : MS3) (e : E3) : wWh c B e = (c e).toS fun b e1 => if b = true then (B e1).loop (wWh c B) else .nx e1 := by
 by_cases q : ∃ k, whV c B k e ≠ .stuck
 ·obtain ⟨k, q⟩ := q
  rw [kB q]
  cases k with
  | zero => exact absurd rfl q
  |
   succ k =>
   have e2 : whV c B (k + 1) e = (c e).toS fun b e1 => if b = true then (B e1).loop (whV c B k) else .nx e1 := rfl
   rw [e2] at q ⊢
   cases r : c e with
   | exc _ _ => rfl
   | stuck => rfl
   |
    ok b h1 =>
    rw [r] at q
    cases b with
    | false => rfl
    |
     true =>
     have q' : (B h1).loop (whV c B k) ≠ .stuck := q
     show (B h1).loop (whV c B k) = (B h1).loop (wWh c B)
     cases s : B h1 with
     | nx a2 => rw [s] at q'; exact (kB q').symm
     | ct a2 => rw [s] at q'; exact (kB q').symm
     | _ => rfl
 ·have e0 : wWh c B e = .stuck := by unfold wWh; rw [dif_neg q]
  rw [e0]
  have hs : ∀ k, whV c B (k + 1) e = .stuck := fun k => Classical.byContradiction fun z => q ⟨_, z⟩
  cases r : c e with
  | stuck => rfl
  |
   exc c' h' =>
   have := hs 0
   unfold whV at this
   rw [r] at this
   cases this
  |
   ok b h1 =>
   cases b with
   |
    false =>
    have := hs 0
    unfold whV at this
    rw [r] at this
    cases this
   |
    true =>
    have h2 : ∀ k, (B h1).loop (whV c B k) = .stuck := fun k => by
     have := hs k
     unfold whV at this
     rw [r] at this
     exact this
    show SR3.stuck = (B h1).loop (wWh c B)
    have lim : ∀ a2, (∀ k, whV c B k a2 = .stuck) -> wWh c B a2 = .stuck := fun a2 z => by
     unfold wWh
     rw [dif_neg (fun ⟨k, y⟩ => y (z k))]
    cases s : B h1 with
    | nx a2 => rw [s] at h2; exact (lim a2 h2).symm
    | ct a2 => rw [s] at h2; exact (lim a2 h2).symm
    | stuck => rfl
    | _ => have := h2 0; rw [s] at this; cases this
theorem BI {X : Nat -> Prop} {h0 : Nat} {ns : Ns} {e : E3} {h : AH} {r2 : SR} {r3 : SR3} (p : PoS X h0 ns e h r2 r3) (q : r3 ≠ .stuck) : r2 ≠ .stuck := by
 cases r3 with
 | stuck => exact absurd rfl q
 | nx e' => obtain ⟨ae', h', ns', z, _⟩ := p; rw [z]; intro y; cases y
 | ct e' => obtain ⟨ae', h', ns', z, _⟩ := p; rw [z]; intro y; cases y
 | bk e' => obtain ⟨ae', h', ns', z, _⟩ := p; rw [z]; intro y; cases y
 | exc c e' => obtain ⟨ae', h', ns', z, _⟩ := p; rw [z]; intro y; cases y
 | rt r e' => obtain ⟨d, ae', h', ns', z, _⟩ := p; rw [z]; intro y; cases y
theorem sE (hc : RT c c3) (hB : RS B B3) : ∀ (k : Nat) (X : Nat -> Prop) (h0 : Nat) (ns : Ns) (e : E3) (ae : AE) (h : AH), Sat X h0 ns e ae h -> PoS X h0 ns e h (whN c B k ae h) (whV c3 B3 k e)
 | 0, _, _, _, _, _, _, _ => trivial
 |
  k + 1, X, h0, ns, e, ae, h, S => by
  refine PoS.toS (hc X h0 ns e ae h S) fun b b' h1 ns1 e1 a1 S1 r1 => ?_
  cases r1
  try dsimp only
  split
  ·exact PoS.after S a1 (PoS.loop (ae := ae) (hB X h0 ns1 e1 ae h1 S1) fun ae2 h2 ns2 e2 a2 S2 => PoS.after S1 a2 (sE hc hB k X h0 ns2 e2 ae2 h2 S2))
  ·exact .nx a1 S1
theorem Dl (hc : RT c c3) (hB : RS B B3) : RS (sWh c B) (wWh c3 B3) := fun X h0 ns e ae h S => by
 by_cases q : ∃ k, whV c3 B3 k e ≠ .stuck
 ·obtain ⟨k, q⟩ := q
  rw [kB q]
  have p := sE hc hB k X h0 ns e ae h S
  rw [sF (BI p q)]
  exact p
 ·unfold wWh; rw [dif_neg q]; trivial
end
end L3
set_option Elab.async false
set_option linter.all false
set_option maxRecDepth 100000
namespace L3
open PySem PySem.Spec PyProof.Rows L2
noncomputable def fm (o : Option Nat) (s : Sl) (e : E3) : E3 := match o, s with
 | some i, .mu v => (match e[i]? with
  | some t => e.set i (t.re v)
  | none => e)
 | _, _ => e
noncomputable def bC : List (Option Nat) -> E3 -> E3 -> E3
 | o :: sub, s :: inner, e => bC sub inner (fm o s e)
 | _, _, e => e
theorem pq {o : Option Nat} {s : Sl} {e : E3} {i : Nat} (hn : ∀ v, o = some i -> s = .mu v -> False) : (fm o s e)[i]? = e[i]? := by
 unfold fm
 split
 ·rename_i i' v
  split
  ·rename_i t q
   by_cases z : i = i'
   ·subst z; exact (hn v rfl rfl).elim
   ·rw [bP z]
  ·rfl
 ·rfl
theorem lL : ∀ {sub : List (Option Nat)} {e2 e : E3} {i : Nat}, (∀ (j : Nat) v, sub[j]? = some (some i) -> e2[j]? = some (.mu v) -> False) -> (bC sub e2 e)[i]? = e[i]?
 | [], _, _, _, _ => rfl
 | _ :: _, [], _, _, _ => rfl
 |
  o :: sub, s :: e2, e, i, hn => by
  show (bC sub e2 (fm o s e))[i]? = _
  rw [lL (fun j v q1 q2 => hn (j + 1) v (by simpa using q1) (by simpa using q2))]
  exact pq fun v z1 z2 => hn 0 v (by rw [z1]; rfl) (by rw [z2]; rfl)
theorem pH : ∀ {sub : List (Option Nat)} {e2 e : E3} {i j : Nat} {v : Val}, (∀ (j k : Nat) i, sub[j]? = some (some i) -> sub[k]? = some (some i) -> j = k) -> sub[j]? = some (some i) -> e2[j]? = some (.mu v) -> (bC sub e2 e)[i]? = (e[i]?).map (Sl.re · v)
 | [], _, _, _, j, _, _, q, _ => by simp at q
 | _ :: _, [], _, _, j, _, _, _, q => by simp at q
 |
  o :: sub, s :: e2, e, i, 0, v, hj, q1, q2 => by
  have z1 : o = some i := by simpa using q1
  have z2 : s = .mu v := by simpa using q2
  subst z1 z2
  show (bC sub e2 (fm (some i) (.mu v) e))[i]? = _
  rw [lL (fun k u y1 _ => by have := hj 0 (k + 1) i rfl (by simpa using y1); omega)]
  unfold fm
  dsimp only
  split
  ·rename_i t q; rw [bZ (List.getElem?_eq_some_iff.mp q).1, q]; rfl
  ·rename_i q; rw [q]; rfl
 |
  o :: sub, s :: e2, e, i, j + 1, v, hj, q1, q2 => by
  show (bC sub e2 (fm o s e))[i]? = _
  have q1' : sub[j]? = some (some i) := by simpa using q1
  rw [pH (fun a b c y1 y2 => by have := hj (a + 1) (b + 1) c (by simpa using y1) (by simpa using y2); omega) q1' (by simpa using q2)]
  rw [pq fun v z1 _ => by have := hj 0 (j + 1) i (by rw [z1]; rfl) q1; omega]
noncomputable def ck (sub : List (Option Nat)) (ns : Ns) : Ns := sub.map fun o => o.bind fun i => (ns[i]?).bind id
theorem cC {sub : List (Option Nat)} {ns : Ns} {j n : Nat} (q : (ck sub ns)[j]? = some (some n)) : ∃ i, sub[j]? = some (some i) /\ ns[i]? = some (some n) := by
 unfold ck at q
 rw [List.getElem?_map] at q
 cases z : sub[j]? with
 | none => rw [z] at q; cases q
 |
  some o =>
  rw [z] at q
  cases o with
  | none => cases q
  |
   some i =>
   refine ⟨i, rfl, ?_⟩
   have q' : (ns[i]?).bind id = some n := Option.some.inj q
   cases y : ns[i]? with
   | none => rw [y] at q'; cases q'
   | some w => rw [y] at q'; have : w = some n := q'; rw [this]
theorem xm {sub : List (Option Nat)} {ns : Ns} {j i : Nat} {w : Option Nat} (q : sub[j]? = some (some i)) (q2 : ns[i]? = some w) : (ck sub ns)[j]? = some w := by
 unfold ck
 rw [List.getElem?_map, q]
 show some ((ns[i]?).bind id) = some w
 rw [q2]; rfl
structure Lnk (sub : List (Option Nat)) (e ei : E3) : Prop where
 inj : ∀ (j k : Nat) (i : Nat), sub[j]? = some (some i) -> sub[k]? = some (some i) -> j = k
 mu : ∀ (j : Nat) (v : Val), ei[j]? = some (.mu v) -> ∃ (i : Nat) (s : Sl), sub[j]? = some (some i) /\ e[i]? = some s /\ s.mt = true
 mt : ∀ (j : Nat) (s : Sl), ei[j]? = some s -> s.mt = true -> ∃ v, s = .mu v
theorem
    Sat.back {X Y : Nat -> Prop} {h0 : Nat} {ns ns2 : Ns} {e ei e2 : E3} {ae : AE} {h h2 : AH} {sub : List (Option Nat)} (S : Sat X h0 ns e ae h) (K : Lnk sub e ei) (a : Stp (ck sub ns) ei h ns2 e2 h2)
  (hY : ∀ n, Y n -> n < h2.length /\ (X n \/ h.length <= n)) (hXY : ∀ n, X n -> Y n)
  (hc : ∀ (j : Nat) v n, e2[j]? = some (.mu v) -> ns2[j]? = some (some n) -> ∃ o, h2[n]? = some o /\ bY o /\ Rc (Oc Y ns) h2 o v) : Sat Y h0 ns (bC sub e2 e) ae h2 /\ Stp ns e h ns (bC sub e2 e) h2 := by
 have hM : ∀ n, Mt (ck sub ns) ei n -> Mt ns e n := fun n ⟨j, s, z1, z2, z3⟩ => by
  obtain ⟨v, rfl⟩ := K.mt j s z2 z3
  obtain ⟨i, s', y1, y2, y3⟩ := K.mu j v z2
  obtain ⟨i', y4, y5⟩ := cC z1
  rw [y1] at y4; cases y4
  exact ⟨i, s', y5, y2, y3⟩
 have mv : Mov (Oc X ns) (Oc Y ns) h h2 := fun n o p q => ⟨⟨fun z => by
  rcases (hY n z).2 with z | z
  ·exact p.1 z
  ·have := cU q; omega, p.2⟩, a.keep n o q fun z => by
   obtain ⟨j, s, z1, _⟩ := z
   obtain ⟨i, _, y⟩ := cC z1
   exact p.2 (bh.mpr ⟨i, y⟩)⟩
 have key : ∀ i : Nat, (∃ (j : Nat) (v : Val) (s : Sl), sub[j]? = some (some i) /\ e2[j]? = some (.mu v) /\ e[i]? = some s /\ s.mt = true /\ (bC sub e2 e)[i]? = some (s.re v) /\ ns2[j]? = ns[i]?) \/ ((∀ n, ns[i]? = some (some n) -> ¬ Mt (ck sub ns) ei n) /\ (bC sub e2 e)[i]? = e[i]?) := fun i => by
  by_cases hx : ∃ (j : Nat) (v : Val), sub[j]? = some (some i) /\ e2[j]? = some (.mu v)
  ·obtain ⟨j, v, q1, q2⟩ := hx
   obtain ⟨u, q3, q4⟩ := a.mu j v q2
   obtain ⟨i', s, y1, y2, y3⟩ := K.mu j u q3
   rw [q1] at y1; cases y1
   refine .inl ⟨j, v, s, q1, q2, y2, y3, by rw [pH K.inj q1 q2, y2]; rfl, ?_⟩
   rw [q4]
   have hl : i < ns.length := by rw [S.l2]; exact (List.getElem?_eq_some_iff.mp y2).1
   rw [List.getElem?_eq_getElem hl]
   exact xm q1 (List.getElem?_eq_getElem hl)
  ·refine .inr ⟨fun n q ⟨j, s, z1, z2, z3⟩ => hx ?_, lL fun j v y1 y2 => hx ⟨j, v, y1, y2⟩⟩
   obtain ⟨v, rfl⟩ := K.mt j s z2 z3
   obtain ⟨i', y4, y5⟩ := cC z1
   have : i' = i := S.inj i' i n y5 q
   subst this
   obtain ⟨v', y6, _⟩ := a.mu' j v z2
   exact ⟨j, v', y4, y6⟩
 have lenB : (bC sub e2 e).length = e.length := by
  clear key hc a K S hY hXY hM mv
  induction sub generalizing e2 e with
  | nil => rfl
  |
   cons o sub ih =>
   cases e2 with
   | nil => rfl
   |
    cons s e2 =>
    show (bC sub e2 (fm o s e)).length = _
    rw [ih]
    unfold fm
    split
    ·split
     ·rw [List.length_set]
     ·rfl
    ·rfl
 refine ⟨⟨by rw [lenB]; exact S.l1, by rw [lenB]; exact S.l2, Nat.le_trans S.lh a.len, fun n z => (hY n z).1, S.inj, fun i n q z => ?_, fun i s q => ?_⟩, ⟨a.len, fun m o q hm => a.keep m o q fun z => hm (hM m z), fun _ _ q => .inl q, fun i s q hl => ?_, fun i s q hl => ?_, fun i v q => ?_, fun i v q => ?_⟩⟩
 ·rcases (hY n z).2 with z | z
  ·exact S.nx i n q z
  ·obtain ⟨_, _, _, _, _, _, _, q', _⟩ := S.own q
   have := cU q'; omega
 ·rcases key i with ⟨j, v, s0, k1, k2, k3, k4, k5, k6⟩ | ⟨k1, k2⟩
  ·rw [k5] at q; cases q
   have y := S.sl i s0 k3
   cases s0 with
   |
    ow u =>
    obtain ⟨n, o, y1, y2, y3, _⟩ := y
    obtain ⟨o', z1, z2, z3⟩ := hc j v n k2 (by rw [k6]; exact y1)
    exact ⟨n, o', y1, y2, y3, z1, z2, z3⟩
   |
    mu u =>
    obtain ⟨n, o, y1, y2, _⟩ := y
    obtain ⟨o', z1, z2, z3⟩ := hc j v n k2 (by rw [k6]; exact y1)
    exact ⟨n, o', y1, y2, z1, z2, z3⟩
   | _ => cases k4
  ·rw [k2] at q
   exact (S.sl i s q).mono mv fun n o q1 q2 => a.keep n o q2 (k1 n q1)
 ·rcases key i with ⟨j, v, s0, k1, k2, k3, k4, k5, k6⟩ | ⟨k1, k2⟩
  ·rw [k3] at q; cases q; cases s <;> first | cases hl; done | cases k4; done
  ·rw [k2]; exact ⟨q, rfl⟩
 ·rcases key i with ⟨j, v, s0, k1, k2, k3, k4, k5, k6⟩ | ⟨k1, k2⟩
  ·rw [k5] at q; cases q; cases s0 <;> first | cases hl; done | cases k4; done
  ·rw [k2] at q; exact ⟨q, rfl⟩
 ·rcases key i with ⟨j, u, s0, k1, k2, k3, k4, k5, k6⟩ | ⟨k1, k2⟩
  ·rw [k5] at q
   cases s0 with
   | mu w => exact ⟨w, k3, rfl⟩
   | ow w => cases q
   | _ => cases k4
  ·rw [k2] at q; exact ⟨v, q, rfl⟩
 ·rcases key i with ⟨j, u, s0, k1, k2, k3, k4, k5, k6⟩ | ⟨k1, k2⟩
  ·rw [k3] at q; cases q; exact ⟨u, k5, rfl⟩
  ·exact ⟨v, by rw [k2]; exact q, rfl⟩
noncomputable def inS : Sl -> Sl
 | .ow v => .mu v
 | .lo v => .lm v
 | s => s
noncomputable def cZ (sub : List (Option Nat)) (e : E3) : E3 := sub.map fun o => match o with
 | none => .no
 | some i => match e[i]? with
  | some s => inS s
  | none => .no
noncomputable def lcV (g : MG3) (c : MT3) (F : ME3) : List Val -> List Val -> E3 -> R3 (List Val)
 | [], acc, e => .ok acc e
 | v :: vs, acc, e => if acc.length < 16777216 then (match g v e with
  | none => .stuck
  | some e1 => (c e1).bind fun b e2 => if b = true then (F e2).bind fun t e3 => (match cN e3 t with
    | some (e4, y) => lcV g c F vs (acc ++ [y]) e4
    | none => .stuck) else lcV g c F vs acc e2) else .stuck
noncomputable def vLC (I : MI3) (sub : List (Option Nat)) (g : MG3) (c : MT3) (F : ME3) : ME3 := fun e => (I e).bind fun p e1 => match lcV g c F p.1 [] (cZ sub (lockO e1 p.2)) with
 | .ok ys e2 => if ys.length <= 16777216 then .ok (.new (.lst ys)) (ef (bC sub e2 (lockO e1 p.2)) p.2) else .stuck
 | _ => .stuck
noncomputable def kN (sub : List (Option Nat)) : Prop := ∀ (j k : Nat) (i : Nat), sub[j]? = some (some i) -> sub[k]? = some (some i) -> j = k
theorem tP {sub : List (Option Nat)} (h : (sub.filterMap id).Nodup) : kN sub := by
 induction sub with
 | nil => intro j k i q; simp at q
 |
  cons o sub ih =>
  have hsub : (sub.filterMap id).Nodup := by
   cases o with
   | none => simpa using h
   | some i => rw [List.filterMap_cons] at h; simp at h; exact h.2
  have hno : ∀ (i k : Nat), o = some i -> sub[k]? = some (some i) -> False := fun i k z q => by
   subst z
   rw [List.filterMap_cons] at h
   simp at h
   exact h.1 (List.mem_of_getElem? q)
  intro j k i q1 q2
  cases j with
  |
   zero =>
   cases k with
   | zero => rfl
   | succ k => exact (hno i k (by simpa using q1) (by simpa using q2)).elim
  |
   succ j =>
   cases k with
   | zero => exact (hno i j (by simpa using q2) (by simpa using q1)).elim
   | succ k => exact congrArg (· + 1) (ih hsub j k i (by simpa using q1) (by simpa using q2))
noncomputable def Xin (X : Nat -> Prop) (ns : Ns) (sub : List (Option Nat)) (n : Nat) : Prop := X n \/ (some n ∈ ns /\ some n ∉ ck sub ns)
theorem j5 {sub : List (Option Nat)} {ns : Ns} {n : Nat} (q : some n ∈ ck sub ns) : some n ∈ ns := by
 obtain ⟨j, q⟩ := bh.mp q
 obtain ⟨i, _, q2⟩ := cC q
 exact bh.mpr ⟨i, q2⟩
theorem iB {sub : List (Option Nat)} {e : E3} {j : Nat} {s : Sl} (q : (cZ sub e)[j]? = some s) : (sub[j]? = some none /\ s = .no) \/ (∃ i, sub[j]? = some (some i) /\ ((e[i]? = none /\ s = .no) \/ ∃ t, e[i]? = some t /\ s = inS t)) := by
 unfold cZ at q
 rw [List.getElem?_map] at q
 cases z : sub[j]? with
 | none => rw [z] at q; cases q
 |
  some o =>
  rw [z] at q
  cases o with
  | none => cases q; exact .inl ⟨rfl, rfl⟩
  |
   some i =>
   refine .inr ⟨i, rfl, ?_⟩
   have q' := Option.some.inj q
   dsimp only at q'
   cases y : e[i]? with
   | none => rw [y] at q'; exact .inl ⟨rfl, q'.symm⟩
   | some t => rw [y] at q'; exact .inr ⟨t, rfl, q'.symm⟩
theorem
    Sat.inner {X : Nat -> Prop} {h0 : Nat} {ns : Ns} {e : E3} {ae : AE} {h : AH} {sub : List (Option Nat)} (S : Sat X h0 ns e ae h) (hs : kN sub) : Sat (Xin X ns sub) h0 (ck sub ns) (cZ sub e) (iM sub ae) h := by
 refine ⟨by unfold iM cZ; rw [List.length_map, List.length_map], by unfold ck cZ; rw [List.length_map, List.length_map], S.lh, fun n z => ?_, fun j k n q1 q2 => ?_, fun j n q z => ?_, fun j s q => ?_⟩
 ·rcases z with z | ⟨z, _⟩
  ·exact S.xl n z
  ·obtain ⟨i, z⟩ := bh.mp z
   obtain ⟨_, _, _, _, _, _, _, q', _⟩ := S.own z
   exact cU q'
 ·obtain ⟨i, y1, y2⟩ := cC q1
  obtain ⟨i', y3, y4⟩ := cC q2
  have := S.inj i i' n y2 y4
  subst this
  exact hs j k i y1 y3
 ·rcases z with z | ⟨_, z⟩
  ·obtain ⟨i, y1, y2⟩ := cC q
   exact S.nx i n y2 z
  ·exact z (bh.mpr ⟨j, q⟩)
 ·have mv : Mov (Oc X ns) (Oc (Xin X ns sub) (ck sub ns)) h h := fun n o p q => ⟨⟨fun z => by
   rcases z with z | ⟨z, _⟩
   ·exact p.1 z
   ·exact p.2 z, fun z => p.2 (j5 z)⟩, q⟩
  have hj : ∀ {o}, sub[j]? = some o -> (ck sub ns)[j]? = some (o.bind fun i => (ns[i]?).bind id) /\ (iM sub ae)[j]? = some (o.bind fun i => (ae[i]?).bind id) := fun {o} z => by
   unfold ck iM
   rw [List.getElem?_map, List.getElem?_map, z]
   exact ⟨rfl, rfl⟩
  rcases iB q with ⟨z, rfl⟩ | ⟨i, z, ⟨y, rfl⟩ | ⟨t, y, rfl⟩⟩
  ·rw [(hj z).1]; rfl
  ·rw [(hj z).1]
   show some ((ns[i]?).bind id) = some none
   have : ns[i]? = none := by
    rw [List.getElem?_eq_none_iff] at y ⊢
    rw [S.l2]; exact y
   rw [this]; rfl
  ·have k := (S.sl i t y).mono mv fun _ _ _ q => q
   rw [(hj z).1, (hj z).2]
   show SlR _ h0 (some ((ns[i]?).bind id)) (some ((ae[i]?).bind id)) h (inS t)
   have w1 : ∀ x, ns[i]? = some x -> some ((ns[i]?).bind id) = some x := fun x q => by rw [q]; rfl
   have w2 : ∀ x, ae[i]? = some x -> some ((ae[i]?).bind id) = some x := fun x q => by rw [q]; rfl
   cases t with
   | no => rw [w1 _ k]; rfl
   | sh v => obtain ⟨k1, x, k2, k3⟩ := k; rw [w1 _ k1, w2 _ k2]; exact ⟨rfl, x, rfl, k3⟩
   | ow v => obtain ⟨m, o, k1, k2, _, k3⟩ := k; rw [w1 _ k1, w2 _ k2]; exact ⟨m, o, rfl, rfl, k3⟩
   | lo v => obtain ⟨m, o, k1, k2, _, k3⟩ := k; rw [w1 _ k1, w2 _ k2]; exact ⟨m, o, rfl, rfl, k3⟩
   | mu v => obtain ⟨m, o, k1, k2, k3⟩ := k; rw [w1 _ k1, w2 _ k2]; exact ⟨m, o, rfl, rfl, k3⟩
   | lm v => obtain ⟨m, o, k1, k2, k3⟩ := k; rw [w1 _ k1, w2 _ k2]; exact ⟨m, o, rfl, rfl, k3⟩
theorem pU {sub : List (Option Nat)} {e : E3} (hs : kN sub) : Lnk sub e (cZ sub e) := by
 refine ⟨hs, fun j v q => ?_, fun j s q hm => ?_⟩
 ·rcases iB q with ⟨_, z⟩ | ⟨i, z, ⟨_, y⟩ | ⟨t, y, y2⟩⟩
  ·cases z
  ·cases y
  ·refine ⟨i, t, z, y, ?_⟩
   cases t <;> first | rfl | cases y2
 ·rcases iB q with ⟨_, z⟩ | ⟨i, z, ⟨_, y⟩ | ⟨t, y, y2⟩⟩
  ·subst z; cases hm
  ·subst y; cases hm
  ·subst y2
   cases t with
   | ow v => exact ⟨v, rfl⟩
   | mu v => exact ⟨v, rfl⟩
   | _ => cases hm
section
variable {I : MI} {I3 : MI3} {g : MG} {g3 : MG3} {c : MT} {c3 : MT3} {F : ME} {F3 : ME3}
theorem
    Ap {X : Nat -> Prop} {h0 : Nat} {ns : Ns} {e : E3} {ae : AE} {h : AH} {G : AH -> Prop} (S : Sat X h0 ns e ae h) (hg : RG g g3) (hc : RT c c3) (hF : RE F F3) (hG : ∀ ns' e' h', Stp ns e h ns' e' h' -> G h') {ys : List Val} {e2 : E3} :
  ∀
   {ds : List D} {vs : List Val}, Rds (Oc X ns) h ds vs -> ∀ {acc : List D} {accv : List Val} {ns1 : Ns} {e1 : E3} {ae1 : AE} {h1 : AH}, Stp ns e h ns1 e1 h1 -> Sat X h0 ns1 e1 ae1 h1 -> Rds (Oc X ns1) h1 acc accv -> lcV g3 c3 F3 vs accv e1 = .ok ys e2 ->
   ∃ dy h2 ns2 ae2, lcL G g c F ds acc ae1 h1 = .ok dy h2 /\ Stp ns e h ns2 e2 h2 /\ Sat X h0 ns2 e2 ae2 h2 /\ Rds (Oc X ns2) h2 dy ys := by
 intro ds
 induction ds with
 |
  nil =>
  intro vs r acc accv ns1 e1 ae1 h1 a1 S1 ra q
  cases r
  unfold lcL
  rw [if_pos (hG _ _ _ a1)]
  cases q
  exact ⟨acc, h1, ns1, ae1, rfl, a1, S1, ra⟩
 |
  cons d0 ds ih =>
  intro vs r acc accv ns1 e1 ae1 h1 a1 S1 ra q
  cases r with
  |
   cons r rr =>
   rename_i v vs
   unfold lcV at q
   unfold lcL
   by_cases hl : accv.length < 16777216
   ·rw [if_pos hl] at q
    rw [if_pos ⟨hG _ _ _ a1, by rw [ra.len]; exact hl⟩]
    cases q1 : g3 v e1 with
    | none => rw [q1] at q; cases q
    |
     some e3 =>
     rw [q1] at q
     dsimp only at q
     obtain ⟨ae3, ns3, p3, S3, a3⟩ := hg _ _ _ _ _ _ _ _ _ S1 (r.mono (a1.mov S)) q1
     rw [p3, gP]
     have a13 := a1.trans S a3
     have pc := hc X h0 ns3 e3 ae3 h1 S3
     cases q4 : c3 e3 with
     | stuck => rw [q4] at q; cases q
     | exc _ _ => rw [q4] at q; cases q
     |
      ok b e4 =>
      rw [q4] at q pc
      obtain ⟨b', h4, ns4, p4, a4, S4, rfl⟩ := pc
      rw [p4, gP]
      have a14 := a13.trans S a4
      have ra4 := (ra.mono (a3.mov S1)).mono (a4.mov S3)
      have q' : (if b' = true then (F3 e4).bind fun t e3 => (match cN e3 t with
       | some (e4, y) => lcV g3 c3 F3 _ (accv ++ [y]) e4
       | none => .stuck) else lcV g3 c3 F3 _ accv e4) = .ok ys e2 := q
      by_cases hb : b' = true
      ·rw [if_pos hb] at q' ⊢
       have pF := hF X h0 0 ns4 e4 ae3 h4 S4 (Nat.zero_le _)
       cases q5 : F3 e4 with
       | stuck => rw [q5] at q'; cases q'
       | exc _ _ => rw [q5] at q'; cases q'
       |
        ok t e5 =>
        rw [q5] at q' pF
        obtain ⟨d5, h5, ns5, p5, a5, S5, r5⟩ := pF
        rw [p5, gP]
        have q'' : (match cN e5 t with
         | some (e4, y) => lcV g3 c3 F3 _ (accv ++ [y]) e4
         | none => .stuck) = .ok ys e2 := q'
        cases q6 : cN e5 t with
        | none => rw [q6] at q''; cases q''
        |
         some w =>
         obtain ⟨e6, y⟩ := w
         rw [q6] at q''
         obtain ⟨ns6, S6, a6, r6⟩ := eP S5 r5 q6
         exact ih rr ((a14.trans S a5).trans S a6) S6 (((ra4.mono (a5.mov S4)).mono (a6.mov S5)).append (.cons r6 .nil)) q''
      ·rw [if_neg hb] at q' ⊢
       exact ih rr a14 S4 ra4 q'
   ·rw [if_neg hl] at q; cases q
theorem
    EK {sub : List (Option Nat)} (hs : (sub.filterMap id).Nodup) (hI : RI I I3) (hg : RG g g3) (hc : RT c c3) (hF : RE F F3) : RE (eLC I sub g c F) (vLC I3 sub g3 c3 F3) := fun X h0 L ns e ae h S hl =>
 Po.bind
     S (hI X h0 ns e ae h S) fun it p h1 ns1 e1 a1 S1 r1 => by
  try dsimp only
  obtain ⟨r2, gd, hk⟩ := r1
  have hs' := tP hs
  have S2 := S1.lockO p.2
  have S3 := S2.inner hs'
  cases q : lcV g3 c3 F3 p.1 [] (cZ sub (lockO e1 p.2)) with
  | stuck => trivial
  | exc _ _ => trivial
  |
   ok ys e2 =>
   dsimp only
   split
   ·rename_i hy
    have gd' : ∀ ns' e' h', Stp (ck sub ns1) (cZ sub (lockO e1 p.2)) h1 ns' e' h' -> it.guard h' := fun ns' e' h' a => gd h' fun m o qm hm => a.keep m o qm fun ⟨j, s, z1, z2, z3⟩ => by
     obtain ⟨i, y1, y2⟩ := cC z1
     rcases hm with hm | ⟨k, hk1, hk2⟩
     ·exact hm.2 (bh.mpr ⟨i, y2⟩)
     ·have : i = k := S1.inj i k m y2 hk2
      subst this
      obtain ⟨s', w1, w2⟩ := hk i hk1
      rcases iB z2 with ⟨z, _⟩ | ⟨i', z, y⟩
      ·rw [y1] at z; cases z
      ·rw [y1] at z; cases z
       have hl : (lockO e1 p.2)[i]? = some (iF s') := by rw [hk1]; exact lq w1
       rcases y with ⟨y, _⟩ | ⟨t, y, rfl⟩
       ·rw [hl] at y; cases y
       ·rw [hl] at y; cases y
        cases s' <;> first | cases w2; done | cases z3; done
    have mvi : Mov (Oc X ns1) (Oc (Xin X ns1 sub) (ck sub ns1)) h1 h1 := fun n o p q => ⟨⟨fun z => by
     rcases z with z | ⟨z, _⟩
     ·exact p.1 z
     ·exact p.2 z, fun z => p.2 (j5 z)⟩, q⟩
    obtain ⟨dy, h2, ns2, ae2, p2, a2, S4, r4⟩ := Ap (G := it.guard) S3 hg hc hF gd' (r2.mono mvi) .refl S3 .nil q
    have k3 : ∀ n, Oc (Xin X ns1 sub) ns2 n -> Oc X ns1 n := fun n z => ⟨fun y => z.1 (.inl y), fun y => by
     by_cases w : some n ∈ ck sub ns1
     ·obtain ⟨j, w⟩ := bh.mp w
      obtain ⟨s, v, o, b1, b2, _⟩ := S3.own w
      rcases b2 with b2 | b2
      ·obtain ⟨v', rfl⟩ := (pU (e := lockO e1 p.2) hs').mt j s b1 b2
       obtain ⟨u, c1, c2⟩ := a2.mu' j v' b1
       exact z.2 (bh.mpr ⟨j, by rw [c2]; exact w⟩)
      ·obtain ⟨c1, c2⟩ := a2.lk j s b1 b2
       exact z.2 (bh.mpr ⟨j, by rw [c2]; exact w⟩)
     ·exact z.1 (.inr ⟨y, w⟩)⟩
    have bk := S2.back (Y := X) (pU hs') a2 (fun n z => ⟨Nat.lt_of_lt_of_le (S2.xl n z) a2.len, .inl z⟩) (fun _ z => z) fun j v n q1 q2 => by
     obtain ⟨s, u, o, b1, b2, b3, b4, b5, b6, b7⟩ := S4.own q2
     rw [q1] at b1; cases b1
     cases b3
     exact ⟨o, b5, b6, b7.mono fun m o' z y => ⟨k3 m z, y⟩⟩
    obtain ⟨S5, a5⟩ := bk
    have r5 : Rds (Oc X ns1) h2 dy ys := r4.mono fun m o' z y => ⟨k3 m z, y⟩
    have fin : ∀ (e' : E3), Sat X h0 ns1 e' ae h2 -> Stp ns1 e1 h1 ns1 e' h2 -> Po X h0 ns1 e1 ae h1 (relE X h0 L ae) ((noX (lcL it.guard g c F it.items [] (iM sub ae) h1)).bind dz) (.ok (.new (.lst ys)) e') := fun e' S6 a6 => by
     rw [p2]
     have pp := BvR.po (L := L) (r := dz dy h2) (b := .new (.lst ys)) S6 (Nat.le_trans hl (Nat.le_trans a1.len a6.len)) ⟨.lst dy, by unfold dz; rw [if_pos (by rw [r5.len]; exact hy)], trivial, .lst r5⟩
     obtain ⟨d, h', ns', y, y1, y2, y3⟩ := pp
     exact ⟨d, h', ns', y, a6.trans S1 y1, y2, y3⟩
    cases hp : p.2 with
    |
     none =>
     rw [hp] at S5 a5
     exact fin _ S5 a5
    |
     some k =>
     rw [hp] at S5 a5
     obtain ⟨s, w1, w2⟩ := hk k hp
     exact fin _ (S5.unlock k) (a5.unlock w1 w2)
   ·trivial
end
end L3
set_option Elab.async false
set_option linter.all false
set_option maxRecDepth 100000
namespace L3
open PySem PySem.Spec PyProof.Rows L2
inductive R3F where
 | ok (r : Rt) (mv : List Val) | exc (c : Str) (mv : List Val) | stuck
abbrev Fn3 := List Val -> R3F
noncomputable def sl1 (b : Bool) (v : Val) : Sl := if b = true then .mu v else .sh v
noncomputable def sls (ms : List Bool) (vs : List Val) : E3 := List.zipWith sl1 ms vs
noncomputable def aU : List Bool -> List Val -> E3
 | true :: ms, v :: vs => .mu v :: aU ms vs
 | true :: ms, [] => .no :: aU ms []
 | false :: ms, vs => .no :: aU ms vs
 | [], _ => []
noncomputable def muV : List Bool -> E3 -> Option (List Val)
 | true :: ms, .mu v :: e => (muV ms e).map (v :: ·)
 | true :: _, _ => none
 | false :: ms, _ :: e => muV ms e
 | false :: _, [] => none
 | [], _ => some []
noncomputable def RFp (X : Nat -> Prop) (ps : Ns) (ms : List Bool) (vs : List Val) (ds : List D) (h : AH) (r2 : R D) : R3F -> Prop
 | .stuck => True
 | .ok r mv => ∃ d h', r2 = .ok d h' /\ Stp ps (sls ms vs) h ps (aU ms mv) h' /\ RtR X h.length ps (aU ms mv) (ds.map some) h' d r
 | .exc c mv => ∃ h', r2 = .exc c h' /\ Stp ps (sls ms vs) h ps (aU ms mv) h' /\ Sat X h.length ps (aU ms mv) (ds.map some) h'
noncomputable def RF (ms : List Bool) (G2 : Fn) (G3 : Fn3) : Prop := ∀ X ps ds vs h, vs.length = ms.length -> Sat X h.length ps (sls ms vs) (ds.map some) h -> RFp X ps ms vs ds h (G2 ds h) (G3 vs)
noncomputable def fnV (ms : List Bool) (N : Nat) (F : MS3) : Fn3 := fun vs => if vs.length = ms.length then (match F (sls ms vs ++ List.replicate (N - vs.length) .no) with
 | .nx e => (match muV ms e with | some mv => .ok (.val .non) mv | none => .stuck)
 | .rt r e => (match muV ms e with | some mv => .ok r mv | none => .stuck)
 | .exc c e => (match muV ms e with | some mv => .exc c mv | none => .stuck)
 | _ => .stuck) else .stuck
theorem eK {ms : List Bool} {vs : List Val} {i : Nat} {s : Sl} (q : (sls ms vs)[i]? = some s) : ∃ b v, ms[i]? = some b /\ vs[i]? = some v /\ s = sl1 b v := by
 unfold sls at q
 rw [List.getElem?_zipWith] at q
 cases h1 : ms[i]? with
 | none => rw [h1] at q; cases q
 |
  some b =>
  cases h2 : vs[i]? with
  | none => rw [h1, h2] at q; cases q
  | some v => rw [h1, h2] at q; cases q; exact ⟨b, v, rfl, rfl, rfl⟩
theorem fP : ∀ {ms : List Bool} {e : E3} {mv : List Val} {i : Nat} {s : Sl}, muV ms e = some mv -> (aU ms mv)[i]? = some s -> (ms[i]? = some false /\ s = .no) \/ (ms[i]? = some true /\ ∃ v, e[i]? = some (.mu v) /\ s = .mu v)
 | [], _, _, _, _, _, q => by unfold aU at q; simp at q
 |
  true :: ms, .mu v :: e, mv, i, s, q, q2 => by
  obtain ⟨mv', z1, z2⟩ := Option.map_eq_some_iff.mp (show (muV ms e).map (v :: ·) = some mv from q)
  subst z2
  cases i with
  | zero =>
       right; have : Sl.mu v = s := by simpa [aU] using q2
       subst this; exact ⟨rfl, v, rfl, rfl⟩
  |
   succ i =>
   have := fP (i := i) (s := s) z1 (by simpa [aU] using q2)
   simpa using this
 | true :: ms, [], mv, i, s, q, q2 => by cases q
 | true :: ms, .no :: e, mv, i, s, q, q2 => by cases q
 | true :: ms, .sh v :: e, mv, i, s, q, q2 => by cases q
 | true :: ms, .ow v :: e, mv, i, s, q, q2 => by cases q
 | true :: ms, .lo v :: e, mv, i, s, q, q2 => by cases q
 | true :: ms, .lm v :: e, mv, i, s, q, q2 => by cases q
 | false :: ms, [], mv, i, s, q, q2 => by cases q
 |
  false :: ms, t :: e, mv, i, s, q, q2 => by
  cases i with
  | zero =>
       left; have : Sl.no = s := by simpa [aU] using q2
       exact ⟨rfl, this.symm⟩
  |
   succ i =>
   have := fP (i := i) (s := s) (show muV ms e = some mv from q) (by simpa [aU] using q2)
   simpa using this
theorem lW : ∀ {ms : List Bool} {e : E3} {mv : List Val} {i : Nat}, muV ms e = some mv -> ms[i]? = some true -> ∃ v, e[i]? = some (.mu v) /\ (aU ms mv)[i]? = some (.mu v)
 | [], _, _, i, _, q => by simp at q
 |
  true :: ms, .mu v :: e, mv, i, q, q2 => by
  obtain ⟨mv', z1, z2⟩ := Option.map_eq_some_iff.mp (show (muV ms e).map (v :: ·) = some mv from q)
  subst z2
  cases i with
  | zero => exact ⟨v, rfl, rfl⟩
  |
   succ i =>
   obtain ⟨u, y1, y2⟩ := lW (i := i) z1 (by simpa using q2)
   exact ⟨u, by simpa using y1, by simpa [aU] using y2⟩
 | true :: ms, [], mv, i, q, q2 => by cases q
 | true :: ms, .no :: e, mv, i, q, q2 => by cases q
 | true :: ms, .sh v :: e, mv, i, q, q2 => by cases q
 | true :: ms, .ow v :: e, mv, i, q, q2 => by cases q
 | true :: ms, .lo v :: e, mv, i, q, q2 => by cases q
 | true :: ms, .lm v :: e, mv, i, q, q2 => by cases q
 | false :: ms, [], mv, i, q, q2 => by cases q
 |
  false :: ms, t :: e, mv, i, q, q2 => by
  cases i with
  | zero => simp at q2
  |
   succ i =>
   obtain ⟨u, y1, y2⟩ := lW (i := i) (show muV ms e = some mv from q) (by simpa using q2)
   exact ⟨u, by simpa using y1, by simpa [aU] using y2⟩
theorem fO : ∀ {ms : List Bool} {mv : List Val}, (aU ms mv).length = ms.length
 | [], _ => rfl
 | true :: ms, v :: mv => by show (aU ms mv).length + 1 = ms.length + 1; rw [fO]
 | true :: ms, [] => by show (aU ms []).length + 1 = ms.length + 1; rw [fO]
 | false :: ms, mv => by show (aU ms mv).length + 1 = ms.length + 1; rw [fO]
theorem
    CQ {ms : List Bool} {N : Nat} {F : MS} {F3 : MS3} (hF : RS F F3) : RF ms (fnD N F) (fnV ms N F3) := fun X ps ds vs h hl S => by
 unfold fnV
 rw [if_pos hl]
 have lS : (sls ms vs).length = vs.length := by unfold sls; rw [List.length_zipWith]; omega
 have lD : ds.length = vs.length := by have := S.l1; rw [List.length_map] at this; omega
 have lP : ps.length = vs.length := by have := S.l2; omega
 have S1
     : Sat X h.length (ps ++ List.replicate (N - vs.length) none) (sls ms vs ++ List.replicate (N - vs.length) .no) (ds.map some ++ List.replicate (N - vs.length) none) h := by
  have mns : ∀ n, some n ∈ ps ++ List.replicate (N - vs.length) (none : Option Nat) ↔ some n ∈ ps := fun n => by
   rw [List.mem_append]
   constructor
   ·rintro (z | z)
    ·exact z
    ·have := List.eq_of_mem_replicate z; cases this
   ·exact .inl
  have gns : ∀ {i n : Nat}, (ps ++ List.replicate (N - vs.length) (none : Option Nat))[i]? = some (some n) -> ps[i]? = some (some n) := fun {i n} q => by
   rw [List.getElem?_append] at q
   split at q
   ·exact q
   ·rw [List.getElem?_replicate] at q; split at q <;> cases q
  refine ⟨?_, ?_, S.lh, S.xl, fun i j n q1 q2 => S.inj i j n (gns q1) (gns q2), fun i n q => S.nx i n (gns q), fun i s q => ?_⟩
  ·rw [List.length_append, List.length_append, List.length_replicate, List.length_replicate, S.l1]
  ·rw [List.length_append, List.length_append, List.length_replicate, List.length_replicate, S.l2]
  ·rw [List.getElem?_append] at q
   split at q
   ·rename_i hi
    have k := S.sl i s q
    rw [List.getElem?_append_left (by omega), List.getElem?_append_left (by rw [List.length_map]; omega)]
    exact k.mono (fun n o p q => ⟨⟨p.1, fun z => p.2 ((mns n).mp z)⟩, q⟩) fun _ _ _ q => q
   ·rename_i hi
    rw [List.getElem?_replicate] at q
    split at q
    ·cases q
     rw [List.getElem?_append_right (by omega), List.getElem?_replicate, if_pos (by omega)]
     rfl
    ·cases q
 have p := hF _ _ _ _ _ _ S1
 have e2 : fnD N F ds h = match F (ds.map some ++ List.replicate (N - vs.length) none) h with
  | .nx _ h' => .ok .non h'
  | .rt d h' => .ok d h'
  | .exc c _ h' => .exc c h'
  | _ => .stuck := by rw [<- lD]; rfl
 rw [e2]
 have fin : ∀ (Y : Nat -> Prop) (ns' : Ns) (e' : E3) (ae' : AE) (h' : AH) (mv : List Val), (∀ n, X n -> Y n) -> Stp (ps ++ List.replicate (N - vs.length) none) (sls ms vs ++ List.replicate (N - vs.length) .no) h ns' e' h' -> Sat Y h.length ns' e' ae' h' -> muV ms e' = some mv ->
   Stp ps (sls ms vs) h ps (aU ms mv) h' /\ Sat Y h.length ps (aU ms mv) (ds.map some) h' /\ ∀ n, Oc Y ns' n -> Oc Y ps n := by
  intro Y ns' e' ae' h' mv hXY a S2 qm
  have kmu : ∀ {i : Nat}, ms[i]? = some true -> ∃ v u n o, e'[i]? = some (.mu v) /\ (aU ms mv)[i]? = some (.mu v) /\ (sls ms vs)[i]? = some (.mu u) /\ ns'[i]? = ps[i]? /\ ps[i]? = some (some n) /\ (ds.map some)[i]? = some (some (.ref n)) /\ h'[n]? = some o /\ bY o /\ Rc (Oc Y ns') h' o v := by
   intro i hi
   obtain ⟨v, y1, y2⟩ := lW qm hi
   have hil : i < ms.length := (List.getElem?_eq_some_iff.mp hi).1
   obtain ⟨u, y3, y4⟩ := a.mu i v y1
   rw [List.getElem?_append_left (by omega)] at y3 y4
   obtain ⟨n, o, z1, z2, _⟩ := S.sl i _ y3
   obtain ⟨n', o', w1, w2, w3, w4, w5⟩ := S2.sl i _ y1
   rw [y4, z1] at w1; cases w1
   exact ⟨v, u, n, o', y1, y2, y3, y4, z1, z2, w3, w4, w5⟩
  have kown : ∀ {i n : Nat}, ps[i]? = some (some n) -> ms[i]? = some true := fun {i n} q => by
   obtain ⟨s, v, o, z1, z2, _⟩ := S.own q
   obtain ⟨b, u, y1, _, y2⟩ := eK z1
   cases b with
   | true => exact y1
   | false => subst y2; rcases z2 with z2 | z2 <;> cases z2
  have koc : ∀ n, Oc Y ns' n -> Oc Y ps n := fun n z => ⟨z.1, fun y => by
   obtain ⟨i, y⟩ := bh.mp y
   obtain ⟨v, u, n', o, _, _, _, k1, k2, _⟩ := kmu (kown y)
   exact z.2 (bh.mpr ⟨i, by rw [k1]; exact y⟩)⟩
  refine ⟨⟨a.len, fun m o q hm => a.keep m o q fun ⟨i, s, z1, z2, z3⟩ => hm ?_, fun _ _ q => .inl q, fun i s q hl' => ?_, fun i s q hl' => ?_, fun i v q => ?_, fun i v q => ?_⟩, ⟨?_, ?_, Nat.le_trans (Nat.le_refl _) a.len, S2.xl, S.inj, fun i n q z => ?_, fun i s q => ?_⟩, koc⟩
  ·rw [List.getElem?_append] at z1
   split at z1
   ·rename_i hi
    rw [List.getElem?_append_left (by omega)] at z2
    exact ⟨i, s, z1, z2, z3⟩
   ·rw [List.getElem?_replicate] at z1; split at z1 <;> cases z1
  ·obtain ⟨b, u, _, _, y⟩ := eK q
   subst y
   cases b <;> cases hl'
  ·rcases fP qm q with ⟨_, z⟩ | ⟨_, v, _, z⟩ <;> subst z <;> cases hl'
  ·rcases fP qm q with ⟨_, z⟩ | ⟨z, _⟩
   ·cases z
   ·obtain ⟨v', u, n, o, _, _, k1, _⟩ := kmu z
    exact ⟨u, k1, rfl⟩
  ·obtain ⟨b, u, y1, _, y2⟩ := eK q
   cases b with
   | false => cases y2
   |
    true =>
    obtain ⟨v', u, n, o, _, k0, k1, _⟩ := kmu y1
    exact ⟨v', k0, rfl⟩
  ·rw [List.length_map, fO]; omega
  ·rw [fO]; omega
  ·obtain ⟨v, u, n', o, _, _, _, k1, k2, _⟩ := kmu (kown q)
   exact S2.nx i n (by rw [k1]; exact q) z
  ·rcases fP qm q with ⟨z, rfl⟩ | ⟨z, v, z2, rfl⟩
   ·have hil : i < ms.length := (List.getElem?_eq_some_iff.mp z).1
    have hi : i < (sls ms vs).length := by omega
    obtain ⟨b, u, y1, _, y2⟩ := eK (List.getElem?_eq_getElem hi)
    rw [z] at y1; cases y1
    have k := S.sl i _ (List.getElem?_eq_getElem hi)
    rw [y2] at k
    exact k.1
   ·obtain ⟨v', u, n, o, k0, _, _, k1, k2, k3, k4, k5, k6⟩ := kmu z
    rw [z2] at k0; cases k0
    exact ⟨n, o, k2, k3, k4, k5, k6.mono fun m o' y q => ⟨koc m y, q⟩⟩
 generalize F3 (sls ms vs ++ List.replicate (N - vs.length) .no) = r3 at *
 cases r3 with
 | stuck => trivial
 | bk _ => trivial
 | ct _ => trivial
 |
  nx e' =>
  obtain ⟨ae', h', ns', q, a, S2⟩ := p
  rw [q]
  dsimp only
  cases qm : muV ms e' with
  | none => trivial
  |
   some mv =>
   obtain ⟨a3, S3, koc⟩ := fin X ns' e' ae' h' mv (fun _ z => z) a S2 qm
   exact ⟨.non, h', rfl, a3, S3, .non⟩
 |
  exc c e' =>
  obtain ⟨ae', h', ns', q, a, S2⟩ := p
  rw [q]
  dsimp only
  cases qm : muV ms e' with
  | none => trivial
  |
   some mv =>
   obtain ⟨a3, S3, koc⟩ := fin X ns' e' ae' h' mv (fun _ z => z) a S2 qm
   exact ⟨h', rfl, a3, S3⟩
 |
  rt r e' =>
  obtain ⟨d, ae', h', ns', q, a, rr⟩ := p
  rw [q]
  dsimp only
  cases qm : muV ms e' with
  | none => trivial
  |
   some mv =>
   cases r with
   |
    val v =>
    obtain ⟨a3, S3, koc⟩ := fin X ns' e' ae' h' mv (fun _ z => z) a rr.1 qm
    exact ⟨d, h', rfl, a3, S3, rr.2.mono fun m o y q => ⟨koc m y, q⟩⟩
   |
    new v =>
    obtain ⟨n, o, z1, z2, z3, z4, z5, z6, z7⟩ := rr
    obtain ⟨a3, S3, koc⟩ := fin (Xn X n) ns' e' ae' h' mv (fun _ z => .inl z) a z6 qm
    exact ⟨d, h', rfl, a3, n, o, z1, z2, z3, z4, z5, S3, z7.mono fun m o y q => ⟨koc m y, q⟩⟩
noncomputable def gw (i : Nat) : List Tm -> Bool
 | .bor j :: ts => (i == j) || gw i ts
 | _ :: ts => gw i ts
 | [] => false
noncomputable def kT (i : Nat) : List Bool -> List Tm -> Bool
 | true :: ms, .bor j :: ts => (i == j) || kT i ms ts
 | _ :: ms, _ :: ts => kT i ms ts
 | _, _ => false
noncomputable def okA (e : E3) : List Bool -> List Tm -> Bool
 | true :: ms, .bor i :: ts => ((e[i]?).bind Sl.mv).isSome && !(gw i ts) && okA e ms ts
 | true :: _, _ :: _ => false
 | false :: ms, .bor i :: ts => !(kT i ms ts) && okA e ms ts
 | false :: ms, _ :: ts => okA e ms ts
 | [], [] => true
 | _, _ => false
noncomputable def kW (b : Bool) (t : Tm) : Option Nat := match b, t with
 | true, .bor i => some i
 | _, _ => none
noncomputable def cm (ms : List Bool) (ts : List Tm) : List (Option Nat) := List.zipWith kW ms ts
noncomputable def bf (e : E3) : List Bool -> List Tm -> List Nat
 | false :: ms, .bor i :: ts => (match e[i]? with
  | some (.sh _) => bf e ms ts
  | _ => i :: bf e ms ts)
 | _ :: ms, _ :: ts => bf e ms ts
 | _, _ => []
mutual
noncomputable def cL : Val -> Bool
 | .tup xs => cG xs
 | .lst _ => false
 | .kl _ => false
 | .dct _ => false
 | .set _ => false
 | _ => true
noncomputable def cG : List Val -> Bool
 | [] => true
 | v :: vs => cL v && cG vs
end
noncomputable def ko : List (Key × Val) -> Bool
 | [] => true
 | (_, v) :: vs => cL v && ko vs
noncomputable def c8 : Val -> Bool
 | .lst xs => cG xs
 | .dct xs => ko xs
 | .set _ => true
 | _ => false
noncomputable def jI : Rt -> Bool
 | .val v => cL v
 | .new v => c8 v
noncomputable def lY (e : E3) : List Nat -> Option E3
 | [] => some e
 | i :: is => match cN e (.bor i) with
  | some (e1, _) => lY e1 is
  | none => none
noncomputable def Rt.tm : Rt -> Tm
 | .val v => .val v
 | .new v => .new v
noncomputable def wF (ms : List Bool) (G : Fn3) (A : MA3) : ME3 := fun e => (A e).bind fun ts e1 => match rss e1 ts with
 | none => .stuck
 | some vs => if okA e1 ms ts = true then (match G vs with
  | .stuck => .stuck
  | .ok r mv => if (bf e1 ms ts).isEmpty || (jI r && mv.all c8) then .ok r.tm (bC (cm ms ts) (aU ms mv) e1) else (match lY e1 (bf e1 ms ts) with
   | some e2 => .ok r.tm (bC (cm ms ts) (aU ms mv) e2)
   | none => .stuck)
  | .exc c mv => if (bf e1 ms ts).isEmpty || mv.all c8 then .exc c (bC (cm ms ts) (aU ms mv) e1) else .stuck) else .stuck
section
variable {P P' : Nat -> Prop} {h h' : AH}
theorem Rd.flat {d : D} {v : Val} (f : cL v = true) (r : Rd P h d v) : Rd P' h' d v :=
 @Rd.rec P h (fun d v _ => cL v = true -> Rd P' h' d v) (fun o v _ => cL v = true -> Rd P' h' .non v) (fun ds vs _ => cG vs = true -> Rds P' h' ds vs) (fun ws us _ => True) (fun _ => .non) (fun b _ => .bl b) (fun i _ => .int i) (fun x _ => .str x) (fun n _ => .ty n) (fun x _ => .glb x) (fun x _ => .exc x) (fun _ ih f => .tup (ih f)) (fun _ _ f => absurd f Bool.false_ne_true) (fun _ _ r _ f => by cases r <;> exact absurd f Bool.false_ne_true) (fun _ _ f => absurd f Bool.false_ne_true) (fun _ _ f => absurd f Bool.false_ne_true) (fun _ _ f => absurd f Bool.false_ne_true) (fun _ f => absurd f Bool.false_ne_true) (fun _ => .nil) (fun _ _ a b f => .cons (a (Bool.and_eq_true .. ▸ f).1) (b (Bool.and_eq_true .. ▸ f).2)) trivial (fun _ _ _ _ => trivial) d v r f
theorem Rds.flat {d : List D} {v : List Val} (f : cG v = true) (r : Rds P h d v) : Rds P' h' d v :=
 r.ind (M := fun ds vs => cG vs = true -> Rds P' h' ds vs) (fun _ => .nil) (fun r _ ih f => by
  rw [cG, Bool.and_eq_true] at f
  exact .cons (Rd.flat f.1 r) (ih f.2)) f
theorem Rk.flat {d : List (Key × D)} {v : List (Key × Val)} (f : ko v = true) (r : Rk P h d v) : Rk P' h' d v :=
 r.ind (M := fun ds vs => ko vs = true -> Rk P' h' ds vs) (fun _ => .nil) (fun r _ ih f => by
  rw [ko, Bool.and_eq_true] at f
  exact .cons (Rd.flat f.1 r) (ih f.2)) f
theorem Rc.flat {o : Ob} {v : Val} (f : c8 v = true) (r : Rc P h o v) : Rc P' h' o v := by
 cases r with
 | lst r => exact .lst (Rds.flat (by simpa [c8] using f) r)
 | fz r => simp [c8] at f
 | dct r => exact .dct (Rk.flat (by simpa [c8] using f) r)
 | set xs => exact .set xs
end
theorem lb {i : Nat} : ∀ {ts : List Tm} {k : Nat}, ts[k]? = some (.bor i) -> gw i ts = true
 | [], _, q => by simp at q
 |
  t :: ts, 0, q => by
  have : t = .bor i := by simpa using q
  subst this; simp [gw]
 |
  t :: ts, k + 1, q => by
  have := lb (ts := ts) (k := k) (by simpa using q)
  cases t <;> simp [gw, this]
theorem p6 {i : Nat} : ∀ {ms : List Bool} {ts : List Tm} {k : Nat}, ms[k]? = some true -> ts[k]? = some (.bor i) -> kT i ms ts = true
 | [], _, _, q, _ => by simp at q
 | _ :: _, [], _, _, q => by simp at q
 |
  b :: ms, t :: ts, 0, q1, q => by
  have : t = .bor i := by simpa using q
  have : b = true := by simpa using q1
  subst_vars; simp [kT]
 |
  b :: ms, t :: ts, k + 1, q1, q => by
  have := p6 (ms := ms) (ts := ts) (k := k) (by simpa using q1) (by simpa using q)
  cases b <;> cases t <;> simp [kT, this]
theorem lE {e : E3} : ∀ {ms : List Bool} {ts : List Tm} {k : Nat}, okA e ms ts = true -> ms[k]? = some true -> ∃ i, ts[k]? = some (.bor i) /\ ∃ u, (e[i]?).bind Sl.mv = some u
 | [], _, _, _, q => by simp at q
 | b :: ms, [], _, o, _ => by cases b <;> simp [okA] at o
 |
  b :: ms, t :: ts, 0, o, q => by
  have : b = true := by simpa using q
  subst this
  cases t with
  |
   bor i =>
   simp only [okA, Bool.and_eq_true] at o
   exact ⟨i, rfl, Option.isSome_iff_exists.mp o.1.1⟩
  | _ => simp [okA] at o
 |
  b :: ms, t :: ts, k + 1, o, q => by
  have o' : okA e ms ts = true := by
   cases b <;> cases t <;> simp only [okA, Bool.and_eq_true] at o <;> first | exact o.2 | exact o | (simp at o; done)
  obtain ⟨i, y⟩ := lE (k := k) o' (by simpa using q)
  exact ⟨i, by simpa using y⟩
theorem gM {e : E3} : ∀ {ms : List Bool} {ts : List Tm} {k j i : Nat}, okA e ms ts = true -> ms[k]? = some true -> ts[k]? = some (.bor i) -> ts[j]? = some (.bor i) -> j = k
 | [], _, _, _, _, _, q, _, _ => by simp at q
 | b :: ms, [], _, _, _, o, _, _, _ => by cases b <;> simp [okA] at o
 | b :: ms, t :: ts, 0, 0, i, o, q1, q2, q3 => rfl
 |
  b :: ms, t :: ts, 0, j + 1, i, o, q1, q2, q3 => by
  have h1 : b = true := by simpa using q1
  have h2 : t = .bor i := by simpa using q2
  subst h1 h2
  simp only [okA, Bool.and_eq_true] at o
  have := lb (i := i) (ts := ts) (k := j) (by simpa using q3)
  rw [this] at o
  simp at o
 |
  b :: ms, t :: ts, k + 1, 0, i, o, q1, q2, q3 => by
  have h2 : t = .bor i := by simpa using q3
  subst h2
  have hm := p6 (i := i) (ms := ms) (ts := ts) (k := k) (by simpa using q1) (by simpa using q2)
  have hb := lb (i := i) (ts := ts) (k := k) (by simpa using q2)
  cases b <;> simp [okA, hm, hb] at o
 |
  b :: ms, t :: ts, k + 1, j + 1, i, o, q1, q2, q3 => by
  have o' : okA e ms ts = true := by
   cases b <;> cases t <;> simp only [okA, Bool.and_eq_true] at o <;> first | exact o.2 | exact o | (simp at o; done)
  exact congrArg (· + 1) (gM (k := k) (j := j) (i := i) o' (by simpa using q1) (by simpa using q2) (by simpa using q3))
theorem gR {e : E3} : ∀ {ms : List Bool} {ts : List Tm}, okA e ms ts = true -> ms.length = ts.length
 | [], [], _ => rfl
 | [], _ :: _, o => by simp [okA] at o
 | b :: ms, [], o => by cases b <;> simp [okA] at o
 |
  b :: ms, t :: ts, o => by
  have o' : okA e ms ts = true := by
   cases b <;> cases t <;> simp only [okA, Bool.and_eq_true] at o <;> first | exact o.2 | exact o | (simp at o; done)
  exact congrArg (· + 1) (gR o')
theorem j8 {e : E3} : ∀ {ms : List Bool} {ts : List Tm} {k i : Nat}, ms[k]? = some false -> ts[k]? = some (.bor i) -> (∀ v, e[i]? ≠ some (.sh v)) -> i ∈ bf e ms ts
 | [], _, _, _, q, _, _ => by simp at q
 | _ :: _, [], _, _, _, q, _ => by simp at q
 |
  b :: ms, t :: ts, 0, i, q1, q2, hn => by
  have h1 : b = false := by simpa using q1
  have h2 : t = .bor i := by simpa using q2
  subst h1 h2
  unfold bf
  split
  ·rename_i v q; exact absurd q (hn v)
  ·exact List.mem_cons_self ..
 |
  b :: ms, t :: ts, k + 1, i, q1, q2, hn => by
  have ih := j8 (ms := ms) (ts := ts) (k := k) (by simpa using q1) (by simpa using q2) hn
  cases b <;> cases t <;> simp only [bf] <;> first | exact ih | (split; exact ih; exact List.mem_cons_of_mem _ ih)
theorem d8 {ms : List Bool} {ts : List Tm} {k i : Nat} (q : (cm ms ts)[k]? = some (some i)) : ms[k]? = some true /\ ts[k]? = some (.bor i) := by
 unfold cm at q
 rw [List.getElem?_zipWith] at q
 cases h1 : ms[k]? with
 | none => rw [h1] at q; cases q
 |
  some b =>
  cases h2 : ts[k]? with
  | none => rw [h1, h2] at q; cases q
  |
   some t =>
   rw [h1, h2] at q
   have q' : kW b t = some i := Option.some.inj q
   cases b <;> cases t <;> first | (cases q'; done) | (cases q'; exact ⟨rfl, rfl⟩)
theorem yP {ms : List Bool} {ts : List Tm} {k i : Nat} (q1 : ms[k]? = some true) (q2 : ts[k]? = some (.bor i)) : (cm ms ts)[k]? = some (some i) := by
 unfold cm
 rw [List.getElem?_zipWith, q1, q2]; rfl
theorem
    qc {e : E3} : ∀ {ts : List Tm} {vs : List Val} {k : Nat} {v : Val}, rss e ts = some vs -> vs[k]? = some v -> ∃ t, ts[k]? = some t /\ rs e t = some v
 | [], _, _, _, q, q2 => by cases q; simp at q2
 |
  t :: ts, vs, k, v, q, q2 => by
  unfold rss at q
  split at q
  ·rename_i u us e1 e2
   cases q
   cases k with
   | zero =>
        have : u = v := by simpa using q2
        subst this; exact ⟨t, rfl, e1⟩
   |
    succ k =>
    obtain ⟨t', y1, y2⟩ := qc (k := k) e2 (by simpa using q2)
    exact ⟨t', by simpa using y1, y2⟩
  ·cases q
theorem jt {e : E3} : ∀ {ts : List Tm} {vs : List Val}, rss e ts = some vs -> vs.length = ts.length
 | [], _, q => by cases q; rfl
 |
  t :: ts, vs, q => by
  unfold rss at q
  split at q
  ·rename_i u us e1 e2; cases q; exact congrArg (· + 1) (jt e2)
  ·cases q
theorem TsR.get {X : Nat -> Prop} {ns : Ns} {ae : AE} {h : AH} : ∀ {ds : List D} {ts : List Tm} {k : Nat} {t : Tm}, TsR X ns ae h ds ts -> ts[k]? = some t -> ∃ d, ds[k]? = some d /\ ((∃ v, t = .val v /\ Rd (Oc X ns) h d v) \/ ∃ i, t = .bor i /\ ae[i]? = some (some d))
 | _, _, _, _, .nil, q => by simp at q
 | _, _, 0, _, .val r rr, q => by have := (by simpa using q : Tm.val _ = _); subst this; exact ⟨_, rfl, .inl ⟨_, rfl, r⟩⟩
 | _, _, 0, _, .bor r rr, q => by have := (by simpa using q : Tm.bor _ = _); subst this; exact ⟨_, rfl, .inr ⟨_, rfl, r⟩⟩
 | _, _, k + 1, t, .val r rr, q => by obtain ⟨d, y⟩ := rr.get (k := k) (by simpa using q); exact ⟨d, by simpa using y⟩
 | _, _, k + 1, t, .bor r rr, q => by obtain ⟨d, y⟩ := rr.get (k := k) (by simpa using q); exact ⟨d, by simpa using y⟩
noncomputable def Xc (X : Nat -> Prop) (ns : Ns) (e : E3) (ms : List Bool) (ts : List Tm) (n : Nat) : Prop := (X n \/ some n ∈ ns) /\ some n ∉ ck (cm ms ts) ns /\ ∀ i ∈ bf e ms ts, ns[i]? ≠ some (some n)
theorem
    oo {X : Nat -> Prop} {h0 : Nat} {ns : Ns} {e : E3} {ae : AE} {h : AH} {ms : List Bool} {ts : List Tm} {ds : List D} {vs : List Val} (S : Sat X h0 ns e ae h) (rt : TsR X ns ae h ds ts) (qv : rss e ts = some vs) (ok : okA e ms ts = true) :
  Sat (Xc X ns e ms ts) h.length (ck (cm ms ts) ns) (sls ms vs) (ds.map some) h := by
 have l1 := gR ok
 have l2 := jt qv
 have l3 := TsR.len rt
 have hs : kN (cm ms ts) := fun j k i q1 q2 => gM ok (d8 q2).1 (d8 q2).2 (d8 q1).2
 have mv : Mov (Oc X ns) (Oc (Xc X ns e ms ts) (ck (cm ms ts) ns)) h h := fun n o p q => ⟨⟨fun z => by
  rcases z.1 with z | z
  ·exact p.1 z
  ·exact p.2 z, fun z => p.2 (j5 z)⟩, q⟩
 refine ⟨?_, ?_, Nat.le_refl _, fun n z => ?_, fun j k n q1 q2 => ?_, fun j n q z => z.2.1 (bh.mpr ⟨j, q⟩), fun k s q => ?_⟩
 ·unfold sls; rw [List.length_map, List.length_zipWith]; omega
 ·unfold ck cm sls; rw [List.length_map, List.length_zipWith, List.length_zipWith]; omega
 ·rcases z.1 with z | z
  ·exact S.xl n z
  ·obtain ⟨i, z⟩ := bh.mp z
   obtain ⟨_, _, _, _, _, _, _, q', _⟩ := S.own z
   exact cU q'
 ·obtain ⟨i, y1, y2⟩ := cC q1
  obtain ⟨i', y3, y4⟩ := cC q2
  have := S.inj i i' n y2 y4
  subst this
  exact hs j k i y1 y3
 ·obtain ⟨b, v,
         q1, q2, rfl⟩ := eK q
  obtain ⟨t, q3, q4⟩ := qc qv q2
  obtain ⟨d, q5, q6⟩ := rt.get q3
  have qd : (ds.map some)[k]? = some (some d) := by rw [List.getElem?_map, q5]; rfl
  rw [qd]
  have qn : (ck (cm ms ts) ns)[k]? = some ((kW b t).bind fun i => (ns[i]?).bind id) := by
   unfold ck cm
   rw [List.getElem?_map, List.getElem?_zipWith, q1, q3]; rfl
  rw [qn]
  cases b with
  |
   true =>
   obtain ⟨i, y1, u, y2⟩ := lE ok q1
   rw [q3] at y1; cases y1
   have q4' : (e[i]?).bind Sl.val = some v := q4
   obtain ⟨s, z1, z2⟩ := Option.bind_eq_some_iff.mp y2
   rw [z1] at q4'
   have hv : s.val = some v := q4'
   have huv : u = v := by cases s <;> first | cases z2; done | (cases z2; cases hv; rfl)
   subst huv
   have hns : ∃ n, ns[i]? = some (some n) := by
    have y := S.sl i s z1
    cases s with
    | ow v => obtain ⟨n, o, y1, _⟩ := y; exact ⟨n, y1⟩
    | mu v => obtain ⟨n, o, y1, _⟩ := y; exact ⟨n, y1⟩
    | _ => cases z2
   obtain ⟨n, hn⟩ := hns
   obtain ⟨n', o, k1, k2, k3, k4, _⟩ := S.write z1 z2
   rcases q6 with ⟨_, z, _⟩ | ⟨i', z, q6⟩
   ·cases z
   ·cases z
    rw [q6] at k1; cases k1
    obtain ⟨_, _, _, _, _, _, w, _⟩ := S.own hn
    rw [q6] at w; cases w
    exact ⟨n, o, by show some ((ns[i]?).bind id) = _; rw [hn]; rfl, rfl, k2, k3, k4.mono mv⟩
  |
   false =>
   refine ⟨by cases t <;> rfl, d, rfl, ?_⟩
   rcases q6 with ⟨u, rfl, q6⟩ | ⟨i, rfl, q6⟩
   ·cases q4; exact q6.mono mv
   ·have q4' : (
          e[i]?).bind Sl.val = some v := q4
    rcases S.bor q6 q4' with z | ⟨n, o, rfl, z1, z2⟩
    ·exact z.mono mv
    ·refine .cell ⟨fun y => ?_, fun y => ?_⟩ z1 (z2.mono mv)
     ·
      by_cases hsh : ∃ w, e[i]? = some (.sh w)
      ·obtain ⟨w, hsh⟩ := hsh
       obtain ⟨_, x, w1, w2⟩ := S.sl i _ hsh
       rw [q6] at w1; cases w1
       cases w2 with
       | cell p _ _ => rcases y.1 with y | y; exact p.1 y; exact p.2 y
      ·have hl := j8 q1 q3 fun w z => hsh ⟨w, z⟩
       cases w : ns[i]? with
       |
        none =>
        have hi : i < e.length := by
         cases z : e[i]? with
         | none => rw [z] at q4'; cases q4'
         | some _ => exact (List.getElem?_eq_some_iff.mp z).1
        rw [List.getElem?_eq_none_iff, S.l2] at w
        omega
       |
        some w' =>
        cases w' with
        |
         none =>
         cases z : e[i]? with
         | none => rw [z] at q4'; cases q4'
         |
          some s =>
          have k := S.sl i s z
          rw [w] at k
          cases s with
          | no => rw [z] at q4'; cases q4'
          | sh w => exact hsh ⟨w, z⟩
          | ow w => obtain ⟨_, _, k, _⟩ := k; cases k
          | lo w => obtain ⟨_, _, k, _⟩ := k; cases k
          | mu w => obtain ⟨_, _, k, _⟩ := k; cases k
          | lm w => obtain ⟨_, _, k, _⟩ := k; cases k
        |
         some n' =>
         obtain ⟨_, _, _, _, _, _, w2, _⟩ := S.own w
         rw [q6] at w2; cases w2
         exact y.2.2 i hl w
     ·obtain ⟨j, y⟩ := bh.mp y
      obtain ⟨i', y1, y2⟩ := cC y
      obtain ⟨y3, y4⟩ := d8 y1
      obtain ⟨_, _, _, _, _, _, w2, _⟩ := S.own y2
      have : i'
           = i := by
       cases w : ns[i]? with
       |
        none =>
        have hi : i < e.length := by
         cases z : e[i]? with
         | none => rw [z] at q4'; cases q4'
         | some _ => exact (List.getElem?_eq_some_iff.mp z).1
        rw [List.getElem?_eq_none_iff, S.l2] at w
        omega
       |
        some w' =>
        cases w' with
        |
         some n' =>
         obtain ⟨_, _, _, _, _, _, w3, _⟩ := S.own w
         rw [q6] at w3; cases w3
         exact S.inj i' i n y2 w
        |
         none =>
         cases z : e[i]? with
         | none => rw [z] at q4'; cases q4'
         |
          some s =>
          have k := S.sl i s z
          rw [w, q6] at k
          cases s with
          | no => rw [z] at q4'; cases q4'
          |
           sh w =>
           obtain ⟨_, x, k1, k2⟩ := k
           cases k1
           cases k2 with
           | cell p _ _ => exact (p.2 (bh.mpr ⟨i', y2⟩)).elim
          | ow w => obtain ⟨_, _, k, _⟩ := k; cases k
          | lo w => obtain ⟨_, _, k, _⟩ := k; cases k
          | mu w => obtain ⟨_, _, k, _⟩ := k; cases k
          | lm w => obtain ⟨_, _, k, _⟩ := k; cases k
      subst this
      have := gM ok y3 y4 q3
      subst this
      rw [q1] at y3; cases y3
end L3
set_option Elab.async false
set_option linter.all false
set_option maxRecDepth 100000
namespace L3
open PySem PySem.Spec PyProof.Rows L2
theorem eT : ∀ {ms : List Bool} {mv : List Val} {j : Nat} {v : Val}, (aU ms mv)[j]? = some (.mu v) -> v ∈ mv
 | [], _, _, _, q => by simp [aU] at q
 | true :: ms, u :: mv, 0, v, q => by
                    have : Sl.mu u = .mu v := by simpa [aU] using q
                    cases this; exact List.mem_cons_self ..
 | true :: ms, u :: mv, j + 1, v, q => List.mem_cons_of_mem _ (eT (ms := ms) (mv := mv) (j := j) (by simpa [aU] using q))
 | true :: ms, [], 0, v, q => by simp [aU] at q
 | true :: ms, [], j + 1, v, q => eT (ms := ms) (mv := []) (j := j) (by simpa [aU] using q)
 | false :: ms, mv, 0, v, q => by simp [aU] at q
 | false :: ms, mv, j + 1, v, q => eT (ms := ms) (mv := mv) (j := j) (by simpa [aU] using q)
theorem jS {e : E3} : ∀ {ms : List Bool} {ts : List Tm} {i : Nat}, i ∈ bf e ms ts -> ∃ k : Nat, ms[k]? = some false /\ ts[k]? = some (.bor i)
 | [], _, _, q => by simp [bf] at q
 | _ :: _, [], _, q => by simp [bf] at q
 |
  b :: ms, t :: ts, i, q => by
  have up : i ∈ bf e ms ts -> ∃ k : Nat, (b :: ms)[k]? = some false /\ (t :: ts)[k]? = some (.bor i) := fun z => by
   obtain ⟨k, y1, y2⟩ := jS z
   exact ⟨k + 1, by simpa using y1, by simpa using y2⟩
  cases b <;> cases t <;> simp only [bf] at q <;> first | exact up q | skip
  split at q
  ·exact up q
  ·rcases List.mem_cons.mp q with rfl | q
   ·exact ⟨0, rfl, rfl⟩
   ·exact up q
theorem y8 {e e1 : E3} {i : Nat} {v : Val} (q : cN e (.bor i) = some (e1, v)) : (∀ j, j ≠ i -> e1[j]? = e[j]?) /\ e1[i]? = some (.sh v) /\ (e[i]?).bind Sl.val = some v := by
 unfold cN at q
 dsimp only at q
 split at q
 ·rename_i u q1; cases q; exact ⟨fun _ _ => rfl, q1, by rw [q1]; rfl⟩
 ·rename_i u q1; cases q; exact ⟨fun j z => bP z, bZ (List.getElem?_eq_some_iff.mp q1).1, by rw [q1]; rfl⟩
 ·cases q
theorem
    og {X : Nat -> Prop} {h0 : Nat} {ae : AE} {h : AH} : ∀ {is : List Nat} {ns : Ns} {e e2 : E3}, Sat X h0 ns e ae h -> (∀ i ∈ is, ∃ d, ae[i]? = some (some d)) -> lY e is = some e2 -> ∃ ns2, Sat X h0 ns2 e2 ae h /\ Stp ns e h ns2 e2 h /\ (∀ i, i ∉ is -> e2[i]? = e[i]?) /\ (∀ i ∈ is, ∃ v, e2[i]? = some (.sh v)) /\ ∀ i : Nat, (e2[i]?).bind Sl.val = (e[i]?).bind Sl.val
 | [], ns, e, e2, S, _, q => by cases q; exact ⟨ns, S, .refl, fun _ _ => rfl, (fun _ z => by cases z), fun _ => rfl⟩
 |
  i :: is, ns, e, e2, S, hd, q => by
  unfold lY at q
  split at q
  ·rename_i e1 v q1
   obtain ⟨d, hd0⟩ := hd i (List.mem_cons_self ..)
   obtain ⟨ns1, S1, a1, r1⟩ := eP (L := 0) (t := .bor i) S hd0 q1
   obtain ⟨ns2, S2, a2, k1, k2, k3⟩ := og S1 (fun j z => hd j (List.mem_cons_of_mem _ z)) q
   obtain ⟨y1, y2, y3⟩ := y8 q1
   refine ⟨ns2, S2, a1.trans S a2, fun j hj => ?_, fun j hj => ?_, fun j => ?_⟩
   ·rw [List.mem_cons, not_or] at hj
    rw [k1 j hj.2, y1 j hj.1]
   ·by_cases z : j ∈ is
    ·exact k2 j z
    ·rcases List.mem_cons.mp hj with rfl | hj
     ·exact ⟨v, by rw [k1 j z]; exact y2⟩
     ·exact absurd hj z
   ·rw [k3 j]
    by_cases z : j = i
    ·subst z; rw [y2, y3]; rfl
    ·rw [y1 j z]
  ·cases q
theorem
    l9 {e e2 : E3} : ∀ {ms : List Bool} {ts : List Tm}, (∀ (k i : Nat), ms[k]? = some true -> ts[k]? = some (.bor i) -> e2[i]? = e[i]?) -> okA e ms ts = true -> okA e2 ms ts = true
 | [], [], _, o => rfl
 | [], _ :: _, _, o => by simp [okA] at o
 | b :: ms, [], _, o => by cases b <;> simp [okA] at o
 |
  b :: ms, t :: ts, hk, o => by
  have o' : okA e ms ts = true := by
   cases b <;> cases t <;> simp only [okA, Bool.and_eq_true] at o <;> first | exact o.2 | exact o | (simp at o; done)
  have ih := l9 (fun k i q1 q2 => hk (k + 1) i (by simpa using q1) (by simpa using q2)) o'
  cases b with
  | false => cases t <;> simp only [okA, Bool.and_eq_true] at o ⊢ <;> first | exact ⟨o.1, ih⟩ | exact ih
  |
   true =>
   cases t with
   |
    bor i =>
    simp only [okA, Bool.and_eq_true] at o ⊢
    rw [hk 0 i rfl rfl]
    exact ⟨o.1, ih⟩
   | _ => simp [okA] at o
theorem n9 {e : E3} : ∀ {ms : List Bool} {ts : List Tm}, (∀ (k i : Nat), ms[k]? = some false -> ts[k]? = some (.bor i) -> ∃ v, e[i]? = some (.sh v)) -> bf e ms ts = []
 | [], _, _ => by simp [bf]
 | _ :: _, [], _ => by simp [bf]
 |
  b :: ms, t :: ts, hk => by
  have ih := n9 (fun k i q1 q2 => hk (k + 1) i (by simpa using q1) (by simpa using q2))
  cases b <;> cases t <;> simp only [bf] <;> first | exact ih | skip
  rename_i i
  obtain ⟨v, q⟩ := hk 0 i rfl rfl
  rw [q]; exact ih
theorem mi {e e2 : E3} (hv : ∀ i : Nat, (e2[i]?).bind Sl.val = (e[i]?).bind Sl.val) : ∀ (ts : List Tm), rss e2 ts = rss e ts
 | [] => rfl
 |
  t :: ts => by
  unfold rss
  rw [mi hv ts]
  have : rs e2 t = rs e t := by
   cases t with
   | bor i => exact hv i
   | _ => rfl
  rw [this]
theorem oh {e : E3} {ms : List Bool} {ts : List Tm} {vs : List Val} (ok : okA e ms ts = true) : Lnk (cm ms ts) e (sls ms vs) := by
 refine ⟨fun j k i q1 q2 => gM ok (d8 q2).1 (d8 q2).2 (d8 q1).2, fun j v q => ?_, fun j s q hm => ?_⟩
 ·obtain ⟨b, u, q1, _, q2⟩ := eK q
  cases b with
  | false => cases q2
  |
   true =>
   obtain ⟨i, y1, w, y2⟩ := lE ok q1
   obtain ⟨s, z1, z2⟩ := Option.bind_eq_some_iff.mp y2
   exact ⟨i, s, yP q1 y1, z1, by cases s <;> first | rfl | cases z2⟩
 ·obtain ⟨b, u, q1, _, q2⟩ := eK q
  cases b with
  | false => subst q2; cases hm
  | true => exact ⟨u, q2⟩
section
variable {X : Nat -> Prop} {h0 L : Nat} {ns : Ns} {e : E3} {ae : AE} {h : AH} {ms : List Bool} {ts : List Tm} {ds : List D} {vs : List Val} {S2 : Fn} {G3 : Fn3}
theorem jF (Y : Nat -> Prop) (hY : ∀ n, Y n -> X n \/ Y n) {n : Nat} (hl : bf e ms ts = []) (z : ¬ Xc X ns e ms ts n) (z2 : some n ∉ ck (cm ms ts) ns) : Oc X ns n := by
 refine ⟨fun y => z ⟨.inl y, z2, fun i hi => by rw [hl] at hi; cases hi⟩, fun y => z ⟨.inr y, z2, fun i hi => by rw [hl] at hi; cases hi⟩⟩
theorem
    pY {r : Rt} {mv : List Val} (S : Sat X h0 ns e ae h) (hL : L <= h.length) (rt : TsR X ns ae h ds ts) (qv : rss e ts = some vs) (ok : okA e ms ts = true) (hG : RF ms S2 G3) (q : G3 vs = .ok r mv) (hf : bf e ms ts = [] \/ (jI r = true /\ mv.all c8 = true)) :
  Po X h0 ns e ae h (relE X h0 L ae) (S2 ds h) (.ok r.tm (bC (cm ms ts) (aU ms mv) e)) := by
 have p := hG _ _ ds vs h (by rw [jt qv, gR ok]) (oo S rt qv ok)
 rw [q] at p
 obtain ⟨d, h', p1, a, rr⟩ := p
 have K := oh (vs := vs) ok
 have xcl : ∀ n, X n -> n < h.length := S.xl
 cases r with
 |
  val v =>
  obtain ⟨S3, rv⟩ := rr
  obtain ⟨S4, a4⟩ := S.back (Y := X) K a (fun n z => ⟨Nat.lt_of_lt_of_le (xcl n z) a.len, .inl z⟩) (fun _ z => z) fun j w n q1 q2 => by
   obtain ⟨s, u, o, b1, b2, b3, b4, b5, b6, b7⟩ := S3.own q2
   rw [q1] at b1; cases b1; cases b3
   rcases hf with hf | hf
   ·exact ⟨o, b5, b6, b7.mono fun m o' z y => ⟨jF X (fun _ z => .inl z) hf z.1 z.2, y⟩⟩
   ·exact ⟨o, b5, b6, b7.flat (List.all_eq_true.mp hf.2 w (eT q1))⟩
  refine ⟨d, h', ns, p1, a4, S4, ?_⟩
  rcases hf with hf | hf
  ·exact rv.mono fun m o' z y => ⟨jF X (fun _ z => .inl z) hf z.1 z.2, y⟩
  ·exact rv.flat hf.1
 |
  new v =>
  obtain ⟨n, o, z1, z2, z3, z4, z5, S3, z7⟩ := rr
  have hnx : ¬ X n := fun y => by have := xcl n y; omega
  have kk : ∀ m, Oc (Xn (Xc X ns e ms ts) n) (ck (cm ms ts) ns) m -> bf e ms ts = [] -> Oc (Xn X n) ns m := fun m z hf => by
   have := jF X (fun _ z => .inl z) hf (fun y => z.1 (.inl y)) z.2
   exact ⟨fun y => by
    rcases y with y | y
    ·exact this.1 y
    ·exact z.1 (.inr y), this.2⟩
  obtain ⟨S4, a4⟩ := S.back (Y := Xn X n) K a (fun m z => by
    rcases z with z | rfl
    ·exact ⟨Nat.lt_of_lt_of_le (xcl m z) a.len, .inl z⟩
    ·exact ⟨cU z4, .inr z2⟩) (fun _ z => .inl z) fun j w n' q1 q2 => by
   obtain ⟨s, u, o, b1, b2, b3, b4, b5, b6, b7⟩ := S3.own q2
   rw [q1] at b1; cases b1; cases b3
   rcases hf with hf | hf
   ·exact ⟨o, b5, b6, b7.mono fun m o' z y => ⟨kk m z hf, y⟩⟩
   ·exact ⟨o, b5, b6, b7.flat (List.all_eq_true.mp hf.2 w (eT q1))⟩
  refine ⟨d, h', ns, p1, a4, S4.weak fun _ z => .inl z, n, o, z1, Nat.le_trans hL z2, hnx, z4, z5, S4, ?_⟩
  rcases hf with hf | hf
  ·exact z7.mono fun m o' z y => ⟨kk m z hf, y⟩
  ·exact z7.flat hf.1
theorem v9 {c : Str} {mv : List Val} (S : Sat X h0 ns e ae h) (rt : TsR X ns ae h ds ts) (qv : rss e ts = some vs) (ok : okA e ms ts = true) (hG : RF ms S2 G3) (q : G3 vs = .exc c mv) (hf : bf e ms ts = [] \/ mv.all c8 = true) :
  Po X h0 ns e ae h (relE X h0 L ae) (S2 ds h) (.exc c (bC (cm ms ts) (aU ms mv) e)) := by
 have p := hG _ _ ds vs h (by rw [jt qv, gR ok]) (oo S rt qv ok)
 rw [q] at p
 obtain ⟨h', p1, a, S3⟩ := p
 have K := oh (vs := vs) ok
 obtain ⟨S4, a4⟩ := S.back (Y := X) K a (fun n z => ⟨Nat.lt_of_lt_of_le (S.xl n z) a.len, .inl z⟩) (fun _ z => z) fun j w n q1 q2 => by
  obtain ⟨s, u, o, b1, b2, b3, b4, b5, b6, b7⟩ := S3.own q2
  rw [q1] at b1; cases b1; cases b3
  rcases hf with hf | hf
  ·exact ⟨o, b5, b6, b7.mono fun m o' z y => ⟨jF X (fun _ z => .inl z) hf z.1 z.2, y⟩⟩
  ·exact ⟨o, b5, b6, b7.flat (List.all_eq_true.mp hf w (eT q1))⟩
 exact ⟨h', ns, p1, a4, S4⟩
theorem
    yY {A : MA} {A3 : MA3} {n : Nat} (hn : n = ms.length) (hG : RF ms S2 G3) (hA : RA A A3) : RE (qL n S2 A) (wF ms G3 A3) := fun X h0 L ns e ae h S hl =>
 Po.bind
     S (hA X h0 ns e ae h S) fun ds ts h1 ns1 e1 a1 S1 r1 => by
  try dsimp only
  cases qv : rss e1 ts with
  | none => trivial
  |
   some vs =>
   dsimp only
   by_cases ok : okA e1 ms ts = true
   ·rw [if_pos ok]
    have hlen : ds.length = n := by rw [hn, gR ok]; exact TsR.len r1
    rw [if_pos hlen]
    have hL : L <= h1.length := Nat.le_trans hl a1.len
    cases q : G3 vs with
    | stuck => trivial
    |
     exc c mv =>
     dsimp only
     by_cases hf : ((bf e1 ms ts).isEmpty || mv.all c8) = true
     ·rw [if_pos hf]
      refine v9 S1 r1 qv ok hG q ?_
      rw [Bool.or_eq_true] at hf
      rcases hf with hf | hf
      ·exact .inl (List.isEmpty_iff.mp hf)
      ·exact .inr hf
     ·rw [if_neg hf]; trivial
    |
     ok r mv =>
     dsimp only
     by_cases hf : ((bf e1 ms ts).isEmpty || (jI r && mv.all c8)) = true
     ·rw [if_pos hf]
      refine pY S1 hL r1 qv ok hG q ?_
      rw [Bool.or_eq_true, Bool.and_eq_true] at hf
      rcases hf with hf | hf
      ·exact .inl (List.isEmpty_iff.mp hf)
      ·exact .inr hf
     ·rw [if_neg hf]
      cases qd : lY e1 (bf e1 ms ts) with
      | none => trivial
      |
       some e2 =>
       dsimp only
       obtain ⟨ns2, S2', a2, k1, k2, k3⟩ := og S1 (fun i hi => by
        obtain ⟨k, _, y⟩ := jS hi
        obtain ⟨d, _, z⟩ := r1.get y
        rcases z with ⟨_, z, _⟩ | ⟨j, z, z2⟩
        ·cases z
        ·cases z; exact ⟨d, z2⟩) qd
       have ok2 : okA e2 ms ts = true := l9 (fun k i q1 q2 => k1 i fun z => by
        obtain ⟨k', y1, y2⟩ := jS z
        have := gM ok q1 q2 y2
        subst this
        rw [q1] at y1; cases y1) ok
       have ln : bf e2 ms ts = [] := n9 fun k i q1 q2 => by
        by_cases z : i ∈ bf e1 ms ts
        ·exact k2 i z
        ·rw [k1 i z]
         exact Classical.byContradiction fun w => z (j8 q1 q2 fun v y => w ⟨v, y⟩)
       have pp := pY (L := L) S2' hL (r1.stp S1 a2) (by rw [mi k3]; exact qv) ok2 hG q (.inl ln)
       obtain ⟨d, h', ns', y, y1, y2, y3⟩ := pp
       exact ⟨d, h', ns', y, a2.trans S1 y1, y2, y3⟩
   ·rw [if_neg ok]; trivial
end
noncomputable def RMv (m2 : D -> List D -> AH -> R D) (m3 : Val -> List Val -> Bv) : Prop := ∀ P h d v ds vs, ShR P h d v -> la v = true -> ShRs P h ds vs -> BvR P h (m2 d ds h) (m3 v vs)
end L3
set_option Elab.async false
set_option linter.all false
set_option maxRecDepth 100000
namespace L3
open PySem PySem.Spec PyProof.Rows L2
noncomputable def aI (f : Int -> Int -> Val) : Val -> Val -> Bv := fun x y => match x, y with
 | .int i, .int j => .val (f i j)
 | _, _ => .stuck
open Classical in
noncomputable def aIc (C : Int -> Int -> Prop) (f : Int -> Int -> Val) : Val -> Val -> Bv := fun x y => match x, y with
 | .int i, .int j => if C i j then .val (f i j) else .stuck
 | _, _ => .stuck
noncomputable def rl : Val -> Val -> Bv := fun x y => match x, y with
 | .lst xs, .lst ys => if xs.length + ys.length <= 16777216 then .new (.lst (xs ++ ys)) else .stuck
 | .tup xs, .tup ys => if xs.length + ys.length <= 16777216 then .val (.tup (xs ++ ys)) else .stuck
 | _, _ => .stuck
noncomputable def uX : Val -> Val -> Bv := fun x y => match x, y with
 | .int i, .int j => .val (.int (i + j))
 | x, y => rl x y
noncomputable def aMin := aI fun i j => .int (i - j)
noncomputable def qB := aIc CMulA fun i j => .int (i * j)
noncomputable def qN := aIc CDivB fun i j => .int (i.fdiv j)
noncomputable def rQ := aIc (fun _ j => j ≠ 0) fun i j => .int (i.fmod j)
noncomputable def rq := aIc lg fun i j => .int (i ^ j.toNat)
noncomputable def aLt := aI fun i j => .bl (decide (i < j))
noncomputable def aLe := aI fun i j => .bl (decide (i <= j))
noncomputable def aGt := aI fun i j => .bl (decide (j < i))
noncomputable def aGe := aI fun i j => .bl (decide (j <= i))
noncomputable def wt : Val -> Bv := fun x => match x with
 | .int i => .val (.int (-i))
 | _ => .stuck
noncomputable def aIx : Val -> Val -> Bv := fun x y => match x.items, y with
 | some xs, .int i => (match atI xs i with
  | some v => .val v
  | none => .stuck)
 | _, _ => .stuck
section
theorem n8 {f2 : Int -> Int -> D} {f3 : Int -> Int -> Val} (hr : ∀ i j P h, Rd P h (f2 i j) (f3 i j)) : RO (gI f2) (aI f3) := fun P h d1 d2 v1 v2 r1 r2 => by
 unfold aI
 split
 ·obtain rfl := r1.int; obtain rfl := r2.int; exact ⟨_, rfl, hr _ _ P h⟩
 ·trivial
theorem mR {C : Int -> Int -> Prop} {f2 : Int -> Int -> D} {f3 : Int -> Int -> Val} (hr : ∀ i j P h, Rd P h (f2 i j) (f3 i j)) : RO (gIc C f2) (aIc C f3) := fun P h d1 d2 v1 v2 r1 r2 => by
 unfold aIc
 split
 ·obtain rfl := r1.int; obtain rfl := r2.int
  split
  ·rename_i hc; exact ⟨_, by unfold gIc; dsimp only; rw [if_pos hc], hr _ _ P h⟩
  ·trivial
 ·trivial
theorem Aj : RO j3 rl := fun P h d1 d2 v1 v2 r1 r2 => by
 unfold rl
 split
 ·obtain ⟨n, ds, rfl, e1, _, q1⟩ := r1.lst
  obtain ⟨m, es, rfl, e2, _, q2⟩ := r2.lst
  split
  ·rename_i hl
   exact ⟨.lst (ds ++ es), by unfold j3; dsimp only; rw [e1, e2]; dsimp only; rw [if_pos (by rw [q1.len, q2.len]; exact hl)], trivial, .lst (q1.append q2)⟩
  ·trivial
 ·obtain ⟨ds, rfl, q1⟩ := r1.tup
  obtain ⟨es, rfl, q2⟩ := r2.tup
  split
  ·rename_i hl
   exact ⟨_, by unfold j3; dsimp only; rw [if_pos (by rw [q1.len, q2.len]; exact hl)], .tup (q1.append q2)⟩
  ·trivial
 ·trivial
theorem A9 : RO rO uX := fun P h d1 d2 v1 v2 r1 r2 => by
 unfold uX
 split
 ·obtain rfl := r1.int; obtain rfl := r2.int; exact ⟨_, rfl, .int _⟩
 ·rename_i hn
  have k := Aj P h d1 d2 v1 v2 r1 r2
  have e : rO d1 d2 h = j3 d1 d2 h \/ rl v1 v2 = .stuck := by
   cases v1 <;> first | (right; rfl) | (left; skip)
   ·obtain ⟨ds, rfl, _⟩ := r1.tup; rfl
   ·obtain ⟨n, ds, rfl, _⟩ := r1.lst; rfl
  rcases e with e | e
  ·rw [e]; exact k
  ·rw [e]; trivial
theorem Bm : RO u9 aMin := n8 fun _ _ _ _ => .int _
theorem An : RO uT qB := mR fun _ _ _ _ => .int _
theorem zS : RO vP qN := mR fun _ _ _ _ => .int _
theorem A1 : RO vb rQ := mR fun _ _ _ _ => .int _
theorem zV : RO vx rq := mR fun _ _ _ _ => .int _
theorem Ed : RO gLt aLt := n8 fun _ _ _ _ => .bl _
theorem D9 : RO gLe aLe := n8 fun _ _ _ _ => .bl _
theorem CI : RO gGt aGt := n8 fun _ _ _ _ => .bl _
theorem CZ : RO gGe aGe := n8 fun _ _ _ _ => .bl _
theorem zp : RU rb wt := fun P h d v r => by
 unfold wt
 split
 ·obtain rfl := r.int; exact ⟨_, rfl, .int _⟩
 ·trivial
theorem CD {P : Nat -> Prop} {h : AH} {ds : List D} {vs : List Val} (r : Rds P h ds vs) {i : Int} {v : Val} (e : atI vs i = some v) : ∃ d, atI ds i = some d /\ Rd P h d v := by
 unfold atI at e ⊢
 rw [r.len]
 cases q : ixN vs.length i with
 | none => rw [q] at e; cases e
 | some j => rw [q] at e; exact r.get e
theorem ET : RO gIx aIx := fun P h d1 d2 v1 v2 r1 r2 => by
 unfold aIx
 split
 ·rename_i xs i e1
  obtain ⟨ds, e2, q⟩ := r1.items e1
  obtain rfl := r2.int
  split
  ·rename_i v e3
   obtain ⟨d, e4, q2⟩ := CD q e3
   exact ⟨d, by unfold gIx; rw [e2]; dsimp only; rw [e4], q2⟩
  ·trivial
 ·trivial
end
mutual
noncomputable def cS : Nat -> Val -> Option PyData
 | 0, _ => none
 | _ + 1, .non => some .none
 | _ + 1, .bl b => some (.bool b)
 | _ + 1, .int i => some (.int i)
 | _ + 1, .str x => some (.str x)
 | k + 1, .tup xs => (dX k xs).map .tuple
 | k + 1, .lst xs => (dX k xs).map .list
 | _ + 1, _ => none
noncomputable def dX : Nat -> List Val -> Option (List PyData)
 | _, [] => some []
 | k, x :: xs => match cS k x, dX k xs with
  | some a, some b => some (a :: b)
  | _, _ => none
end
theorem
    uQ {P : Nat -> Prop} {h : AH} {k : Nat} (hk : ∀ d v pd, Rd P h d v -> cS k v = some pd -> dP k h d = some pd) : ∀ {ds : List D} {vs : List Val} {ps : List PyData}, Rds P h ds vs -> dX k vs = some ps -> ds.mapM (dP k h) = some ps := by
 intro ds
 induction ds with
 |
  nil =>
  intro vs ps r q
  cases r
  unfold dX at q
  cases q
  rfl
 |
  cons d0 ds ih =>
  intro vs ps r q
  cases r with
  |
   cons r rr =>
   unfold dX at q
   split at q
   ·rename_i a b e1 e2
    cases q
    rw [List.mapM_cons, hk _ _ _ r e1, ih rr e2]; rfl
   ·cases q
theorem kS {P : Nat -> Prop} {h : AH} : ∀ (k : Nat) (d : D) (v : Val) (pd : PyData), ShR P h d v -> cS k v = some pd -> dP k h d = some pd
 | 0, _, _, _, _, q => by unfold cS at q; cases q
 |
  k + 1, d, v, pd, r, q => by
  have ih : ∀ {ds : List D} {vs : List Val} {ps : List PyData}, Rds P h ds vs -> dX k vs = some ps -> ds.mapM (dP k h) = some ps := uQ fun d v pd r q => kS k d v pd (.inl r) q
  cases v with
  | non => obtain rfl := r.non; simp only [cS] at q; cases q; rfl
  | bl b => obtain rfl := r.bl; simp only [cS] at q; cases q; rfl
  | int b => obtain rfl := r.int; simp only [cS] at q; cases q; rfl
  | str b => obtain rfl := r.str; simp only [cS] at q; cases q; rfl
  |
   tup xs =>
   obtain ⟨ds, rfl, r2⟩ := r.tup
   simp only [cS] at q
   obtain ⟨ps, q1, rfl⟩ := Option.map_eq_some_iff.mp q
   show (ds.mapM (dP k h)).map PyData.tuple = _
   rw [ih r2 q1]; rfl
  |
   lst xs =>
   obtain ⟨n, ds, rfl, _, e1, r2⟩ := r.lst
   simp only [cS] at q
   obtain ⟨ps, q1, rfl⟩ := Option.map_eq_some_iff.mp q
   unfold dP
   rw [e1]
   show (ds.mapM (dP k h)).map PyData.list = _
   rw [ih r2 q1]; rfl
  | _ => simp only [cS] at q; cases q
noncomputable def fH (x y : Val) : Option Bool := match cS 64 x, cS 64 y with
 | some a, some b => if SeqAt.shaped a = true /\ SeqAt.shaped b = true then some (PyData.eqv a b) else none
 | _, _ => none
noncomputable def aEq (neg : Bool) : Val -> Val -> Bv := fun x y => match fH x y with
 | some b => .val (.bl (if neg then !b else b))
 | none => .stuck
theorem AQ {P : Nat -> Prop} {h : AH} {d1 d2 : D} {v1 v2 : Val} {b : Bool} (r1 : ShR P h d1 v1) (r2 : ShR P h d2 v2) (q : fH v1 v2 = some b) : nu h d1 d2 = some b := by
 unfold fH at q
 split at q
 ·rename_i a c e1 e2
  unfold nu
  rw [kS 64 _ _ _ r1 e1, kS 64 _ _ _ r2 e2]
  exact q
 ·cases q
theorem wG (neg : Bool) : RO (gEq neg) (aEq neg) := fun P h d1 d2 v1 v2 r1 r2 => by
 unfold aEq
 split
 ·rename_i b q
  exact ⟨_, by unfold gEq; rw [AQ r1 r2 q], .bl _⟩
 ·trivial
noncomputable def qR (neg : Bool) : Val -> Val -> Bv := fun x y => match x, y with
 | .non, .non => .val (.bl (!neg))
 | _, .non => .val (.bl neg)
 | _, _ => .stuck
theorem sj (neg : Bool) : RO (jm neg) (qR neg) := fun P h d1 d2 v1 v2 r1 r2 => by
 unfold qR
 split
 ·obtain rfl := r1.non; obtain rfl := r2.non; exact ⟨_, rfl, .bl _⟩
 ·rename_i hn
  obtain rfl := r2.non
  have : d1 ≠ .non := by
   rintro rfl
   rcases r1 with r | ⟨n, o, z, _⟩
   ·cases r; exact hn rfl
   ·cases z
  refine ⟨_, ?_, .bl neg⟩
  unfold jm
  split
  ·exact absurd rfl this
  ·rfl
  ·rename_i h1 h2; exact (h1 rfl).elim
 ·trivial
noncomputable def we : List Val -> Bv := fun vs => match vs with
 | [v] => (match v.items with
  | some xs => .val (.int xs.length)
  | none => (match v with
   | .str z => if z.length <= 16777216 then .val (.int z.length) else .stuck
   | _ => .stuck))
 | _ => .stuck
noncomputable def uC : List Val -> Bv := fun vs => match vs with
 | [.int i] => .val (.int (if i < 0 then -i else i))
 | _ => .stuck
noncomputable def rA : List Val -> Bv := fun vs => match vs with
 | [.int i, .int j] => .val (.int (if j > i then j else i))
 | _ => .stuck
noncomputable def qU : List Val -> Bv := fun vs => match vs with
 | [.int i, .int j] => .val (.int (if j < i then j else i))
 | _ => .stuck
noncomputable def ja : List Val -> Option (List Bool)
 | [] => some []
 | .bl b :: r => (ja r).map (b :: ·)
 | _ => none
noncomputable def iq : List Val -> Option (List Int)
 | [] => some []
 | .int b :: r => (iq r).map (b :: ·)
 | _ => none
noncomputable def wc : List Val -> Bv := fun vs => match vs with
 | [.lst xs] => (match ja xs with
  | some bs => .val (.bl (bs.all id))
  | none => .stuck)
 | _ => .stuck
noncomputable def vS : List Val -> Bv := fun vs => match vs with
 | [.lst xs] => (match iq xs with
  | some bs => .val (.int bs.sum)
  | none => .stuck)
 | _ => .stuck
noncomputable def rT : List Val -> Bv := fun vs => match vs with
 | [v] => (match v.items with
  | some xs => .new (.lst xs)
  | none => .stuck)
 | _ => .stuck
noncomputable def v8 : List Val -> Bv := fun vs => match vs with
 | [.int i] => .val (.int i)
 | [.bl b] => .val (.int (if b then 1 else 0))
 | _ => .stuck
theorem
    zY : RFn oX we := fun P h ds vs r => by
 unfold we
 split
 ·obtain ⟨d, hd, rr1⟩ := gp r; subst hd; clear r; have r := rr1
  split
  ·rename_i xs e
   obtain ⟨es, e2, q⟩ := r.items e
   exact ⟨_, by unfold oX; dsimp only; rw [e2], by rw [<- q.len]; exact .int _⟩
  ·split
   ·rename_i z _
    obtain rfl := r.str
    split
    ·rename_i hl; exact ⟨_, by show (if z.length <= 16777216 then _ else _) = _; rw [if_pos hl], .int _⟩
    ·trivial
   ·trivial
 ·trivial
theorem AL : RFn qV uC := fun P h ds vs r => by
 unfold uC
 split
 ·obtain ⟨d, hd, rr1⟩ := gp r; subst hd; clear r; have r := rr1; obtain rfl := r.int; exact ⟨_, rfl, .int _⟩
 ·trivial
theorem xp : RFn mH rA := fun P h ds vs r => by
 unfold rA
 split
 ·obtain ⟨d, d', hd, rr1, r'⟩ := qx r; subst hd; clear r; have r := rr1; obtain rfl := r.int; obtain rfl := r'.int; exact ⟨_, rfl, .int _⟩
 ·trivial
theorem x6 : RFn mM qU := fun P h ds vs r => by
 unfold qU
 split
 ·obtain ⟨d, d', hd, rr1, r'⟩ := qx r; subst hd; clear r; have r := rr1; obtain rfl := r.int; obtain rfl := r'.int; exact ⟨_, rfl, .int _⟩
 ·trivial
theorem
    Ej {P : Nat -> Prop} {h : AH} : ∀ {ds : List D} {vs : List Val} {bs : List Bool}, Rds P h ds vs -> ja vs = some bs -> gj ds = some bs := by
 intro ds
 induction ds with
 |
  nil =>
  intro vs bs r q
  cases r
  cases q
  rfl
 |
  cons d0 ds ih =>
  intro vs bs r q
  cases r with
  |
   cons r rr =>
   rename_i v vs
   cases v with
   |
    bl b =>
    obtain rfl := ShR.bl (.inl r)
    obtain ⟨b', q1, rfl⟩ := Option.map_eq_some_iff.mp (show (ja vs).map (b :: ·) = some bs from q)
    show (gj _).map (b :: ·) = _
    rw [ih rr q1]; rfl
   | _ => cases q
theorem
    Cb {P : Nat -> Prop} {h : AH} : ∀ {ds : List D} {vs : List Val} {bs : List Int}, Rds P h ds vs -> iq vs = some bs -> eY ds = some bs := by
 intro ds
 induction ds with
 |
  nil =>
  intro vs bs r q
  cases r
  cases q
  rfl
 |
  cons d0 ds ih =>
  intro vs bs r q
  cases r with
  |
   cons r rr =>
   rename_i v vs
   cases v with
   |
    int b =>
    obtain rfl := ShR.int (.inl r)
    obtain ⟨b', q1, rfl⟩ := Option.map_eq_some_iff.mp (show (iq vs).map (b :: ·) = some bs from q)
    show (eY _).map (b :: ·) = _
    rw [ih rr q1]; rfl
   | _ => cases q
theorem AV : RFn nQ wc := fun P h ds vs r => by
 unfold wc
 split
 ·obtain ⟨d, hd, rr1⟩ := gp r; subst hd; clear r; have r := rr1
  obtain ⟨n, es, rfl, _, e1, q⟩ := r.lst
  split
  ·rename_i bs e2
   exact ⟨_, by unfold nQ; dsimp only; rw [e1]; show (match gj es with | some bs => _ | none => _) = _; rw [Ej q e2], .bl _⟩
  ·trivial
 ·trivial
theorem Ca : RFn oi vS := fun P h ds vs r => by
 unfold vS
 split
 ·obtain ⟨d, hd, rr1⟩ := gp r; subst hd; clear r; have r := rr1
  obtain ⟨n, es, rfl, _, e1, q⟩ := r.lst
  split
  ·rename_i bs e2
   exact ⟨_, by unfold oi; dsimp only; rw [e1]; show (match eY es with | some bs => _ | none => _) = _; rw [Cb q e2], .int _⟩
  ·trivial
 ·trivial
theorem xQ : RFn kH rT := fun P h ds vs r => by
 unfold rT
 split
 ·obtain ⟨d, hd, rr1⟩ := gp r; subst hd; clear r; have r := rr1
  split
  ·rename_i xs e
   obtain ⟨es, e2, q⟩ := r.items e
   exact ⟨.lst es, by unfold kH; dsimp only; rw [e2], trivial, .lst q⟩
  ·trivial
 ·trivial
theorem CA : RFn qD v8 := fun P h ds vs r => by
 unfold v8
 split
 ·obtain ⟨d, hd, rr1⟩ := gp r; subst hd; clear r; have r := rr1; obtain rfl := r.int; exact ⟨_, rfl, .int _⟩
 ·obtain ⟨d, hd, rr1⟩ := gp r; subst hd; clear r; have r := rr1; obtain rfl := r.bl; exact ⟨_, rfl, .int _⟩
 ·trivial
noncomputable def tyC : Val -> Option Cl
 | .non => some (.b "NoneType")
 | .bl _ => some (.b "bool")
 | .int _ => some (.b "int")
 | .str _ => some (.b "str")
 | .tup _ => some (.b "tuple")
 | .exc x => some (.o x)
 | .lst _ => some (.b "list")
 | .dct _ => some (.b "dict")
 | _ => none
noncomputable def clV : Val -> Option Cl
 | .ty n => some (.b n)
 | .glb x => some (.o x)
 | _ => none
noncomputable def qh : List Val -> Option (List Cl)
 | [] => some []
 | v :: vs => match clV v, qh vs with
  | some c, some cs => some (c :: cs)
  | _, _ => none
noncomputable def ER : Val -> Option (List Cl)
 | .tup cs => qh cs
 | v => (clV v).map ([·])
noncomputable def uP (kt : eI) : List Val -> Bv := fun vs => match vs with
 | [v, c] => (match tyC v, ER c with
  | some t, some (c0 :: cr) => (match eO kt t (c0 :: cr), kit kt t c0 with
   | some b, some _ => .val (.bl b)
   | _, _ => .stuck)
  | _, _ => .stuck)
 | _ => .stuck
theorem Ek {P : Nat -> Prop} {h : AH} {d : D} {v : Val} {t : Cl} (r : ShR P h d v) (q : tyC v = some t) : tyD h d = some t := by
 cases v with
 | non => obtain rfl := r.non; exact q
 | bl b => obtain rfl := r.bl; exact q
 | int b => obtain rfl := r.int; exact q
 | str b => obtain rfl := r.str; exact q
 | exc b => obtain rfl := r.exc; exact q
 | tup b => obtain ⟨ds, rfl, _⟩ := r.tup; exact q
 | lst b => obtain ⟨n, ds, rfl, e, _⟩ := r.lst; unfold tyD; dsimp only; rw [e]; exact q
 | dct b => obtain ⟨n, ds, rfl, e, _⟩ := r.dct; unfold tyD; dsimp only; rw [e]; exact q
 | _ => cases q
theorem wQ {P : Nat -> Prop} {h : AH} {d : D} {v : Val} {c : Cl} (r : ShR P h d v) (q : clV v = some c) : clD d = some c := by
 cases v with
 | ty b => obtain rfl := r.ty; exact q
 | glb b => obtain rfl := r.glb; exact q
 | _ => cases q
theorem
    A5 {P : Nat -> Prop} {h : AH} : ∀ {ds : List D} {vs : List Val} {cs : List Cl}, Rds P h ds vs -> qh vs = some cs -> ds.mapM clD = some cs := by
 intro ds
 induction ds with
 |
  nil =>
  intro vs cs r q
  cases r
  cases q
  rfl
 |
  cons d0 ds ih =>
  intro vs cs r q
  cases r with
  |
   cons r rr =>
   unfold qh at q
   split at q
   ·rename_i c cs' e1 e2
    cases q
    rw [List.mapM_cons, wQ (.inl r) e1, ih rr e2]; rfl
   ·cases q
theorem
    Cy (kt : eI) : RFn (nt kt) (uP kt) := fun P h ds vs r => by
 unfold uP
 split
 ·rename_i v c
  obtain ⟨d, d', rfl, r1, r2⟩ := qx r
  split
  ·rename_i t c0 cr e1 e2
   have e3 := Ek r1 e1
   split
   ·rename_i b b' e4 e5
    refine ⟨.bl b, ?_, .bl b⟩
    unfold nt
    dsimp only
    rw [e3]
    dsimp only
    by_cases ht : ∃ cs, c = .tup cs
    ·obtain ⟨cs, rfl⟩ := ht
     obtain ⟨es, rfl, q⟩ := r2.tup
     dsimp only
     rw [A5 q e2]
     dsimp only
     rw [e4, e5]
    ·have e2' : (clV c).map ([·]) = some (c0 :: cr) := by
      cases c with
      | tup cs => exact absurd ⟨cs, rfl⟩ ht
      | _ => exact e2
     obtain ⟨cl, y1, y2⟩ := Option.map_eq_some_iff.mp e2'
     cases y2
     have y3 := wQ r2 y1
     have hd : ∀ cs, d' ≠ .tup cs := fun cs z => by subst z; cases y3
     split
     ·rename_i cs; exact absurd rfl (hd cs)
     ·rw [y3]
      dsimp only
      have : kit kt t c0 = some b := by
       unfold eO at e4
       rw [e5] at e4 ⊢
       cases b' with
       | true => exact e4
       | false => unfold eO at e4; exact e4
      rw [this]
   ·trivial
  ·trivial
 ·trivial
noncomputable def rJ (xs : List Val) (lo hi : Option Int) : List Val := (xs.drop (HT.sIx xs.length 0 lo)).take (HT.sIx xs.length xs.length hi - HT.sIx xs.length 0 lo)
abbrev MO3 := E3 -> R3 (Option Int)
noncomputable def wa (_ : Ns) (_ : E3) (_ : AH) (b c : Option Int) : Prop := b = c
noncomputable def ROp (F : MO) (G : MO3) : Prop := ∀ X h0 ns e ae h, Sat X h0 ns e ae h -> Po X h0 ns e ae h wa (F ae h) (G e)
noncomputable def sy : MO3 := fun e => .ok none e
noncomputable def so (F : ME3) : MO3 := fun e => (F e).bind fun t e1 => match rs e1 t with
 | some (.int i) => .ok (some i) e1
 | _ => .stuck
noncomputable def aSl (x : Val) (lo hi : Option Int) : Bv := match x with
 | .tup xs => if HT.sIx xs.length 0 lo = 0 /\ HT.sIx xs.length xs.length hi = xs.length then .stuck else .val (.tup (rJ xs lo hi))
 | .lst xs => .new (.lst (rJ xs lo hi))
 | _ => .stuck
noncomputable def vSl (F : ME3) (L U : MO3) : ME3 := fun e => (F e).bind fun t e1 => (L e1).bind fun lo e2 => (U e2).bind fun hi e3 => match rs e3 t.drop with
 | some v => (aSl v lo hi).at e3
 | none => .stuck
theorem yN : ROp qK sy := fun X h0 ns e ae h S => Po.ret S rfl
theorem
    xy {F : ME} {F3 : ME3} (hF : RE F F3) : ROp (qW F) (so F3) := fun X h0 ns e ae h S =>
 Po.bind S (hF X h0 0 ns e ae h S (Nat.zero_le _)) fun d t h1 ns1 e1 a1 S1 r1 => by
  by_cases hq : ∃ i, rs e1 t = some (.int i)
  ·obtain ⟨i, hq⟩ := hq
   have hd := (r1.sh S1 hq).int
   subst hd
   show Po X h0 ns1 e1 ae h1 wa (R.ok (some i) h1) (match rs e1 t with | some (.int i) => R3.ok (some i) e1 | _ => .stuck)
   rw [hq]
   exact Po.ret S1 rfl
  ·have : (match rs e1 t with | some (.int i) => R3.ok (some i) e1 | _ => .stuck) = (.stuck : R3 (Option Int)) := by
    split
    ·rename_i i q; exact absurd ⟨i, q⟩ hq
    ·rfl
   show Po X h0 ns1 e1 ae h1 wa _ (match rs e1 t with | some (.int i) => R3.ok (some i) e1 | _ => .stuck)
   rw [this]; trivial
theorem
    EC {F : ME} {F3 : ME3} {L U : MO} {L3' U3 : MO3} (hF : RE F F3) (hL : ROp L L3') (hU : ROp U U3) : RE (eSl F L U) (vSl F3 L3' U3) := fun X h0 LL ns e ae h S hl =>
 Po.bind
     S (hF X h0 LL ns e ae h S hl) fun d t h1 ns1 e1 a1 S1 r1 => Po.bind S1 (hL X h0 ns1 e1 ae h1 S1) fun lo lo' h2 ns2 e2 a2 S2 r2 => Po.bind S2 (hU X h0 ns2 e2 ae h2 S2) fun hi hi' h3 ns3 e3 a3 S3 r3 => by
  cases r2; cases r3
  obtain ⟨r1', hn⟩ := r1.drop
  have r4 := (r1'.stp S1 a2 hn).stp S2 a3 hn
  try dsimp only
  split
  ·rename_i v q
   have rr := r4.sh S3 q
   refine BvR.po S3 (Nat.le_trans hl (Nat.le_trans a1.len (Nat.le_trans a2.len a3.len))) ?_
   unfold aSl
   split
   ·rename_i xs
    obtain ⟨ds, rfl, q1⟩ := rr.tup
    split
    ·trivial
    ·rename_i hne
     refine ⟨_, by unfold gSl; dsimp only; rw [if_neg (by rw [q1.len]; exact hne)], .tup ?_⟩
     unfold L2.cutD rJ
     rw [q1.len]
     exact (q1.drop _).take _
   ·rename_i xs
    obtain ⟨n, ds, rfl, _, e1, q1⟩ := rr.lst
    refine ⟨.lst (L2.cutD ds lo hi), by unfold gSl; dsimp only; rw [e1], trivial, .lst ?_⟩
    unfold L2.cutD rJ
    rw [q1.len]
    exact (q1.drop _).take _
   ·trivial
  ·trivial
section
variable {P : Nat -> Prop} {h : AH}
theorem wZ {n : Nat} {o : Ob} {xs : List Val} (e : h[n]? = some o) (r : Rc P h o (.lst xs)) : wO h (.ref n) = true /\ ∃ ds, h[n]? = some (.lst ds) /\ Rds P h ds xs /\ ∀ f, xh h (.ref n) f = f n ds := by
 obtain ⟨ds, e1, e2, q⟩ := Rc.seq e r
 refine ⟨by show (bG h n).isSome = true; rw [e2]; rfl, ds, e1, q, fun f => ?_⟩
 unfold xh; dsimp only; rw [e1]
end
noncomputable def sL : Val -> Val -> Val -> Option Val := fun u i v => match u, i with
 | .lst xs, .int k => (match ixN xs.length k with
  | some j => some (.lst (xs.set j v))
  | none => none)
 | _, _ => none
theorem Co : rY wL sL := fun P h n o u di vi d v u' _ e hf r ri rd q => by
 unfold sL at q
 split at q
 ·split at q
  ·rename_i j hj
   cases q
   obtain ⟨q1, es, q2, q3, q4⟩ := wZ e r
   obtain rfl := ri.int
   refine ⟨.lst (es.set j d), ?_, trivial, .lst (q3.set rd j)⟩
   unfold wL; dsimp only; rw [q2]; dsimp only; rw [q3.len, hj]
  ·cases q
 ·cases q
end L3
set_option Elab.async false
set_option linter.all false
set_option maxRecDepth 100000
namespace L3
open PySem PySem.Spec PyProof.Rows L2
structure PEx where
 F : ME
 G : ME3
 ok : RE F G
structure PTs where
 F : MT
 G : MT3
 ok : RT F G
structure PAs where
 F : MA
 G : MA3
 ok : RA F G
structure PSt where
 F : MS
 G : MS3
 ok : RS F G
structure PGt where
 F : MG
 G : MG3
 ok : RG F G
structure PGs where
 F : MGs
 G : kd
 ok : RGs F G
structure PIt where
 F : MI
 G : MI3
 ok : RI F G
structure POp where
 F : MO
 G : MO3
 ok : ROp F G
structure PO2 where
 F : D -> D -> AH -> R D
 G : Val -> Val -> Bv
 ok : RO F G
structure PU1 where
 F : D -> AH -> R D
 G : Val -> Bv
 ok : RU F G
structure PBf where
 F : Fn
 G : List Val -> Bv
 ok : RFn F G
structure PMm where
 F : D -> List D -> AH -> R D
 G : Val -> List Val -> Option (Val × Val)
 ok : RM F G
structure PMv where
 F : D -> List D -> AH -> R D
 G : Val -> List Val -> Bv
 ok : RMv F G
structure PSe where
 F : D -> D -> D -> AH -> R Unit
 G : Val -> Val -> Val -> Option Val
 ok : rY F G
structure PFn where
 ms : List Bool
 F : Fn
 G : Fn3
 ok : RF ms F G
structure PFx (ms : List Bool) where
 F : Fn
 G : Fn3
 ok : RF ms F G
noncomputable section
noncomputable def PFx.fn {ms : List Bool} (p : PFx ms) : PFn := ⟨ms, p.F, p.G, p.ok⟩
noncomputable def ah (i : Nat) : PEx := ⟨cP i, vT i, zH i⟩
noncomputable def av (i : Int) : PEx := ⟨eC (.int i), vC (.int i), lF fun _ _ => .int i⟩
noncomputable def pBl (i : Bool) : PEx := ⟨eC (.bl i), vC (.bl i), lF fun _ _ => .bl i⟩
noncomputable def fu (i : Str) : PEx := ⟨eC (.str i), vC (.str i), lF fun _ _ => .str i⟩
noncomputable def oV : PEx := ⟨eC .non, vC .non, lF fun _ _ => .non⟩
noncomputable def pTy (i : String) : PEx := ⟨eC (.ty i), vC (.ty i), lF fun _ _ => .ty i⟩
noncomputable def ue (d : D) (v : Val) (r : ∀ P h, Rd P h d v) : PEx := ⟨eC d, vC v, lF r⟩
noncomputable def pUn (o : PU1) (a : PEx) : PEx := ⟨eUn o.F a.F, vUn o.G a.G, DL o.ok a.ok⟩
noncomputable def pOp (o : PO2) (a b : PEx) : PEx := ⟨eOp o.F a.F b.F, vOp o.G a.G b.G, C9 o.ok a.ok b.ok⟩
noncomputable def ao : PAs := ⟨rP, vNil, Cz⟩
noncomputable def ag (a : PEx) (r : PAs) : PAs := ⟨kJ a.F r.F, wA a.G r.G, yB a.ok r.ok⟩
noncomputable def pFn (o : PBf) (a : PAs) : PEx := ⟨eFn o.F a.F, vFn o.G a.G, CH o.ok a.ok⟩
noncomputable def a9 (a : PAs) : PEx := ⟨eFn jB a.F, vTup a.G, zM a.ok⟩
noncomputable def fq (a : PAs) : PEx := ⟨eFn dz a.F, vLst a.G, zm a.ok⟩
noncomputable def eN (a b : PEx) : PEx := ⟨jR a.F b.F, vAnd a.G b.G, Bo a.ok b.ok⟩
noncomputable def nV (a : PEx) : PEx := ⟨vy a.F, vNot a.G, BA a.ok⟩
noncomputable def pIf (c : PTs) (a b : PEx) : PEx := ⟨eIf c.F a.F b.F, vIf c.G a.G b.G, D3 c.ok a.ok b.ok⟩
noncomputable def qOf (a : PEx) : PTs := ⟨tOf a.F, cOf a.G, Ds a.ok⟩
noncomputable def qTr (a : PEx) : PTs := ⟨tTr a.F, cTr a.G, CM a.ok⟩
noncomputable def qAn (a b : PTs) : PTs := ⟨tAn a.F b.F, cAn a.G b.G, CJ a.ok b.ok⟩
noncomputable def qO (a b : PTs) : PTs := ⟨tO a.F b.F, cO a.G b.G, rt_o a.ok b.ok⟩
noncomputable def qNo (a : PTs) : PTs := ⟨tNo a.F, cNo a.G, EH a.ok⟩
noncomputable def qY : PTs := ⟨tY, cY, rt_y⟩
noncomputable def xNx : PSt := ⟨sNx, wNx, Dy⟩
noncomputable def aW (a : PEx) : PSt := ⟨uq a.F, wRet a.G, Av a.ok⟩
noncomputable def ki (a : PEx) : PSt := ⟨rD a.F, xb a.G, yo a.ok⟩
noncomputable def aF (a b : PSt) : PSt := ⟨uL a.F b.F, wSeq a.G b.G, Ck a.ok b.ok⟩
noncomputable def xIf (c : PTs) (a b : PSt) : PSt := ⟨sIf c.F a.F b.F, wIf c.G a.G b.G, C7 c.ok a.ok b.ok⟩
noncomputable def bE (o : Bool) (i : Nat) (a : PEx) : PSt := ⟨gu a.F (gN i), wAsg o i a.G, As o i a.ok⟩
noncomputable def gtN (i : Nat) : PGt := ⟨gN i, pN i, wx i⟩
noncomputable def bS : PGs := ⟨gsN, psN, DF⟩
noncomputable def aC (a : PGt) (b : PGs) : PGs := ⟨gsC a.F b.F, psC a.G b.G, EB a.ok b.ok⟩
noncomputable def gtT (n : Nat) (a : PGs) : PGt := ⟨gT fun ds ae h => if ds.length = n then a.F ds ae h else .stuck, pT n a.G, rg_t n a.ok⟩
noncomputable def gtX (a : PGt) : PGt := ⟨fun d ae h => noX (a.F d ae h), a.G, AB a.ok⟩
noncomputable def dJ (a : PEx) (g : PGt) : PSt := ⟨gu a.F g.F, w9 a.G g.G, yA a.ok g.ok⟩
noncomputable def oW (i j : Nat) (a : PAs) : PSt := ⟨vX i j a.F, wPar i j a.G, zJ i j a.ok⟩
noncomputable def fM (c : Str) (a : PAs) : PSt := ⟨oE c a.F, tQ c a.G, uI c a.ok⟩
noncomputable def jr (i : Nat) (w : PSe) (k a : PEx) : PSt := ⟨gu a.F (gS (cP i) k.F w.F), wSet i k.G a.G w.G, Bl i w.ok k.ok a.ok⟩
noncomputable def eB (a : PEx) : PIt := ⟨u3 a.F, wW a.G, Cu a.ok⟩
noncomputable def jG (a : PAs) : PIt := ⟨vw a.F, vM iE a.G, BU a.ok⟩
noncomputable def jD (a : PAs) : PIt := ⟨vR a.F, wN a.G, Bd a.ok⟩
noncomputable def eM (i : PIt) (g : PGt) (b : PSt) : PSt := ⟨uu i.F g.F b.F, wFor i.G g.G b.G, Bi i.ok g.ok b.ok⟩
noncomputable def xWh (c : PTs) (b : PSt) : PSt := ⟨sWh c.F b.F, wWh c.G b.G, Dl c.ok b.ok⟩
noncomputable def pLC (i : PIt) (sub : List (Option Nat)) (hs : (sub.filterMap id).Nodup) (g : PGt) (c : PTs) (a : PEx) : PEx := ⟨eLC i.F sub g.F c.F a.F, vLC i.G sub g.G c.G a.G, EK hs i.ok g.ok c.ok a.ok⟩
noncomputable def aB (f : PFn) (a : PAs) : PEx := ⟨qL f.ms.length f.F a.F, wF f.ms f.G a.G, yY rfl f.ok a.ok⟩
noncomputable def oN : POp := ⟨qK, sy, yN⟩
noncomputable def oS (a : PEx) : POp := ⟨qW a.F, so a.G, xy a.ok⟩
noncomputable def pSl (a : PEx) (l u : POp) : PEx := ⟨eSl a.F l.F u.F, vSl a.G l.G u.G, EC a.ok l.ok u.ok⟩
noncomputable def fnP (ms : List Bool) (N : Nat) (c : PSt) : PFn := ⟨ms, fnD N c.F, fnV ms N c.G, CQ c.ok⟩
noncomputable def bp : PO2 := ⟨rO, uX, A9⟩
noncomputable def bT : PO2 := ⟨u9, aMin, Bm⟩
noncomputable def bz : PO2 := ⟨uT, qB, An⟩
noncomputable def mW : PO2 := ⟨vP, qN, zS⟩
noncomputable def dQ : PO2 := ⟨vb, rQ, A1⟩
noncomputable def qF : PO2 := ⟨vx, rq, zV⟩
noncomputable def bLt : PO2 := ⟨gLt, aLt, Ed⟩
noncomputable def bLe : PO2 := ⟨gLe, aLe, D9⟩
noncomputable def bGt : PO2 := ⟨gGt, aGt, CI⟩
noncomputable def bGe : PO2 := ⟨gGe, aGe, CZ⟩
noncomputable def bIx : PO2 := ⟨gIx, aIx, ET⟩
noncomputable def bEq : PO2 := ⟨gEq false, aEq false, wG false⟩
noncomputable def bNe : PO2 := ⟨gEq true, aEq true, wG true⟩
noncomputable def bIs : PO2 := ⟨jm false, qR false, sj false⟩
noncomputable def vG : PO2 := ⟨jm true, qR true, sj true⟩
noncomputable def vh : PU1 := ⟨rb, wt, zp⟩
noncomputable def dF : PBf := ⟨oX, we, zY⟩
noncomputable def mL : PBf := ⟨qV, uC, AL⟩
noncomputable def nL : PBf := ⟨mH, rA, xp⟩
noncomputable def oM : PBf := ⟨mM, qU, x6⟩
noncomputable def mP : PBf := ⟨nQ, wc, AV⟩
noncomputable def rB : PBf := ⟨oi, vS, Ca⟩
noncomputable def om : PBf := ⟨kH, rT, xQ⟩
noncomputable def qC : PBf := ⟨qD, v8, CA⟩
noncomputable def gq (kt : eI) : PBf := ⟨nt kt, uP kt, Cy kt⟩
noncomputable def seL : PSe := ⟨wL, sL, Co⟩
end
theorem lr {P : Nat -> Prop} {h : AH} : ∀ (ns : List Int), Rds P h (ns.map D.int) (ns.map Val.int)
 | [] => .nil
 | _ :: r => .cons (.int _) (lr r)
theorem
    law3 (p : PFn) (hm : p.ms = [false]) (hG : ∀ ns : List Int, ns.length <= 63 -> p.G [.kl (ns.map .int)] = .ok (.val (.bl true)) []) (d : D) (h : AH) (ns : List Int) (hl : ns.length <= 63) (sc : Script h d ns) : ∃ h', p.F [d] h = .ok (.bl true) h' := by
 have hp := p.ok
 rw [hm] at hp
 have rd : Rd (Oc (fun _ => False) [none]) h d (.kl (ns.map .int)) := by
  rcases sc.form with ⟨n, rfl, e⟩ | rfl
  ·exact .cell ⟨fun z => z, by simp⟩ e (.fz (lr ns))
  ·exact .kl (lr ns)
 have S : Sat (fun _ => False) h.length [none] (sls [false] [.kl (ns.map .int)]) ([d].map some) h := by
  refine ⟨rfl, rfl, Nat.le_refl _, fun _ z => z.elim, fun i j n q => ?_, fun i n q z => z, fun i s q => ?_⟩
  ·cases i with
   | zero => simp at q
   | succ i => simp at q
  ·cases i with
   |
    zero =>
    have : sl1 false (.kl (ns.map .int)) = s := by simpa [sls] using q
    subst this
    exact ⟨rfl, d, rfl, rd⟩
   | succ i => simp [sls] at q
 have := hp _ _ [d] [.kl (ns.map .int)] h rfl S
 rw [hG ns hl] at this
 obtain ⟨d', h', e, _, _, r⟩ := this
 cases r with
 | bl => exact ⟨h', e⟩
 | cell p e r => cases r
section
variable (e : E3)
@[simp] theorem kh {α β : Type} (a : α) (f : α -> E3 -> R3 β) : (R3.ok a e).bind f = f a e := rfl
@[simp] theorem Dz {α : Type} (a : α) (f : α -> E3 -> SR3) : (R3.ok a e).toS f = f a e := rfl
@[simp] theorem EF (f : E3 -> SR3) : (SR3.nx e).then f = f e := rfl
@[simp] theorem D4 (r : Rt) (f : E3 -> SR3) : (SR3.rt r e).then f = .rt r e := rfl
@[simp] theorem zh (c : Str) (f : E3 -> SR3) : (SR3.exc c e).then f = .exc c e := rfl
@[simp] theorem ky (f : E3 -> SR3) : (SR3.nx e).loop f = f e := rfl
@[simp] theorem rN (f : E3 -> SR3) : (SR3.ct e).loop f = f e := rfl
@[simp] theorem C1 (r : Rt) (f : E3 -> SR3) : (SR3.rt r e).loop f = .rt r e := rfl
@[simp] theorem CU (r : SR3) : r.unl none = r := by cases r <;> rfl
@[simp] theorem va : lockO e none = e := rfl
@[simp] theorem rE : ef e none = e := rfl
@[simp] theorem zC (v : Val) : (Bv.val v).at e = .ok (.val v) e := rfl
@[simp] theorem zr (v : Val) : (Bv.new v).at e = .ok (.new v) e := rfl
@[simp] theorem zI (v : Val) : rs e (.val v) = some v := rfl
@[simp] theorem BP (i : Nat) : rs e (.bor i) = (e[i]?).bind Sl.val := rfl
@[simp] theorem AW (v : Val) : (Tm.val v).drop = .val v := rfl
@[simp] theorem Ay (v : Val) : (Tm.new v).drop = .val v := rfl
@[simp] theorem zZ (i : Nat) : (Tm.bor i).drop = .bor i := rfl
@[simp] theorem yg : rss e [] = some [] := rfl
@[simp] theorem vN (t : Tm) (ts : List Tm) : rss e (t :: ts) = match rs e t, rss e ts with
  | some v, some vs => some (v :: vs)
  | _, _ => none := rfl
@[simp] theorem zB (v : Val) : cN e (.val v) = some (e, v) := rfl
@[simp] theorem A2 : dem e [] = some (e, []) := rfl
@[simp] theorem yK (t : Tm) (ts : List Tm) : dem e (t :: ts) = match cN e t with
  | some (e1, v) => match dem e1 ts with
   | some (e2, vs) => some (e2, v :: vs)
   | none => none
  | none => none := rfl
@[simp] theorem Cc (b : Bool) : bOf (some (.bl b)) = some b := rfl
@[simp] theorem CC (i : Nat) : (ah i).G e = match e[i]? with
 | some (.sh v) => .ok (.val v) e
 | some .no => .stuck
 | some _ => .ok (.bor i) e
 | none => .stuck := rfl
@[simp] theorem EI (i : Int) : (av i).G e = .ok (.val (.int i)) e := rfl
@[simp] theorem v_bl (i : Bool) : (pBl i).G e = .ok (.val (.bl i)) e := rfl
@[simp] theorem Dg (i : Str) : (fu i).G e = .ok (.val (.str i)) e := rfl
@[simp] theorem EX : oV.G e = .ok (.val .non) e := rfl
@[simp] theorem v_ty (i : String) : (pTy i).G e = .ok (.val (.ty i)) e := rfl
@[simp] theorem v_un (o : PU1) (a : PEx) : (pUn o a).G e = (a.G e).bind fun t e1 => match rs e1 t with
 | some v => (o.G v).at e1
 | none => .stuck := rfl
@[simp] theorem v_op (o : PO2) (a b : PEx) : (pOp o a b).G e = (a.G e).bind fun t1 e1 => (b.G e1).bind fun t2 e2 => match rs e2 t1.drop, rs e2 t2 with
 | some v1, some v2 => (o.G v1 v2).at e2
 | _, _ => .stuck := rfl
@[simp] theorem DV : ao.G e = .ok [] e := rfl
@[simp] theorem Bg (a : PEx) (r : PAs) : (ag a r).G e = (a.G e).bind fun t e1 => (r.G e1).bind fun ts e2 => .ok (t.drop :: ts) e2 := rfl
@[simp] theorem v_fn (o : PBf) (a : PAs) : (pFn o a).G e = (a.G e).bind fun ts e1 => match rss e1 ts with
 | some vs => (o.G vs).at e1
 | none => .stuck := rfl
@[simp] theorem Ep (a : PAs) : (a9 a).G e = (a.G e).bind fun ts e1 => match dem e1 ts with
 | some (e2, vs) => if vs.length <= 16777216 then .ok (.val (.tup vs)) e2 else .stuck
 | none => .stuck := rfl
@[simp] theorem Dk (a : PAs) : (fq a).G e = (a.G e).bind fun ts e1 => match dem e1 ts with
 | some (e2, vs) => if vs.length <= 16777216 then .ok (.new (.lst vs)) e2 else .stuck
 | none => .stuck := rfl
@[simp] theorem Eg (a b : PEx) : (eN a b).G e = (a.G e).bind fun t e1 => match bOf (rs e1 t) with
 | some true => b.G e1
 | some false => .ok (.val (.bl false)) e1
 | none => .stuck := rfl
@[simp] theorem C3 (a : PEx) : (nV a).G e = (a.G e).bind fun t e1 => match bOf (rs e1 t) with
 | some b => .ok (.val (.bl (!b))) e1
 | none => .stuck := rfl
@[simp] theorem v_if (c : PTs) (a b : PEx) : (pIf c a b).G e = (c.G e).bind fun k e1 => if k = true then a.G e1 else b.G e1 := rfl
@[simp] theorem c_of (a : PEx) : (qOf a).G e = (a.G e).bind fun t e1 => match bOf (rs e1 t) with
 | some b => .ok b e1
 | none => .stuck := rfl
@[simp] theorem c_tr (a : PEx) : (qTr a).G e = (a.G e).bind fun t e1 => match (rs e1 t).bind qZ with
 | some b => .ok b e1
 | none => .stuck := rfl
@[simp] theorem c_an (a b : PTs) : (qAn a b).G e = (a.G e).bind fun k e1 => if k = true then b.G e1 else .ok false e1 := rfl
@[simp] theorem c_o (a b : PTs) : (qO a b).G e = (a.G e).bind fun k e1 => if k = true then .ok true e1 else b.G e1 := rfl
@[simp] theorem c_no (a : PTs) : (qNo a).G e = (a.G e).bind fun k e1 => .ok (!k) e1 := rfl
@[simp] theorem x_nx : xNx.G e = .nx e := rfl
@[simp] theorem DY (a : PEx) : (aW a).G e = (a.G e).toS ll := rfl
@[simp] theorem yG (v : Val) : ll (.val v) e = .rt (.val v) e := rfl
@[simp] theorem y0 (v : Val) : ll (.new v) e = .rt (.new v) e := rfl
@[simp] theorem xS (i : Nat) : ll (.bor i) e = match e[i]? with
  | some (.sh v) => .rt (.val v) e
  | some (.ow v) => .rt (.new v) (e.set i .no)
  | _ => .stuck := rfl
@[simp] theorem Bk (a : PEx) : (ki a).G e = (a.G e).toS fun _ e1 => .nx e1 := rfl
@[simp] theorem wU (a b : PSt) : (aF a b).G e = (a.G e).then b.G := rfl
@[simp] theorem qQ (c : PTs) (a b : PSt) : (xIf c a b).G e = (c.G e).toS fun k e1 => if k = true then a.G e1 else b.G e1 := rfl
@[simp] theorem C8 (o : Bool) (i : Nat) (a : PEx) : (bE o i a).G e = (a.G e).toS (gC o i) := rfl
@[simp] theorem EV : Sl.no.pl = true := rfl
@[simp] theorem Ez (v : Val) : (Sl.sh v).pl = true := rfl
@[simp] theorem ye (o : Bool) (i : Nat) (v : Val) : gC o i (.val v) e = match e[i]? with
 | some s0 => if s0.pl = true then .nx (e.set i (.sh v)) else .stuck
 | none => .stuck := by unfold gC; rfl
@[simp] theorem vK (i : Nat) (v : Val) : gC true i (.new v) e = match e[i]? with
 | some s0 => if s0.pl = true then .nx (e.set i (.ow v)) else .stuck
 | none => .stuck := by unfold gC; rfl
@[simp] theorem vI (i : Nat) (v : Val) : gC false i (.new v) e = match e[i]? with
 | some s0 => if s0.pl = true then .nx (e.set i (.sh v)) else .stuck
 | none => .stuck := by unfold gC; rfl
@[simp] theorem g_n (i : Nat) (v : Val) : (gtN i).G v e = match e[i]? with
 | some s => if s.pl = true then some (e.set i (.sh v)) else none
 | none => none := rfl
@[simp] theorem g_sn : bS.G [] e = some e := rfl
@[simp] theorem g_sc (a : PGt) (b : PGs) (v : Val) (vs : List Val) : (aC a b).G (v :: vs) e = (a.G v e).bind fun e1 => b.G vs e1 := rfl
@[simp] theorem g_t (n : Nat) (a : PGs) (vs : List Val) : (gtT n a).G (.tup vs) e = if vs.length = n then a.G vs e else none := rfl
@[simp] theorem g_x (a : PGt) (v : Val) : (gtX a).G v e = a.G v e := rfl
@[simp] theorem B7 (a : PEx) (g : PGt) : (dJ a g).G e = (a.G e).toS fun t e1 => match cN e1 t with
 | some (e2, v) => match g.G v e2 with
  | some e3 => .nx e3
  | none => .stuck
 | none => .stuck := rfl
@[simp] theorem EY (i j : Nat) (a : PAs) : (oW i j a).G e = (a.G e).toS fun ts e1 => match dem e1 ts with
 | some (e2, [v, u]) => match (pN i v e2).bind (pN j u) with
  | some e3 => .nx e3
  | none => .stuck
 | _ => .stuck := rfl
@[simp] theorem CK (i : Nat) (v : Val) : pN i v e = match e[i]? with
 | some s => if s.pl = true then some (e.set i (.sh v)) else none
 | none => none := rfl
@[simp] theorem xW (c : Str) (a : PAs) : (fM c a).G e = (a.G e).toS fun ts e1 => if ts.length <= 16777216 then .exc c e1 else .stuck := rfl
@[simp] theorem EL (i : Nat) (w : PSe) (k a : PEx) : (jr i w k a).G e = (a.G e).toS fun t e1 => match (e1[i]?).bind Sl.mv with
 | none => .stuck
 | some _ => (k.G e1).toS fun t2 e2 => match rs e2 t2 with
  | none => .stuck
  | some vi => match cN e2 t.drop with
   | none => .stuck
   | some (e3, v) => match e3[i]? with
    | none => .stuck
    | some s => match s.mv with
     | none => .stuck
     | some u => match w.G u vi v with
      | some u' => .nx (e3.set i (s.re u'))
      | none => .stuck := rfl
@[simp] theorem DZ (v : Val) : (Sl.ow v).mv = some v := rfl
@[simp] theorem CS (v : Val) : (Sl.mu v).mv = some v := rfl
@[simp] theorem DD (v u : Val) : (Sl.ow v).re u = .ow u := rfl
@[simp] theorem C6 (v u : Val) : (Sl.mu v).re u = .mu u := rfl
@[simp] theorem zO (v : Val) : (Sl.ow v).val = some v := rfl
@[simp] theorem A0 (v : Val) : (Sl.mu v).val = some v := rfl
@[simp] theorem uJ (xs : List Val) : la (.lst xs) = true := rfl
@[simp] theorem CW (a : PEx) : (eB a).G e = (a.G e).bind fun t e1 => match gB t e1 with
 | some p => .ok p e1
 | none => .stuck := rfl
@[simp] theorem EU (a : PAs) : (jD a).G e = (a.G e).bind fun ts e1 => match ts with
 | [t] => (match gB t e1 with
  | some p => .ok (fB 0 p.1, p.2) e1
  | none => .stuck)
 | _ => .stuck := rfl
@[simp] theorem B1 (v : Val) : gB (.val v) e = (gk v).map fun xs => (xs, none) := rfl
@[simp] theorem zq (v : Val) : gB (.new v) e = (gk v).map fun xs => (xs, none) := rfl
@[simp] theorem Bw (xs : List Val) : gk (.tup xs) = some xs := rfl
@[simp] theorem zd (xs : List Val) : gk (.lst xs) = some xs := rfl
@[simp] theorem Dv (a : PAs) : (jG a).G e = (a.G e).bind fun ts e1 => match (rss e1 ts).bind iE with
 | some xs => .ok (xs, none) e1
 | none => .stuck := rfl
@[simp] theorem Dm (i : PIt) (g : PGt) (b : PSt) : (eM i g b).G e = (i.G e).toS fun p e1 => (du g.G b.G p.1 (lockO e1 p.2)).unl p.2 := rfl
@[simp] theorem yU (g : MG3) (B : MS3) : du g B [] e = .nx e := rfl
theorem fU (g : MG3) (B : MS3) (v : Val) (vs : List Val) : du g B (v :: vs) e = match g v e with
  | some e1 => (B e1).loop (du g B vs)
  | none => .stuck := rfl
theorem x_wh (c : PTs) (b : PSt) : (xWh c b).G e = (c.G e).toS fun k e1 => if k = true then (b.G e1).loop (xWh c b).G else .nx e1 := u6 c.G b.G e
@[simp] theorem v_lc (i : PIt) (sub : List (Option Nat)) (hs : (sub.filterMap id).Nodup) (g : PGt) (c : PTs) (a : PEx) : (pLC i sub hs g c a).G e = (i.G e).bind fun p e1 => match lcV g.G c.G a.G p.1 [] (cZ sub (lockO e1 p.2)) with
 | .ok ys e2 => if ys.length <= 16777216 then .ok (.new (.lst ys)) (ef (bC sub e2 (lockO e1 p.2)) p.2) else .stuck
 | _ => .stuck := rfl
@[simp] theorem Cq (f : PFn) (a : PAs) : (aB f a).G e = (a.G e).bind fun ts e1 => match rss e1 ts with
 | none => .stuck
 | some vs => if okA e1 f.ms ts = true then (match f.G vs with
  | .stuck => .stuck
  | .ok r mv => if (bf e1 f.ms ts).isEmpty || (jI r && mv.all c8) then .ok r.tm (bC (cm f.ms ts) (aU f.ms mv) e1) else (match lY e1 (bf e1 f.ms ts) with
   | some e2 => .ok r.tm (bC (cm f.ms ts) (aU f.ms mv) e2)
   | none => .stuck)
  | .exc c mv => if (bf e1 f.ms ts).isEmpty || mv.all c8 then .exc c (bC (cm f.ms ts) (aU f.ms mv) e1) else .stuck) else .stuck := rfl
@[simp] theorem Ac (v : Val) : (Rt.val v).tm = .val v := rfl
@[simp] theorem zG (v : Val) : (Rt.new v).tm = .new v := rfl
@[simp] theorem o_n : oN.G e = .ok none e := rfl
@[simp] theorem o_s (a : PEx) : (oS a).G e = (a.G e).bind fun t e1 => match rs e1 t with
 | some (.int i) => .ok (some i) e1
 | _ => .stuck := rfl
@[simp] theorem v_sl (a : PEx) (l u : POp) : (pSl a l u).G e = (a.G e).bind fun t e1 => (l.G e1).bind fun lo e2 => (u.G e2).bind fun hi e3 => match rs e3 t.drop with
 | some v => (aSl v lo hi).at e3
 | none => .stuck := rfl
theorem b8 (ms : List Bool) (N : Nat) (c : PSt) (vs : List Val) : (fnP ms N c).G vs = if vs.length = ms.length then (match c.G (sls ms vs ++ List.replicate (N - vs.length) .no) with
 | .nx e => (match muV ms e with | some mv => .ok (.val .non) mv | none => .stuck)
 | .rt r e => (match muV ms e with | some mv => .ok r mv | none => .stuck)
 | .exc c e => (match muV ms e with | some mv => .exc c mv | none => .stuck)
 | _ => .stuck) else .stuck := rfl
end
@[simp] theorem D6 (i j : Int) : bp.G (.int i) (.int j) = .val (.int (i + j)) := rfl
@[simp] theorem ED (i j : Int) : bT.G (.int i) (.int j) = .val (.int (i - j)) := rfl
@[simp] theorem k_lt (i j : Int) : bLt.G (.int i) (.int j) = .val (.bl (decide (i < j))) := rfl
@[simp] theorem k_le (i j : Int) : bLe.G (.int i) (.int j) = .val (.bl (decide (i <= j))) := rfl
@[simp] theorem k_gt (i j : Int) : bGt.G (.int i) (.int j) = .val (.bl (decide (j < i))) := rfl
@[simp] theorem k_ge (i j : Int) : bGe.G (.int i) (.int j) = .val (.bl (decide (j <= i))) := rfl
@[simp] theorem Dw (i : Int) : vh.G (.int i) = .val (.int (-i)) := rfl
theorem dB {i j : Int} (c : CMulA i j) : bz.G (.int i) (.int j) = .val (.int (i * j)) := by show qB (.int i) (.int j) = _; unfold qB aIc; dsimp only; rw [if_pos c]
theorem rW {i j : Int} (c : CDivB i j) : mW.G (.int i) (.int j) = .val (.int (i.fdiv j)) := by show qN (.int i) (.int j) = _; unfold qN aIc; dsimp only; rw [if_pos c]
theorem gY {i j : Int} (c : j ≠ 0) : dQ.G (.int i) (.int j) = .val (.int (i.fmod j)) := by show rQ (.int i) (.int j) = _; unfold rQ aIc; dsimp only; rw [if_pos c]
theorem EM {i j : Int} (c : lg i j) : qF.G (.int i) (.int j) = .val (.int (i ^ j.toNat)) := by show rq (.int i) (.int j) = _; unfold rq aIc; dsimp only; rw [if_pos c]
@[simp] theorem k_ix (x : Val) (i : Int) : bIx.G x (.int i) = match x.items with
 | some xs => (match atI xs i with
  | some v => .val v
  | none => .stuck)
 | none => .stuck := by show aIx x (.int i) = _; unfold aIx; cases x.items <;> rfl
@[simp] theorem zA (xs : List Val) : (Val.tup xs).items = some xs := rfl
@[simp] theorem AS (xs : List Val) : (Val.lst xs).items = some xs := rfl
@[simp] theorem EN (xs : List Val) : (Val.kl xs).items = some xs := rfl
@[simp] theorem k_eq (x y : Val) : bEq.G x y = match fH x y with
 | some b => .val (.bl b)
 | none => .stuck := by show aEq false x y = _; unfold aEq; cases fH x y <;> rfl
@[simp] theorem k_ne (x y : Val) : bNe.G x y = match fH x y with
 | some b => .val (.bl (!b))
 | none => .stuck := by show aEq true x y = _; unfold aEq; cases fH x y <;> rfl
@[simp] theorem EA (x y : Int) : fH (.int x) (.int y) = some (x == y) := rfl
@[simp] theorem k_is (x : Val) : bIs.G x .non = match x with
 | .non => .val (.bl true)
 | _ => .val (.bl false) := by cases x <;> rfl
@[simp] theorem CG (x : Val) : vG.G x .non = match x with
 | .non => .val (.bl false)
 | _ => .val (.bl true) := by cases x <;> rfl
@[simp] theorem C2 (v : Val) : dF.G [v] = match v.items with
  | some xs => .val (.int xs.length)
  | none => (match v with
   | .str z => if z.length <= 16777216 then .val (.int z.length) else .stuck
   | _ => .stuck) := rfl
@[simp] theorem C5 (i : Int) : mL.G [.int i] = .val (.int (if i < 0 then -i else i)) := rfl
@[simp] theorem CP (i j : Int) : nL.G [.int i, .int j] = .val (.int (if j > i then j else i)) := rfl
@[simp] theorem CT (i j : Int) : oM.G [.int i, .int j] = .val (.int (if j < i then j else i)) := rfl
@[simp] theorem Eb (xs : List Val) : mP.G [.lst xs] = match ja xs with
  | some bs => .val (.bl (bs.all id))
  | none => .stuck := rfl
@[simp] theorem DH (xs : List Val) : rB.G [.lst xs] = match iq xs with
  | some bs => .val (.int bs.sum)
  | none => .stuck := rfl
@[simp] theorem B9 (v : Val) : om.G [v] = match v.items with
  | some xs => .new (.lst xs)
  | none => .stuck := rfl
@[simp] theorem AY (b : Bool) : qC.G [.bl b] = .val (.int (if b then 1 else 0)) := rfl
@[simp] theorem mj : ∀ (bs : List Int), iq (bs.map Val.int) = some bs
 | [] => rfl
 | b :: r => by show (iq (r.map Val.int)).map (b :: ·) = _; rw [mj r]; rfl
end L3
set_option Elab.async false
set_option linter.all false
set_option maxRecDepth 100000
namespace L3
open PySem PySem.Spec PyProof.Rows L2
section
variable {K : PySem.W.Frag} {mg : Str -> Option Value} {X : Cx} {ES : L2.St -> XK} {e a b c o i tg iter elt : Expr} {es : List Expr} {st : Stmt} {sts sts' : List Stmt} {p q r : PEx} {A : PAs} {t u : PTs} {x y : PSt} {g : PGt} {gs : PGs} {I : PIt} {pos : Pos}
theorem af (i : Nat) {x : Str} (hN : X.N[i]? = some x := by rfl) (hv : Vis X.env.scope x := by first | exact Or.inl rfl | exact Or.inr (Or.inl rfl) | exact Or.inr (Or.inr rfl)) (hd : (x == ("__debug__" : Str)) = false := by decide) (hcd : (x == ("__classdict__" : Str)) = false := by decide) : DE K mg X ES (.Name x pos) (ah i).F := z0 i hN hv hd hcd
theorem aj {i : Int} {j : Nat} : DE K mg X ES (.Constant (.int i) j pos) (av i).F := zx
theorem fC {i : Bool} {j : Nat} : DE K mg X ES (.Constant (.bool i) j pos) (pBl i).F := Dj
theorem mU {j : Nat} : DE K mg X ES (.Constant .none j pos) oV.F := Cd
theorem dW {i : Str} {j : Nat} : DE K mg X ES (.Constant (.str i) j pos) (fu i).F := AR
theorem Ei {x : Str} {d : D} {v : Val} {r : ∀ P h, Rd P h d v} (hg : Gl X x) (ha : GC K mg x d) (hm : X.mg = mg := by rfl) (hd : (x == ("__debug__" : Str)) = false := by decide) : DE K mg X ES (.Name x pos) (ue d v r).F := D7 hg ha hm hd
theorem kI {x : Str} {n : String} (hg : Gl X x) (hm : mg x = none) (hv : bootBuiltins x = some (.type n)) (he : X.mg = mg := by rfl) (hn : x ≠ "__name__" := by decide) (hd : (x == ("__debug__" : Str)) = false := by decide) : DE K mg X ES (.Name x pos) (pTy n).F := CY hg hm hv he hn hd
theorem ay {op : Operator} {r' : R2} {k : PO2} (ho : OpR X (binaryOp op) r') (hd : OpD K mg r' k.F) (ha : DE K mg X ES a p.F) (hb : DE K mg X ES b q.F) : DE K mg X ES (.BinOp a op b pos) (pOp k p q).F := Ea ho hd ha hb
theorem aQ {r' : R2} {k : PO2} (hr : IxR X r') (hd : OpD K mg r' k.F) (ha : DE K mg X ES a p.F) (hb : DE K mg X ES b q.F) (hs : lz b) : DE K mg X ES (.Subscript a b pos) (pOp k p q).F := DC hr hd ha hb hs
theorem eE {op : CmpOp} {r' : R2} {k : PO2} (ho : OpR X (compareOp op) r') (hd : OpD K mg r' k.F) (ha : DE K mg X ES a p.F) (hb : DE K mg X ES b q.F) (hm : behindInMarks op b = false) : DE K mg X ES (.Compare a [op] [b] pos) (pOp k p q).F := AD ho hd ha hb hm
theorem bX {op : CmpOp} {r' : R2} {k : PO2} (ho : OpR X (compareOp op) r') (hd : OpD K mg r' k.F) (ha : DE K mg X ES a p.F) (hb : DE K mg X ES b q.F) (hm : behindInMarks op b = false) : DT K mg X ES (.Compare a [op] [b] pos) (qOf (pOp k p q)).F := Ce ho hd ha hb hm
theorem cq (ha : DE K mg X ES a p.F) (he : ∀ whole, isTrue a X.env whole = (do let v <- whole; standAt a.pos; holding [v] (truthy v)) := by intro _; rfl) : DT K mg X ES a (qOf p).F := Ab ha he
theorem uN (hK : X.K = K) (ha : DE K mg X ES a p.F) (he : ∀ whole, isTrue a X.env whole = (do let v <- whole; standAt a.pos; holding [v] (truthy v)) := by intro _; rfl) : DT K mg X ES a (qTr p).F := vn hK ha he
theorem cX (ha : DT K mg X ES a t.F) : DT K mg X ES (.UnaryOp .Not a pos) (qNo t).F := zf ha
theorem pD (ha : DT K mg X ES a t.F) : DW K mg X ES (.BoolOp .And [a] pos) t.F := yw ha
theorem gL (ha : DT K mg X ES a t.F) : DW K mg X ES (.BoolOp .Or [a] pos) t.F := zl ha
theorem tf (ha : DT K mg X ES a t.F) (hb : DW K mg X ES (.BoolOp .And (b :: es) pos) u.F) : DW K mg X ES (.BoolOp .And (a :: b :: es) pos) (qAn t u).F := BE ha hb
theorem jv (ha : DT K mg X ES a t.F) (hb : DW K mg X ES (.BoolOp .Or (b :: es) pos) u.F) : DW K mg X ES (.BoolOp .Or (a :: b :: es) pos) (qO t u).F := Di ha hb
theorem ZW.dt (h : DW K mg X ES a t.F) : DT K mg X ES a t.F := DW.dt h
theorem eZ {op} (h : DE K mg X ES a p.F) : DE K mg X ES (.BoolOp op [a] pos) p.F := AO h
theorem fg (ha : DE K mg X ES a p.F) (hb : DE K mg X ES (.BoolOp .And (b :: es) pos) q.F) : DE K mg X ES (.BoolOp .And (a :: b :: es) pos) (eN p q).F := AI ha hb
theorem oC (ha : DE K mg X ES a p.F) : DE K mg X ES (.UnaryOp .Not a pos) (nV p).F := Ci ha
theorem DU (hc : DT K mg X ES c t.F) (ha : DE K mg X ES a p.F) (hb : DE K mg X ES b q.F) : DE K mg X ES (.IfExp c a b pos) (pIf t p q).F := Er hc ha hb
theorem Ey {op : UnaryOp} {r' : V -> Hp -> VK -> Prop} {k : PU1} (ho : UnR X (unaryOp op) r') (hd : UnD K mg r' k.F) (ha : DE K mg X ES a p.F) : DE K mg X ES (.UnaryOp op a pos) (pUn k p).F := CN ho hd ha
theorem ai : DA K mg X ES [] ao.F := Al
theorem aa (ha : DE K mg X ES e p.F) (hr : DA K mg X ES es A.F) (hs : starEach (e :: es) X.env = (false, eval e X.env) :: starEach es X.env := by rfl) : DA K mg X ES (e :: es) (ag p A).F := xD ha hr hs
theorem aM {x1} (h : DA K mg X ES es A.F) : DE K mg X ES (.Tuple es x1 pos) (a9 A).F := AM h
theorem eF (h : DA K mg X ES es A.F) : DE K mg X ES (.List es pos) (fq A).F := zt h
theorem aR {id : String} {r' : List V -> Hp -> VK -> Prop} {k : PBf} {x : Str} {p0 : Pos} (hc : CallR X (.builtin id) r') (hd : bI K mg r' k.F) (hg : Gl X x) (hm : mg x = none) (hv : bootBuiltins x = some (.builtin id)) (ha : DA K mg X ES (e :: es) A.F) (hk : X.mg = mg := by rfl) (hn : x ≠ "__name__" := by decide) (hdb : (x == ("__debug__" : Str)) = false := by decide) (he : starEach (e :: es) X.env = (false, eval e X.env) :: starEach es X.env := by rfl) (hpl : (backTo pos (starEach es X.env)).any (·.1) = false := by rfl) : DE K mg X ES (.Call (.Name x p0) (e :: es) [] pos) (pFn k A).F := v5 hc hd hg hm hv ha hk hn hdb he hpl
theorem l8 {id : String} {r' : List V -> Hp -> VK -> Prop} {k : PBf} {x : Str} {p0 : Pos} (hc : CallR X (.type id) r') (hd : bI K mg r' k.F) (hg : Gl X x) (hm : mg x = none) (hv : bootBuiltins x = some (.type id)) (ha : DA K mg X ES (e :: es) A.F) (hk : X.mg = mg := by rfl) (hn : x ≠ "__name__" := by decide) (hdb : (x == ("__debug__" : Str)) = false := by decide) (he : starEach (e :: es) X.env = (false, eval e X.env) :: starEach es X.env := by rfl) (hpl : (backTo pos (starEach es X.env)).any (·.1) = false := by rfl) : DE K mg X ES (.Call (.Name x p0) (e :: es) [] pos) (pFn k A).F := tE hc hd hg hm hv ha hk hn hdb he hpl
theorem au {f : PFn} {x : Str} {p0 : Pos} {k n : Nat} {ps : List Str} (C : Callee X.prog X.w X.K X.mg X.base x k ps (spD K mg n f.F)) (hr : Room k X.A) (hg : Gl X x) (hx : kg X ES) (ha : DA K mg X ES (e :: es) A.F) (hn : f.ms.length = n := by rfl) (hdb : (x == ("__debug__" : Str)) = false := by decide) (he : starEach (e :: es) X.env = (false, eval e X.env) :: starEach es X.env := by rfl) (hpl : (backTo pos (starEach es X.env)).any (·.1) = false := by rfl) : DE K mg X ES (.Call (.Name x p0) (e :: es) [] pos) (aB f A).F := by
 subst hn
 exact vB C hr hg hx ha hdb he hpl
theorem aT : DSs K mg X ES [] xNx.F := ym
theorem az (h1 : DS K mg X ES st x.F) : DSs K mg X ES [st] x.F := y9 h1
theorem aq (h1 : DS K mg X ES st x.F) (h2 : DSs K mg X ES sts y.F) : DSs K mg X ES (st :: sts) (aF x y).F := uA h1 h2
theorem aJ (he : DE K mg X ES e p.F) : DS K mg X ES (.Return (some e) pos) (aW p).F := Ai he
theorem lj (he : DE K mg X ES e p.F) (hs : swapsWith e none pos.line X.env = pure false := by rfl) : DS K mg X ES (.Expr e pos) (ki p).F := yX he hs
theorem bw (hc : DT K mg X ES c t.F) (ha : DSs K mg X ES sts x.F) (hb : DSs K mg X ES sts' y.F) : DS K mg X ES (.If c sts sts' pos) (xIf t x y).F := DJ hc ha hb
theorem aw {i : Nat} {x : Str} (hN : X.N.Nodup) (hi : X.N[i]? = some x) (hx : Loc X.env.scope x) (hf : X.fn x = true \/ X.env.scope.names.lookup x = some .local := by first | exact .inl rfl | exact .inr rfl | assumption) : DG K mg X ES (.Name x pos) (gtN i).F := yn hN hi hx hf
theorem bF : DGs K mg X ES [] bS.F := xB
theorem ax (h1 : DG K mg X (fun _ => E0) e g.F) (h2 : DGs K mg X (fun _ => E0) es gs.F) (hs : (assignEach (e :: es) X.env).map (·.2) = assign e X.env :: (assignEach es X.env).map (·.2) := by rfl) : DGs K mg X (fun _ => E0) (e :: es) (aC g gs).F := vJ h1 h2 hs
theorem bW {k n : Nat} (hK : X.K = K) (hc : X.calm = true) (h : DGs K mg X (fun _ => E0) es gs.F) (hn : (assignEach es X.env).length = n := by rfl) (hst : (assignEach es X.env).findIdx? (·.1) = none := by rfl) : DG K mg X (fun _ => E0) (.Tuple es k pos) (gtT n gs).F := Cw hK hc h hn hst
theorem ZG.weak (hg : DG K mg X (fun _ => E0) e g.F) : DG K mg X ES e (gtX g).F := DG.weak hg
theorem cW (he : DE K mg X ES e p.F) (hg : DG K mg X ES a g.F) (hs : swapsWithSole [a] e pos.line X.env = pure false := by rfl) (hw : swappedStores [a] e X.env = pure none := by rfl) (h1 : (assignEach [a] X.env).map (·.2) = [assign a X.env] := by rfl) : DS K mg X ES (.Assign [a] e pos) (dJ p g).F := oK he hg hs hw h1
theorem lN {j : Nat} {w : PSe} {r' : lR} {p1 : Pos} (he : DE K mg X ES e p.F) (ho : DE K mg X ES o (ah j).F) (hi : DE K mg X ES i q.F) (hs' : rG X r') (hd : rk K mg r' w.F) (hs : swapsWithSole [.Subscript o i p1] e pos.line X.env = pure false := by rfl) (hw : swappedStores [.Subscript o i p1] e X.env = pure none := by rfl) (h1 : (assignEach [.Subscript o i p1] X.env).map (·.2) = [assign (.Subscript o i p1) X.env] := by rfl)
  (ha : ∀ v, assign (.Subscript o i p1) X.env v = (do
   let ov <- holding [v] (eval o X.env)
   let iv <- holding [v, ov] (eval i X.env)
   standAt p1
   holding [v, ov, iv] (setItem ov iv v)
   release [v, ov, iv] []) := by intro _; rfl) : DS K mg X ES (.Assign [.Subscript o i p1] e pos) (jr j w q p).F := oK he (AG ho hi hs' hd ha) hs hw h1
theorem aX {ow : Bool} {i : Nat} {x : Str} {pos' : Pos} (hN : X.N.Nodup) (hi : X.N[i]? = some x) (hx : Loc X.env.scope x) (he : DE K mg X ES e p.F) (hs : swapsWith e (some (.Name x pos')) pos.line X.env = pure false := by rfl) (hf : X.fn x = true \/ X.env.scope.names.lookup x = some .local := by first | exact .inl rfl | exact .inr rfl | assumption) : DS K mg X ES (.Assign [.Name x pos'] e pos) (bE ow i p).F := zo hN hi hx he hs hf
theorem nv {i j : Nat} {x y : Str} {px py pt : Pos} {kt k2 pt2} (hc : X.calm = true) (hN : X.N.Nodup) (hi : X.N[i]? = some x) (hj : X.N[j]? = some y) (hij : i ≠ j) (hx : X.env.scope.names.lookup x = some .local) (hy : X.env.scope.names.lookup y = some .local) (ha : DA K mg X ES [a, b] A.F) (hw : swappedStores [.Tuple [.Name x px, .Name y py] kt pt] (.Tuple [a, b] k2 pt2) X.env = pure (some [x, y])) (hs : swapsWithSole [.Tuple [.Name x px, .Name y py] kt pt] (.Tuple [a, b] k2 pt2) pos.line X.env = pure false := by rfl) : DS K mg X ES (.Assign [.Tuple [.Name x px, .Name y py] kt pt] (.Tuple [a, b] k2 pt2) pos) (oW i j A).F := Cg hc hN hi hj hij hx hy ha hw hs
theorem fR {x : Str} {C : Addr} {E : XK} {np cpos : Pos} (hc : X.calm = true) (hR : Rz X E) (hg : Gl X x) (hm : mg x = some (.ref C)) (hq : PySem.W.excIn X.K C eL "ValueError.__new__" = true) (ha : DA K mg X (fun _ => E) (e :: es) A.F) (hk : X.mg = mg := by rfl) (he : starEach (e :: es) X.env = (false, eval e X.env) :: starEach es X.env := by rfl) (hplain : (backTo cpos (starEach es X.env)).any (·.1) = false := by rfl) (hd : (x == ("__debug__" : Str)) = false := by decide) : DS K mg X (fun _ => E) (.Raise (some (.Call (.Name x np) (e :: es) [] cpos)) none pos) (fM x A).F := vj hc hR hg hm hq ha hk he hplain hd
theorem fc (hK : X.K = K) (he : DE K mg X ES e p.F) : DI K mg X ES tg e (eB p).F := BZ hK he
theorem gn {p0 : Pos} (hg : Gl X "range") (hm : mg "range" = none) (ha : DA K mg X ES [a] A.F) (hk : X.mg = mg := by rfl) (hs : starEach [a] X.env = [(false, eval a X.env)] := by rfl) : DI K mg X ES tg (.Call (.Name "range" p0) [a] [] pos) (jG A).F := sS hg hm ha hk hs
theorem jA {elts : List Expr} {x1 : Nat} {tp p0 : Pos} (hK : X.K = K) (hg : Gl X "enumerate") (hm : mg "enumerate" = none) (ha : DA K mg X ES [a] A.F) (hk : X.mg = mg := by rfl) (hs : starEach [a] X.env = [(false, eval a X.env)] := by rfl) : DI K mg X ES (.Tuple elts x1 tp) (.Call (.Name "enumerate" p0) [a] [] pos) (jD A).F := zc hK hg hm ha hk hs
theorem dS (hp : PassesOwn (model X.prog X.w) X.A X.env X.xe) (hc : X.calm = true) (hi : DI K mg X ES tg iter I.F) (hg : DG K mg X ES tg g.F) (hb : DSs K mg X ES sts x.F) (hs : ∀ x, foldedSetIterable iter X.env x = pure x := by intro _; rfl) : DS K mg X ES (.For tg iter sts [] pos) (eM I g x).F := zR hp hc hi hg hb hs
theorem vd (hp : PassesOwn (model X.prog X.w) X.A X.env X.xe) (hc : DT K mg X ES c t.F) (hb : DSs K mg X ES sts x.F) : DS K mg X ES (.While c sts [] pos) (xWh t x).F := vE hp hc hb
theorem mI {scope : Scope} (M : List Str) (kn : List (Str × NameKind)) (N : List Str) (sub : List (Option Nat)) {hsb : (sub.filterMap id).Nodup} (hc : X.calm = true) (hi : DI K mg X ES tg iter I.F) (hg : ∀ cl C s₂ H fp, DG K mg (bu X N scope cl C s₂ H fp) (fun _ => E0) tg g.F) (he : ∀ cl C s₂ H fp, DE K mg (bu X N scope cl C s₂ H fp) (fun _ => E0) elt p.F) (hM : X.N = M := by rfl) (hkn : X.env.scope.names = kn := by rfl) (hsub : gh M scope.names sub N = true := by decide +kernel) (hk : scope.kind = .function := by rfl) (hnc : ∀ x ∈ scope.names, x.2 ≠ .cell := by decide +kernel) (hnames : ∀ x ∈ scope.names, x.2 = .local -> scope.names.lookup x.1 = some .local := by decide +kernel) (hfr : je kn scope.names = true := by decide +kernel) (hsl : sub.length = N.length := by rfl) (hs : ∀ x, foldedSetIterable iter X.env x = pure x := by intro _; rfl) : DE K mg X ES (.ListComp elt [⟨tg, iter, [], 0⟩] scope pos) (pLC I sub hsb g qY p).F := D1 M kn N sub hc hi hg he hM hkn hsub hk hnc hnames hfr hsl hs
theorem xj {ow : Bool} {px spos : Pos} {iT : Nat} {xT : Str} {scope : Scope} (M : List Str) (kn : List (Str × NameKind)) (N : List Str) (sub : List (Option Nat)) {hsb : (sub.filterMap id).Nodup} (hc : X.calm = true) (hN : X.N.Nodup) (hix : X.N[iT]? = some xT) (hxl : Loc X.env.scope xT) (hi : DI K mg X ES tg iter I.F) (hg : ∀ cl C s₂ H fp, DG K mg (bu X N scope cl C s₂ H fp) (fun _ => E0) tg g.F) (he : ∀ cl C s₂ H fp, DE K mg (bu X N scope cl C s₂ H fp) (fun _ => E0) elt p.F) (hsw : swapsWith (.ListComp elt [⟨tg, iter, [], 0⟩] scope pos) (some (.Name xT px)) spos.line X.env = pure true := by rfl) (hM : X.N = M := by rfl) (hkn : X.env.scope.names = kn := by rfl) (hsub : gh M scope.names sub N = true := by decide +kernel) (hk : scope.kind = .function := by rfl) (hnc : ∀ x ∈ scope.names, x.2 ≠ .cell := by decide +kernel) (hnames : ∀ x ∈ scope.names, x.2 = .local -> scope.names.lookup x.1 = some .local := by decide +kernel) (hfr : je kn scope.names = true := by decide +kernel) (hsl : sub.length = N.length := by rfl) (hs : ∀ x, foldedSetIterable iter X.env x = pure x := by intro _; rfl) (hf : X.fn xT = true \/ X.env.scope.names.lookup xT = some .local := by first | exact .inl rfl | exact .inr rfl | assumption) : DS K mg X ES (.Assign [.Name xT px] (.ListComp elt [⟨tg, iter, [], 0⟩] scope pos) spos) (bE ow iT (pLC I sub hsb g qY p)).F := DX M kn N sub hc hN hix hxl hi hg he hsw hM hkn hsub hk hnc hnames hfr hsl hs hf
theorem yb : DO K mg X ES none oN.F := x4
theorem yr (he : DE K mg X ES e p.F) : DO K mg X ES (some e) (oS p).F := yt he
theorem wj {l u : POp} {lo hi : Option Expr} {p2 : Pos} (hK : X.K = K) (he : DE K mg X ES e p.F) (hl : DO K mg X ES lo l.F) (hu : DO K mg X ES hi u.F) : DE K mg X ES (.Subscript e (.Slice lo hi none p2) pos) (pSl p l u).F := uK hK he hl hu
theorem aN : OpD K mg (fun x y H Q => rI0 (fun i j => .int (i + j)) x y H Q \/ (lV x y H Q \/ (jw K x y H Q \/ jz K x y H Q))) bp.F := Bb
theorem bB : OpD K mg (rI0 fun i j => .int (i - j)) bT.F := B2
theorem bc : OpD K mg (rI CMulA fun i j => .int (i * j)) bz.F := BR
theorem nN : OpD K mg (rI CDivB fun i j => .int (i.fdiv j)) mW.F := Ak
theorem ff : OpD K mg (rI (fun _ j => j ≠ 0) fun i j => .int (i.fmod j)) dQ.F := Cf
theorem zK : OpD K mg (rI lg fun i j => .int (i ^ j.toNat)) qF.F := BN
theorem iz : OpD K mg (rI0 fun i j => .bl (decide (i < j))) bLt.F := DR
theorem mK : OpD K mg (rI0 fun i j => .bl (decide (i <= j))) bLe.F := Ef
theorem ju : OpD K mg (rI0 fun i j => .bl (decide (j < i))) bGt.F := D5
theorem qI : OpD K mg (rI0 fun i j => .bl (decide (j <= i))) bGe.F := Eu
theorem aP : OpD K mg (fun x y H Q => qT K x y H Q \/ qy K x y H Q) bIx.F := BL
theorem iI : OpD K mg (rF K) bEq.F := Cv
theorem kf : OpD K mg (rC K) bNe.F := Cj
theorem CL : OpD K mg (fun x y H Q => y = .non /\ Q (.bl (decide (x = .non))) H) bIs.F := xV
theorem zE : OpD K mg (fun x y H Q => y = .non /\ Q (.bl (!decide (x = .non))) H) vG.F := uY
theorem dE : bI K mg (fun xs H Q => (∃ p ys, xs = [.ref p] /\ (SqL K H p ys \/ SqT K H p ys) /\ Q (.int ys.length) H) \/ (∃ z, xs = [.str z] /\ z.length <= sizeLine /\ Q (.int z.length) H)) dF.F := zw
theorem tI : bI K mg (fun xs H Q => ∃ i, xs = [.int i] /\ Q (.int (if i < 0 then -i else i)) H) mL.F := Ag
theorem zb : bI K mg (fun xs H Q => ∃ i j, xs = [.int i, .int j] /\ Q (.int (if j > i then j else i)) H) nL.F := xt
theorem xk : bI K mg (fun xs H Q => ∃ i j, xs = [.int i, .int j] /\ Q (.int (if j < i then j else i)) H) oM.F := xU
theorem ua : bI K mg (fun xs H Q => ∃ (a : Addr) (bs : List Bool), xs = [.ref a] /\ SqL K H a (bs.map V.bl) /\ Q (.bl (bs.all id)) H) mP.F := zW
theorem Bq : bI K mg (fun xs H Q => ∃ (a : Addr) (ns : List Int), xs = [.ref a] /\ SqL K H a (ns.map V.int) /\ Q (.int ns.sum) H) rB.F := zD
theorem yy : bI K mg (fun xs H Q => ∃ p ys, xs = [.ref p] /\ (SqL K H p ys \/ SqT K H p ys) /\ ∀ l, H l = none -> Q (.ref l) (upd H l (.lst ys))) om.F := yE
theorem A4 : bI K mg (fun xs H Q => (∃ i, xs = [.int i] /\ Q (.int i) H) \/ ∃ k, xs = [.bl k] /\ Q (.int (if k then 1 else 0)) H) qC.F := Br
theorem jj {kt : eI} (ok : KitsOk K mg kt) : bI K mg (fun xs H Q => (∃ x c t v b, xs = [x, c] /\ TyX K H x t /\ eG c = some v /\ PySem.W.kitOne K t v = some b /\ Q (.bl b) H) \/
  (∃ x tp cs t vs b, xs = [x, .ref tp] /\ SqT K H tp cs /\ TyX K H x t /\ cs.mapM eG = some vs /\ PySem.W.kitAny K t vs = some b /\ Q (.bl b) H)) (gq kt).F := CB ok
theorem kX : rk K mg qE seL.F := xn
theorem AU : UnD K mg (rU fun i => .int (-i)) vh.F := AF
variable {P : Program} {w : World} {base : Heap} {fx : Str} {fst : Stmt} {k n m : Nat} {ps N : List Str} {ms : List Bool}
theorem okP (D : Def K mg fx fst) (S : FnScope N ps (aA fst))
  (hb : ∀ (kV doc pm : Value) (an : Option Addr) (cdv ct : Value) (us : List Value), us.length = ps.length -> bindArgs (PySem.W.fnOf fx fx (dN fst) (cA fst) (aA fst) .none kV doc pm an cdv ct) ⟨us, []⟩ = pure (ps.zip us))
  (hbody : ∀ (f : Addr) (cdv : Value) (A : Around) (outer : List Env) (s : Shared) (H : Hp) (E : XK), Room k (A.deeper (envOfC fx (aA fst) s.heap.objs.size f cdv)) ->
   DSs K mg (dY (CX1 P w) P w K mg base N fx (aA fst) f cdv A outer s H E) (fun _ => E) (cA fst) x.F) (hn : ps.length = n := by rfl) (hm : N.length = m := by rfl) : Callee P w K mg base fx (k + 1) ps (spD K mg n (fnP ms m x).F) := by
 subst hn hm
 exact D.okD S hb hbody
end
end L3
set_option Elab.async false
set_option linter.all false
set_option maxRecDepth 100000
namespace L3
open PySem PySem.Spec PyProof.Rows L2
theorem Bh (b : Bool) (ms : List Bool) (v : Val) (vs : List Val) : sls (b :: ms) (v :: vs) = sl1 b v :: sls ms vs := rfl
theorem yu : sls [] [] = [] := rfl
theorem Dc (v : Val) : sl1 true v = .mu v := rfl
theorem Dt (v : Val) : sl1 false v = .sh v := rfl
section
variable (e : E3)
theorem xI : okA e [] [] = true := rfl
theorem zN (i : Nat) (ms : List Bool) (ts : List Tm) : okA e (true :: ms) (.bor i :: ts) = (((e[i]?).bind Sl.mv).isSome && !(gw i ts) && okA e ms ts) := rfl
theorem Af (v : Val) (ms : List Bool) (ts : List Tm) : okA e (false :: ms) (.val v :: ts) = okA e ms ts := rfl
theorem uz (i : Nat) : gw i [] = false := rfl
theorem BC (i : Nat) (v : Val) (ts : List Tm) : gw i (.val v :: ts) = gw i ts := rfl
theorem sA : bf e [] [] = [] := rfl
theorem yf (v : Val) (ms : List Bool) (ts : List Tm) : bf e (false :: ms) (.val v :: ts) = bf e ms ts := rfl
theorem Am (t : Tm) (ms : List Bool) (ts : List Tm) : bf e (true :: ms) (t :: ts) = bf e ms ts := by cases t <;> rfl
end
theorem tS : cm [] [] = [] := rfl
theorem xA (b : Bool) (t : Tm) (ms : List Bool) (ts : List Tm) : cm (b :: ms) (t :: ts) = kW b t :: cm ms ts := rfl
theorem xx (i : Nat) : kW true (.bor i) = some i := rfl
theorem Aa (t : Tm) : kW false t = none := by cases t <;> rfl
theorem uw (e : E3) : bC [] [] e = e := rfl
theorem A6 (o : Option Nat) (sub : List (Option Nat)) (s : Sl) (i e : E3) : bC (o :: sub) (s :: i) e = bC sub i (fm o s e) := rfl
theorem yj (i : Nat) (v : Val) (e : E3) : fm (some i) (.mu v) e = match e[i]? with
  | some t => e.set i (t.re v)
  | none => e := rfl
theorem BQ (s : Sl) (e : E3) : fm none s e = e := rfl
theorem uM (vs : List Val) : aU [] vs = [] := rfl
theorem BJ (ms : List Bool) (v : Val) (vs : List Val) : aU (true :: ms) (v :: vs) = .mu v :: aU ms vs := rfl
theorem BW (ms : List Bool) (vs : List Val) : aU (false :: ms) vs = .no :: aU ms vs := by cases vs <;> rfl
theorem yi (e : E3) : muV [] e = some [] := by cases e <;> rfl
theorem EO (ms : List Bool) (v : Val) (e : E3) : muV (true :: ms) (.mu v :: e) = (muV ms e).map (v :: ·) := rfl
theorem Dn (ms : List Bool) (s : Sl) (e : E3) : muV (false :: ms) (s :: e) = muV ms e := by cases s <;> rfl
theorem tq (v : Val) : jI (.val v) = cL v := rfl
theorem sI (v : Val) : jI (.new v) = c8 v := rfl
theorem sq (xs : List Val) : c8 (.lst xs) = cG xs := rfl
theorem qH : cG [] = true := by simp [cG]
theorem o7 (v : Val) (vs : List Val) : cG (v :: vs) = (cL v && cG vs) := by simp [cG]
theorem ud (i : Int) : cL (.int i) = true := by simp [cL]
theorem wq (i : Bool) : cL (.bl i) = true := by simp [cL]
theorem tN : cL .non = true := by simp [cL]
theorem sX (xs : List Val) : cL (.tup xs) = cG xs := by simp [cL]
theorem gi {α : Type} {l : List α} {i : Int} {x : α} (h0 : 0 <= i) (h : l[i.toNat]? = some x) : atI l i = some x := by
 have hl := (List.getElem?_eq_some_iff.mp h).1
 unfold atI ixN
 rw [if_pos h0, if_pos (by omega)]
 exact h
theorem nT {n : Nat} {i : Int} (h0 : 0 <= i) (h : i.toNat < n) : ixN n i = some i.toNat := by
 unfold ixN
 rw [if_pos h0, if_pos (by omega)]
section
variable {α : Type} (a b c d e f g h : α) (l : List α)
theorem ati0 : atI (a :: l) 0 = some a := gi (by decide) rfl
theorem ati1 : atI (a :: b :: l) 1 = some b := gi (by decide) rfl
theorem ati2 : atI (a :: b :: c :: l) 2 = some c := gi (by decide) rfl
theorem ati3 : atI (a :: b :: c :: d :: l) 3 = some d := gi (by decide) rfl
end
theorem ixn0 (n : Nat) : ixN (n + 1) 0 = some 0 := nT (i := 0) (by decide) (by show 0 < n + _; omega)
theorem ixn1 (n : Nat) : ixN (n + 2) 1 = some 1 := nT (i := 1) (by decide) (by show 1 < n + _; omega)
theorem D8 (xs : List Val) (k : Int) (v : Val) : seL.G (.lst xs) (.int k) v = match ixN xs.length k with
  | some j => some (.lst (xs.set j v))
  | none => none := rfl
end L3
set_option Elab.async false
set_option linter.all false
set_option maxRecDepth 100000
namespace L3
open PySem PySem.Spec PyProof.Rows L2
mutual
noncomputable def vq : Val -> Val -> Bool
 | .non, .non => true
 | .bl a, .bl b => a == b
 | .bl a, .int j => (if a then 1 else 0) == j
 | .int i, .bl b => i == (if b then 1 else 0)
 | .int i, .int j => i == j
 | .str x, .str y => x == y
 | .tup xs, .tup ys => vqs xs ys
 | .lst xs, .lst ys => vqs xs ys
 | _, _ => false
noncomputable def vqs : List Val -> List Val -> Bool
 | [], [] => true
 | x :: xs, y :: ys => vq x y && vqs xs ys
 | _, _ => false
end
mutual
noncomputable def wfV : Nat -> Val -> Bool
 | _, .non => true
 | _, .bl _ => true
 | _, .int _ => true
 | _, .str x => PyData.strOk x
 | k + 1, .tup xs => gA k xs
 | k + 1, .lst xs => gA k xs
 | _, _ => false
noncomputable def gA : Nat -> List Val -> Bool
 | _, [] => true
 | k, x :: xs => wfV k x && gA k xs
end
mutual
noncomputable def fj : Val -> PyData
 | .bl b => .bool b
 | .int i => .int i
 | .str x => .str x
 | .tup xs => .tuple (dO xs)
 | .lst xs => .list (dO xs)
 | _ => .none
noncomputable def dO : List Val -> List PyData
 | [] => []
 | x :: xs => fj x :: dO xs
end
mutual
theorem lC : ∀ (k : Nat) (v : Val), wfV k v = true -> (∀ j, k < j -> cS j v = some (fj v)) /\ (fj v).canLay0 = true /\ (fj v).depth <= k
 | k, .non, _ => ⟨fun j hj => by cases j with | zero => exact absurd hj (Nat.not_lt_zero _) | succ j => rfl, rfl, Nat.zero_le _⟩
 | k, .bl b, _ => ⟨fun j hj => by cases j with | zero => exact absurd hj (Nat.not_lt_zero _) | succ j => rfl, rfl, Nat.zero_le _⟩
 | k, .int b, _ => ⟨fun j hj => by cases j with | zero => exact absurd hj (Nat.not_lt_zero _) | succ j => rfl, rfl, Nat.zero_le _⟩
 | k, .str b, w => ⟨fun j hj => by cases j with | zero => exact absurd hj (Nat.not_lt_zero _) | succ j => rfl, by cases k <;> exact w, Nat.zero_le _⟩
 | 0, .tup xs, w => absurd w Bool.false_ne_true
 | 0, .lst xs, w => absurd w Bool.false_ne_true
 |
  k + 1, .tup xs, w => by
  obtain ⟨h1, h2, h3⟩ := jP k xs w
  exact ⟨fun j hj => by cases j with | zero => exact absurd hj (Nat.not_lt_zero _) | succ j => simp only [cS, fj, h1 j (Nat.lt_of_succ_lt_succ hj), Option.map_some], h2, by simpa [fj, PyData.depth] using h3⟩
 |
  k + 1, .lst xs, w => by
  obtain ⟨h1, h2, h3⟩ := jP k xs w
  exact ⟨fun j hj => by cases j with | zero => exact absurd hj (Nat.not_lt_zero _) | succ j => simp only [cS, fj, h1 j (Nat.lt_of_succ_lt_succ hj), Option.map_some], h2, by simpa [fj, PyData.depth] using h3⟩
 | k, .ty _, w => by cases k <;> exact absurd w Bool.false_ne_true
 | k, .glb _, w => by cases k <;> exact absurd w Bool.false_ne_true
 | k, .exc _, w => by cases k <;> exact absurd w Bool.false_ne_true
 | k, .kl _, w => by cases k <;> exact absurd w Bool.false_ne_true
 | k, .dct _, w => by cases k <;> exact absurd w Bool.false_ne_true
 | k, .set _, w => by cases k <;> exact absurd w Bool.false_ne_true
theorem jP : ∀ (k : Nat) (vs : List Val), gA k vs = true -> (∀ j, k < j -> dX j vs = some (dO vs)) /\ PyData.canLayAll0 (dO vs) = true /\ PyData.depthAll (dO vs) <= k
 | k, [], _ => ⟨fun j hj => by simp [dX, dO], rfl, Nat.zero_le _⟩
 |
  k, v :: vs, w => by
  have w' : (wfV k v && gA k vs) = true := w
  rw [Bool.and_eq_true] at w'
  obtain ⟨h1, h2, h3⟩ := lC k v w'.1
  obtain ⟨i1, i2, i3⟩ := jP k vs w'.2
  exact ⟨fun j hj => by simp [dX, dO, h1 j hj, i1 j hj], by simp [dO, PyData.canLayAll0, h2, i2], Nat.max_le.mpr ⟨h3, i3⟩⟩
end
mutual
theorem sO : ∀ (k : Nat) (v u : Val), wfV k v = true -> wfV k u = true -> PyData.eqv (fj v) (fj u) = vq v u
 |
  k, v, u, hv, hu => by
  cases v <;> first | (cases k <;> exact absurd hv Bool.false_ne_true) | skip
  all_goals (cases u <;> first | (cases k <;> exact absurd hu Bool.false_ne_true) | rfl | (cases k with | zero => exact absurd hv Bool.false_ne_true | succ k => exact pV k _ _ hv hu))
theorem pV : ∀ (k : Nat) (v u : List Val), gA k v = true -> gA k u = true -> PyData.eqvAll (dO v) (dO u) = vqs v u
 | _, [], [], _, _ => rfl
 | _, [], _ :: _, _, _ => rfl
 | _, _ :: _, [], _, _ => rfl
 |
  k, x :: xs, y :: ys, hv, hu => by
  have h1 : (wfV k x && gA k xs) = true := hv
  have h2 : (wfV k y && gA k ys) = true := hu
  rw [Bool.and_eq_true] at h1 h2
  show (PyData.eqv (fj x) (fj y) && PyData.eqvAll (dO xs) (dO ys)) = (vq x y && vqs xs ys)
  rw [sO k x y h1.1 h2.1, pV k xs ys h1.2 h2.2]
end
theorem Du {x y : Val} (hx : wfV 60 x = true) (hy : wfV 60 y = true) : fH x y = some (vq x y) := by
 obtain ⟨h1, h2, h3⟩ := lC 60 x hx
 obtain ⟨i1, i2, i3⟩ := lC 60 y hy
 unfold fH
 rw [h1 64 (by omega), i1 64 (by omega)]
 dsimp only
 rw [if_pos ⟨mm h2 (by omega), mm i2 (by omega)⟩, sO 60 x y hx hy]
mutual
noncomputable def jU : Val -> Bool
 | .bl _ => false
 | .tup xs => gg xs
 | .lst xs => gg xs
 | .non => true
 | .int _ => true
 | .str _ => true
 | _ => false
noncomputable def gg : List Val -> Bool
 | [] => true
 | x :: xs => jU x && gg xs
end
mutual
theorem uf : ∀ (v u : Val), jU v = true -> jU u = true -> (vq v u = true ↔ v = u)
 |
  v, u, hv, hu => by
  cases v <;> first | exact absurd hv Bool.false_ne_true | skip
  all_goals (cases u <;> first | exact absurd hu Bool.false_ne_true | exact ⟨fun z => absurd z Bool.false_ne_true, fun z => nomatch z⟩ | (simp [vq]; done) | skip)
  all_goals
   refine Iff.trans (pL _ _ hv hu) ?_
   constructor
   ·rintro rfl; rfl
   ·intro z; cases z; rfl
theorem pL : ∀ (v u : List Val), gg v = true -> gg u = true -> (vqs v u = true ↔ v = u)
 | [], [], _, _ => ⟨fun _ => rfl, fun _ => rfl⟩
 | [], _ :: _, _, _ => ⟨fun z => absurd z Bool.false_ne_true, fun z => nomatch z⟩
 | _ :: _, [], _, _ => ⟨fun z => absurd z Bool.false_ne_true, fun z => nomatch z⟩
 |
  x :: xs, y :: ys, hv, hu => by
  have h1 : (jU x && gg xs) = true := hv
  have h2 : (jU y && gg ys) = true := hu
  rw [Bool.and_eq_true] at h1 h2
  show (vq x y && vqs xs ys) = true ↔ _
  rw [Bool.and_eq_true, uf x y h1.1 h2.1, pL xs ys h1.2 h2.2, List.cons.injEq]
end
noncomputable def fV (q : Rat) : Val := .tup [.int q.num, .int q.den]
structure Bx where
 l : Rat
 t : Rat
 w : Rat
 h : Rat
structure Bx.Ok (b : Bx) : Prop where
 w : 0 < b.w
 h : 0 < b.h
structure Bx.Sz (n : Nat) (b : Bx) : Prop where
 l : L2.Sz n b.l
 t : L2.Sz n b.t
 w : L2.Sz n b.w
 h : L2.Sz n b.h
noncomputable def bV (b : Bx) : Val := .tup [fV b.l, fV b.t, fV b.w, fV b.h]
theorem BS {p q : Rat} (e : fV p = fV q) : p = q := by
 unfold fV at e
 simp only [Val.tup.injEq, List.cons.injEq, Val.int.injEq, and_true] at e
 rw [fF p, fF q, e.1, e.2]
theorem xg (q : Rat) (k : Nat) : wfV (k + 1) (fV q) = true := by simp [fV, wfV, gA]
theorem wB (q : Rat) : jU (fV q) = true := by simp [fV, jU, gg]
theorem DP (p q : Rat) : fH (fV p) (fV q) = some (decide (p = q)) := by
 rw [Du (xg p 59) (xg q 59)]
 congr 1
 rw [Bool.eq_iff_iff, uf _ _ (wB p) (wB q), decide_eq_true_eq]
 exact ⟨BS, fun z => by rw [z]⟩
noncomputable def knV : Val -> Bool
 | .exc _ => false
 | v => (tyC v).isSome
noncomputable def fW : Nat -> Val -> Bool
 | k + 1, .tup xs => xs.all (fW k)
 | _, v => knV v
noncomputable def g0 : Val -> Bool
 | .int _ => true
 | _ => false
noncomputable def aV : Val -> Bool
 | .tup [.int a, .int b] => decide (1 <= b) && decide (Int.gcd a b = 1)
 | _ => false
noncomputable def iH : Val -> Bool
 | .tup (.int a :: _) => decide (0 < a)
 | _ => false
noncomputable def dI : Val -> Bool
 | .tup [a, b, c, d] => aV a && (aV b && (aV c && (aV d && (iH c && iH d))))
 | _ => false
noncomputable def f9 : Val -> Bool
 | .int i => decide (1 <= i)
 | _ => false
noncomputable def ez : Val -> Bool
 | .tup _ => true
 | _ => false
theorem C0 {a b : Int} (h1 : 1 <= b) (h2 : Int.gcd a b = 1) : Val.tup [.int a, .int b] = fV ((a : Rat) / (b : Rat)) := by
 have hb : b ≠ 0 := by omega
 have h := mS (a := a) hb
 have s := Fr.self (by omega) h2
 unfold fV
 rw [<- h.1, <- h.2, s.1, s.2]
theorem gX (q : Rat) : aV (fV q) = true := by
 show (decide (1 <= (q.den : Int)) && decide (Int.gcd q.num q.den = 1)) = true
 have := q.den_pos
 rw [decide_eq_true (by omega), decide_eq_true (p8 q)]; rfl
theorem tT {d : Val} (h : aV d = true) : ∃ q, d = fV q := by
 unfold aV at h
 split at h
 ·simp only [Bool.and_eq_true, decide_eq_true_eq] at h
  exact ⟨_, C0 h.1 h.2⟩
 ·cases h
theorem qg (q : Rat) : iH (fV q) = decide (0 < q) := by
 show decide (0 < q.num) = decide (0 < q)
 rw [decide_eq_decide]
 exact ya
theorem nh {b : Bx} (h : b.Ok) : dI (bV b) = true := by
 show (aV (fV b.l) && (aV (fV b.t) && (aV (fV b.w) && (aV (fV b.h) && (iH (fV b.w) && iH (fV b.h)))))) = true
 rw [gX, gX, gX, gX, qg, qg, decide_eq_true h.w, decide_eq_true h.h]; rfl
theorem tL (b : Bx) : fW 2 (bV b) = true := by simp [bV, fV, fW, knV, tyC]
theorem k8 {g : MG3} {F : ME3} {f : Val -> Val} (P : E3 -> Prop) : ∀ (vs acc : List Val) (e : E3), P e -> (∀ v ∈ vs, ∀ e, P e -> ∃ e1 t e2, g v e = some e1 /\ F e1 = .ok t e2 /\ cN e2 t = some (e2, f v) /\ P e2) -> acc.length + vs.length <= 16777216 -> ∃ e', P e' /\ lcV g cY F vs acc e = .ok (acc ++ vs.map f) e'
 | [], acc, e, hp, _, _ => ⟨e, hp, by simp [lcV]⟩
 |
  v :: vs, acc, e, hp, hf, hl => by
  obtain ⟨e1, t, e2, q1, q2, q3, q4⟩ := hf v (List.mem_cons_self ..) e hp
  obtain ⟨e', p', q5⟩ := k8 P vs (acc ++ [f v]) e2 q4 (fun u hu => hf u (List.mem_cons_of_mem _ hu)) (by simp at hl ⊢; omega)
  refine ⟨e', p', ?_⟩
  unfold lcV
  rw [if_pos (by simp at hl; omega), q1]
  simp only [cY, kh, if_true, q2, q3, q5]
  simp
theorem jV {g : MG3} {B : MS3} (P : E3 -> Prop) : ∀ (vs : List Val) (e : E3), P e -> (∀ v ∈ vs, ∀ e, P e -> ∃ e1 e2, g v e = some e1 /\ (B e1 = .nx e2 \/ B e1 = .ct e2) /\ P e2) -> ∃ e', P e' /\ du g B vs e = .nx e'
 | [], e, hp, _ => ⟨e, hp, rfl⟩
 |
  v :: vs, e, hp, hf => by
  obtain ⟨e1, e2, q1, q2, q3⟩ := hf v (List.mem_cons_self ..) e hp
  obtain ⟨e', p', q4⟩ := jV P vs e2 q3 fun u hu => hf u (List.mem_cons_of_mem _ hu)
  refine ⟨e', p', ?_⟩
  rw [fU, q1]
  rcases q2 with q2 | q2 <;> simp only [q2, ky, rN, q4]
end L3
set_option Elab.async false
set_option linter.all false
set_option maxRecDepth 100000
namespace L3
open PySem PySem.Spec PyProof.Rows L2
theorem gH {α : Type} (f : α -> Val) : ∀ (l : List α) (k : Nat), fB k (l.map f) = (l.zipIdx k).map fun p => .tup [.int (p.2 : Nat), f p.1]
 | [], k => rfl
 |
  a :: l, k => by
  show Val.tup [.int (k : Nat), f a] :: fB (k + 1) (l.map f) = _
  rw [gH f l (k + 1), List.zipIdx_cons]
  rfl
theorem xE (l : List Val) (k : Nat) : fB k l = (l.zipIdx k).map fun p => .tup [.int (p.2 : Nat), p.1] := by
 have := gH id l k
 rwa [List.map_id] at this
noncomputable def rgV (k : Nat) : List Val := (List.range k).map fun j => Val.int (j : Nat)
theorem pZ {k : Nat} (h : k < 1000000) : iE [.int (k : Nat)] = some (rgV k) := by
 simp only [iE]
 rw [if_pos (⟨by omega, by omega⟩ : RgB _), Int.toNat_natCast]
 unfold rR rgV
 simp only [Int.zero_add]
theorem lu {i : Int} (h0 : 0 <= i) (h : i < 1000000) : iE [.int i] = some (rgV i.toNat) := by
 have := pZ (k := i.toNat) (by omega)
 rwa [show ((i.toNat : Nat) : Int) = i from by omega] at this
noncomputable def fdS {α : Type} (r : α -> Rt) (e : E3) : Option α -> SR3
 | some a => .rt (r a) e
 | none => .nx e
theorem iy {α : Type} (r : α -> Rt) (e : E3) (a : α) : fdS r e (some a) = .rt (r a) e := rfl
theorem fY {α : Type} (r : α -> Rt) (e : E3) : fdS r e none = .nx e := rfl
theorem eh {g : MG3} {B : MS3} {α : Type} (f : α -> Val) (p : α -> Bool) (r : α -> Rt) (P : E3 -> Prop) : ∀ (l : List α) (e : E3), P e -> (∀ a ∈ l, ∀ e, P e -> ∃ e1 e2, g (f a) e = some e1 /\ P e2 /\ ((p a = true /\ B e1 = .rt (r a) e2) \/ (p a = false /\ (B e1 = .nx e2 \/ B e1 = .ct e2)))) -> ∃ e', P e' /\ du g B (l.map f) e = fdS r e' (l.find? p)
 | [], e, hp, _ => ⟨e, hp, rfl⟩
 |
  a :: l, e, hp, hf => by
  obtain ⟨e1, e2, q1, q2, q3⟩ := hf a (List.mem_cons_self ..) e hp
  rw [List.map_cons, fU, q1]
  rcases q3 with ⟨c, q3⟩ | ⟨c, q3⟩
  ·exact ⟨e2, q2, by rw [List.find?_cons, c]; simp only [q3, C1, fdS]⟩
  ·obtain ⟨e', p', q4⟩ := eh f p r P l e2 q2 fun u hu => hf u (List.mem_cons_of_mem _ hu)
   refine ⟨e', p', ?_⟩
   rw [List.find?_cons, c]
   rcases q3 with q3 | q3 <;> simp only [q3, ky, rN, q4]
theorem mn {g : MG3} {B : MS3} {α σ : Type} (f : α -> Val) (st : σ -> α -> σ) (P : σ -> E3 -> Prop) : ∀ (l : List α) (s : σ) (e : E3), P s e -> (∀ a ∈ l, ∀ s e, P s e -> ∃ e1 e2, g (f a) e = some e1 /\ (B e1 = .nx e2 \/ B e1 = .ct e2) /\ P (st s a) e2) -> ∃ e', P (l.foldl st s) e' /\ du g B (l.map f) e = .nx e'
 | [], s, e, hp, _ => ⟨e, hp, rfl⟩
 |
  a :: l, s, e, hp, hf => by
  obtain ⟨e1, e2, q1, q2, q3⟩ := hf a (List.mem_cons_self ..) s e hp
  obtain ⟨e', p', q4⟩ := mn f st P l (st s a) e2 q3 fun u hu => hf u (List.mem_cons_of_mem _ hu)
  refine ⟨e', p', ?_⟩
  rw [List.map_cons, fU, q1]
  rcases q2 with q2 | q2 <;> simp only [q2, ky, rN, q4]
theorem iN {g : MG3} {F : ME3} {α : Type} (fv fw : α -> Val) (P : E3 -> Prop) : ∀ (l : List α) (acc : List Val) (e : E3), P e -> (∀ a ∈ l, ∀ e, P e -> ∃ e1 t e2, g (fv a) e = some e1 /\ F e1 = .ok t e2 /\ cN e2 t = some (e2, fw a) /\ P e2) -> acc.length + l.length <= 16777216 -> ∃ e', P e' /\ lcV g qY.G F (l.map fv) acc e = .ok (acc ++ l.map fw) e'
 | [], acc, e, hp, _, _ => ⟨e, hp, by simp [lcV]⟩
 |
  v :: vs, acc, e, hp, hf, hl => by
  obtain ⟨e1, t, e2, q1, q2, q3, q4⟩ := hf v (List.mem_cons_self ..) e hp
  obtain ⟨e', p', q5⟩ := iN fv fw P vs (acc ++ [fw v]) e2 q4 (fun u hu => hf u (List.mem_cons_of_mem _ hu)) (by simp at hl ⊢; omega)
  refine ⟨e', p', ?_⟩
  rw [List.map_cons]
  unfold lcV
  have cy : qY.G = cY := rfl
  rw [cy] at q5 ⊢
  rw [if_pos (by simp at hl; omega), q1]
  simp only [cY, kh, if_true, q2, q3, q5]
  simp
theorem A8 (b : Bool) : qZ (.bl b) = some b := rfl
noncomputable def uD (ms : List Bool) (r : SR3) : R3F := match r with
 | .nx e => (match muV ms e with | some mv => .ok (.val .non) mv | none => .stuck)
 | .rt r e => (match muV ms e with | some mv => .ok r mv | none => .stuck)
 | .exc c e => (match muV ms e with | some mv => .exc c mv | none => .stuck)
 | _ => .stuck
theorem DM {ms : List Bool} {N : Nat} {c : PSt} {vs : List Val} (h : vs.length = ms.length) : (fnP ms N c).G vs = uD ms (c.G (sls ms vs ++ List.replicate (N - vs.length) .no)) := by
 rw [b8, if_pos h]; rfl
theorem xi (ms : List Bool) (r : Rt) (e : E3) : uD ms (.rt r e) = match muV ms e with | some mv => .ok r mv | none => .stuck := rfl
theorem cx {Q : SR3 -> Prop} (I : E3 -> Prop) {a b : PSt} {e : E3} (h1 : ∃ e1, a.G e = .nx e1 /\ I e1) (h2 : ∀ e1, I e1 -> Q (b.G e1)) : Q ((aF a b).G e) := by
 obtain ⟨e1, q, i⟩ := h1
 rw [wU, q]
 exact h2 e1 i
theorem iV (i : Int) : Val.tup [.int i, .int 1] = fV (i : Rat) := rfl
theorem sm8 {m : Int} (h : m.natAbs < 1099511627776) : Sm 8000 m := Nat.lt_of_lt_of_le (show m.natAbs < 2 ^ 40 from h) (Nat.pow_le_pow_right (by decide) (by decide))
theorem wJ {m : Int} (h : m.natAbs <= 2000000000000000000000000000000) : Sm 101 m := by unfold Sm; exact Nat.lt_of_le_of_lt h (by decide)
theorem Aw {m : Int} (h : m.natAbs <= 2000000000000000000000000000000) : Sz 101 (m : Rat) := ⟨wJ h, wJ (by show (1 : Int).natAbs <= _; decide)⟩
theorem pR {m : Int} (h : 0 < m) : (0 : Rat) < (m : Rat) := Rat.intCast_pos.mpr h
structure Good (b : Bx) : Prop where
 ok : b.Ok
 sz : b.Sz 101
end L3
set_option Elab.async false
set_option linter.all false
set_option maxRecDepth 100000
namespace L3
open PySem PySem.Spec PyProof.Rows L2
section
variable {K : PySem.W.Frag} {mg : Str -> Option Value} {X : Cx} {ES : L2.St -> XK} {e : Expr} {es : List Expr} {A : PAs} {pos : Pos}
end
theorem z8 (xs ys : List Val) : bp.G (.tup xs) (.tup ys) = if xs.length + ys.length <= 16777216 then .val (.tup (xs ++ ys)) else .stuck := rfl
end L3
set_option Elab.async false
set_option linter.all false
set_option maxRecDepth 100000
namespace L3
open PySem PySem.Spec PyProof.Rows L2
noncomputable def sSl : Val -> Val -> Val -> Option Val := fun o i v => match o, i, v with
 | .lst xs, .tup [.int a, .int c], .lst ys => if 0 <= a /\ a <= c /\ c <= xs.length /\ xs.length + ys.length <= 16777216 then some (.lst (xs.take a.toNat ++ ys ++ xs.drop c.toNat)) else none
 | _, _, _ => none
theorem
    yL : rY wSl sSl := fun P h n o u di vi d v u' np e hf r ri rd q => by
 unfold sSl at q
 split at q
 ·rename_i xs a c ys
  split at q
  ·rename_i hc
   cases q
   obtain ⟨q1, es, q2, q3, q4⟩ := wZ e r
   obtain ⟨ds, rfl, rr⟩ := ri.tup
   cases rr with
   |
    cons ra rr =>
    cases rr with
    |
     cons rc rr =>
     cases rr
     obtain rfl := ShR.int (.inl ra)
     obtain rfl := ShR.int (.inl rc)
     cases rd with
     |
      cell p e' r' =>
      cases r' with
      |
       lst rs =>
       refine ⟨.lst (es.take a.toNat ++ _ ++ es.drop c.toNat), ?_, trivial, .lst (((q3.take _).append rs).append (q3.drop _))⟩
       unfold wSl
       dsimp only
       rw [q2, e']
       dsimp only
       rw [if_pos ⟨fun z => np (z ▸ p), hc.1, hc.2.1, by rw [q3.len]; exact hc.2.2.1, by rw [q3.len, rs.len]; exact hc.2.2.2⟩]
  ·cases q
 ·cases q
noncomputable def mY : PSe := ⟨wSl, sSl, yL⟩
theorem Bs (xs ys : List Val) (a c : Int) : mY.G (.lst xs) (.tup [.int a, .int c]) (.lst ys) = if 0 <= a /\ a <= c /\ c <= xs.length /\ xs.length + ys.length <= 16777216 then some (.lst (xs.take a.toNat ++ ys ++ xs.drop c.toNat)) else none := rfl
section
variable {K : PySem.W.Frag} {mg : Str -> Option Value} {X : Cx} {ES : L2.St -> XK} {e a b c o lo hi : Expr} {p q r : PEx} {pos p1 p2 : Pos}
theorem pA {j : Nat} (he : DE K mg X ES e p.F) (ho : DE K mg X ES o (ah j).F) (hl : DE K mg X ES lo q.F) (hu : DE K mg X ES hi r.F) (hs : swapsWithSole [.Subscript o (.Slice (some lo) (some hi) none p2) p1] e pos.line X.env = pure false := by rfl) (hw : swappedStores [.Subscript o (.Slice (some lo) (some hi) none p2) p1] e X.env = pure none := by rfl) (h1 : (assignEach [.Subscript o (.Slice (some lo) (some hi) none p2) p1] X.env).map (·.2) = [assign (.Subscript o (.Slice (some lo) (some hi) none p2) p1) X.env] := by rfl)
  (ha : ∀ v, assign (.Subscript o (.Slice (some lo) (some hi) none p2) p1) X.env v = (do
   let ov <- holding [v] (eval o X.env)
   let iv <- holding [v, ov] (eval (.Slice (some lo) (some hi) none p2) X.env)
   standAt p1
   holding [v, ov, iv] (setItem ov iv v)
   release [iv, v, ov] []) := by intro _; rfl) : DS K mg X ES (.Assign [.Subscript o (.Slice (some lo) (some hi) none p2) p1] e pos) (jr j mY (a9 (ag q (ag r ao))) p).F := oK he (vZ ho hl hu ha) hs hw h1
theorem m5 (i : Nat) {x : Str} {px : Pos} {op op' : CmpOp} {r' r2 : R2} {k k' : PO2} (ho : OpR X (compareOp op) r') (hd : OpD K mg r' k.F) (ho' : OpR X (compareOp op') r2) (hd' : OpD K mg r2 k'.F) (ha : DE K mg X ES a p.F) (hc : DE K mg X ES c q.F) (hN : X.N[i]? = some x := by rfl) (hv : Vis X.env.scope x := by first | exact Or.inl rfl | exact Or.inr (Or.inl rfl) | exact Or.inr (Or.inr rfl)) (hx : (x == ("__debug__" : Str)) = false := by decide)
  (hcd : (x == ("__classdict__" : Str)) = false := by decide) (hm : lastMarks [op, op'] [.Name x px, c] = false := by with_unfolding_all rfl) : DE K mg X ES (.Compare a [op, op'] [.Name x px, c] pos) (eN (pOp k p (ah i)) (pOp k' (ah i) q)).F := uW i ho hd ho' hd' ha hc hN hv hx hcd hm
theorem nI (i : Nat) {x : Str} {px : Pos} {op op' : CmpOp} {r' r2 : R2} {k k' : PO2} (ho : OpR X (compareOp op) r') (hd : OpD K mg r' k.F) (ho' : OpR X (compareOp op') r2) (hd' : OpD K mg r2 k'.F) (ha : DE K mg X ES a p.F) (hc : DE K mg X ES c q.F) (hN : X.N[i]? = some x := by rfl) (hv : Vis X.env.scope x := by first | exact Or.inl rfl | exact Or.inr (Or.inl rfl) | exact Or.inr (Or.inr rfl)) (hx : (x == ("__debug__" : Str)) = false := by decide)
  (hcd : (x == ("__classdict__" : Str)) = false := by decide) (hm : lastMarks [op, op'] [.Name x px, c] = false := by with_unfolding_all rfl) : DT K mg X ES (.Compare a [op, op'] [.Name x px, c] pos) (qAn (qOf (pOp k p (ah i))) (qOf (pOp k' (ah i) q))).F := vY i ho hd ho' hd' ha hc hN hv hx hcd hm
end
theorem ar1 {α : Type} {P : List α -> Prop} (h : ∀ a, P [a]) : ∀ us : List α, us.length = 1 -> P us
 | [a], _ => h a
theorem ar2 {α : Type} {P : List α -> Prop} (h : ∀ a b, P [a, b]) : ∀ us : List α, us.length = 2 -> P us
 | [a, b], _ => h a b
theorem ar3 {α : Type} {P : List α -> Prop} (h : ∀ a b c, P [a, b, c]) : ∀ us : List α, us.length = 3 -> P us
 | [a, b, c], _ => h a b c
end L3
set_option Elab.async false
set_option linter.all false
set_option maxRecDepth 100000
set_option maxHeartbeats 4000000
namespace KK
open PySem PySem.Spec PyProof.Rows L2 L3
theorem tF : bootBuiltins "abs" = some (.builtin "abs") := by decide +kernel
theorem ui : bootBuiltins "all" = some (.builtin "all") := by decide +kernel
theorem yJ : bootBuiltins "bool" = some (.type "bool") := by decide +kernel
theorem tW : bootBuiltins "int" = some (.type "int") := by decide +kernel
theorem dq : bootBuiltins "isinstance" = some (.builtin "isinstance") := by decide +kernel
theorem dC : bootBuiltins "len" = some (.builtin "len") := by decide +kernel
theorem pC : bootBuiltins "list" = some (.type "list") := by decide +kernel
theorem AK : bootBuiltins "max" = some (.builtin "max") := by decide +kernel
theorem AA : bootBuiltins "min" = some (.builtin "min") := by decide +kernel
theorem zL : bootBuiltins "sum" = some (.builtin "sum") := by decide +kernel
theorem nc : bootBuiltins "tuple" = some (.type "tuple") := by decide +kernel
noncomputable def top (i : Nat) : Stmt := PySem.Challenge.pw_weightrooms_k10_whole_what_is_let_by_cov.main.body.getD i (.Pass ⟨0, 0, 0, 0⟩)
abbrev ip : Stmt := top 28
theorem o5 : FnScope ["_law_script", "_law_k"] ["_law_script", "_law_k"] (aA ip) := ⟨rfl, rfl, rfl, by decide +kernel, rfl, by decide +kernel, by decide +kernel⟩
abbrev iK : Stmt := top 29
theorem eW : FnScope ["_law_feed_here", "_law_many", "_law_digit", "_law_mixed"] ["_law_feed_here", "_law_many"] (aA iK) := ⟨rfl, rfl, rfl, by decide +kernel, rfl, by decide +kernel, by decide +kernel⟩
abbrev gG : Stmt := top 32
theorem bj : FnScope ["_law_feed_here", "_law_box_here", "_law_left", "_law_top", "_law_right", "_law_foot", "_law_a", "_law_c", "_law_b", "_law_d", "_law_some"] ["_law_feed_here", "_law_box_here"] (aA gG) := ⟨rfl, rfl, rfl, by decide +kernel, rfl, by decide +kernel, by decide +kernel⟩
abbrev jh : Stmt := top 31
theorem bN : FnScope ["_law_feed_here", "_law_box_here", "_law_many", "_law_boxes", "_law_again", "_law_at", "_law_left", "_law_top", "_law_right", "_law_foot", "_law_x", "_law_y"] ["_law_feed_here", "_law_box_here", "_law_many"] (aA jh) := ⟨rfl, rfl, rfl, by decide +kernel, rfl, by decide +kernel, by decide +kernel⟩
abbrev gZ : Stmt := top 7
theorem pf : FnScope ["thing"] ["thing"] (aA gZ) := ⟨rfl, rfl, rfl, by decide +kernel, rfl, by decide +kernel, by decide +kernel⟩
abbrev dZ : Stmt := top 8
theorem dR : FnScope ["one", "other"] ["one", "other"] (aA dZ) := ⟨rfl, rfl, rfl, by decide +kernel, rfl, by decide +kernel, by decide +kernel⟩
abbrev ft : Stmt := top 9
theorem eR : FnScope ["thing", "top", "bottom"] ["thing"] (aA ft) := ⟨rfl, rfl, rfl, by decide +kernel, rfl, by decide +kernel, by decide +kernel⟩
abbrev iD : Stmt := top 16
theorem sx : FnScope ["thing"] ["thing"] (aA iD) := ⟨rfl, rfl, rfl, by decide +kernel, rfl, by decide +kernel, by decide +kernel⟩
abbrev gE : Stmt := top 17
theorem oP : FnScope ["thing"] ["thing"] (aA gE) := ⟨rfl, rfl, rfl, by decide +kernel, rfl, by decide +kernel, by decide +kernel⟩
abbrev gz : Stmt := top 18
theorem m7 : FnScope ["thing"] ["thing"] (aA gz) := ⟨rfl, rfl, rfl, by decide +kernel, rfl, by decide +kernel, by decide +kernel⟩
abbrev dA : Stmt := top 19
theorem kc : FnScope ["thing"] ["thing"] (aA dA) := ⟨rfl, rfl, rfl, by decide +kernel, rfl, by decide +kernel, by decide +kernel⟩
abbrev hZ : Stmt := top 10
theorem gv : FnScope ["top", "bottom", "divisor"] ["top", "bottom"] (aA hZ) := ⟨rfl, rfl, rfl, by decide +kernel, rfl, by decide +kernel, by decide +kernel⟩
abbrev kO : Stmt := top 12
theorem vt : FnScope ["one", "other"] ["one", "other"] (aA kO) := ⟨rfl, rfl, rfl, by decide +kernel, rfl, by decide +kernel, by decide +kernel⟩
abbrev nE : Stmt := top 20
theorem x2 : FnScope ["box"] ["box"] (aA nE) := ⟨rfl, rfl, rfl, by decide +kernel, rfl, by decide +kernel, by decide +kernel⟩
abbrev lA : Stmt := top 11
theorem uk : FnScope ["one", "other"] ["one", "other"] (aA lA) := ⟨rfl, rfl, rfl, by decide +kernel, rfl, by decide +kernel, by decide +kernel⟩
abbrev kR : Stmt := top 23
theorem fI : FnScope ["box", "left", "top", "wide", "high"] ["box"] (aA kR) := ⟨rfl, rfl, rfl, by decide +kernel, rfl, by decide +kernel, by decide +kernel⟩
abbrev iQ : Stmt := top 13
theorem sd : FnScope ["one", "other"] ["one", "other"] (aA iQ) := ⟨rfl, rfl, rfl, by decide +kernel, rfl, by decide +kernel, by decide +kernel⟩
abbrev fk : Stmt := top 24
theorem br : FnScope ["room", "box", "left", "right", "top", "bottom", "begin", "end", "upper", "lower"] ["room", "box"] (aA fk) := ⟨rfl, rfl, rfl, by decide +kernel, rfl, by decide +kernel, by decide +kernel⟩
abbrev cE : Stmt := top 25
theorem aH : FnScope ["one", "other", "left", "right", "top", "bottom", "begin", "end", "upper", "lower"] ["one", "other"] (aA cE) := ⟨rfl, rfl, rfl, by decide +kernel, rfl, by decide +kernel, by decide +kernel⟩
abbrev er : Stmt := top 26
theorem dm : FnScope ["boxes", "drawn", "at", "later", "ahead"] ["boxes"] (aA er) := ⟨rfl, rfl, rfl, by decide +kernel, rfl, by decide +kernel, by decide +kernel⟩
abbrev lZ : Stmt := top 22
theorem d6 : FnScope ["room", "weights", "boxes", "at", "box"] ["room", "weights", "boxes"] (aA lZ) := ⟨rfl, rfl, rfl, by decide +kernel, rfl, by decide +kernel, by decide +kernel⟩
abbrev jn : Stmt := top 33
theorem ek : FnScope ["_law_ends", "_law_left", "_law_top", "_law_right", "_law_foot"] ["_law_ends"] (aA jn) := ⟨rfl, rfl, rfl, by decide +kernel, rfl, by decide +kernel, by decide +kernel⟩
abbrev iC : Stmt := top 34
theorem cM : FnScope ["_law_feed_here", "_law_boxes", "_law_at", "_law_left", "_law_top", "_law_right", "_law_foot", "_law_some"] ["_law_feed_here", "_law_boxes"] (aA iC) := ⟨rfl, rfl, rfl, by decide +kernel, rfl, by decide +kernel, by decide +kernel⟩
abbrev fK : Stmt := top 35
theorem bD : FnScope ["_law_boxes", "_law_x", "_law_y", "_law_near", "_law_inner", "_law_left", "_law_top", "_law_right", "_law_foot"] ["_law_boxes", "_law_x", "_law_y"] (aA fK) := ⟨rfl, rfl, rfl, by decide +kernel, rfl, by decide +kernel, by decide +kernel⟩
abbrev iL : Stmt := top 36
theorem cV : FnScope ["_law_script", "_law_k", "_law_feed_here", "_law_wide", "_law_high", "_law_whole", "_law_wound_here", "_law_boxes", "_law_weights", "_law_some", "_law_again", "_law_x", "_law_y"] ["_law_script"] (aA iL) := ⟨rfl, rfl, rfl, by decide +kernel, rfl, by decide +kernel, by decide +kernel⟩
noncomputable def kits : eI := [((.b "NoneType"), (.b "bool"), false), ((.b "bool"), (.b "bool"), true), ((.b "int"), (.b "bool"), false), ((.b "str"), (.b "bool"), false), ((.b "tuple"), (.b "bool"), false), ((.b "list"), (.b "bool"), false), ((.b "dict"), (.b "bool"), false), ((.b "NoneType"), (.b "int"), false), ((.b "bool"), (.b "int"), true), ((.b "int"), (.b "int"), true), ((.b "str"), (.b "int"), false), ((.b "tuple"), (.b "int"), false), ((.b "list"), (.b "int"), false), ((.b "dict"), (.b "int"), false), ((.b "NoneType"), (.b "list"), false), ((.b "bool"), (.b "list"), false), ((.b "int"), (.b "list"), false), ((.b "str"), (.b "list"), false), ((.b "tuple"), (.b "list"), false), ((.b "list"), (.b "list"), true), ((.b "dict"), (.b "list"), false), ((.b "NoneType"), (.b "tuple"), false), ((.b "bool"), (.b "tuple"), false), ((.b "int"), (.b "tuple"), false), ((.b "str"), (.b "tuple"), false), ((.b "tuple"), (.b "tuple"), true), ((.b "list"), (.b "tuple"), false), ((.b "dict"), (.b "tuple"), false)]
noncomputable def eQ : D := (.int 40)
structure Txt (K : PySem.W.Frag) (mg : Str -> Option Value) (a_NoFraction : Addr) (a_NoBox : Addr) (a_NoWeights : Addr) (a_TooMany : Addr) : Prop where
 g_MOST_WEIGHTS : GC K mg "MOST_WEIGHTS" eQ
 m_NoBox : mg "NoBox" = some (.ref a_NoBox)
 m_NoFraction : mg "NoFraction" = some (.ref a_NoFraction)
 m_NoWeights : mg "NoWeights" = some (.ref a_NoWeights)
 m_TooMany : mg "TooMany" = some (.ref a_TooMany)
 n_abs : mg "abs" = none
 n_all : mg "all" = none
 n_bool : mg "bool" = none
 n_enumerate : mg "enumerate" = none
 n_int : mg "int" = none
 n_isinstance : mg "isinstance" = none
 n_len : mg "len" = none
 n_list : mg "list" = none
 n_max : mg "max" = none
 n_min : mg "min" = none
 n_range : mg "range" = none
 n_sum : mg "sum" = none
 n_tuple : mg "tuple" = none
 x_NoFraction : PySem.W.excIn K a_NoFraction eL "ValueError.__new__" = true
 x_NoBox : PySem.W.excIn K a_NoBox eL "ValueError.__new__" = true
 x_NoWeights : PySem.W.excIn K a_NoWeights eL "ValueError.__new__" = true
 x_TooMany : PySem.W.excIn K a_TooMany eL "ValueError.__new__" = true
 kits : KitsOk K mg kits
section
variable {P : Program} {w : World} {K : PySem.W.Frag} {mg : Str -> Option Value} {base : Heap} {a_NoFraction a_NoBox a_NoWeights a_TooMany : Addr}
noncomputable def eD : PEx := ue eQ (.int 40) (fun _ _ => .int _)
theorem ku (e : E3) : eD.G e = .ok (.val (.int 40)) e := rfl
noncomputable def ia : PSt :=
 (aF (xIf (qOf (pOp bEq (pFn dF (ag (ah 0) ao)) (av 0))) (aW (fq (ag (av 0) (ag (av 0) (ag (ah 1) ao))))) xNx)
  (aW (fq (ag (pOp bIx (ah 0) (pOp dQ (ah 1) (pFn dF (ag (ah 0) ao)))) (ag (av 0) (ag (ah 1) ao))))))
noncomputable def c9 : PFn := fnP [false, false] 2 ia
theorem o4 : c9.ms = [false, false] := rfl
theorem nz (T : Txt K mg a_NoFraction a_NoBox a_NoWeights a_TooMany) (D : Def K mg "_law_feed" ip)  : Callee P w K mg base "_law_feed" (0 + 1) ["_law_script", "_law_k"] (spD K mg 2 c9.F) := by
 unfold c9 ia
 exact okP D o5 (fun _ _ _ _ _ _ => ar2 fun _ _ => rfl) fun f cdv A outer s H E hr =>
  (aq (bw (bX (jZ (K := K) rfl hr.units) iI (aR (eA (K := K) rfl) dE rfl T.n_len dC (aa (af 0) ai)) aj (aZ _)) (az (aJ (eF (aa aj (aa aj (aa (af 1) ai)))))) aT)
   (az (aJ (eF (aa (aQ (ixK (K := K) rfl) aP (af 0) (ay ec ff (af 1) (aR (eA (K := K) rfl) dE rfl T.n_len dC (aa (af 0) ai))) (fun _ _ => rfl)) (aa aj (aa (af 1) ai)))))))
noncomputable def g8 : PSt :=
 (aF (jr 0 seL (av 1) (pOp bp (pOp bIx (ah 0) (av 1)) (av 1)))
  (aF (xIf (qOf (pOp bGe (pOp bIx (ah 0) (av 0)) (pOp qF (av 10) (av 18)))) (aF (bE false 2 (pOp dQ (pOp bIx (ah 0) (av 0)) (ah 1)))
  (aF (jr 0 seL (av 0) (pOp mW (pOp bIx (ah 0) (av 0)) (ah 1)))
  (aW (ah 2)))) xNx)
  (aF (bE false 3 (pOp bp (pOp bp (pOp dQ (pOp bIx (ah 0) (av 0)) (av 1000003)) (pOp bz (av 7919) (pOp bIx (ah 0) (av 2)))) (pOp bz (av 104729) (pOp bIx (ah 0) (av 1)))))
  (aF (bE false 3 (pOp dQ (pOp bz (ah 3) (av 48271)) (av 2147483647)))
  (aW (pOp dQ (pOp dQ (pOp bz (ah 3) (pOp bp (pOp dQ (ah 3) (av 65521)) (pOp bIx (ah 0) (av 1)))) (av 2147483629)) (ah 1)))))))
noncomputable def aE : PFn := fnP [true, false] 4 g8
theorem oZ : aE.ms = [true, false] := rfl
theorem nD (T : Txt K mg a_NoFraction a_NoBox a_NoWeights a_TooMany) (D : Def K mg "_law_next" iK)  : Callee P w K mg base "_law_next" (0 + 1) ["_law_feed_here", "_law_many"] (spD K mg 2 aE.F) := by
 unfold aE g8
 exact okP D eW (fun _ _ _ _ _ _ => ar2 fun _ _ => rfl) fun f cdv A outer s H E hr =>
  (aq (lN (ay (aO (K := K) rfl) aN (aQ (ixK (K := K) rfl) aP (af 0) aj (fun _ _ => rfl)) aj) (af 0) aj j0 kX)
   (aq (bw (bX rL qI (aQ (ixK (K := K) rfl) aP (af 0) aj (fun _ _ => rfl)) (ay BD zK aj aj) (aZ _)) (aq (aX (i := 2) eW.nd rfl (by first | exact Or.inl rfl | exact Or.inr rfl) (ay ec ff (aQ (ixK (K := K) rfl) aP (af 0) aj (fun _ _ => rfl)) (af 1)))
   (aq (lN (ay jW nN (aQ (ixK (K := K) rfl) aP (af 0) aj (fun _ _ => rfl)) (af 1)) (af 0) aj j0 kX)
   (az (aJ (af 2))))) aT)
   (aq (aX (i := 3) eW.nd rfl (by first | exact Or.inl rfl | exact Or.inr rfl) (ay (aO (K := K) rfl) aN (ay (aO (K := K) rfl) aN (ay ec ff (aQ (ixK (K := K) rfl) aP (af 0) aj (fun _ _ => rfl)) aj) (ay ba bc aj (aQ (ixK (K := K) rfl) aP (af 0) aj (fun _ _ => rfl)))) (ay ba bc aj (aQ (ixK (K := K) rfl) aP (af 0) aj (fun _ _ => rfl)))))
   (aq (aX (i := 3) eW.nd rfl (by first | exact Or.inl rfl | exact Or.inr rfl) (ay ec ff (ay ba bc (af 3) aj) aj))
   (az (aJ (ay ec ff (ay ec ff (ay ba bc (af 3) (ay (aO (K := K) rfl) aN (ay ec ff (af 3) aj) (aQ (ixK (K := K) rfl) aP (af 0) aj (fun _ _ => rfl)))) aj) (af 1))))))))
noncomputable def eX : PSt :=
 (aF (dJ (ah 1) (gtX (gtT 4 (aC (gtN 2) (aC (gtN 3) (aC (gtN 4) (aC (gtN 5) bS)))))))
  (aF (bE false 6 (pOp bp (pOp bp (ah 2) (av 1)) (aB aE (ag (ah 0) (ag (pOp bT (pOp bT (ah 4) (ah 2)) (av 2)) ao)))))
  (aF (bE false 7 (pOp bp (pOp bp (ah 6) (av 1)) (aB aE (ag (ah 0) (ag (pOp bT (pOp bT (ah 4) (ah 6)) (av 1)) ao)))))
  (aF (bE false 8 (pOp bp (pOp bp (ah 3) (av 1)) (aB aE (ag (ah 0) (ag (pOp bT (pOp bT (ah 5) (ah 3)) (av 2)) ao)))))
  (aF (bE false 9 (pOp bp (pOp bp (ah 8) (av 1)) (aB aE (ag (ah 0) (ag (pOp bT (pOp bT (ah 5) (ah 8)) (av 1)) ao)))))
  (aF (bE false 10 (fq (ag (a9 (ag (ah 2) (ag (ah 3) (ag (ah 7) (ag (ah 8) ao))))) (ag (a9 (ag (ah 7) (ag (ah 3) (ag (ah 4) (ag (ah 9) ao))))) (ag (a9 (ag (ah 6) (ag (ah 9) (ag (ah 4) (ag (ah 5) ao))))) (ag (a9 (ag (ah 2) (ag (ah 8) (ag (ah 6) (ag (ah 5) ao))))) (ag (a9 (ag (ah 6) (ag (ah 8) (ag (ah 7) (ag (ah 9) ao))))) ao)))))))
  (aF (xIf (qOf (pOp bEq (aB aE (ag (ah 0) (ag (av 2) ao))) (av 0))) (bE false 10 (fq (ag (a9 (ag (ah 6) (ag (ah 3) (ag (ah 4) (ag (ah 8) ao))))) (ag (a9 (ag (ah 7) (ag (ah 8) (ag (ah 4) (ag (ah 5) ao))))) (ag (a9 (ag (ah 2) (ag (ah 9) (ag (ah 7) (ag (ah 5) ao))))) (ag (a9 (ag (ah 2) (ag (ah 3) (ag (ah 6) (ag (ah 9) ao))))) (ag (a9 (ag (ah 6) (ag (ah 8) (ag (ah 7) (ag (ah 9) ao))))) ao))))))) xNx)
  (aW (ah 10)))))))))
noncomputable def cQ : PFn := fnP [true, false] 11 eX
theorem oA : cQ.ms = [true, false] := rfl
theorem mz (T : Txt K mg a_NoFraction a_NoBox a_NoWeights a_TooMany) (D : Def K mg "_law_wound" gG) (c_law_next : Callee P w K mg base "_law_next" 1 ["_law_feed_here", "_law_many"] (spD K mg 2 aE.F)) : Callee P w K mg base "_law_wound" (1 + 1) ["_law_feed_here", "_law_box_here"] (spD K mg 2 cQ.F) := by
 unfold cQ eX
 exact okP D bj (fun _ _ _ _ _ _ => ar2 fun _ _ => rfl) fun f cdv A outer s H E hr =>
  (aq (cW (af 1) (ZG.weak (bW rfl rfl (ax (aw (i := 2) bj.nd rfl (by first | exact Or.inl rfl | exact Or.inr rfl)) (ax (aw (i := 3) bj.nd rfl (by first | exact Or.inl rfl | exact Or.inr rfl)) (ax (aw (i := 4) bj.nd rfl (by first | exact Or.inl rfl | exact Or.inr rfl)) (ax (aw (i := 5) bj.nd rfl (by first | exact Or.inl rfl | exact Or.inr rfl)) bF)))))))
   (aq (aX (i := 6) bj.nd rfl (by first | exact Or.inl rfl | exact Or.inr rfl) (ay (aO (K := K) rfl) aN (ay (aO (K := K) rfl) aN (af 2) aj) (au c_law_next (hr.mono (by omega)) rfl (ak aD) (aa (af 0) (aa (ay bA bB (ay bA bB (af 4) (af 2)) aj) ai)))))
   (aq (aX (i := 7) bj.nd rfl (by first | exact Or.inl rfl | exact Or.inr rfl) (ay (aO (K := K) rfl) aN (ay (aO (K := K) rfl) aN (af 6) aj) (au c_law_next (hr.mono (by omega)) rfl (ak aD) (aa (af 0) (aa (ay bA bB (ay bA bB (af 4) (af 6)) aj) ai)))))
   (aq (aX (i := 8) bj.nd rfl (by first | exact Or.inl rfl | exact Or.inr rfl) (ay (aO (K := K) rfl) aN (ay (aO (K := K) rfl) aN (af 3) aj) (au c_law_next (hr.mono (by omega)) rfl (ak aD) (aa (af 0) (aa (ay bA bB (ay bA bB (af 5) (af 3)) aj) ai)))))
   (aq (aX (i := 9) bj.nd rfl (by first | exact Or.inl rfl | exact Or.inr rfl) (ay (aO (K := K) rfl) aN (ay (aO (K := K) rfl) aN (af 8) aj) (au c_law_next (hr.mono (by omega)) rfl (ak aD) (aa (af 0) (aa (ay bA bB (ay bA bB (af 5) (af 8)) aj) ai)))))
   (aq (aX (i := 10) bj.nd rfl (by first | exact Or.inl rfl | exact Or.inr rfl) (eF (aa (aM (aa (af 2) (aa (af 3) (aa (af 7) (aa (af 8) ai))))) (aa (aM (aa (af 7) (aa (af 3) (aa (af 4) (aa (af 9) ai))))) (aa (aM (aa (af 6) (aa (af 9) (aa (af 4) (aa (af 5) ai))))) (aa (aM (aa (af 2) (aa (af 8) (aa (af 6) (aa (af 5) ai))))) (aa (aM (aa (af 6) (aa (af 8) (aa (af 7) (aa (af 9) ai))))) ai)))))))
   (aq (bw (bX (jZ (K := K) rfl hr.units) iI (au c_law_next (hr.mono (by omega)) rfl (ak aD) (aa (af 0) (aa aj ai))) aj (aZ _)) (az (aX (i := 10) bj.nd rfl (by first | exact Or.inl rfl | exact Or.inr rfl) (eF (aa (aM (aa (af 6) (aa (af 3) (aa (af 4) (aa (af 8) ai))))) (aa (aM (aa (af 7) (aa (af 8) (aa (af 4) (aa (af 5) ai))))) (aa (aM (aa (af 2) (aa (af 9) (aa (af 7) (aa (af 5) ai))))) (aa (aM (aa (af 2) (aa (af 3) (aa (af 6) (aa (af 9) ai))))) (aa (aM (aa (af 6) (aa (af 8) (aa (af 7) (aa (af 9) ai))))) ai)))))))) aT)
   (az (aJ (af 10))))))))))
noncomputable def eJ : PSt :=
 (aF (bE false 5 (aB aE (ag (ah 0) (ag (pFn dF (ag (ah 3) ao)) ao))))
  (aF (dJ (pOp bIx (ah 3) (ah 5)) (gtX (gtT 4 (aC (gtN 6) (aC (gtN 7) (aC (gtN 8) (aC (gtN 9) bS)))))))
  (xIf (qAn (qOf (pOp bEq (aB aE (ag (ah 0) (ag (av 2) ao))) (av 0))) (qOf (pOp bGt (pOp bT (ah 8) (ah 6)) (av 1)))) (aF (bE false 10 (pOp bp (pOp bp (ah 6) (av 1)) (aB aE (ag (ah 0) (ag (pOp bT (pOp bT (ah 8) (ah 6)) (av 1)) ao)))))
  (jr 3 mY (a9 (ag (ah 5) (ag (pOp bp (ah 5) (av 1)) ao))) (fq (ag (a9 (ag (ah 6) (ag (ah 7) (ag (ah 10) (ag (ah 9) ao))))) (ag (a9 (ag (ah 10) (ag (ah 7) (ag (ah 8) (ag (ah 9) ao))))) ao))))) (xIf (qOf (pOp bGt (pOp bT (ah 9) (ah 7)) (av 1))) (aF (bE false 11 (pOp bp (pOp bp (ah 7) (av 1)) (aB aE (ag (ah 0) (ag (pOp bT (pOp bT (ah 9) (ah 7)) (av 1)) ao)))))
  (jr 3 mY (a9 (ag (ah 5) (ag (pOp bp (ah 5) (av 1)) ao))) (fq (ag (a9 (ag (ah 6) (ag (ah 7) (ag (ah 8) (ag (ah 11) ao))))) (ag (a9 (ag (ah 6) (ag (ah 11) (ag (ah 8) (ag (ah 9) ao))))) ao))))) xNx))))
noncomputable def jc : PSt :=
 (aF (bE true 3 (fq (ag (ah 1) ao)))
  (aF (eM (jG (ag (ah 2) ao)) (gtN 4) (eJ))
  (aW (ah 3))))
noncomputable def dD : PFn := fnP [true, false, false] 12 jc
theorem qP : dD.ms = [true, false, false] := rfl
theorem o6 (T : Txt K mg a_NoFraction a_NoBox a_NoWeights a_TooMany) (D : Def K mg "_law_cut" jh) (c_law_next : Callee P w K mg base "_law_next" 1 ["_law_feed_here", "_law_many"] (spD K mg 2 aE.F)) : Callee P w K mg base "_law_cut" (1 + 1) ["_law_feed_here", "_law_box_here", "_law_many"] (spD K mg 3 dD.F) := by
 unfold dD jc eJ
 exact okP D bN (fun _ _ _ _ _ _ => ar3 fun _ _ _ => rfl) fun f cdv A outer s H E hr =>
  (aq (aX (i := 3) bN.nd rfl (by first | exact Or.inl rfl | exact Or.inr rfl) (eF (aa (af 1) ai)))
   (aq (dS fL rfl (gn rfl T.n_range (aa (af 2) ai)) (aw (i := 4) bN.nd rfl (by first | exact Or.inl rfl | exact Or.inr rfl)) (aq (aX (i := 5) bN.nd rfl (by first | exact Or.inl rfl | exact Or.inr rfl) (au c_law_next (hr.mono (by omega)) rfl (ak aD) (aa (af 0) (aa (aR (eA (K := K) rfl) dE rfl T.n_len dC (aa (af 3) ai)) ai))))
   (aq (cW (aQ (ixK (K := K) rfl) aP (af 3) (af 5) (fun _ _ => rfl)) (ZG.weak (bW rfl rfl (ax (aw (i := 6) bN.nd rfl (by first | exact Or.inl rfl | exact Or.inr rfl)) (ax (aw (i := 7) bN.nd rfl (by first | exact Or.inl rfl | exact Or.inr rfl)) (ax (aw (i := 8) bN.nd rfl (by first | exact Or.inl rfl | exact Or.inr rfl)) (ax (aw (i := 9) bN.nd rfl (by first | exact Or.inl rfl | exact Or.inr rfl)) bF)))))))
   (az (bw (ZW.dt (tf (bX (jZ (K := K) rfl hr.units) iI (au c_law_next (hr.mono (by omega)) rfl (ak aD) (aa (af 0) (aa aj ai))) aj (aZ _)) (pD (bX jC ju (ay bA bB (af 8) (af 6)) aj (aZ _))))) (aq (aX (i := 10) bN.nd rfl (by first | exact Or.inl rfl | exact Or.inr rfl) (ay (aO (K := K) rfl) aN (ay (aO (K := K) rfl) aN (af 6) aj) (au c_law_next (hr.mono (by omega)) rfl (ak aD) (aa (af 0) (aa (ay bA bB (ay bA bB (af 8) (af 6)) aj) ai)))))
   (az (pA (eF (aa (aM (aa (af 6) (aa (af 7) (aa (af 10) (aa (af 9) ai))))) (aa (aM (aa (af 10) (aa (af 7) (aa (af 8) (aa (af 9) ai))))) ai))) (af 3) (af 5) (ay (aO (K := K) rfl) aN (af 5) aj)))) (az (bw (bX jC ju (ay bA bB (af 9) (af 7)) aj (aZ _)) (aq (aX (i := 11) bN.nd rfl (by first | exact Or.inl rfl | exact Or.inr rfl) (ay (aO (K := K) rfl) aN (ay (aO (K := K) rfl) aN (af 7) aj) (au c_law_next (hr.mono (by omega)) rfl (ak aD) (aa (af 0) (aa (ay bA bB (ay bA bB (af 9) (af 7)) aj) ai)))))
   (az (pA (eF (aa (aM (aa (af 6) (aa (af 7) (aa (af 8) (aa (af 11) ai))))) (aa (aM (aa (af 6) (aa (af 11) (aa (af 8) (aa (af 9) ai))))) ai))) (af 3) (af 5) (ay (aO (K := K) rfl) aN (af 5) aj)))) aT)))))))
   (az (aJ (af 3)))))
noncomputable def ig : PSt :=
 (aW (eN (pFn (gq kits) (ag (ah 0) (ag (pTy "int") ao))) (nV (pFn (gq kits) (ag (ah 0) (ag (pTy "bool") ao))))))
noncomputable def bQ : PFn := fnP [false] 1 ig
theorem o9 : bQ.ms = [false] := rfl
theorem nA (T : Txt K mg a_NoFraction a_NoBox a_NoWeights a_TooMany) (D : Def K mg "is_whole" gZ)  : Callee P w K mg base "is_whole" (0 + 1) ["thing"] (spD K mg 1 bQ.F) := by
 unfold bQ ig
 exact okP D pf (fun _ _ _ _ _ _ => ar1 fun _ => rfl) fun f cdv A outer s H E hr =>
  (az (aJ (fg (aR (kx (K := K) rfl) (jj T.kits) rfl T.n_isinstance dq (aa (af 0) (aa (kI rfl T.n_int tW) ai))) (eZ (oC (aR (kx (K := K) rfl) (jj T.kits) rfl T.n_isinstance dq (aa (af 0) (aa (kI rfl T.n_bool yJ) ai))))))))
noncomputable def cw : PSt :=
 (oW 0 1 (ag (ah 1) (ag (pOp dQ (ah 0) (ah 1)) ao)))
noncomputable def d7 : PSt :=
 (aF (oW 0 1 (ag (pFn mL (ag (ah 0) ao)) (ag (pFn mL (ag (ah 1) ao)) ao)))
  (aF (xWh (qOf (pOp bNe (ah 1) (av 0))) (cw))
  (aW (ah 0))))
noncomputable def a8 : PFn := fnP [false, false] 2 d7
theorem jK : a8.ms = [false, false] := rfl
theorem jf (T : Txt K mg a_NoFraction a_NoBox a_NoWeights a_TooMany) (D : Def K mg "common_divisor" dZ)  : Callee P w K mg base "common_divisor" (0 + 1) ["one", "other"] (spD K mg 2 a8.F) := by
 unfold a8 d7 cw
 exact okP D dR (fun _ _ _ _ _ _ => ar2 fun _ _ => rfl) fun f cdv A outer s H E hr =>
  (aq (nv (i := 0) (j := 1) rfl dR.nd rfl rfl (by decide) rfl rfl (aa (aR oH tI rfl T.n_abs tF (aa (af 0) ai)) (aa (aR oH tI rfl T.n_abs tF (aa (af 1) ai)) ai)) rfl)
   (aq (vd fL (bX (mV (K := K) rfl hr.units) kf (af 1) aj (aZ _)) (az (nv (i := 0) (j := 1) rfl dR.nd rfl rfl (by decide) rfl rfl (aa (af 1) (aa (ay ec ff (af 0) (af 1)) ai)) rfl)))
   (az (aJ (af 0)))))
noncomputable def fh : PSt :=
 (aF (xIf (qO (qNo (qOf (pFn (gq kits) (ag (ah 0) (ag (pTy "tuple") ao))))) (qOf (pOp bNe (pFn dF (ag (ah 0) ao)) (av 2)))) (aW (pBl false)) xNx)
  (aF (dJ (ah 0) (gtX (gtT 2 (aC (gtN 1) (aC (gtN 2) bS)))))
  (aF (xIf (qO (qNo (qOf (aB bQ (ag (ah 1) ao)))) (qNo (qOf (aB bQ (ag (ah 2) ao))))) (aW (pBl false)) xNx)
  (aW (eN (pOp bGe (ah 2) (av 1)) (pOp bEq (aB a8 (ag (ah 1) (ag (ah 2) ao))) (av 1)))))))
noncomputable def bM : PFn := fnP [false] 3 fh
theorem lK : bM.ms = [false] := rfl
theorem kG (T : Txt K mg a_NoFraction a_NoBox a_NoWeights a_TooMany) (D : Def K mg "is_fraction" ft) (c_is_whole : Callee P w K mg base "is_whole" 1 ["thing"] (spD K mg 1 bQ.F)) (c_common_divisor : Callee P w K mg base "common_divisor" 1 ["one", "other"] (spD K mg 2 a8.F)) : Callee P w K mg base "is_fraction" (1 + 1) ["thing"] (spD K mg 1 bM.F) := by
 unfold bM fh
 exact okP D eR (fun _ _ _ _ _ _ => ar1 fun _ => rfl) fun f cdv A outer s H E hr =>
  (aq (bw (ZW.dt (jv (cX (cq (aR (kx (K := K) rfl) (jj T.kits) rfl T.n_isinstance dq (aa (af 0) (aa (kI rfl T.n_tuple nc) ai))))) (gL (bX (mV (K := K) rfl hr.units) kf (aR (eA (K := K) rfl) dE rfl T.n_len dC (aa (af 0) ai)) aj (aZ _))))) (az (aJ fC)) aT)
   (aq (cW (af 0) (ZG.weak (bW rfl rfl (ax (aw (i := 1) eR.nd rfl (by first | exact Or.inl rfl | exact Or.inr rfl)) (ax (aw (i := 2) eR.nd rfl (by first | exact Or.inl rfl | exact Or.inr rfl)) bF)))))
   (aq (bw (ZW.dt (jv (cX (cq (au c_is_whole (hr.mono (by omega)) rfl (ak aD) (aa (af 1) ai)))) (gL (cX (cq (au c_is_whole (hr.mono (by omega)) rfl (ak aD) (aa (af 2) ai))))))) (az (aJ fC)) aT)
   (az (aJ (fg (eE rL qI (af 2) aj (aZ _)) (eZ (eE (jZ (K := K) rfl hr.units) iI (au c_common_divisor (hr.mono (by omega)) rfl (ak aD) (aa (af 1) (aa (af 2) ai))) aj (aZ _)))))))))
noncomputable def jX : PSt :=
 (aF (xIf (qO (qNo (qOf (pFn (gq kits) (ag (ah 0) (ag (pTy "tuple") ao))))) (qOf (pOp bNe (pFn dF (ag (ah 0) ao)) (av 4)))) (aW (pBl false)) xNx)
  (aF (xIf (qNo (qOf (pFn mP (ag (pLC (eB (ah 0)) [none] (by decide) (gtN 0) qY (aB bM (ag (ah 0) ao))) ao)))) (aW (pBl false)) xNx)
  (aW (eN (pOp bGt (pOp bIx (pOp bIx (ah 0) (av 2)) (av 0)) (av 0)) (pOp bGt (pOp bIx (pOp bIx (ah 0) (av 3)) (av 0)) (av 0))))))
noncomputable def de : PFn := fnP [false] 1 jX
theorem sD : de.ms = [false] := rfl
theorem rh (T : Txt K mg a_NoFraction a_NoBox a_NoWeights a_TooMany) (D : Def K mg "is_box" iD) (c_is_fraction : Callee P w K mg base "is_fraction" 2 ["thing"] (spD K mg 1 bM.F)) : Callee P w K mg base "is_box" (2 + 1) ["thing"] (spD K mg 1 de.F) := by
 unfold de jX
 exact okP D sx (fun _ _ _ _ _ _ => ar1 fun _ => rfl) fun f cdv A outer s H E hr =>
  (aq (bw (ZW.dt (jv (cX (cq (aR (kx (K := K) rfl) (jj T.kits) rfl T.n_isinstance dq (aa (af 0) (aa (kI rfl T.n_tuple nc) ai))))) (gL (bX (mV (K := K) rfl hr.units) kf (aR (eA (K := K) rfl) dE rfl T.n_len dC (aa (af 0) ai)) aj (aZ _))))) (az (aJ fC)) aT)
   (aq (bw (cX (cq (aR (allK (K := K) rfl rfl) ua rfl T.n_all ui (aa (mI ["thing"] (aA iD).names ["part"] [none] rfl (fc rfl (af 0)) (fun _ _ _ _ _ => (aw (i := 0) (show List.Nodup (["part"] : List Str) from by decide +kernel) rfl (by first | exact Or.inl rfl | exact Or.inr rfl))) (fun _ _ _ _ _ => (au c_is_fraction (hr.mono (by omega)) rfl fZ (aa (af 0) ai)))) ai)))) (az (aJ fC)) aT)
   (az (aJ (fg (eE jC ju (aQ (ixK (K := K) rfl) aP (aQ (ixK (K := K) rfl) aP (af 0) aj (fun _ _ => rfl)) aj (fun _ _ => rfl)) aj (aZ _)) (eZ (eE jC ju (aQ (ixK (K := K) rfl) aP (aQ (ixK (K := K) rfl) aP (af 0) aj (fun _ _ => rfl)) aj (fun _ _ => rfl)) aj (aZ _))))))))
noncomputable def gx : PSt :=
 (xIf (qNo (qOf (aB de (ag (ah 0) ao)))) (fM "NoBox" (ag (fu "this is no box") ao)) xNx)
noncomputable def bH : PFn := fnP [false] 1 gx
theorem m8 : bH.ms = [false] := rfl
theorem mw (T : Txt K mg a_NoFraction a_NoBox a_NoWeights a_TooMany) (D : Def K mg "check_box" gE) (c_is_box : Callee P w K mg base "is_box" 3 ["thing"] (spD K mg 1 de.F)) : Callee P w K mg base "check_box" (3 + 1) ["thing"] (spD K mg 1 bH.F) := by
 unfold bH gx
 exact okP D oP (fun _ _ _ _ _ _ => ar1 fun _ => rfl) fun f cdv A outer s H E hr =>
  (az (bw (cX (cq (au c_is_box (hr.mono (by omega)) rfl (ak aD) (aa (af 0) ai)))) (az (fR rfl rz1 rfl T.m_NoBox T.x_NoBox (aa dW ai))) aT))
noncomputable def gD : PSt :=
 (aW (eN (aB bQ (ag (ah 0) ao)) (pOp bGe (ah 0) (av 1))))
noncomputable def cz : PFn := fnP [false] 1 gD
theorem oG : cz.ms = [false] := rfl
theorem mC (T : Txt K mg a_NoFraction a_NoBox a_NoWeights a_TooMany) (D : Def K mg "is_weight" gz) (c_is_whole : Callee P w K mg base "is_whole" 1 ["thing"] (spD K mg 1 bQ.F)) : Callee P w K mg base "is_weight" (1 + 1) ["thing"] (spD K mg 1 cz.F) := by
 unfold cz gD
 exact okP D m7 (fun _ _ _ _ _ _ => ar1 fun _ => rfl) fun f cdv A outer s H E hr =>
  (az (aJ (fg (au c_is_whole (hr.mono (by omega)) rfl (ak aD) (aa (af 0) ai)) (eZ (eE rL qI (af 0) aj (aZ _))))))
noncomputable def eH : PSt :=
 (aF (xIf (qO (qNo (qOf (pFn (gq kits) (ag (ah 0) (ag (pTy "list") ao))))) (qOf (pOp bEq (pFn dF (ag (ah 0) ao)) (av 0)))) (fM "NoWeights" (ag (fu "this is no list of weights") ao)) xNx)
  (aF (xIf (qNo (qOf (pFn mP (ag (pLC (eB (ah 0)) [none] (by decide) (gtN 0) qY (aB cz (ag (ah 0) ao))) ao)))) (fM "NoWeights" (ag (fu "a weight is a whole number from 1 on") ao)) xNx)
  (xIf (qOf (pOp bGt (pFn dF (ag (ah 0) ao)) eD)) (fM "TooMany" (ag (fu "these are more weights than forty") ao)) xNx)))
noncomputable def bx : PFn := fnP [false] 1 eH
theorem jN : bx.ms = [false] := rfl
theorem jJ (T : Txt K mg a_NoFraction a_NoBox a_NoWeights a_TooMany) (D : Def K mg "check_weights" dA) (c_is_weight : Callee P w K mg base "is_weight" 2 ["thing"] (spD K mg 1 cz.F)) : Callee P w K mg base "check_weights" (2 + 1) ["thing"] (spD K mg 1 bx.F) := by
 unfold bx eH eD
 exact okP D kc (fun _ _ _ _ _ _ => ar1 fun _ => rfl) fun f cdv A outer s H E hr =>
  (aq (bw (ZW.dt (jv (cX (cq (aR (kx (K := K) rfl) (jj T.kits) rfl T.n_isinstance dq (aa (af 0) (aa (kI rfl T.n_list pC) ai))))) (gL (bX (jZ (K := K) rfl hr.units) iI (aR (eA (K := K) rfl) dE rfl T.n_len dC (aa (af 0) ai)) aj (aZ _))))) (az (fR rfl rz1 rfl T.m_NoWeights T.x_NoWeights (aa dW ai))) aT)
   (aq (bw (cX (cq (aR (allK (K := K) rfl rfl) ua rfl T.n_all ui (aa (mI ["thing"] (aA dA).names ["weight"] [none] rfl (fc rfl (af 0)) (fun _ _ _ _ _ => (aw (i := 0) (show List.Nodup (["weight"] : List Str) from by decide +kernel) rfl (by first | exact Or.inl rfl | exact Or.inr rfl))) (fun _ _ _ _ _ => (au c_is_weight (hr.mono (by omega)) rfl fZ (aa (af 0) ai)))) ai)))) (az (fR rfl rz1 rfl T.m_NoWeights T.x_NoWeights (aa dW ai))) aT)
   (az (bw (bX jC ju (aR (eA (K := K) rfl) dE rfl T.n_len dC (aa (af 0) ai)) (Ei rfl T.g_MOST_WEIGHTS) (aZ _)) (az (fR rfl rz1 rfl T.m_TooMany T.x_TooMany (aa dW ai))) aT))))
noncomputable def iA : PSt :=
 (aF (xIf (qOf (pOp bEq (ah 1) (av 0))) (fM "NoFraction" (ag (fu "a fraction has no bottom of 0") ao)) xNx)
  (aF (bE false 2 (aB a8 (ag (ah 0) (ag (ah 1) ao))))
  (aF (xIf (qOf (pOp bLt (ah 1) (av 0))) (bE false 2 (pUn vh (ah 2))) xNx)
  (aW (a9 (ag (pOp mW (ah 0) (ah 2)) (ag (pOp mW (ah 1) (ah 2)) ao)))))))
noncomputable def bK : PFn := fnP [false, false] 3 iA
theorem o8 : bK.ms = [false, false] := rfl
theorem oI (T : Txt K mg a_NoFraction a_NoBox a_NoWeights a_TooMany) (D : Def K mg "fraction" hZ) (c_common_divisor : Callee P w K mg base "common_divisor" 1 ["one", "other"] (spD K mg 2 a8.F)) : Callee P w K mg base "fraction" (1 + 1) ["top", "bottom"] (spD K mg 2 bK.F) := by
 unfold bK iA
 exact okP D gv (fun _ _ _ _ _ _ => ar2 fun _ _ => rfl) fun f cdv A outer s H E hr =>
  (aq (bw (bX (jZ (K := K) rfl hr.units) iI (af 1) aj (aZ _)) (az (fR rfl rz1 rfl T.m_NoFraction T.x_NoFraction (aa dW ai))) aT)
   (aq (aX (i := 2) gv.nd rfl (by first | exact Or.inl rfl | exact Or.inr rfl) (au c_common_divisor (hr.mono (by omega)) rfl (ak aD) (aa (af 0) (aa (af 1) ai))))
   (aq (bw (bX hX iz (af 1) aj (aZ _)) (az (aX (i := 2) gv.nd rfl (by first | exact Or.inl rfl | exact Or.inr rfl) (Ey BM AU (af 2)))) aT)
   (az (aJ (aM (aa (ay jW nN (af 0) (af 2)) (aa (ay jW nN (af 1) (af 2)) ai))))))))
noncomputable def lp : PSt :=
 (aW (aB bK (ag (pOp bz (pOp bIx (ah 0) (av 0)) (pOp bIx (ah 1) (av 0))) (ag (pOp bz (pOp bIx (ah 0) (av 1)) (pOp bIx (ah 1) (av 1))) ao))))
noncomputable def dG : PFn := fnP [false, false] 2 lp
theorem uO : dG.ms = [false, false] := rfl
theorem sP (T : Txt K mg a_NoFraction a_NoBox a_NoWeights a_TooMany) (D : Def K mg "times" kO) (c_fraction : Callee P w K mg base "fraction" 2 ["top", "bottom"] (spD K mg 2 bK.F)) : Callee P w K mg base "times" (2 + 1) ["one", "other"] (spD K mg 2 dG.F) := by
 unfold dG lp
 exact okP D vt (fun _ _ _ _ _ _ => ar2 fun _ _ => rfl) fun f cdv A outer s H E hr =>
  (az (aJ (au c_fraction (hr.mono (by omega)) rfl (ak aD) (aa (ay ba bc (aQ (ixK (K := K) rfl) aP (af 0) aj (fun _ _ => rfl)) (aQ (ixK (K := K) rfl) aP (af 1) aj (fun _ _ => rfl))) (aa (ay ba bc (aQ (ixK (K := K) rfl) aP (af 0) aj (fun _ _ => rfl)) (aQ (ixK (K := K) rfl) aP (af 1) aj (fun _ _ => rfl))) ai)))))
noncomputable def nM : PSt :=
 (aF (ki (aB bH (ag (ah 0) ao)))
  (aW (aB dG (ag (pOp bIx (ah 0) (av 2)) (ag (pOp bIx (ah 0) (av 3)) ao)))))
noncomputable def fb : PFn := fnP [false] 1 nM
theorem xH : fb.ms = [false] := rfl
theorem ux (T : Txt K mg a_NoFraction a_NoBox a_NoWeights a_TooMany) (D : Def K mg "area" nE) (c_check_box : Callee P w K mg base "check_box" 4 ["thing"] (spD K mg 1 bH.F)) (c_times : Callee P w K mg base "times" 3 ["one", "other"] (spD K mg 2 dG.F)) : Callee P w K mg base "area" (4 + 1) ["box"] (spD K mg 1 fb.F) := by
 unfold fb nM
 exact okP D x2 (fun _ _ _ _ _ _ => ar1 fun _ => rfl) fun f cdv A outer s H E hr =>
  (aq (lj (au c_check_box (hr.mono (by omega)) rfl (ak aD) (aa (af 0) ai)))
   (az (aJ (au c_times (hr.mono (by omega)) rfl (ak aD) (aa (aQ (ixK (K := K) rfl) aP (af 0) aj (fun _ _ => rfl)) (aa (aQ (ixK (K := K) rfl) aP (af 0) aj (fun _ _ => rfl)) ai))))))
noncomputable def lB : PSt :=
 (aW (aB bK (ag (pOp bp (pOp bz (pOp bIx (ah 0) (av 0)) (pOp bIx (ah 1) (av 1))) (pOp bz (pOp bIx (ah 1) (av 0)) (pOp bIx (ah 0) (av 1)))) (ag (pOp bz (pOp bIx (ah 0) (av 1)) (pOp bIx (ah 1) (av 1))) ao))))
noncomputable def eg : PFn := fnP [false, false] 2 lB
theorem uV : eg.ms = [false, false] := rfl
theorem tw (T : Txt K mg a_NoFraction a_NoBox a_NoWeights a_TooMany) (D : Def K mg "added" lA) (c_fraction : Callee P w K mg base "fraction" 2 ["top", "bottom"] (spD K mg 2 bK.F)) : Callee P w K mg base "added" (2 + 1) ["one", "other"] (spD K mg 2 eg.F) := by
 unfold eg lB
 exact okP D uk (fun _ _ _ _ _ _ => ar2 fun _ _ => rfl) fun f cdv A outer s H E hr =>
  (az (aJ (au c_fraction (hr.mono (by omega)) rfl (ak aD) (aa (ay (aO (K := K) rfl) aN (ay ba bc (aQ (ixK (K := K) rfl) aP (af 0) aj (fun _ _ => rfl)) (aQ (ixK (K := K) rfl) aP (af 1) aj (fun _ _ => rfl))) (ay ba bc (aQ (ixK (K := K) rfl) aP (af 1) aj (fun _ _ => rfl)) (aQ (ixK (K := K) rfl) aP (af 0) aj (fun _ _ => rfl)))) (aa (ay ba bc (aQ (ixK (K := K) rfl) aP (af 0) aj (fun _ _ => rfl)) (aQ (ixK (K := K) rfl) aP (af 1) aj (fun _ _ => rfl))) ai)))))
noncomputable def lx : PSt :=
 (aF (dJ (ah 0) (gtX (gtT 4 (aC (gtN 1) (aC (gtN 2) (aC (gtN 3) (aC (gtN 4) bS)))))))
  (aW (a9 (ag (ah 1) (ag (aB eg (ag (ah 1) (ag (ah 3) ao))) (ag (ah 2) (ag (aB eg (ag (ah 2) (ag (ah 4) ao))) ao)))))))
noncomputable def cT : PFn := fnP [false] 5 lx
theorem vm : cT.ms = [false] := rfl
theorem sJ (T : Txt K mg a_NoFraction a_NoBox a_NoWeights a_TooMany) (D : Def K mg "walls" kR) (c_added : Callee P w K mg base "added" 3 ["one", "other"] (spD K mg 2 eg.F)) : Callee P w K mg base "walls" (3 + 1) ["box"] (spD K mg 1 cT.F) := by
 unfold cT lx
 exact okP D fI (fun _ _ _ _ _ _ => ar1 fun _ => rfl) fun f cdv A outer s H E hr =>
  (aq (cW (af 0) (ZG.weak (bW rfl rfl (ax (aw (i := 1) fI.nd rfl (by first | exact Or.inl rfl | exact Or.inr rfl)) (ax (aw (i := 2) fI.nd rfl (by first | exact Or.inl rfl | exact Or.inr rfl)) (ax (aw (i := 3) fI.nd rfl (by first | exact Or.inl rfl | exact Or.inr rfl)) (ax (aw (i := 4) fI.nd rfl (by first | exact Or.inl rfl | exact Or.inr rfl)) bF)))))))
   (az (aJ (aM (aa (af 1) (aa (au c_added (hr.mono (by omega)) rfl (ak aD) (aa (af 1) (aa (af 3) ai))) (aa (af 2) (aa (au c_added (hr.mono (by omega)) rfl (ak aD) (aa (af 2) (aa (af 4) ai))) ai))))))))
noncomputable def iW : PSt :=
 (aW (pOp bLt (pOp bz (pOp bIx (ah 0) (av 0)) (pOp bIx (ah 1) (av 1))) (pOp bz (pOp bIx (ah 1) (av 0)) (pOp bIx (ah 0) (av 1)))))
noncomputable def bo : PFn := fnP [false, false] 2 iW
theorem rK : bo.ms = [false, false] := rfl
theorem o1 (T : Txt K mg a_NoFraction a_NoBox a_NoWeights a_TooMany) (D : Def K mg "is_less" iQ)  : Callee P w K mg base "is_less" (0 + 1) ["one", "other"] (spD K mg 2 bo.F) := by
 unfold bo iW
 exact okP D sd (fun _ _ _ _ _ _ => ar2 fun _ _ => rfl) fun f cdv A outer s H E hr =>
  (az (aJ (eE hX iz (ay ba bc (aQ (ixK (K := K) rfl) aP (af 0) aj (fun _ _ => rfl)) (aQ (ixK (K := K) rfl) aP (af 1) aj (fun _ _ => rfl))) (ay ba bc (aQ (ixK (K := K) rfl) aP (af 1) aj (fun _ _ => rfl)) (aQ (ixK (K := K) rfl) aP (af 0) aj (fun _ _ => rfl))) (aZ _))))
noncomputable def fy : PSt :=
 (aF (dJ (aB cT (ag (ah 1) ao)) (gtX (gtT 4 (aC (gtN 2) (aC (gtN 3) (aC (gtN 4) (aC (gtN 5) bS)))))))
  (aF (dJ (aB cT (ag (ah 0) ao)) (gtX (gtT 4 (aC (gtN 6) (aC (gtN 7) (aC (gtN 8) (aC (gtN 9) bS)))))))
  (aF (xIf (qO (qOf (aB bo (ag (ah 2) (ag (ah 6) ao)))) (qOf (aB bo (ag (ah 7) (ag (ah 3) ao))))) (aW (pBl false)) xNx)
  (aW (eN (nV (aB bo (ag (ah 4) (ag (ah 8) ao)))) (nV (aB bo (ag (ah 9) (ag (ah 5) ao)))))))))
noncomputable def b9 : PFn := fnP [false, false] 10 fy
theorem lQ : b9.ms = [false, false] := rfl
theorem kr (T : Txt K mg a_NoFraction a_NoBox a_NoWeights a_TooMany) (D : Def K mg "lies_within" fk) (c_walls : Callee P w K mg base "walls" 4 ["box"] (spD K mg 1 cT.F)) (c_is_less : Callee P w K mg base "is_less" 1 ["one", "other"] (spD K mg 2 bo.F)) : Callee P w K mg base "lies_within" (4 + 1) ["room", "box"] (spD K mg 2 b9.F) := by
 unfold b9 fy
 exact okP D br (fun _ _ _ _ _ _ => ar2 fun _ _ => rfl) fun f cdv A outer s H E hr =>
  (aq (cW (au c_walls (hr.mono (by omega)) rfl (ak aD) (aa (af 1) ai)) (ZG.weak (bW rfl rfl (ax (aw (i := 2) br.nd rfl (by first | exact Or.inl rfl | exact Or.inr rfl)) (ax (aw (i := 3) br.nd rfl (by first | exact Or.inl rfl | exact Or.inr rfl)) (ax (aw (i := 4) br.nd rfl (by first | exact Or.inl rfl | exact Or.inr rfl)) (ax (aw (i := 5) br.nd rfl (by first | exact Or.inl rfl | exact Or.inr rfl)) bF)))))))
   (aq (cW (au c_walls (hr.mono (by omega)) rfl (ak aD) (aa (af 0) ai)) (ZG.weak (bW rfl rfl (ax (aw (i := 6) br.nd rfl (by first | exact Or.inl rfl | exact Or.inr rfl)) (ax (aw (i := 7) br.nd rfl (by first | exact Or.inl rfl | exact Or.inr rfl)) (ax (aw (i := 8) br.nd rfl (by first | exact Or.inl rfl | exact Or.inr rfl)) (ax (aw (i := 9) br.nd rfl (by first | exact Or.inl rfl | exact Or.inr rfl)) bF)))))))
   (aq (bw (ZW.dt (jv (cq (au c_is_less (hr.mono (by omega)) rfl (ak aD) (aa (af 2) (aa (af 6) ai)))) (gL (cq (au c_is_less (hr.mono (by omega)) rfl (ak aD) (aa (af 7) (aa (af 3) ai))))))) (az (aJ fC)) aT)
   (az (aJ (fg (oC (au c_is_less (hr.mono (by omega)) rfl (ak aD) (aa (af 4) (aa (af 8) ai)))) (eZ (oC (au c_is_less (hr.mono (by omega)) rfl (ak aD) (aa (af 9) (aa (af 5) ai)))))))))))
noncomputable def cD : PSt :=
 (aF (dJ (ah 0) (gtX (gtT 4 (aC (gtN 2) (aC (gtN 3) (aC (gtN 4) (aC (gtN 5) bS)))))))
  (aF (dJ (ah 1) (gtX (gtT 4 (aC (gtN 6) (aC (gtN 7) (aC (gtN 8) (aC (gtN 9) bS)))))))
  (aF (xIf (qO (qNo (qOf (aB bo (ag (ah 2) (ag (ah 7) ao))))) (qNo (qOf (aB bo (ag (ah 6) (ag (ah 3) ao)))))) (aW (pBl false)) xNx)
  (aW (eN (aB bo (ag (ah 4) (ag (ah 9) ao))) (aB bo (ag (ah 8) (ag (ah 5) ao))))))))
noncomputable def aS : PFn := fnP [false, false] 10 cD
theorem fX : aS.ms = [false, false] := rfl
theorem fE (T : Txt K mg a_NoFraction a_NoBox a_NoWeights a_TooMany) (D : Def K mg "share_more_than_walls" cE) (c_is_less : Callee P w K mg base "is_less" 1 ["one", "other"] (spD K mg 2 bo.F)) : Callee P w K mg base "share_more_than_walls" (1 + 1) ["one", "other"] (spD K mg 2 aS.F) := by
 unfold aS cD
 exact okP D aH (fun _ _ _ _ _ _ => ar2 fun _ _ => rfl) fun f cdv A outer s H E hr =>
  (aq (cW (af 0) (ZG.weak (bW rfl rfl (ax (aw (i := 2) aH.nd rfl (by first | exact Or.inl rfl | exact Or.inr rfl)) (ax (aw (i := 3) aH.nd rfl (by first | exact Or.inl rfl | exact Or.inr rfl)) (ax (aw (i := 4) aH.nd rfl (by first | exact Or.inl rfl | exact Or.inr rfl)) (ax (aw (i := 5) aH.nd rfl (by first | exact Or.inl rfl | exact Or.inr rfl)) bF)))))))
   (aq (cW (af 1) (ZG.weak (bW rfl rfl (ax (aw (i := 6) aH.nd rfl (by first | exact Or.inl rfl | exact Or.inr rfl)) (ax (aw (i := 7) aH.nd rfl (by first | exact Or.inl rfl | exact Or.inr rfl)) (ax (aw (i := 8) aH.nd rfl (by first | exact Or.inl rfl | exact Or.inr rfl)) (ax (aw (i := 9) aH.nd rfl (by first | exact Or.inl rfl | exact Or.inr rfl)) bF)))))))
   (aq (bw (ZW.dt (jv (cX (cq (au c_is_less (hr.mono (by omega)) rfl (ak aD) (aa (af 2) (aa (af 7) ai))))) (gL (cX (cq (au c_is_less (hr.mono (by omega)) rfl (ak aD) (aa (af 6) (aa (af 3) ai)))))))) (az (aJ fC)) aT)
   (az (aJ (fg (au c_is_less (hr.mono (by omega)) rfl (ak aD) (aa (af 4) (aa (af 9) ai))) (eZ (au c_is_less (hr.mono (by omega)) rfl (ak aD) (aa (af 8) (aa (af 5) ai))))))))))
noncomputable def dg : PSt :=
 (xIf (qOf (aB aS (ag (pOp bIx (ah 1) (ah 4)) (ag (ah 3) ao)))) (aW (a9 (ag (fu "over") (ag (ah 4) (ag (ah 2) ao))))) xNx)
noncomputable def dn : PSt :=
 (eM (jG (ag (ah 2) ao)) (gtN 4) (dg))
noncomputable def fJ : PSt :=
 (aF (bE false 1 (pLC (eB (ah 0)) [none] (by decide) (gtN 0) qY (aB cT (ag (ah 0) ao))))
  (aF (eM (jD (ag (ah 1) ao)) (gtX (gtT 2 (aC (gtN 2) (aC (gtN 3) bS)))) (dn))
  (aW oV)))
noncomputable def cB : PFn := fnP [false] 5 fJ
theorem mE : cB.ms = [false] := rfl
theorem lT (T : Txt K mg a_NoFraction a_NoBox a_NoWeights a_TooMany) (D : Def K mg "first_over" er) (c_walls : Callee P w K mg base "walls" 4 ["box"] (spD K mg 1 cT.F)) (c_share_more_than_walls : Callee P w K mg base "share_more_than_walls" 2 ["one", "other"] (spD K mg 2 aS.F)) : Callee P w K mg base "first_over" (4 + 1) ["boxes"] (spD K mg 1 cB.F) := by
 unfold cB fJ dn dg
 exact okP D dm (fun _ _ _ _ _ _ => ar1 fun _ => rfl) fun f cdv A outer s H E hr =>
  (aq (xj (iT := 1) ["boxes", "drawn", "at", "later", "ahead"] (aA er).names ["box"] [none] rfl dm.nd rfl (by first | exact Or.inl rfl | exact Or.inr rfl) (fc rfl (af 0)) (fun _ _ _ _ _ => (aw (i := 0) (show List.Nodup (["box"] : List Str) from by decide +kernel) rfl (by first | exact Or.inl rfl | exact Or.inr rfl))) (fun _ _ _ _ _ => (au c_walls (hr.mono (by omega)) rfl fZ (aa (af 0) ai))))
   (aq (dS fL rfl (jA rfl rfl T.n_enumerate (aa (af 1) ai)) (ZG.weak (bW rfl rfl (ax (aw (i := 2) dm.nd rfl (by first | exact Or.inl rfl | exact Or.inr rfl)) (ax (aw (i := 3) dm.nd rfl (by first | exact Or.inl rfl | exact Or.inr rfl)) bF)))) (az (dS fL rfl (gn rfl T.n_range (aa (af 2) ai)) (aw (i := 4) dm.nd rfl (by first | exact Or.inl rfl | exact Or.inr rfl)) (az (bw (cq (au c_share_more_than_walls (hr.mono (by omega)) rfl (ak aD) (aa (aQ (ixK (K := K) rfl) aP (af 1) (af 4) (fun _ _ => rfl)) (aa (af 3) ai)))) (az (aJ (aM (aa dW (aa (af 4) (aa (af 2) ai)))))) aT)))))
   (az (aJ mU))))
noncomputable def iG : PSt :=
 (xIf (qNo (qOf (aB de (ag (ah 4) ao)))) (aW (a9 (ag (fu "box") (ag (ah 3) ao)))) xNx)
noncomputable def ik : PSt :=
 (xIf (qOf (pOp bNe (aB fb (ag (ah 4) ao)) (aB dG (ag (aB fb (ag (ah 0) ao)) (ag (aB bK (ag (pOp bIx (ah 1) (ah 3)) (ag (pFn rB (ag (ah 1) ao)) ao))) ao))))) (aW (a9 (ag (fu "area") (ag (ah 3) ao)))) xNx)
noncomputable def iw : PSt :=
 (xIf (qNo (qOf (aB b9 (ag (ah 0) (ag (ah 4) ao))))) (aW (a9 (ag (fu "out") (ag (ah 3) ao)))) xNx)
noncomputable def kP : PSt :=
 (aF (ki (aB bH (ag (ah 0) ao)))
  (aF (ki (aB bx (ag (ah 1) ao)))
  (aF (xIf (qOf (pOp bNe (pFn dF (ag (ah 2) ao)) (pFn dF (ag (ah 1) ao)))) (aW (a9 (ag (fu "count") ao))) xNx)
  (aF (eM (jD (ag (ah 2) ao)) (gtX (gtT 2 (aC (gtN 3) (aC (gtN 4) bS)))) (iG))
  (aF (eM (jD (ag (ah 2) ao)) (gtX (gtT 2 (aC (gtN 3) (aC (gtN 4) bS)))) (ik))
  (aF (eM (jD (ag (ah 2) ao)) (gtX (gtT 2 (aC (gtN 3) (aC (gtN 4) bS)))) (iw))
  (aW (aB cB (ag (ah 2) ao)))))))))
noncomputable def d9 : PFn := fnP [false, false, false] 5 kP
theorem u7 : d9.ms = [false, false, false] := rfl
theorem sW (T : Txt K mg a_NoFraction a_NoBox a_NoWeights a_TooMany) (D : Def K mg "fault" lZ) (c_check_box : Callee P w K mg base "check_box" 4 ["thing"] (spD K mg 1 bH.F)) (c_check_weights : Callee P w K mg base "check_weights" 3 ["thing"] (spD K mg 1 bx.F)) (c_is_box : Callee P w K mg base "is_box" 3 ["thing"] (spD K mg 1 de.F)) (c_area : Callee P w K mg base "area" 5 ["box"] (spD K mg 1 fb.F)) (c_times : Callee P w K mg base "times" 3 ["one", "other"] (spD K mg 2 dG.F)) (c_fraction : Callee P w K mg base "fraction" 2 ["top", "bottom"] (spD K mg 2 bK.F)) (c_lies_within : Callee P w K mg base "lies_within" 5 ["room", "box"] (spD K mg 2 b9.F)) (c_first_over : Callee P w K mg base "first_over" 5 ["boxes"] (spD K mg 1 cB.F)) : Callee P w K mg base "fault" (5 + 1) ["room", "weights", "boxes"] (spD K mg 3 d9.F) := by
 unfold d9 kP iw ik iG
 exact okP D d6 (fun _ _ _ _ _ _ => ar3 fun _ _ _ => rfl) fun f cdv A outer s H E hr =>
  (aq (lj (au c_check_box (hr.mono (by omega)) rfl (ak aD) (aa (af 0) ai)))
   (aq (lj (au c_check_weights (hr.mono (by omega)) rfl (ak aD) (aa (af 1) ai)))
   (aq (bw (bX (mV (K := K) rfl hr.units) kf (aR (eA (K := K) rfl) dE rfl T.n_len dC (aa (af 2) ai)) (aR (eA (K := K) rfl) dE rfl T.n_len dC (aa (af 1) ai)) (aZ _)) (az (aJ (aM (aa dW ai)))) aT)
   (aq (dS fL rfl (jA rfl rfl T.n_enumerate (aa (af 2) ai)) (ZG.weak (bW rfl rfl (ax (aw (i := 3) d6.nd rfl (by first | exact Or.inl rfl | exact Or.inr rfl)) (ax (aw (i := 4) d6.nd rfl (by first | exact Or.inl rfl | exact Or.inr rfl)) bF)))) (az (bw (cX (cq (au c_is_box (hr.mono (by omega)) rfl (ak aD) (aa (af 4) ai)))) (az (aJ (aM (aa dW (aa (af 3) ai))))) aT)))
   (aq (dS fL rfl (jA rfl rfl T.n_enumerate (aa (af 2) ai)) (ZG.weak (bW rfl rfl (ax (aw (i := 3) d6.nd rfl (by first | exact Or.inl rfl | exact Or.inr rfl)) (ax (aw (i := 4) d6.nd rfl (by first | exact Or.inl rfl | exact Or.inr rfl)) bF)))) (az (bw (bX (mV (K := K) rfl hr.units) kf (au c_area (hr.mono (by omega)) rfl (ak aD) (aa (af 4) ai)) (au c_times (hr.mono (by omega)) rfl (ak aD) (aa (au c_area (hr.mono (by omega)) rfl (ak aD) (aa (af 0) ai)) (aa (au c_fraction (hr.mono (by omega)) rfl (ak aD) (aa (aQ (ixK (K := K) rfl) aP (af 1) (af 3) (fun _ _ => rfl)) (aa (aR (uc (K := K) rfl rfl) Bq rfl T.n_sum zL (aa (af 1) ai)) ai))) ai))) (aZ _)) (az (aJ (aM (aa dW (aa (af 3) ai))))) aT)))
   (aq (dS fL rfl (jA rfl rfl T.n_enumerate (aa (af 2) ai)) (ZG.weak (bW rfl rfl (ax (aw (i := 3) d6.nd rfl (by first | exact Or.inl rfl | exact Or.inr rfl)) (ax (aw (i := 4) d6.nd rfl (by first | exact Or.inl rfl | exact Or.inr rfl)) bF)))) (az (bw (cX (cq (au c_lies_within (hr.mono (by omega)) rfl (ak aD) (aa (af 0) (aa (af 4) ai))))) (az (aJ (aM (aa dW (aa (af 3) ai))))) aT)))
   (az (aJ (au c_first_over (hr.mono (by omega)) rfl (ak aD) (aa (af 2) ai))))))))))
noncomputable def iZ : PSt :=
 (aF (dJ (ah 0) (gtX (gtT 4 (aC (gtN 1) (aC (gtN 2) (aC (gtN 3) (aC (gtN 4) bS)))))))
  (aW (a9 (ag (a9 (ag (ah 1) (ag (av 1) ao))) (ag (a9 (ag (ah 2) (ag (av 1) ao))) (ag (a9 (ag (pOp bT (ah 3) (ah 1)) (ag (av 1) ao))) (ag (a9 (ag (pOp bT (ah 4) (ah 2)) (ag (av 1) ao))) ao)))))))
noncomputable def bL : PFn := fnP [false] 5 iZ
theorem qJ : bL.ms = [false] := rfl
theorem ph (T : Txt K mg a_NoFraction a_NoBox a_NoWeights a_TooMany) (D : Def K mg "_law_box" jn)  : Callee P w K mg base "_law_box" (0 + 1) ["_law_ends"] (spD K mg 1 bL.F) := by
 unfold bL iZ
 exact okP D ek (fun _ _ _ _ _ _ => ar1 fun _ => rfl) fun f cdv A outer s H E hr =>
  (aq (cW (af 0) (ZG.weak (bW rfl rfl (ax (aw (i := 1) ek.nd rfl (by first | exact Or.inl rfl | exact Or.inr rfl)) (ax (aw (i := 2) ek.nd rfl (by first | exact Or.inl rfl | exact Or.inr rfl)) (ax (aw (i := 3) ek.nd rfl (by first | exact Or.inl rfl | exact Or.inr rfl)) (ax (aw (i := 4) ek.nd rfl (by first | exact Or.inl rfl | exact Or.inr rfl)) bF)))))))
   (az (aJ (aM (aa (aM (aa (af 1) (aa aj ai))) (aa (aM (aa (af 2) (aa aj ai))) (aa (aM (aa (ay bA bB (af 3) (af 1)) (aa aj ai))) (aa (aM (aa (ay bA bB (af 4) (af 2)) (aa aj ai))) ai))))))))
noncomputable def iu : PSt :=
 (aF (bE false 2 (aB aE (ag (ah 0) (ag (pFn dF (ag (ah 1) ao)) ao))))
  (aF (dJ (pOp bIx (ah 1) (ah 2)) (gtX (gtT 4 (aC (gtN 3) (aC (gtN 4) (aC (gtN 5) (aC (gtN 6) bS)))))))
  (aF (bE true 7 (pFn om (ag (ah 1) ao)))
  (aF (jr 7 seL (ah 2) (pOp bIx (fq (ag (a9 (ag (pOp bp (ah 3) (av 1)) (ag (ah 4) (ag (pOp bp (ah 5) (av 1)) (ag (ah 6) ao))))) (ag (a9 (ag (ah 3) (ag (pOp bT (ah 4) (av 1)) (ag (ah 5) (ag (pOp bT (ah 6) (av 1)) ao))))) (ag (a9 (ag (ah 3) (ag (ah 4) (ag (ah 5) (ag (ah 6) ao))))) (ag (a9 (ag (ah 4) (ag (ah 3) (ag (ah 6) (ag (ah 5) ao))))) ao))))) (aB aE (ag (ah 0) (ag (av 4) ao)))))
  (aW (ah 7))))))
noncomputable def cJ : PFn := fnP [true, false] 8 iu
theorem o3 : cJ.ms = [true, false] := rfl
theorem nr (T : Txt K mg a_NoFraction a_NoBox a_NoWeights a_TooMany) (D : Def K mg "_law_bent" iC) (c_law_next : Callee P w K mg base "_law_next" 1 ["_law_feed_here", "_law_many"] (spD K mg 2 aE.F)) : Callee P w K mg base "_law_bent" (1 + 1) ["_law_feed_here", "_law_boxes"] (spD K mg 2 cJ.F) := by
 unfold cJ iu
 exact okP D cM (fun _ _ _ _ _ _ => ar2 fun _ _ => rfl) fun f cdv A outer s H E hr =>
  (aq (aX (i := 2) cM.nd rfl (by first | exact Or.inl rfl | exact Or.inr rfl) (au c_law_next (hr.mono (by omega)) rfl (ak aD) (aa (af 0) (aa (aR (eA (K := K) rfl) dE rfl T.n_len dC (aa (af 1) ai)) ai))))
   (aq (cW (aQ (ixK (K := K) rfl) aP (af 1) (af 2) (fun _ _ => rfl)) (ZG.weak (bW rfl rfl (ax (aw (i := 3) cM.nd rfl (by first | exact Or.inl rfl | exact Or.inr rfl)) (ax (aw (i := 4) cM.nd rfl (by first | exact Or.inl rfl | exact Or.inr rfl)) (ax (aw (i := 5) cM.nd rfl (by first | exact Or.inl rfl | exact Or.inr rfl)) (ax (aw (i := 6) cM.nd rfl (by first | exact Or.inl rfl | exact Or.inr rfl)) bF)))))))
   (aq (aX (i := 7) cM.nd rfl (by first | exact Or.inl rfl | exact Or.inr rfl) (l8 (Ao (K := K) rfl) yy rfl T.n_list pC (aa (af 1) ai)))
   (aq (lN (aQ (ixK (K := K) rfl) aP (eF (aa (aM (aa (ay (aO (K := K) rfl) aN (af 3) aj) (aa (af 4) (aa (ay (aO (K := K) rfl) aN (af 5) aj) (aa (af 6) ai))))) (aa (aM (aa (af 3) (aa (ay bA bB (af 4) aj) (aa (af 5) (aa (ay bA bB (af 6) aj) ai))))) (aa (aM (aa (af 3) (aa (af 4) (aa (af 5) (aa (af 6) ai))))) (aa (aM (aa (af 4) (aa (af 3) (aa (af 6) (aa (af 5) ai))))) ai))))) (au c_law_next (hr.mono (by omega)) rfl (ak aD) (aa (af 0) (aa aj ai))) (fun _ _ => rfl)) (af 7) (af 2) j0 kX)
   (az (aJ (af 7)))))))
noncomputable def dk : PSt :=
 (xIf (qAn (qAn (qOf (pOp bLe (pOp bz (av 2) (ah 5)) (ah 1))) (qOf (pOp bLe (ah 1) (pOp bz (av 2) (ah 7))))) (qAn (qOf (pOp bLe (pOp bz (av 2) (ah 6)) (ah 2))) (qOf (pOp bLe (ah 2) (pOp bz (av 2) (ah 8)))))) (aF (bE false 3 (pOp bp (ah 3) (av 1)))
  (bE false 4 (pOp bp (ah 4) (pFn qC (ag (eN (eN (pOp bLt (pOp bz (av 2) (ah 5)) (ah 1)) (pOp bLt (ah 1) (pOp bz (av 2) (ah 7)))) (eN (pOp bLt (pOp bz (av 2) (ah 6)) (ah 2)) (pOp bLt (ah 2) (pOp bz (av 2) (ah 8))))) ao))))) xNx)
noncomputable def fQ : PSt :=
 (aF (dJ (a9 (ag (av 0) (ag (av 0) ao))) (gtX (gtT 2 (aC (gtN 3) (aC (gtN 4) bS)))))
  (aF (eM (eB (ah 0)) (gtX (gtT 4 (aC (gtN 5) (aC (gtN 6) (aC (gtN 7) (aC (gtN 8) bS)))))) (dk))
  (aW (eN (pOp bGt (ah 3) (av 0)) (pOp bLt (ah 4) (av 2))))))
noncomputable def bU : PFn := fnP [false, false, false] 9 fQ
theorem mx : bU.ms = [false, false, false] := rfl
theorem lM (T : Txt K mg a_NoFraction a_NoBox a_NoWeights a_TooMany) (D : Def K mg "_law_in_one" fK)  : Callee P w K mg base "_law_in_one" (0 + 1) ["_law_boxes", "_law_x", "_law_y"] (spD K mg 3 bU.F) := by
 unfold bU fQ dk
 exact okP D bD (fun _ _ _ _ _ _ => ar3 fun _ _ _ => rfl) fun f cdv A outer s H E hr =>
  (aq (cW (aM (aa aj (aa aj ai))) (ZG.weak (bW rfl rfl (ax (aw (i := 3) bD.nd rfl (by first | exact Or.inl rfl | exact Or.inr rfl)) (ax (aw (i := 4) bD.nd rfl (by first | exact Or.inl rfl | exact Or.inr rfl)) bF)))))
   (aq (dS fL rfl (fc rfl (af 0)) (ZG.weak (bW rfl rfl (ax (aw (i := 5) bD.nd rfl (by first | exact Or.inl rfl | exact Or.inr rfl)) (ax (aw (i := 6) bD.nd rfl (by first | exact Or.inl rfl | exact Or.inr rfl)) (ax (aw (i := 7) bD.nd rfl (by first | exact Or.inl rfl | exact Or.inr rfl)) (ax (aw (i := 8) bD.nd rfl (by first | exact Or.inl rfl | exact Or.inr rfl)) bF)))))) (az (bw (ZW.dt (tf (nI 1 mO mK mO mK (ay ba bc aj (af 5)) (ay ba bc aj (af 7))) (pD (nI 2 mO mK mO mK (ay ba bc aj (af 6)) (ay ba bc aj (af 8)))))) (aq (aX (i := 3) bD.nd rfl (by first | exact Or.inl rfl | exact Or.inr rfl) (ay (aO (K := K) rfl) aN (af 3) aj))
   (az (aX (i := 4) bD.nd rfl (by first | exact Or.inl rfl | exact Or.inr rfl) (ay (aO (K := K) rfl) aN (af 4) (l8 sU A4 rfl T.n_int tW (aa (fg (m5 1 hX iz hX iz (ay ba bc aj (af 5)) (ay ba bc aj (af 7))) (eZ (m5 2 hX iz hX iz (ay ba bc aj (af 6)) (ay ba bc aj (af 8))))) ai)))))) aT)))
   (az (aJ (fg (eE jC ju (af 3) aj (aZ _)) (eZ (eE hX iz (af 4) aj (aZ _))))))))
noncomputable def jo : PSt :=
 (aF (bE false 11 (pOp bp (pOp bz (av 2) (pOp bIx (ah 5) (av 0))) (aB aE (ag (ah 2) (ag (pOp bp (pOp bz (av 2) (ah 3)) (av 1)) ao)))))
  (aF (bE false 12 (pOp bp (pOp bz (av 2) (pOp bIx (ah 5) (av 1))) (aB aE (ag (ah 2) (ag (pOp bp (pOp bz (av 2) (ah 4)) (av 1)) ao)))))
  (xIf (qNo (qOf (aB bU (ag (ah 9) (ag (ah 11) (ag (ah 12) ao)))))) (aW (pBl false)) xNx)))
noncomputable def ji : PSt :=
 (xIf (qOf (pOp bIs (aB d9 (ag (aB bL (ag (ah 5) ao)) (ag (ah 8) (ag (pLC (eB (ah 9)) [none] (by decide) (gtN 0) qY (aB bL (ag (ah 0) ao))) ao)))) oV)) (eM (jG (ag (av 20) ao)) (gtN 10) (jo)) xNx)
noncomputable def iX : PSt :=
 (aF (bE true 2 (aB c9 (ag (ah 0) (ag (ah 1) ao))))
  (aF (oW 3 4 (ag (pOp bp (av 3) (aB aE (ag (ah 2) (ag (av 20) ao)))) (ag (pOp bp (av 3) (aB aE (ag (ah 2) (ag (av 20) ao)))) ao)))
  (aF (bE false 5 (a9 (ag (aB aE (ag (ah 2) (ag (av 9) ao))) (ag (pOp bT (av 0) (aB aE (ag (ah 2) (ag (av 9) ao)))) (ag (av 0) (ag (av 0) ao))))))
  (aF (bE false 5 (pOp bp (pSl (ah 5) oN (oS (av 2))) (a9 (ag (pOp bp (pOp bIx (ah 5) (av 0)) (ah 3)) (ag (pOp bp (pOp bIx (ah 5) (av 1)) (ah 4)) ao)))))
  (aF (bE false 6 (pOp bEq (aB aE (ag (ah 2) (ag (av 3) ao))) (av 0)))
  (aF (bE false 7 (pIf (qTr (ah 6)) (aB cQ (ag (ah 2) (ag (ah 5) ao))) (aB dD (ag (ah 2) (ag (ah 5) (ag (aB aE (ag (ah 2) (ag (av 10) ao))) ao))))))
  (aF (bE false 8 (pLC (eB (ah 7)) [none, none, none, none] (by decide) (gtT 4 (aC (gtN 0) (aC (gtN 1) (aC (gtN 2) (aC (gtN 3) bS))))) qY (pOp bz (pOp bT (ah 2) (ah 0)) (pOp bT (ah 3) (ah 1)))))
  (aF (xIf (qOf (pOp vG (aB d9 (ag (aB bL (ag (ah 5) ao)) (ag (ah 8) (ag (pLC (eB (ah 7)) [none] (by decide) (gtN 0) qY (aB bL (ag (ah 0) ao))) ao)))) oV)) (aW (pBl false)) xNx)
  (eM (eB (fq (ag (ah 7) (ag (aB cJ (ag (ah 2) (ag (ah 7) ao))) ao)))) (gtN 9) (ji))))))))))
noncomputable def rS : PSt :=
 (aF (eM (jG (ag (pFn nL (ag (av 1) (ag (pFn oM (ag (av 5) (ag (pFn dF (ag (ah 0) ao)) ao))) ao))) ao)) (gtN 1) (iX))
  (aW (pBl true)))
noncomputable def kA : PFn := fnP [false] 13 rS
theorem xZ (T : Txt K mg a_NoFraction a_NoBox a_NoWeights a_TooMany) (D : Def K mg "law" iL) (c_law_feed : Callee P w K mg base "_law_feed" 1 ["_law_script", "_law_k"] (spD K mg 2 c9.F)) (c_law_next : Callee P w K mg base "_law_next" 1 ["_law_feed_here", "_law_many"] (spD K mg 2 aE.F)) (c_law_wound : Callee P w K mg base "_law_wound" 2 ["_law_feed_here", "_law_box_here"] (spD K mg 2 cQ.F)) (c_law_cut : Callee P w K mg base "_law_cut" 2 ["_law_feed_here", "_law_box_here", "_law_many"] (spD K mg 3 dD.F)) (c_fault : Callee P w K mg base "fault" 6 ["room", "weights", "boxes"] (spD K mg 3 d9.F)) (c_law_box : Callee P w K mg base "_law_box" 1 ["_law_ends"] (spD K mg 1 bL.F)) (c_law_bent : Callee P w K mg base "_law_bent" 2 ["_law_feed_here", "_law_boxes"] (spD K mg 2 cJ.F)) (c_law_in_one : Callee P w K mg base "_law_in_one" 1 ["_law_boxes", "_law_x", "_law_y"] (spD K mg 3 bU.F)) : Callee P w K mg base "law" (6 + 1) ["_law_script"] (spD K mg 1 kA.F) := by
 unfold kA rS iX ji jo
 exact okP D cV (fun _ _ _ _ _ _ => ar1 fun _ => rfl) fun f cdv A outer s H E hr =>
  (aq (dS fL rfl (gn rfl T.n_range (aa (aR (tK rfl) zb rfl T.n_max AK (aa aj (aa (aR (sZ rfl) xk rfl T.n_min AA (aa aj (aa (aR (eA (K := K) rfl) dE rfl T.n_len dC (aa (af 0) ai)) ai))) ai))) ai)) (aw (i := 1) cV.nd rfl (by first | exact Or.inl rfl | exact Or.inr rfl)) (aq (aX (i := 2) cV.nd rfl (by first | exact Or.inl rfl | exact Or.inr rfl) (au c_law_feed (hr.mono (by omega)) rfl (ak aD) (aa (af 0) (aa (af 1) ai))))
   (aq (nv (i := 3) (j := 4) rfl cV.nd rfl rfl (by decide) rfl rfl (aa (ay (aO (K := K) rfl) aN aj (au c_law_next (hr.mono (by omega)) rfl (ak aD) (aa (af 2) (aa aj ai)))) (aa (ay (aO (K := K) rfl) aN aj (au c_law_next (hr.mono (by omega)) rfl (ak aD) (aa (af 2) (aa aj ai)))) ai)) rfl)
   (aq (aX (i := 5) cV.nd rfl (by first | exact Or.inl rfl | exact Or.inr rfl) (aM (aa (au c_law_next (hr.mono (by omega)) rfl (ak aD) (aa (af 2) (aa aj ai))) (aa (ay bA bB aj (au c_law_next (hr.mono (by omega)) rfl (ak aD) (aa (af 2) (aa aj ai)))) (aa aj (aa aj ai))))))
   (aq (aX (i := 5) cV.nd rfl (by first | exact Or.inl rfl | exact Or.inr rfl) (ay (aO (K := K) rfl) aN (wj rfl (af 5) yb (yr aj)) (aM (aa (ay (aO (K := K) rfl) aN (aQ (ixK (K := K) rfl) aP (af 5) aj (fun _ _ => rfl)) (af 3)) (aa (ay (aO (K := K) rfl) aN (aQ (ixK (K := K) rfl) aP (af 5) aj (fun _ _ => rfl)) (af 4)) ai)))))
   (aq (aX (i := 6) cV.nd rfl (by first | exact Or.inl rfl | exact Or.inr rfl) (eE (jZ (K := K) rfl hr.units) iI (au c_law_next (hr.mono (by omega)) rfl (ak aD) (aa (af 2) (aa aj ai))) aj (aZ _)))
   (aq (aX (i := 7) cV.nd rfl (by first | exact Or.inl rfl | exact Or.inr rfl) (DU (uN rfl (af 6)) (au c_law_wound (hr.mono (by omega)) rfl (ak aD) (aa (af 2) (aa (af 5) ai))) (au c_law_cut (hr.mono (by omega)) rfl (ak aD) (aa (af 2) (aa (af 5) (aa (au c_law_next (hr.mono (by omega)) rfl (ak aD) (aa (af 2) (aa aj ai))) ai))))))
   (aq (xj (iT := 8) ["_law_script", "_law_k", "_law_feed_here", "_law_wide", "_law_high", "_law_whole", "_law_wound_here", "_law_boxes", "_law_weights", "_law_some", "_law_again", "_law_x", "_law_y"] (aA iL).names ["_law_left", "_law_top", "_law_right", "_law_foot"] [none, none, none, none] rfl cV.nd rfl (by first | exact Or.inl rfl | exact Or.inr rfl) (fc rfl (af 7)) (fun _ _ _ _ _ => (bW rfl rfl (ax (aw (i := 0) (show List.Nodup (["_law_left", "_law_top", "_law_right", "_law_foot"] : List Str) from by decide +kernel) rfl (by first | exact Or.inl rfl | exact Or.inr rfl)) (ax (aw (i := 1) (show List.Nodup (["_law_left", "_law_top", "_law_right", "_law_foot"] : List Str) from by decide +kernel) rfl (by first | exact Or.inl rfl | exact Or.inr rfl)) (ax (aw (i := 2) (show List.Nodup (["_law_left", "_law_top", "_law_right", "_law_foot"] : List Str) from by decide +kernel) rfl (by first | exact Or.inl rfl | exact Or.inr rfl)) (ax (aw (i := 3) (show List.Nodup (["_law_left", "_law_top", "_law_right", "_law_foot"] : List Str) from by decide +kernel) rfl (by first | exact Or.inl rfl | exact Or.inr rfl)) bF)))))) (fun _ _ _ _ _ => (ay ba bc (ay bA bB (af 2) (af 0)) (ay bA bB (af 3) (af 1)))))
   (aq (bw (bX yZ zE (au c_fault (hr.mono (by omega)) rfl (ak aD) (aa (au c_law_box (hr.mono (by omega)) rfl (ak aD) (aa (af 5) ai)) (aa (af 8) (aa (mI ["_law_script", "_law_k", "_law_feed_here", "_law_wide", "_law_high", "_law_whole", "_law_wound_here", "_law_boxes", "_law_weights", "_law_some", "_law_again", "_law_x", "_law_y"] (aA iL).names ["_law_ends"] [none] rfl (fc rfl (af 7)) (fun _ _ _ _ _ => (aw (i := 0) (show List.Nodup (["_law_ends"] : List Str) from by decide +kernel) rfl (by first | exact Or.inl rfl | exact Or.inr rfl))) (fun _ _ _ _ _ => (au c_law_box (hr.mono (by omega)) rfl fZ (aa (af 0) ai)))) ai)))) mU (aZ _)) (az (aJ fC)) aT)
   (az (dS fL rfl (fc rfl (eF (aa (af 7) (aa (au c_law_bent (hr.mono (by omega)) rfl (ak aD) (aa (af 2) (aa (af 7) ai))) ai)))) (aw (i := 9) cV.nd rfl (by first | exact Or.inl rfl | exact Or.inr rfl)) (az (bw (bX Ar CL (au c_fault (hr.mono (by omega)) rfl (ak aD) (aa (au c_law_box (hr.mono (by omega)) rfl (ak aD) (aa (af 5) ai)) (aa (af 8) (aa (mI ["_law_script", "_law_k", "_law_feed_here", "_law_wide", "_law_high", "_law_whole", "_law_wound_here", "_law_boxes", "_law_weights", "_law_some", "_law_again", "_law_x", "_law_y"] (aA iL).names ["_law_ends"] [none] rfl (fc rfl (af 9)) (fun _ _ _ _ _ => (aw (i := 0) (show List.Nodup (["_law_ends"] : List Str) from by decide +kernel) rfl (by first | exact Or.inl rfl | exact Or.inr rfl))) (fun _ _ _ _ _ => (au c_law_box (hr.mono (by omega)) rfl fZ (aa (af 0) ai)))) ai)))) mU (aZ _)) (az (dS fL rfl (gn rfl T.n_range (aa aj ai)) (aw (i := 10) cV.nd rfl (by first | exact Or.inl rfl | exact Or.inr rfl)) (aq (aX (i := 11) cV.nd rfl (by first | exact Or.inl rfl | exact Or.inr rfl) (ay (aO (K := K) rfl) aN (ay ba bc aj (aQ (ixK (K := K) rfl) aP (af 5) aj (fun _ _ => rfl))) (au c_law_next (hr.mono (by omega)) rfl (ak aD) (aa (af 2) (aa (ay (aO (K := K) rfl) aN (ay ba bc aj (af 3)) aj) ai)))))
   (aq (aX (i := 12) cV.nd rfl (by first | exact Or.inl rfl | exact Or.inr rfl) (ay (aO (K := K) rfl) aN (ay ba bc aj (aQ (ixK (K := K) rfl) aP (af 5) aj (fun _ _ => rfl))) (au c_law_next (hr.mono (by omega)) rfl (ak aD) (aa (af 2) (aa (ay (aO (K := K) rfl) aN (ay ba bc aj (af 4)) aj) ai)))))
   (az (bw (cX (cq (au c_law_in_one (hr.mono (by omega)) rfl (ak aD) (aa (af 9) (aa (af 11) (aa (af 12) ai)))))) (az (aJ fC)) aT)))))) aT)))))))))))))
   (az (aJ fC)))
end
noncomputable def fdV (a b k : Int) : Val := .lst [.int a, .int b, .int k]
theorem wM : qF.G (.int 10) (.int 18) = .val (.int (10 ^ 18)) := EM ⟨by decide, by decide, by decide⟩
theorem fN {a m : Int} (h : 0 < m) : 0 <= a.fmod m /\ a.fmod m < m := ⟨Int.fmod_nonneg_of_pos a h, Int.fmod_lt_of_pos a h⟩
set_option hygiene false in
local macro_rules | `(tactic| simp! [$args,*]) => `(tactic| simp only [kh, Dz, EF, D4, zh, ky, CU, va, rE, zC, zr, zI, BP, AW, Ay, zZ, yg, vN, zB, A2, yK, Cc, CC, EI, v_bl, Dg, EX, v_ty, v_un, v_op, DV, Bg, v_fn, Ep, Dk, Eg, C3, v_if, c_of, c_tr, c_an, c_o, c_no, x_nx, DY, yG, y0, xS, Bk, wU, qQ, C8, EV, Ez, ye, vK, vI, g_n, g_sn, g_sc, g_t, g_x, B7, EY, CK, xW, EL, DZ, CS, DD, C6, zO, A0, uJ, CW, EU, B1, zq, Bw, zd, Dv, Dm, yU, v_lc, Cq, Ac, zG, o_n, o_s, v_sl, D6, ED, k_lt, k_le, k_gt, k_ge, Dw, k_ix, zA, AS, EN, k_eq, k_ne, EA, k_is, CG, C2, C5, CP, CT, Eb, DH, B9, AY, mj, List.getElem?_cons_zero, List.getElem?_cons_succ, List.set_cons_zero, List.set_cons_succ, List.length_cons, List.length_nil, Option.bind_some, Option.map_some, Option.isSome_some, if_true, if_false, Bool.not_true, Bool.not_false, Bool.and_true, Bool.true_and, Bool.and_false, Bool.false_and, Bool.or_true, Bool.true_or, Bool.or_false, Nat.reduceLeDiff, Nat.reduceAdd, Nat.reduceSub, Nat.zero_add, Nat.add_zero, Nat.sub_self, List.cons_append, List.nil_append, List.append_nil, List.replicate, reduceIte, reduceCtorEq, decide_true, decide_false, Bool.false_eq_true, List.all_cons, List.all_nil, List.isEmpty_nil, List.map_cons, List.map_nil, Int.reduceBEq, Int.reduceAdd, Int.reduceSub, Int.cast_ofNat_Int, Bh, yu, zN, Af, xI, uz, BC, sA, yf, Am, xA, tS, xx, Aa, uw, A6, yj, BQ, uM, BJ, BW, yi, EO, Dn, Dc, Dt, tq, sI, sq, qH, o7, ud, wq, tN, sX, ati0, ati1, ati2, ati3, ixn0, ixn1, D8, cZ, A8, z8, o4, oZ, oA, qP, o9, jK, lK, sD, m8, oG, jN, o8, uO, xH, uV, vm, rK, lQ, fX, mE, u7, qJ, o3, mx, ku, $args,*])
theorem bt {a b k m : Int} (h0 : 0 < m) (hm : Sm 8000 m) : ∃ r a' b', aE.G [fdV a b k, .int m] = .ok (.val (.int r)) [fdV a' b' k] /\ 0 <= r /\ r < m := by
 unfold aE
 rw [b8]
 unfold g8 fdV
 have m0 : m ≠ 0 := by omega
 have d1 := fun i => gY (i := i) m0
 have d2 := fun i => rW (i := i) (CDivB.of m0 hm)
 have ca : ∀ x : Int, CMulA 7919 x := fun x => CMulA.left (by decide) (by decide)
 have cb : ∀ x : Int, CMulA 104729 x := fun x => CMulA.left (by decide) (by decide)
 have cc : ∀ x : Int, CMulA x 48271 := fun x => CMulA.right (by decide) (by decide)
 have e1 : dQ.G (.int a) (.int 1000003) = .val (.int (a.fmod 1000003)) := gY (by decide)
 have e2 : bz.G (.int 7919) (.int k) = .val (.int (7919 * k)) := dB (ca k)
 have e3 := fun x => dB (cb x)
 have e4 := fun x => dB (cc x)
 have e5 : ∀ x : Int, dQ.G (.int x) (.int 2147483647) = .val (.int (x.fmod 2147483647)) := fun x => gY (by decide)
 have e6 : ∀ x : Int, dQ.G (.int x) (.int 65521) = .val (.int (x.fmod 65521)) := fun x => gY (by decide)
 have e7 : ∀ x y : Int, bz.G (.int (x.fmod 2147483647)) (.int y) = .val (.int (x.fmod 2147483647 * y)) := fun x y => dB (CMulA.left (by have := (fN (a := x) (m := 2147483647) (by decide)).1; omega) (by have := (fN (a := x) (m := 2147483647) (by decide)).2; omega))
 have e8 : ∀ x : Int, dQ.G (.int x) (.int 2147483629) = .val (.int (x.fmod 2147483629)) := fun x => gY (by decide)
 by_cases hc : (10 ^ 18 : Int) <= a
 ·have hc' : decide ((10 ^ 18 : Int) <= a) = true := decide_eq_true hc
  refine ⟨a.fmod m, a.fdiv m, b + 1, ?_, fN h0⟩
  simp! [wM, hc', d1, d2]
  done
 ·have hc' : decide ((10 ^ 18 : Int) <= a) = false := decide_eq_false hc
  refine ⟨Int.fmod (Int.fmod (Int.fmod ((Int.fmod a 1000003 + 7919 * k + 104729 * (b + 1)) * 48271) 2147483647 * (Int.fmod (Int.fmod ((Int.fmod a 1000003 + 7919 * k + 104729 * (b + 1)) * 48271) 2147483647) 65521 + (b + 1))) 2147483629) m, a, b + 1, ?_, fN h0⟩
  simp! [wM, hc', d1, e1, e2, e3, e4, e5, e6, e7, e8]
theorem xX (a : Int) : (if a < 0 then -a else a) = ((a.natAbs : Nat) : Int) := by split <;> omega
theorem oT : ∀ (n one other : Nat), other <= n -> (xWh (qOf (pOp bNe (ah 1) (av 0))) cw).G [.sh (.int (one : Nat)), .sh (.int (other : Nat))] = .nx [.sh (.int (Nat.gcd one other : Nat)), .sh (.int 0)]
 |
  n, one, 0, _ => by
  rw [x_wh]
  simp! [kh]
  rw [Nat.gcd_zero_right]
  try rfl
 | 0, one, other + 1, hl => absurd hl (by omega)
 |
  n + 1, one, other + 1, hl => by
  rw [x_wh]
  have e : ((((other + 1 : Nat) : Int) == 0)) = false := by rw [beq_eq_false_iff_ne]; omega
  have e1 : dQ.G (.int (one : Nat)) (.int ((other + 1 : Nat) : Int)) = .val (.int (((one : Nat) : Int).fmod ((other + 1 : Nat) : Int))) := gY (by omega)
  have e2 : ((one : Nat) : Int).fmod ((other + 1 : Nat) : Int) = ((one % (other + 1) : Nat) : Int) := by
   rw [Int.fmod_eq_emod_of_nonneg _ (by omega)]; rfl
  have ih := oT n (other + 1) (one % (other + 1)) (by have := Nat.mod_lt one (show other + 1 > 0 by omega); omega)
  rw [Fr.euc] at ih
  rw [e2] at e1
  have bb : cw.G [.sh (.int (one : Nat)), .sh (.int ((other + 1 : Nat) : Int))] = .nx [.sh (.int ((other + 1 : Nat) : Int)), .sh (.int ((one % (other + 1) : Nat) : Int))] := by
   unfold cw
   simp! [e1]
  simp! [e, bb, ih]
theorem cR (a b : Int) : a8.G [.int a, .int b] = .ok (.val (.int (Int.gcd a b : Nat))) [] := by
 unfold a8
 rw [b8]
 unfold d7
 have := oT b.natAbs a.natAbs b.natAbs (Nat.le_refl _)
 simp! [xX, this]
 rfl
theorem gr {a b : Int} (hb : b ≠ 0) (hs : Sm 8000 b) : bK.G [.int a, .int b] = .ok (.val (fV ((a : Rat) / (b : Rat)))) [] := by
 unfold bK
 rw [b8]
 unfold iA
 have e : (b == 0) = false := by rw [beq_eq_false_iff_ne]; exact hb
 have c : ∀ x, CDivB x (Fr.dv a b) := fun x => CDivB.of (Fr.dv_ne hb) (hs.of_le (by
   rw [Fr.dv_abs]
   exact Nat.le_of_dvd (by omega) (Nat.gcd_dvd_right a.natAbs b.natAbs)))
 have k1 := rW (c a)
 have k2 := rW (c b)
 have hh := mS (a := a) hb
 have fin : Val.tup [.int (a.fdiv (Fr.dv a b)), .int (b.fdiv (Fr.dv a b))] = fV ((a : Rat) / (b : Rat)) := by
  unfold fV
  rw [<- hh.1, <- hh.2]
  rfl
 by_cases hn : b < 0
 ·have hd : Fr.dv a b = -((Int.gcd a b : Nat) : Int) := by unfold Fr.dv; rw [if_pos hn]
  rw [hd] at k1 k2 fin
  simp! [e, cR, decide_eq_true hn, k1, k2, fin]
 ·have hd : Fr.dv a b = ((Int.gcd a b : Nat) : Int) := by unfold Fr.dv; rw [if_neg hn]
  rw [hd] at k1 k2 fin
  simp! [e, cR, decide_eq_false hn, k1, k2, fin]
theorem oD {p q : Rat} {n m : Nat} (hp : Sz n p) (hq : Sz m q) (h : n + m <= 8000) : eg.G [fV p, fV q] = .ok (.val (fV (p + q))) [] := by
 have c1 := dB (CMulA.of hp.top hq.bot (by omega) (by omega))
 have c2 := dB (CMulA.of hq.top hp.bot (by omega) (by omega))
 have c3 := dB (CMulA.of hp.bot hq.bot (by omega) (by omega))
 have fe := gr (a := p.num * q.den + q.num * p.den) (b := p.den * q.den) (Int.mul_ne_zero (dh p) (dh q)) ((hp.bot.mul hq.bot).mono h)
 rw [<- pE] at fe
 unfold eg
 rw [b8]
 unfold lB
 rw [show fV p = .tup [.int p.num, .int p.den] from rfl, show fV q = .tup [.int q.num, .int q.den] from rfl]
 simp! [c1, c2, c3, fe]
theorem ny {p q : Rat} {n m : Nat} (hp : Sz n p) (hq : Sz m q) (h : n + m <= 8000) : dG.G [fV p, fV q] = .ok (.val (fV (p * q))) [] := by
 have c1 := dB (CMulA.of hp.top hq.top (by omega) (by omega))
 have c2 := dB (CMulA.of hp.bot hq.bot (by omega) (by omega))
 have fe := gr (a := p.num * q.num) (b := p.den * q.den) (Int.mul_ne_zero (dh p) (dh q)) ((hp.bot.mul hq.bot).mono h)
 rw [<- pM] at fe
 unfold dG
 rw [b8]
 unfold lp
 rw [show fV p = .tup [.int p.num, .int p.den] from rfl, show fV q = .tup [.int q.num, .int q.den] from rfl]
 simp! [c1, c2, fe]
theorem cK {p q : Rat} {n m : Nat} (hp : Sz n p) (hq : Sz m q) (h1 : n <= 100000) (h2 : m <= 100000) : bo.G [fV p, fV q] = .ok (.val (.bl (decide (p < q)))) [] := by
 have c1 := dB (CMulA.of hp.top hq.bot h1 h2)
 have c2 := dB (CMulA.of hq.top hp.bot h2 h1)
 unfold bo
 rw [b8]
 unfold iW
 rw [show fV p = .tup [.int p.num, .int p.den] from rfl, show fV q = .tup [.int q.num, .int q.den] from rfl]
 simp! [c1, c2]
 rw [show decide (p.num * (q.den : Int) < q.num * (p.den : Int)) = decide (p < q) from decide_eq_decide.mpr (Ax p q).symm]
theorem jx {v : Val} (hk : knV v = true) : (gq kits).G [v, .ty "tuple"] = .val (.bl (ez v)) := by
 cases v <;> first | rfl | cases hk
theorem gF {v : Val} (hk : knV v = true) : bQ.G [v] = .ok (.val (.bl (g0 v))) [] := by
 unfold bQ
 rw [b8]
 unfold ig
 cases v <;> first | rfl | cases hk
theorem nj (v : Val) : ez v = false \/ ∃ xs, v = .tup xs := by
 cases v <;> first | exact .inr ⟨_, rfl⟩ | exact .inl rfl
theorem j4 (v : Val) : g0 v = false \/ ∃ i, v = .int i := by
 cases v <;> first | exact .inr ⟨_, rfl⟩ | exact .inl rfl
theorem Dq {v : Val} (h : ez v = false) : aV v = false := by
 cases v <;> first | rfl | cases h
theorem Dp {v : Val} (h : ez v = false) : dI v = false := by
 cases v <;> first | rfl | cases h
theorem Ct {a b : Val} (h : g0 a = false) : aV (.tup [a, b]) = false := by
 cases a <;> first | rfl | cases h
theorem Bu {i : Int} {b : Val} (h : g0 b = false) : aV (.tup [.int i, b]) = false := by
 cases b <;> first | rfl | cases h
theorem Ex {xs : List Val} (hl : xs.length ≠ 2) : aV (.tup xs) = false := by
 unfold aV
 split
 ·rename_i e; injection e with e; subst e; exact absurd rfl hl
 ·rfl
theorem Eh {xs : List Val} (hl : xs.length ≠ 4) : dI (.tup xs) = false := by
 unfold dI
 split
 ·rename_i e; injection e with e; subst e; exact absurd rfl hl
 ·rfl
theorem wC {k : Nat} {v : Val} (ha : fW k v = true) (h : ez v = false) : knV v = true := by
 cases v with
 | tup xs => cases h
 | _ => cases k <;> exact ha
theorem
    kY {v : Val} (ha : fW 1 v = true) : bM.G [v] = .ok (.val (.bl (aV v))) [] := by
 unfold bM
 rw [b8]
 unfold fh
 rcases nj v with ht | ⟨xs, rfl⟩
 ·have it := jx (wC ha ht)
  rw [ht] at it
  simp! [it, Dq ht]
 have it := jx (v := .tup xs) rfl
 by_cases hl : xs.length = 2
 ·match xs, hl, ha with
  |
   [a, b], _, ha =>
   have ha' : (knV a && (knV b && true)) = true := by simpa [fW] using ha
   simp only [Bool.and_eq_true] at ha'
   have w1 := gF ha'.1
   have w2 := gF ha'.2.1
   rcases j4 a with h1 | ⟨i, rfl⟩
   ·rw [h1] at w1
    simp! [it, ez, w1, Ct h1]
   rcases j4 b with h2 | ⟨j, rfl⟩
   ·rw [h2] at w2
    simp! [it, ez, w1, g0, w2, Bu h2]
   have f : aV (.tup [.int i, .int j]) = (decide (1 <= j) && decide (Int.gcd i j = 1)) := rfl
   have g : ((((Int.gcd i j : Nat) : Int) == 1) : Bool) = decide (Int.gcd i j = 1) := by
    rw [Bool.eq_iff_iff, beq_iff_eq, decide_eq_true_eq]; omega
   by_cases hj : 1 <= j
   ·simp! [it, ez, w1, w2, g0, cR, decide_eq_true hj, f, g]
   ·simp! [it, ez, w1, w2, g0, cR, decide_eq_false hj, f, g]
 ·have e : (((xs.length : Nat) : Int) == 2) = false := by rw [beq_eq_false_iff_ne]; omega
  simp! [it, ez, e, Ex hl]
theorem
    jd {v : Val} (ha : fW 2 v = true) : de.G [v] = .ok (.val (.bl (dI v))) [] := by
 unfold de
 rw [b8]
 unfold jX
 rcases nj v with ht | ⟨xs, rfl⟩
 ·have it := jx (wC ha ht)
  rw [ht] at it
  simp! [it, Dp ht]
 have it := jx (v := .tup xs) rfl
 by_cases hl : xs.length = 4
 ·match
     xs, hl, ha with
  |
   [a, b, c, d], _, ha =>
   have e1 : dI (.tup [a, b, c, d]) = (aV a && (aV b && (aV c && (aV d && (iH c && iH d))))) := rfl
   have bl4 : ∀ x y z w : Bool, ja [.bl x, .bl y, .bl z, .bl w] = some [x, y, z, w] := fun _ _ _ _ => rfl
   obtain ⟨e', ⟨s', rfl, _⟩, lc⟩ := k8 (g := (gtN 0).G) (F := (aB bM (ag (ah 0) ao)).G) (f := fun v => .bl (aV v)) (fun e => ∃ s, e = [s] /\ s.pl = true) [a, b, c, d] [] [.no] ⟨.no, rfl, rfl⟩ (by
    rintro v hv e ⟨s, rfl, hs⟩
    have hv' : fW 1 v = true := List.all_eq_true.mp (by simpa [fW] using ha) v hv
    refine ⟨[.sh v], .val (.bl (aV v)), [.sh v], ?_, ?_, rfl, ⟨_, rfl, rfl⟩⟩
    ·simp! [hs]
    ·simp! [kY hv']) (by simp)
   have cy : cY = qY.G := rfl
   rw [cy, List.nil_append] at lc
   simp only [List.map_cons, List.map_nil] at lc
   cases hA : (aV a && (aV b && (aV c && aV d))) with
   |
    true =>
    simp only [Bool.and_eq_true] at hA
    obtain ⟨p, rfl⟩ := tT hA.2.2.1
    obtain ⟨q, rfl⟩ := tT hA.2.2.2
    rw [hA.1, hA.2.1, hA.2.2.1, hA.2.2.2] at e1 lc
    have e2 : dI (.tup [a, b, fV p, fV q]) = (decide (0 < p.num) && decide (0 < q.num)) := by rw [e1]; rfl
    rw [e2]
    have i1 : (fV p).items = some [.int p.num, .int p.den] := rfl
    have i2 : (fV q).items = some [.int q.num, .int q.den] := rfl
    by_cases hp : 0 < p.num
    ·simp! [it, ez, lc, cZ, bl4, id, i1, i2, decide_eq_true hp]
    ·simp! [it, ez, lc, cZ, bl4, id, i1, decide_eq_false hp]
   |
    false =>
    have e2 : dI (.tup [a, b, c, d]) = false := by
     rw [e1]
     revert hA
     generalize aV a = a', aV b = b', aV c = c', aV d = d', (iH c && iH d) = z
     revert a' b' c' d' z
     decide
    rw [e2]
    simp! [it, ez, lc, cZ, bl4, id, hA]
 ·have e : (((xs.length : Nat) : Int) == 4) = false := by rw [beq_eq_false_iff_ne]; omega
  simp! [it, ez, e, Eh hl]
theorem nU {v : Val} (ha : fW 2 v = true) : bH.G [v] = if dI v = true then .ok (.val .non) [] else .exc "NoBox" [] := by
 unfold bH
 rw [b8]
 unfold gx
 cases h : dI v with
 | true => simp! [jd ha, h]
 | false => simp! [jd ha, h]
theorem iY {b : Bx} (hb : b.Ok) : bH.G [bV b] = .ok (.val .non) [] := by rw [nU (tL b), nh hb]; rfl
theorem CV {v : Val} (h : g0 v = false) : f9 v = false := by
 cases v <;> first | rfl | cases h
theorem uZ (v : Val) : la v = false \/ ∃ xs, v = .lst xs := by
 cases v <;> first | exact .inr ⟨_, rfl⟩ | exact .inl rfl
theorem ni {v : Val} (hk : knV v = true) : cz.G [v] = .ok (.val (.bl (f9 v))) [] := by
 have w := gF hk
 unfold cz
 rw [b8]
 unfold gD
 rcases j4 v with h | ⟨i, rfl⟩
 ·rw [h] at w
  simp! [w, CV h]
 ·simp! [w, g0]; rfl
theorem pW {v : Val} (hk : knV v = true) : (gq kits).G [v, .ty "list"] = .val (.bl (la v)) := by
 cases v <;> first | rfl | cases hk
noncomputable def rM (v : Val) : R3F := match v with
 | .lst xs => if xs = [] then .exc "NoWeights" [] else if xs.all f9 = true then (if xs.length <= 40 then .ok (.val .non) [] else .exc "TooMany" []) else .exc "NoWeights" []
 | _ => .exc "NoWeights" []
theorem Aq {v : Val} (h : la v = false) : rM v = .exc "NoWeights" [] := by
 cases v <;> first | rfl | cases h
noncomputable def nH : Val -> Bool
 | .lst xs => decide (xs.length <= 1000) && xs.all knV
 | v => knV v
theorem yM {v : Val} (h : nH v = true) (hl : la v = false) : knV v = true := by cases v <;> first | (cases hl; done) | exact h
theorem iJ (f : Val -> Bool) : ∀ xs : List Val, ja (xs.map fun v => .bl (f v)) = some (xs.map f)
 | [] => rfl
 | x :: xs => by show (ja (xs.map fun v => .bl (f v))).map (f x :: ·) = _; rw [iJ f xs]; rfl
theorem hE (f : Val -> Bool) (xs : List Val) : (xs.map f).all id = xs.all f := by rw [List.all_map]; rfl
theorem
    j9 {v : Val} (ha : nH v = true) : bx.G [v] = rM v := by
 unfold bx
 rw [b8]
 unfold eH
 rcases uZ v with hv | ⟨xs, rfl⟩
 ·have il := pW (yM ha hv)
  rw [hv] at il
  rw [Aq hv]
  simp! [il]
 ·have ha' : xs.length <= 1000 /\ xs.all knV = true := by simpa [nH] using ha
  have il := pW (v := .lst xs) rfl
  unfold rM
  dsimp only
  by_cases h0 : xs = []
  ·subst h0
   simp! [il]
  ·have e0 : (((xs.length : Nat) : Int) == 0) = false := by
    rw [beq_eq_false_iff_ne]
    intro z
    exact h0 (List.length_eq_zero_iff.mp (by omega))
   rw [if_neg h0]
   obtain ⟨e', p', lc⟩ := k8 (g := (gtN 0).G) (F := (aB cz (ag (ah 0) ao)).G) (f := fun v => .bl (f9 v)) (fun e => ∃ s, e = [s] /\ s.pl = true) xs [] [.no] ⟨.no, rfl, rfl⟩ (by
    rintro v hv e ⟨s, rfl, hs⟩
    refine ⟨[.sh v], .val (.bl (f9 v)), [.sh v], ?_, ?_, rfl, ⟨_, rfl, rfl⟩⟩
    ·simp! [hs]
    ·simp! [ni (List.all_eq_true.mp ha'.2 v hv)]) (by simp; omega)
   obtain ⟨s', rfl, _⟩ := p'
   have cy : cY = qY.G := rfl
   rw [cy, List.nil_append] at lc
   have hlen : (xs.map fun v => Val.bl (f9 v)).length <= 16777216 := by rw [List.length_map]; omega
   by_cases hw : xs.all f9 = true
   ·rw [if_pos hw]
    by_cases h40 : xs.length <= 40
    ·have hd : decide ((40 : Int) < ((xs.length : Nat) : Int)) = false := decide_eq_false (by omega)
     rw [if_pos h40]
     simp! [il, e0, cZ, lc, hlen, iJ, hE, hw, hd]
    ·have hd : decide ((40 : Int) < ((xs.length : Nat) : Int)) = true := decide_eq_true (by omega)
     rw [if_neg h40]
     simp! [il, e0, cZ, lc, hlen, iJ, hE, hw, hd]
   ·have hw' : xs.all f9 = false := Bool.eq_false_iff.mpr hw
    rw [if_neg hw]
    simp! [il, e0, cZ, lc, hlen, iJ, hE, hw']
theorem B8 {ws : List Int} (h0 : ws ≠ []) (h1 : ∀ w ∈ ws, 1 <= w) (h2 : ws.length <= 40) : bx.G [.lst (ws.map .int)] = .ok (.val .non) [] := by
 have ha : nH (.lst (ws.map .int)) = true := by
  simp only [nH, Bool.and_eq_true, decide_eq_true_eq, List.length_map]
  exact ⟨by omega, by rw [List.all_eq_true]; intro v hv; obtain ⟨w, _, rfl⟩ := List.mem_map.mp hv; rfl⟩
 rw [j9 ha]
 unfold rM
 dsimp only
 rw [if_neg (by intro z; exact h0 (List.map_eq_nil_iff.mp z)), if_pos (by
  rw [List.all_eq_true]; intro v hv
  obtain ⟨w, hw, rfl⟩ := List.mem_map.mp hv
  exact decide_eq_true (h1 w hw)), if_pos (by rw [List.length_map]; exact h2)]
theorem pv {b : Bx} {n : Nat} (hb : b.Ok) (hs : b.Sz n) (h : n + n <= 8000) : fb.G [bV b] = .ok (.val (fV (b.w * b.h))) [] := by
 have c := iY hb
 have t := ny hs.w hs.h h
 unfold fb
 rw [b8]
 unfold nM
 rw [show bV b = .tup [fV b.l, fV b.t, fV b.w, fV b.h] from rfl] at *
 simp! [c, t]
structure Wl where
 l : Rat
 r : Rat
 t : Rat
 b : Rat
noncomputable def wlV (w : Wl) : Val := .tup [fV w.l, fV w.r, fV w.t, fV w.b]
noncomputable def wlB (b : Bx) : Wl := ⟨b.l, b.l + b.w, b.t, b.t + b.h⟩
structure Wl.Sz (n : Nat) (w : Wl) : Prop where
 l : L2.Sz n w.l
 r : L2.Sz n w.r
 t : L2.Sz n w.t
 b : L2.Sz n w.b
theorem oQ {b : Bx} {n : Nat} (hs : b.Sz n) : (wlB b).Sz (n + n + 1) := ⟨hs.l.mono (by omega), (hs.l.add hs.w).mono (by omega), hs.t.mono (by omega), (hs.t.add hs.h).mono (by omega)⟩
theorem jM {b : Bx} {n : Nat} (hs : b.Sz n) (h : n + n <= 8000) : cT.G [bV b] = .ok (.val (wlV (wlB b))) [] := by
 have a1 := oD hs.l hs.w h
 have a2 := oD hs.t hs.h h
 unfold cT
 rw [b8]
 unfold lx
 rw [show bV b = .tup [fV b.l, fV b.t, fV b.w, fV b.h] from rfl]
 simp! [a1, a2]
 rfl
noncomputable def inB (a b : Wl) : Bool := !decide (b.l < a.l) && !decide (a.r < b.r) && (!decide (b.t < a.t) && !decide (a.b < b.b))
theorem kQ {a b : Bx} {n m : Nat} (ha : a.Sz n) (hb : b.Sz m) (h1 : n + n <= 8000) (h2 : m + m <= 8000) : b9.G [bV a, bV b] = .ok (.val (.bl (inB (wlB a) (wlB b)))) [] := by
 have w1 := jM ha h1
 have w2 := jM hb h2
 have s1 := oQ ha
 have s2 := oQ hb
 generalize wlB a = A at *
 generalize wlB b = B at *
 have l1 := cK s2.l s1.l (by omega) (by omega)
 have l2 := cK s1.r s2.r (by omega) (by omega)
 have l3 := cK s2.t s1.t (by omega) (by omega)
 have l4 := cK s1.b s2.b (by omega) (by omega)
 unfold b9
 rw [b8]
 unfold fy inB
 rw [show wlV A = .tup [fV A.l, fV A.r, fV A.t, fV A.b] from rfl] at w1
 rw [show wlV B = .tup [fV B.l, fV B.r, fV B.t, fV B.b] from rfl] at w2
 by_cases c1 : B.l < A.l <;> by_cases c2 : A.r < B.r <;> by_cases c3 : B.t < A.t <;> (simp only [c1, c2, c3, decide_true, decide_false] at l1 l2 l3; simp! [w1, w2, l1, l2, l3, l4, c1, c2, c3])
noncomputable def ovB (a b : Wl) : Bool := decide (a.l < b.r) && decide (b.l < a.r) && (decide (a.t < b.b) && decide (b.t < a.b))
theorem uB {a b : Wl} {n m : Nat} (ha : a.Sz n) (hb : b.Sz m) (h1 : n <= 100000) (h2 : m <= 100000) : aS.G [wlV a, wlV b] = .ok (.val (.bl (ovB a b))) [] := by
 have l1 := cK ha.l hb.r h1 h2
 have l2 := cK hb.l ha.r h2 h1
 have l3 := cK ha.t hb.b h1 h2
 have l4 := cK hb.t ha.b h2 h1
 unfold aS
 rw [b8]
 unfold cD ovB
 rw [show wlV a = .tup [fV a.l, fV a.r, fV a.t, fV a.b] from rfl, show wlV b = .tup [fV b.l, fV b.r, fV b.t, fV b.b] from rfl]
 by_cases c1 : a.l < b.r <;> by_cases c2 : b.l < a.r <;> by_cases c3 : a.t < b.b <;> (simp only [c1, c2, c3, decide_true, decide_false] at l1 l2 l3; simp! [l1, l2, l3, l4, c1, c2, c3])
noncomputable def ovJ (D : List Wl) (w : Wl) (j : Nat) : Bool := match D[j]? with
 | some u => ovB u w
 | none => false
noncomputable def ovP (D : List Wl) (p : Wl × Nat) : Bool := ((List.range p.2).find? (ovJ D p.1)).isSome
noncomputable def ovR (D : List Wl) (p : Wl × Nat) : Val := .tup [.str "over", .int (((List.range p.2).find? (ovJ D p.1)).getD 0 : Nat), .int (p.2 : Nat)]
noncomputable def jy (bs : List Bx) : Val := match ((bs.map wlB).zipIdx).find? (ovP (bs.map wlB)) with
 | some p => ovR (bs.map wlB) p
 | none => .non
theorem
    yz {bs : List Val} {D : List Wl} {w : Wl} {i : Nat} {m : Nat} (hW : ∀ w ∈ D, w.Sz m) (hw : w ∈ D) (hi : i < D.length) (hm : m <= 100000) {s4 : Sl} (h4 : s4.pl = true) : ∃ s4' : Sl, s4'.pl = true /\ du (gtN 4).G dg.G (rgV i) [.sh (.lst bs), .sh (.lst (D.map wlV)), .sh (.int (i : Nat)), .sh (wlV w), s4] = fdS (fun j : Nat => .val (.tup [.str "over", .int (j : Nat), .int (i : Nat)])) [.sh (.lst bs), .sh (.lst (D.map wlV)), .sh (.int (i : Nat)), .sh (wlV w), s4'] ((List.range i).find? (ovJ D w)) := by
 obtain ⟨e2, ⟨s4', rfl, h4'⟩, fr⟩ := eh (g := (gtN 4).G) (B := dg.G) (fun j : Nat => Val.int (j : Nat)) (ovJ D w) (fun j => .val (.tup [.str "over", .int (j : Nat), .int (i : Nat)])) (fun e => ∃ s4, e = [.sh (.lst bs), .sh (.lst (D.map wlV)), .sh (.int (i : Nat)), .sh (wlV w), s4] /\ s4.pl = true) (List.range i) [.sh (.lst bs), .sh (.lst (D.map wlV)), .sh (.int (i : Nat)), .sh (wlV w), s4] ⟨_, rfl, h4⟩ (by
   rintro j hj e ⟨s4, rfl, h4⟩
   have hj := List.mem_range.mp hj
   have hjl : j < D.length := by omega
   have ej : D[j]? = some D[j] := List.getElem?_eq_getElem hjl
   have at1 : atI (D.map wlV) ((j : Nat) : Int) = some (wlV D[j]) := gi (by omega) (by rw [Int.toNat_natCast, List.getElem?_map, ej]; rfl)
   have sh := uB (hW D[j] (List.getElem_mem hjl)) (hW w hw) hm hm
   have oe : ovJ D w j = ovB D[j] w := by unfold ovJ; rw [ej]
   refine ⟨[.sh (.lst bs), .sh (.lst (D.map wlV)), .sh (.int (i : Nat)), .sh (wlV w), .sh (.int (j : Nat))], [.sh (.lst bs), .sh (.lst (D.map wlV)), .sh (.int (i : Nat)), .sh (wlV w), .sh (.int (j : Nat))], ?_, ⟨_, rfl, rfl⟩, ?_⟩
   ·simp! [h4]
   ·rw [oe]
    unfold dg
    cases hc : ovB D[j] w with
    | true => left; simp! [at1, sh, hc, and_true]
    | false => right; simp! [at1, sh, hc, and_true, or_false, true_or])
 exact ⟨s4', h4', fr⟩
theorem
    uH {bs : List Val} {D : List Wl} {m : Nat} (hW : ∀ w ∈ D, w.Sz m) (hm : m <= 100000) (hl : D.length <= 1000) : ∃ s2 s3 s4 : Sl, du (gtX (gtT 2 (aC (gtN 2) (aC (gtN 3) bS)))).G dn.G (fB 0 (D.map wlV)) [.sh (.lst bs), .sh (.lst (D.map wlV)), .no, .no, .no] = fdS (fun p => .val (ovR D p)) [.sh (.lst bs), .sh (.lst (D.map wlV)), s2, s3, s4] (D.zipIdx.find? (ovP D)) := by
 obtain ⟨e2, ⟨p2, p3, p4, rfl, h2, h3, h4⟩, fr⟩ := eh (g := (gtX (gtT 2 (aC (gtN 2) (aC (gtN 3) bS)))).G) (B := dn.G) (fun p : Wl × Nat => .tup [.int (p.2 : Nat), wlV p.1]) (ovP D) (fun p => .val (ovR D p)) (fun e => ∃ s2 s3 s4, e = [.sh (.lst bs), .sh (.lst (D.map wlV)), s2, s3, s4] /\ s2.pl = true /\ s3.pl = true /\ s4.pl = true) D.zipIdx [.sh (.lst bs), .sh (.lst (D.map wlV)), .no, .no, .no] ⟨_, _, _, rfl, rfl, rfl, rfl⟩ (by
  rintro ⟨w, i⟩ hwi e ⟨s2, s3, s4, rfl, h2, h3, h4⟩
  have hi := List.mem_zipIdx hwi
  obtain ⟨s4', h4', fr⟩ := yz (bs := bs) (i := i) hW (List.fst_mem_of_mem_zipIdx hwi) (by omega) hm h4
  have rg := pZ (k := i) (by omega)
  refine ⟨[.sh (.lst bs), .sh (.lst (D.map wlV)), .sh (.int (i : Nat)), .sh (wlV w), s4], [.sh (.lst bs), .sh (.lst (D.map wlV)), .sh (.int (i : Nat)), .sh (wlV w), s4'], ?_, ⟨_, _, _, rfl, rfl, rfl, h4'⟩, ?_⟩
  ·simp! [h2, h3]
  ·have op : ovP D (w, i) = ((List.range i).find? (ovJ D w)).isSome := rfl
   have or : ovR D (w, i) = .tup [.str "over", .int (((List.range i).find? (ovJ D w)).getD 0 : Nat), .int (i : Nat)] := rfl
   unfold dn
   rw [op, or]
   cases hf : (List.range i).find? (ovJ D w) with
   |
    some j =>
    rw [hf, iy] at fr
    left
    simp! [rg, fr, Option.getD_some, and_true]
   |
    none =>
    rw [hf, fY] at fr
    right
    simp! [rg, fr, Option.isSome_none, and_true, or_false, true_or])
 refine ⟨p2, p3, p4, ?_⟩
 rw [gH wlV D 0, fr]
theorem mD {bs : List Bx} {n : Nat} (hl : bs.length <= 1000) (hs : ∀ b ∈ bs, b.Sz n) (h : n + n <= 8000) : cB.G [.lst (bs.map bV)] = .ok (.val (jy bs)) [] := by
 obtain ⟨e', ⟨s', rfl, hs'⟩, lc⟩ := iN (g := (gtN 0).G) (F := (aB cT (ag (ah 0) ao)).G) bV (fun b => wlV (wlB b)) (fun e => ∃ s, e = [s] /\ s.pl = true) bs [] [.no] ⟨.no, rfl, rfl⟩ (by
  rintro b hb e ⟨s, rfl, hp⟩
  refine ⟨[.sh (bV b)], .val (wlV (wlB b)), [.sh (bV b)], ?_, ?_, rfl, ⟨_, rfl, rfl⟩⟩
  ·simp! [hp]
  ·simp! [jM (hs b hb) h]) (by simp; omega)
 rw [List.nil_append] at lc
 have hW : ∀ w ∈ bs.map wlB, w.Sz (n + n + 1) := by
  intro w hw
  obtain ⟨b, hb, rfl⟩ := List.mem_map.mp hw
  exact oQ (hs b hb)
 have hm : bs.map (fun b => wlV (wlB b)) = (bs.map wlB).map wlV := by rw [List.map_map]; rfl
 have hlen : (bs.map fun b => wlV (wlB b)).length <= 16777216 := by rw [List.length_map]; omega
 rw [hm] at lc hlen
 obtain ⟨s2, s3, s4, fr⟩ := uH (bs := bs.map bV) hW (by omega) (by rw [List.length_map]; exact hl)
 unfold jy
 generalize bs.map wlB = D at *
 unfold cB
 rw [b8]
 unfold fJ
 cases hf : D.zipIdx.find? (ovP D) with
 |
  some p =>
  rw [hf, iy] at fr
  simp! [cZ, lc, hlen, fr]
 |
  none =>
  rw [hf, fY] at fr
  simp! [cZ, lc, hlen, fr]
theorem fD : ∀ {ws : List Int}, (∀ w ∈ ws, 1 <= w) -> (ws.length : Int) <= ws.sum
 | [], _ => by simp
 |
  w :: ws, h => by
  have h1 := h w (List.mem_cons_self ..)
  have h2 := fD (ws := ws) fun u hu => h u (List.mem_cons_of_mem _ hu)
  rw [List.sum_cons, List.length_cons]
  omega
theorem qA {ws : List Int} (h : ∀ w ∈ ws, 1 <= w) (h0 : ws ≠ []) : 1 <= ws.sum := by
 have := fD h
 have : ws.length ≠ 0 := fun z => h0 (List.length_eq_zero_iff.mp z)
 omega
noncomputable def ftE (r w b : Val) (e : E3) : Prop := ∃ s t : Sl, e = [.sh r, .sh w, .sh b, s, t] /\ s.pl = true /\ t.pl = true
theorem zP {r w : Val} {bs : List Val} (ha : ∀ b ∈ bs, fW 2 b = true) {e : E3} (he : ftE r w (.lst bs) e) : ∃ e', ftE r w (.lst bs) e' /\ du (gtX (gtT 2 (aC (gtN 3) (aC (gtN 4) bS)))).G iG.G (fB 0 bs) e = fdS (fun p => .val (.tup [.str "box", .int (p.2 : Nat)])) e' (bs.zipIdx.find? (fun p => !dI p.1)) := by
 rw [xE]
 refine eh (fun p : Val × Nat => .tup [.int (p.2 : Nat), p.1]) _ (fun p => .val (.tup [.str "box", .int (p.2 : Nat)])) (ftE r w (.lst bs)) bs.zipIdx e he ?_
 rintro ⟨v, i⟩ hvi e ⟨s, t, rfl, hs, ht⟩
 have ib := jd (ha v (List.fst_mem_of_mem_zipIdx hvi))
 refine ⟨[.sh r, .sh w, .sh (.lst bs), .sh (.int (i : Nat)), .sh v], [.sh r, .sh w, .sh (.lst bs), .sh (.int (i : Nat)), .sh v], ?_, ⟨_, _, rfl, rfl, rfl⟩, ?_⟩
 ·simp! [hs, ht]
 ·unfold iG
  dsimp only
  cases hc : dI v with
  | true => right; simp! [ib, hc, and_true, or_false, true_or]
  | false => left; simp! [ib, hc, and_true]
noncomputable def arP (rm : Bx) (ws : List Int) (p : Bx × Nat) : Bool := match ws[p.2]? with
 | some w => !decide (p.1.w * p.1.h = rm.w * rm.h * ((w : Rat) / (ws.sum : Rat)))
 | none => false
theorem yO {rm : Bx} {ws : List Int} {bs : List Bx} {n m : Nat} (hr : rm.Ok) (hrs : rm.Sz n) (hb : ∀ b ∈ bs, b.Ok) (hbs : ∀ b ∈ bs, b.Sz n) (hw : ∀ w ∈ ws, 1 <= w) (hws : ∀ w ∈ ws, Sm m w) (hS : Sm m ws.sum) (hl : bs.length = ws.length) (h : n + n + m <= 8000) {e : E3} (he : ftE (bV rm) (.lst (ws.map .int)) (.lst (bs.map bV)) e) : ∃ e', ftE (bV rm) (.lst (ws.map .int)) (.lst (bs.map bV)) e' /\ du (gtX (gtT 2 (aC (gtN 3) (aC (gtN 4) bS)))).G ik.G (fB 0 (bs.map bV)) e = fdS (fun p => .val (.tup [.str "area", .int (p.2 : Nat)])) e' (bs.zipIdx.find? (arP rm ws)) := by
 rw [gH]
 refine eh (fun p : Bx × Nat => .tup [.int (p.2 : Nat), bV p.1]) _ (fun p => .val (.tup [.str "area", .int (p.2 : Nat)])) (ftE (bV rm) (.lst (ws.map .int)) (.lst (bs.map bV))) bs.zipIdx e he ?_
 rintro ⟨b, i⟩ hvi e ⟨s, t, rfl, hs, ht⟩
 have hm := List.fst_mem_of_mem_zipIdx hvi
 have hi : i < ws.length := by have := List.mem_zipIdx hvi; omega
 have ar := pv (hb b hm) (hbs b hm) (by omega)
 have rr := pv hr hrs (by omega)
 have ei : ws[i]? = some ws[i] := List.getElem?_eq_getElem hi
 have at1 : atI (ws.map Val.int) ((i : Nat) : Int) = some (.int ws[i]) := gi (by omega) (by rw [Int.toNat_natCast, List.getElem?_map, ei]; rfl)
 have s0 : ws.sum ≠ 0 := by
  have := qA hw (by intro z; rw [z] at hi; simp at hi)
  omega
 have fr := gr (a := ws[i]) s0 (hS.mono (by omega))
 have sz := Sz.div s0 (hws ws[i] (List.getElem_mem hi)) hS m (Nat.le_refl _) (Nat.le_refl _)
 have tm := ny (hrs.w.mul hrs.h) sz (by omega)
 have eq := DP (b.w * b.h) (rm.w * rm.h * ((ws[i] : Rat) / (ws.sum : Rat)))
 have pe : arP rm ws (b, i) = !decide (b.w * b.h = rm.w * rm.h * ((ws[i] : Rat) / (ws.sum : Rat))) := by unfold arP; dsimp only; rw [ei]
 refine ⟨[.sh (bV rm), .sh (.lst (ws.map .int)), .sh (.lst (bs.map bV)), .sh (.int (i : Nat)), .sh (bV b)], [.sh (bV rm), .sh (.lst (ws.map .int)), .sh (.lst (bs.map bV)), .sh (.int (i : Nat)), .sh (bV b)], ?_, ⟨_, _, rfl, rfl, rfl⟩, ?_⟩
 ·simp! [hs, ht]
 ·rw [pe]
  unfold ik
  by_cases hc : b.w * b.h = rm.w * rm.h * ((ws[i] : Rat) / (ws.sum : Rat))
  ·rw [decide_eq_true hc] at eq ⊢
   right; simp! [ar, rr, at1, fr, tm, eq, and_true, or_false, true_or]
  ·rw [decide_eq_false hc] at eq ⊢
   left; simp! [ar, rr, at1, fr, tm, eq, and_true]
noncomputable def jO (rm : Bx) (p : Bx × Nat) : Bool := !inB (wlB rm) (wlB p.1)
theorem zj {rm : Bx} {w : Val} {bs : List Bx} {n : Nat} (hrs : rm.Sz n) (hbs : ∀ b ∈ bs, b.Sz n) (h : n + n <= 8000) {e : E3} (he : ftE (bV rm) w (.lst (bs.map bV)) e) : ∃ e', ftE (bV rm) w (.lst (bs.map bV)) e' /\ du (gtX (gtT 2 (aC (gtN 3) (aC (gtN 4) bS)))).G iw.G (fB 0 (bs.map bV)) e = fdS (fun p => .val (.tup [.str "out", .int (p.2 : Nat)])) e' (bs.zipIdx.find? (jO rm)) := by
 rw [gH]
 refine eh (fun p : Bx × Nat => .tup [.int (p.2 : Nat), bV p.1]) _ (fun p => .val (.tup [.str "out", .int (p.2 : Nat)])) (ftE (bV rm) w (.lst (bs.map bV))) bs.zipIdx e he ?_
 rintro ⟨b, i⟩ hvi e ⟨s, t, rfl, hs, ht⟩
 have lw := kQ hrs (hbs b (List.fst_mem_of_mem_zipIdx hvi)) h h
 refine ⟨[.sh (bV rm), .sh w, .sh (.lst (bs.map bV)), .sh (.int (i : Nat)), .sh (bV b)], [.sh (bV rm), .sh w, .sh (.lst (bs.map bV)), .sh (.int (i : Nat)), .sh (bV b)], ?_, ⟨_, _, rfl, rfl, rfl⟩, ?_⟩
 ·simp! [hs, ht]
 ·have pe : jO rm (b, i) = !inB (wlB rm) (wlB b) := rfl
  rw [pe]
  unfold iw
  cases hc : inB (wlB rm) (wlB b) with
  | true => right; simp! [lw, hc, and_true, or_false, true_or]
  | false => left; simp! [lw, hc, and_true]
noncomputable def fG (rm : Bx) (ws : List Int) (bs : List Bx) : Val := match bs.zipIdx.find? (arP rm ws) with
 | some p => .tup [.str "area", .int (p.2 : Nat)]
 | none => match bs.zipIdx.find? (jO rm) with
  | some p => .tup [.str "out", .int (p.2 : Nat)]
  | none => jy bs
structure Wts (m : Nat) (ws : List Int) : Prop where
 ne : ws ≠ []
 pos : ∀ w ∈ ws, 1 <= w
 le : ws.length <= 40
 sz : ∀ w ∈ ws, Sm m w
 sum : Sm m ws.sum
theorem nq {rm : Bx} {ws : List Int} {n m : Nat} {bs : List Bx} (hr : rm.Ok) (hrs : rm.Sz n) (hw : Wts m ws) (hl : bs.length = ws.length) (hb : ∀ b ∈ bs, b.Ok) (hbs : ∀ b ∈ bs, b.Sz n) (h : n + n + m <= 8000) : d9.G [bV rm, .lst (ws.map .int), .lst (bs.map bV)] = .ok (.val (fG rm ws bs)) [] := by
 have c := iY hr
 have k := B8 hw.ne hw.pos hw.le
 have e : ((((bs.map bV).length : Nat) : Int) == ((ws.map Val.int).length : Nat)) = true := by rw [beq_iff_eq, List.length_map, List.length_map]; omega
 obtain ⟨e1, he1, f1⟩ := zP (r := bV rm) (w := .lst (ws.map .int)) (bs := bs.map bV) (by
  intro v hv
  obtain ⟨b, _, rfl⟩ := List.mem_map.mp hv
  exact tL b) ⟨.no, .no, rfl, rfl, rfl⟩
 rw [show (bs.map bV).zipIdx.find? (fun p => !dI p.1) = none from by
  rw [List.find?_eq_none]
  rintro ⟨v, i⟩ hvi
  obtain ⟨b, hb', rfl⟩ := List.mem_map.mp (List.fst_mem_of_mem_zipIdx hvi)
  dsimp only
  rw [nh (hb b hb')]
  decide] at f1
 rw [fY] at f1
 obtain ⟨e2, he2, f2⟩ := yO hr hrs hb hbs hw.pos hw.sz hw.sum hl h he1
 obtain ⟨s1, t1, rfl, hs1, ht1⟩ := he1
 have fo := mD (by have := hw.le; omega) hbs (by omega)
 unfold fG
 unfold d9
 rw [b8]
 unfold kP
 cases q2 : bs.zipIdx.find? (arP rm ws) with
 |
  some p =>
  rw [q2, iy] at f2
  obtain ⟨s2, t2, rfl, _, _⟩ := he2
  simp! [c, k, e, f1, f2]
 |
  none =>
  rw [q2, fY] at f2
  obtain ⟨e3, he3, f3⟩ := zj hrs hbs (by omega) he2
  obtain ⟨s2, t2, rfl, _, _⟩ := he2
  obtain ⟨s3, t3, rfl, _, _⟩ := he3
  cases q3 : bs.zipIdx.find? (jO rm) with
  |
   some p =>
   rw [q3, iy] at f3
   simp! [c, k, e, f1, f2, f3]
  |
   none =>
   rw [q3, fY] at f3
   simp! [c, k, e, f1, f2, f3, fo]
theorem xw {ns : List Int} {k : Int} (hk : 0 <= k) : ∃ a, c9.G [.kl (ns.map .int), .int k] = .ok (.new (fdV a 0 k)) [] := by
 unfold c9
 rw [b8]
 unfold ia fdV
 by_cases h0 : ns.length = 0
 ·have e : ((((ns.map Val.int).length : Nat) : Int) == 0) = true := by rw [beq_iff_eq, List.length_map]; omega
  exact ⟨0, by simp! [e]⟩
 ·have e : ((((ns.map Val.int).length : Nat) : Int) == 0) = false := by rw [beq_eq_false_iff_ne, List.length_map]; omega
  have e1 : dQ.G (.int k) (.int ((ns.map Val.int).length : Nat)) = .val (.int (k.fmod ((ns.map Val.int).length : Nat))) := gY (by rw [List.length_map]; omega)
  have r := fN (a := k) (m := ((ns.map Val.int).length : Nat)) (by rw [List.length_map]; omega)
  rw [List.length_map] at r e1
  have hi : (k.fmod (ns.length : Nat)).toNat < ns.length := by omega
  have at1 : atI (ns.map Val.int) (k.fmod (ns.length : Nat)) = some (.int ns[(k.fmod (ns.length : Nat)).toNat]) := gi r.1 (by rw [List.getElem?_map, List.getElem?_eq_getElem hi]; rfl)
  rw [List.length_map] at e
  exact ⟨ns[(k.fmod (ns.length : Nat)).toNat], by simp! [List.length_map, e, e1, at1]⟩
noncomputable def ibV (b : Gd.Ib) : Val := .tup [.int b.l, .int b.t, .int b.r, .int b.f]
noncomputable def ibB (b : Gd.Ib) : Bx := ⟨(b.l : Rat), (b.t : Rat), ((b.r - b.l : Int) : Rat), ((b.f - b.t : Int) : Rat)⟩
structure Sml (n : Int) (b : Gd.Ib) : Prop where
 l0 : -n <= b.l
 l1 : b.l <= n
 t0 : -n <= b.t
 t1 : b.t <= n
 r0 : -n <= b.r
 r1 : b.r <= n
 f0 : -n <= b.f
 f1 : b.f <= n
theorem kC {n : Int} {R b : Gd.Ib} (h : Sml n R) (hi : R.In b) (hp : b.Pos) : Sml n b :=
 have a0 := Int.le_trans h.l0 hi.l
 have a1 := Int.le_trans hi.r h.r1
 have b0 := Int.le_trans h.t0 hi.t
 have b1 := Int.le_trans hi.f h.f1
 ⟨a0, Int.le_trans (Int.le_of_lt hp.x) a1, b0, Int.le_trans (Int.le_of_lt hp.y) b1, Int.le_trans a0 (Int.le_of_lt hp.x), a1, Int.le_trans b0 (Int.le_of_lt hp.y), b1⟩
theorem jq {n m : Int} {b : Gd.Ib} (h : Sml n b) (l : n <= m) : Sml m b :=
 have k := Int.neg_le_neg l
 ⟨Int.le_trans k h.l0, Int.le_trans h.l1 l, Int.le_trans k h.t0, Int.le_trans h.t1 l, Int.le_trans k h.r0, Int.le_trans h.r1 l, Int.le_trans k h.f0, Int.le_trans h.f1 l⟩
theorem gy {m : Int} (h0 : 0 <= m) (h1 : m <= 1000000) : Sm 8000 m := sm8 (by omega)
theorem szi {m : Int} (h0 : -3000 <= m) (h1 : m <= 3000) : L2.Sz 101 (m : Rat) := Aw (by omega)
theorem kv {b : Gd.Ib} (h : b.Pos) : (ibB b).Ok := ⟨pR (by have := h.x; omega), pR (by have := h.y; omega)⟩
theorem pj {a b : Int} (h0 : -1000 <= a) (h1 : a <= 1000) (k0 : -1000 <= b) (k1 : b <= 1000) : -3000 <= b - a /\ b - a <= 3000 := by omega
theorem up3 {a : Int} (h0 : -1000 <= a) (h1 : a <= 1000) : L2.Sz 101 (a : Rat) := szi (Int.le_trans (by decide) h0) (Int.le_trans h1 (by decide))
theorem kF {b : Gd.Ib} (h : Sml 1000 b) : (ibB b).Sz 101 :=
 have w := pj h.l0 h.l1 h.r0 h.r1
 have v := pj h.t0 h.t1 h.f0 h.f1
 ⟨up3 h.l0 h.l1, up3 h.t0 h.t1, szi w.1 w.2, szi v.1 v.2⟩
theorem mq (a b : Int) : (a : Rat) + ((b - a : Int) : Rat) = (b : Rat) := by
 rw [<- Rat.intCast_add]
 congr 1
 omega
theorem kD (b : Gd.Ib) : wlB (ibB b) = ⟨(b.l : Rat), (b.r : Rat), (b.t : Rat), (b.f : Rat)⟩ := by
 unfold wlB ibB
 dsimp only
 rw [mq, mq]
theorem sV (a b : Gd.Ib) : ovB (wlB (ibB a)) (wlB (ibB b)) = true ↔ a.ov b := by
 rw [kD, kD]
 unfold ovB Gd.Ib.ov
 simp only [Bool.and_eq_true, decide_eq_true_eq, Rat.intCast_lt_intCast, and_assoc]
theorem ub (a b : Gd.Ib) : inB (wlB (ibB a)) (wlB (ibB b)) = true ↔ a.In b := by
 rw [kD, kD]
 unfold inB
 simp only [Bool.and_eq_true, Bool.not_eq_true', decide_eq_false_iff_not, Rat.intCast_lt_intCast, Int.not_lt]
 exact ⟨fun h => ⟨h.1.1, h.1.2, h.2.1, h.2.2⟩, fun h => ⟨⟨h.l, h.r⟩, h.t, h.f⟩⟩
theorem tR {R b : Gd.Ib} {ws : List Int} {i : Nat} {w : Int} (hR : R.Pos) (hs : ws.sum = R.ar) (hw : ws[i]? = some w) : arP (ibB R) ws (ibB b, i) = false ↔ b.ar = w := by
 unfold arP
 dsimp only
 rw [hw]
 dsimp only
 have h1 : (ibB b).w * (ibB b).h = ((b.ar : Int) : Rat) := by
  unfold ibB Gd.Ib.ar
  dsimp only
  rw [<- Rat.intCast_mul]
 have h2 : (ibB R).w * (ibB R).h = ((R.ar : Int) : Rat) := by
  unfold ibB Gd.Ib.ar
  dsimp only
  rw [<- Rat.intCast_mul]
 have hp := Gd.ar_pos hR
 have hne : ((R.ar : Int) : Rat) ≠ 0 := fun z => by
  have : ((R.ar : Int) : Rat) = ((0 : Int) : Rat) := z
  rw [Rat.intCast_inj] at this
  omega
 rw [h1, h2, hs, Rat.mul_comm, Rat.div_mul_cancel hne, Bool.not_eq_false', decide_eq_true_eq, Rat.intCast_inj]
theorem
    xf {bs : List Gd.Ib} : jy (bs.map ibB) = .non ↔ bs.Pairwise fun a b => ¬ a.ov b := by
 have hJ : ∀ (w : Gd.Ib) (j : Nat) (hj : j < bs.length), ovJ ((bs.map ibB).map wlB) (wlB (ibB w)) j = ovB (wlB (ibB bs[j])) (wlB (ibB w)) := fun w j hj => by
  unfold ovJ
  rw [List.getElem?_map, List.getElem?_map, List.getElem?_eq_getElem hj]
  rfl
 unfold jy
 constructor
 ·intro h
  rw [List.pairwise_iff_getElem]
  intro i j hi hj hij k
  split at h
  ·rename_i p _
   unfold ovR at h
   cases h
  ·rename_i hf
   rw [List.find?_eq_none] at hf
   have := hf (wlB (ibB bs[j]), j) (by
    rw [List.mem_zipIdx_iff_getElem?]
    dsimp only
    rw [List.getElem?_map, List.getElem?_map, List.getElem?_eq_getElem hj]
    rfl)
   refine this ?_
   unfold ovP
   dsimp only
   rw [List.find?_isSome]
   exact ⟨i, List.mem_range.mpr hij, by rw [hJ _ i hi, sV]; exact k⟩
 ·intro h
  rw [List.pairwise_iff_getElem] at h
  have : (((bs.map ibB).map wlB).zipIdx).find? (ovP ((bs.map ibB).map wlB)) = none := by
   rw [List.find?_eq_none]
   rintro ⟨w, j⟩ hw
   rw [List.mem_zipIdx_iff_getElem?] at hw
   dsimp only at hw
   rw [List.getElem?_map, List.getElem?_map] at hw
   obtain ⟨x, hx, rfl⟩ := Option.map_eq_some_iff.mp hw
   obtain ⟨b, hb, rfl⟩ := Option.map_eq_some_iff.mp hx
   obtain ⟨hj, rfl⟩ := List.getElem?_eq_some_iff.mp hb
   unfold ovP
   dsimp only
   rw [List.find?_isSome]
   rintro ⟨i, hi, k⟩
   have hi := List.mem_range.mp hi
   rw [hJ _ i (by omega), sV] at k
   exact h i j (by omega) hj hi k
  rw [this]
theorem
    nR {R : Gd.Ib} {ws : List Int} {bs : List Gd.Ib} (hR : R.Pos) (hs : ws.sum = R.ar) (hl : bs.length = ws.length) : fG (ibB R) ws (bs.map ibB) = .non ↔ bs.map Gd.Ib.ar = ws /\ (∀ b ∈ bs, R.In b) /\ bs.Pairwise fun a b => ¬ a.ov b := by
 have hA
     : (bs.map ibB).zipIdx.find? (arP (ibB R) ws) = none ↔ bs.map Gd.Ib.ar = ws := by
  rw [List.find?_eq_none]
  constructor
  ·intro h
   apply List.ext_getElem
   ·rw [List.length_map]; exact hl
   ·intro i h1 h2
    rw [List.length_map] at h1
    have := h (ibB bs[i], i) (by
     rw [List.mem_zipIdx_iff_getElem?]
     dsimp only
     rw [List.getElem?_map, List.getElem?_eq_getElem h1]
     rfl)
    rw [List.getElem_map]
    exact (tR (b := bs[i]) hR hs (List.getElem?_eq_getElem h2)).mp (Bool.eq_false_iff.mpr this)
  ·rintro rfl ⟨b, i⟩ hb
   rw [List.mem_zipIdx_iff_getElem?] at hb
   dsimp only at hb
   rw [List.getElem?_map] at hb
   obtain ⟨x, hx, rfl⟩ := Option.map_eq_some_iff.mp hb
   have := (tR (b := x) (i := i) (w := x.ar) hR hs (by rw [List.getElem?_map, hx]; rfl)).mpr rfl
   rw [this]
   decide
 have hO : (bs.map ibB).zipIdx.find? (jO (ibB R)) = none ↔ ∀ b ∈ bs, R.In b := by
  rw [List.find?_eq_none]
  constructor
  ·intro h b hb
   obtain ⟨i, hi⟩ := List.mem_iff_getElem?.mp hb
   have := h (ibB b, i) (by
    rw [List.mem_zipIdx_iff_getElem?]
    dsimp only
    rw [List.getElem?_map, hi]
    rfl)
   unfold jO at this
   dsimp only at this
   rw [Bool.not_eq_true', Bool.not_eq_false] at this
   exact (ub R b).mp this
  ·rintro h ⟨b, i⟩ hb
   rw [List.mem_zipIdx_iff_getElem?] at hb
   dsimp only at hb
   rw [List.getElem?_map] at hb
   obtain ⟨x, hx, rfl⟩ := Option.map_eq_some_iff.mp hb
   unfold jO
   dsimp only
   rw [(ub R x).mpr (h x (List.mem_of_getElem? hx))]
   decide
 unfold fG
 constructor
 ·intro h
  split at h
  ·cases h
  ·rename_i h1
   split at h
   ·cases h
   ·rename_i h2
    exact ⟨hA.mp h1, hO.mp h2, xf.mp h⟩
 ·rintro ⟨h1, h2, h3⟩
  rw [hA.mpr h1]
  dsimp only
  rw [hO.mpr h2]
  exact xf.mpr h3
theorem nY (b : Gd.Ib) : bL.G [ibV b] = .ok (.val (bV (ibB b))) [] := by
 unfold bL
 rw [b8]
 unfold iZ ibV bV ibB
 simp! [iV]
theorem lJ {R : Gd.Ib} {bs : List Gd.Ib} (hR : R.Pos) (h : Gd.Part R bs) : 0 < bs.length := by
 cases bs with
 |
  nil =>
  have := h.sum
  have := Gd.ar_pos hR
  simp at *
  omega
 | cons b bs => simp
theorem t9 {bs : List Gd.Ib} {u v : Gd.Ib} {i : Int} (h0 : 0 <= i) (h1 : i.toNat < bs.length) (hl : bs.length <= 1000) : mY.G (.lst (bs.map ibV)) (.tup [.int i, .int (i + 1)]) (.lst [ibV u, ibV v]) = some (.lst ((bs.take i.toNat ++ u :: v :: bs.drop (i.toNat + 1)).map ibV)) := by
 rw [Bs, if_pos ⟨h0, by omega, by rw [List.length_map]; omega, by rw [List.length_map, List.length_cons, List.length_cons, List.length_nil]; omega⟩]
 rw [show (i + 1).toNat = i.toNat + 1 by omega, <- List.map_take, <- List.map_drop]
 simp
theorem wD {bs : List Gd.Ib} {i : Int} (h0 : 0 <= i) (h1 : i.toNat < bs.length) : atI (bs.map ibV) i = some (ibV bs[i.toNat]) := gi h0 (by rw [List.getElem?_map, List.getElem?_eq_getElem h1]; rfl)
theorem B0 {α : Type} {bs : List α} {i : Nat} (h : i < bs.length) : bs = bs.take i ++ bs[i] :: bs.drop (i + 1) := by
 rw [List.getElem_cons_drop h, List.take_append_drop]
structure CtE (R : Gd.Ib) (m : Int) (k : Int) (n : Nat) (bs : List Gd.Ib) (e : E3) : Prop where
 ex : ∃ a c s4 s5 s6 s7 s8 s9 s10 s11, e = [.mu (fdV a c k), .sh (ibV R), .sh (.int m), .ow (.lst (bs.map ibV)), s4, s5, s6, s7, s8, s9, s10, s11] /\ (Sl.pl s4 = true /\ Sl.pl s5 = true /\ Sl.pl s6 = true /\ Sl.pl s7 = true /\ Sl.pl s8 = true /\ Sl.pl s9 = true /\ Sl.pl s10 = true /\ Sl.pl s11 = true)
 pt : Gd.Part R bs
 le : bs.length <= n + 1
noncomputable def ctQ (R : Gd.Ib) (m k : Int) (n : Nat) (r : SR3) : Prop := ∃ e2 bs', r = .nx e2 /\ CtE R m k n bs' e2
theorem vQ {R : Gd.Ib} {m k : Int} {n : Nat} {bs : List Gd.Ib} (hR : R.Pos) (hS : Sml 100 R) (hn : n <= 100) {v : Val} {e : E3} (h : CtE R m k n bs e) : ∃ e1, (gtN 4).G v e = some e1 /\ ctQ R m k (n + 1) (eJ.G e1) := by
 obtain ⟨⟨a, c, s4, s5, s6, s7, s8, s9, s10, s11, rfl, h4, h5, h6, h7, h8, h9, h10, h11⟩, pt, le⟩ := h
 have hne := lJ hR pt
 obtain ⟨i, a1, c1, e1, hi0, hi1⟩ := bt (a := a) (b := c) (k := k) (m := (((bs.map ibV).length : Nat) : Int)) (by rw [List.length_map]; omega) (gy (Int.natCast_nonneg _) (by rw [List.length_map]; omega))
 have hi1' : i.toNat < bs.length := by rw [List.length_map] at hi1; omega
 have ab := wD hi0 hi1'
 have pb := pt
 rw [B0 hi1'] at pb
 have hb : bs[i.toNat] ∈ bs := List.getElem_mem hi1'
 have sb := kC hS (pt.inn _ hb) (pt.pos _ hb)
 have ob := pt.pos _ hb
 generalize bs[i.toNat] = b at *
 obtain ⟨l, t, r, f⟩ := b
 have k1 : r - l - 1 <= 1000000 := by have := sb.l0; have := sb.r1; dsimp only at *; omega
 have k2 : f - t - 1 <= 1000000 := by have := sb.t0; have := sb.f1; dsimp only at *; omega
 have ox := ob.x
 have oy := ob.y
 dsimp only at ox oy
 obtain ⟨q, a2, c2, e2, hq0, hq1⟩ := bt (a := a1) (b := c1) (k := k) (m := 2) (by decide) (sm8 (by decide))
 have hbl : bs.length <= 1000 := by omega
 have lenc : ∀ u v : Gd.Ib, (bs.take i.toNat ++ u :: v :: bs.drop (i.toNat + 1)).length <= n + 1 + 1 := fun u v => by
  rw [List.length_append, List.length_cons, List.length_cons, List.length_take, List.length_drop]
  omega
 refine ⟨[.mu (fdV a c k), .sh (ibV R), .sh (.int m), .ow (.lst (bs.map ibV)), .sh v, s5, s6, s7, s8, s9, s10, s11], by simp! [h4], ?_⟩
 unfold eJ
 refine cx (fun e => e = [.mu (fdV a1 c1 k), .sh (ibV R), .sh (.int m), .ow (.lst (bs.map ibV)), .sh v, .sh (.int i), s6, s7, s8, s9, s10, s11]) ⟨_, by simp! [e1, h5], rfl⟩ ?_
 rintro _ rfl
 have ib : ibV ⟨l, t, r, f⟩ = .tup [.int l, .int t, .int r, .int f] := rfl
 refine cx (fun e => e = [.mu (fdV a1 c1 k), .sh (ibV R), .sh (.int m), .ow (.lst (bs.map ibV)), .sh v, .sh (.int i), .sh (.int l), .sh (.int t), .sh (.int r), .sh (.int f), s10, s11]) ⟨_, by simp! [ab, ib, h6, h7, h8, h9], rfl⟩ ?_
 rintro _ rfl
 have cnd : (qAn (qOf (pOp bEq (aB aE (ag (ah 0) (ag (av 2) ao))) (av 0))) (qOf (pOp bGt (pOp bT (ah 8) (ah 6)) (av 1)))).G [.mu (fdV a1 c1 k), .sh (ibV R), .sh (.int m), .ow (.lst (bs.map ibV)), .sh v, .sh (.int i), .sh (.int l), .sh (.int t), .sh (.int r), .sh (.int f), s10, s11] = .ok (q == 0 && decide (1 < r - l)) [.mu (fdV a2 c2 k), .sh (ibV R), .sh (.int m), .ow (.lst (bs.map ibV)), .sh v, .sh (.int i), .sh (.int l), .sh (.int t), .sh (.int r), .sh (.int f), s10, s11] := by
  cases hq : (q == 0) <;> simp! [e2, hq]
 have pl : ∀ x : Sl, x = x := fun _ => rfl
 cases hA : (q == 0 && decide (1 < r - l)) with
 |
  true =>
  rw [hA] at cnd
  simp only [Bool.and_eq_true, decide_eq_true_eq] at hA
  obtain ⟨z, a3, c3, e3, hz0, hz1⟩ := bt (a := a2) (b := c2) (k := k) (m := r - l - 1) (by omega) (gy (by omega) k1)
  have ss := t9 (u := ⟨l, t, l + 1 + z, f⟩) (v := ⟨l + 1 + z, t, r, f⟩) hi0 hi1' hbl
  rw [show ibV ⟨l, t, l + 1 + z, f⟩ = .tup [.int l, .int t, .int (l + 1 + z), .int f] from rfl, show ibV ⟨l + 1 + z, t, r, f⟩ = .tup [.int (l + 1 + z), .int t, .int r, .int f] from rfl] at ss
  refine ⟨_, _, by rw [qQ, cnd]; simp! [h10, e3, ss], ⟨a3, c3, .sh v, .sh (.int i), .sh (.int l), .sh (.int t), .sh (.int r), .sh (.int f), .sh (.int (l + 1 + z)), s11, rfl, rfl, rfl, rfl, rfl, rfl, rfl, rfl, h11⟩, Gd.cut_x (x := l + 1 + z) (p := bs.take i.toNat) (q := bs.drop (i.toNat + 1)) (by omega) (by omega) oy pb, lenc _ _⟩
 |
  false =>
  rw [hA] at cnd
  by_cases hB : 1 < f - t
  ·obtain ⟨z, a3, c3, e3, hz0, hz1⟩ := bt (a := a2) (b := c2) (k := k) (m := f - t - 1) (by omega) (gy (by omega) k2)
   have ss := t9 (u := ⟨l, t, r, t + 1 + z⟩) (v := ⟨l, t + 1 + z, r, f⟩) hi0 hi1' hbl
   rw [show ibV ⟨l, t, r, t + 1 + z⟩ = .tup [.int l, .int t, .int r, .int (t + 1 + z)] from rfl, show ibV ⟨l, t + 1 + z, r, f⟩ = .tup [.int l, .int (t + 1 + z), .int r, .int f] from rfl] at ss
   refine ⟨_, _, by rw [qQ, cnd]; simp! [decide_eq_true hB, h11, e3, ss], ⟨a3, c3, .sh v, .sh (.int i), .sh (.int l), .sh (.int t), .sh (.int r), .sh (.int f), s10, .sh (.int (t + 1 + z)), rfl, rfl, rfl, rfl, rfl, rfl, rfl, h10, rfl⟩, Gd.cut_y (y := t + 1 + z) (p := bs.take i.toNat) (q := bs.drop (i.toNat + 1)) (by omega) (by omega) ox pb, lenc _ _⟩
  ·exact ⟨_, bs, by rw [qQ, cnd]; simp! [decide_eq_false hB], ⟨a2, c2, .sh v, .sh (.int i), .sh (.int l), .sh (.int t), .sh (.int r), .sh (.int f), s10, s11, rfl, rfl, rfl, rfl, rfl, rfl, rfl, h10, h11⟩, pt, Nat.le_succ_of_le le⟩
theorem ou {R : Gd.Ib} {m k : Int} (hR : R.Pos) (hS : Sml 100 R) : ∀ (l : List Val) (n : Nat) (bs : List Gd.Ib) (e : E3), CtE R m k n bs e -> n + l.length <= 100 -> ∃ e' bs', du (gtN 4).G eJ.G l e = .nx e' /\ CtE R m k (n + l.length) bs' e'
 | [], n, bs, e, h, _ => ⟨e, bs, rfl, h⟩
 |
  v :: l, n, bs, e, h, hn => by
  rw [List.length_cons] at hn
  obtain ⟨e1, q1, e2, bs', q2, h2⟩ := vQ hR hS (by omega) (v := v) h
  obtain ⟨e', bs'', q3, h3⟩ := ou hR hS l (n + 1) bs' e2 h2 (by omega)
  refine ⟨e', bs'', ?_, by rw [List.length_cons, show n + (l.length + 1) = n + 1 + l.length by omega]; exact h3⟩
  rw [fU, q1]
  simp only [q2, ky, q3]
theorem zk {R : Gd.Ib} {m : Int} (hR : R.Pos) (hS : Sml 100 R) (h0 : 0 <= m) (hm : m <= 20) (a c k : Int) : ∃ bs a' c', (Gd.Part R bs /\ bs.length <= 21) /\ dD.G [fdV a c k, ibV R, .int m] = .ok (.new (.lst (bs.map ibV))) [fdV a' c' k] := by
 have rg := lu (i := m) h0 (by omega)
 have hl : (rgV m.toNat).length = m.toNat := by unfold rgV; rw [List.length_map, List.length_range]
 obtain ⟨e', bs, fr, ⟨a', c', s4, s5, s6, s7, s8, s9, s10, s11, rfl, h4, h5, h6, h7, h8, h9, h10, h11⟩, pt, le⟩ := ou (m := m) (k := k) hR hS (rgV m.toNat) 0 [R] [.mu (fdV a c k), .sh (ibV R), .sh (.int m), .ow (.lst [ibV R]), .no, .no, .no, .no, .no, .no, .no, .no] ⟨⟨a, c, _, _, _, _, _, _, _, _, rfl, rfl, rfl, rfl, rfl, rfl, rfl, rfl, rfl⟩, Gd.part_one hR, Nat.le_refl _⟩ (by rw [hl]; omega)
 refine ⟨bs, a', c', ⟨pt, by rw [hl] at le; omega⟩, ?_⟩
 unfold dD
 rw [b8]
 unfold jc
 simp! [rg, fr]
noncomputable def wdQ (R : Gd.Ib) (k : Int) (r : SR3) : Prop := ∃ bs a c, (Gd.Part R bs /\ bs.length <= 21) /\ uD [true, false] r = .ok (.val (.lst (bs.map ibV))) [fdV a c k]
theorem vO {R : Gd.Ib} (hS : Sml 100 R) (hx : R.l + 3 <= R.r) (hy : R.t + 3 <= R.f) (a c k : Int) : ∃ bs a' c', (Gd.Part R bs /\ bs.length <= 21) /\ cQ.G [fdV a c k, ibV R] = .ok (.val (.lst (bs.map ibV))) [fdV a' c' k] := by
 obtain ⟨l, t, r, f⟩ := R
 have := hS.l0
 have := hS.l1
 have := hS.t0
 have := hS.t1
 have := hS.r0
 have := hS.r1
 have := hS.f0
 have := hS.f1
 dsimp only at *
 obtain ⟨z1, a1, c1, e1, h10, h11⟩ := bt (a := a) (b := c) (k := k) (m := r - l - 2) (by omega) (gy (by omega) (by omega))
 obtain ⟨z2, a2, c2, e2, h20, h21⟩ := bt (a := a1) (b := c1) (k := k) (m := r - (l + 1 + z1) - 1) (by omega) (gy (by omega) (by omega))
 obtain ⟨z3, a3, c3, e3, h30, h31⟩ := bt (a := a2) (b := c2) (k := k) (m := f - t - 2) (by omega) (gy (by omega) (by omega))
 obtain ⟨z4, a4, c4, e4, h40, h41⟩ := bt (a := a3) (b := c3) (k := k) (m := f - (t + 1 + z3) - 1) (by omega) (gy (by omega) (by omega))
 obtain ⟨z5, a5, c5, e5, h50, h51⟩ := bt (a := a4) (b := c4) (k := k) (m := 2) (by decide) (sm8 (by decide))
 unfold cQ
 rw [DM rfl]
 show wdQ ⟨l, t, r, f⟩ k (eX.G [.mu (fdV a c k), .sh (ibV ⟨l, t, r, f⟩), .no, .no, .no, .no, .no, .no, .no, .no, .no])
 unfold eX
 generalize hR : ibV ⟨l, t, r, f⟩ = Rv
 have ib : Rv = .tup [.int l, .int t, .int r, .int f] := hR.symm
 refine cx (fun e => e = [.mu (fdV a c k), .sh Rv, .sh (.int l), .sh (.int t), .sh (.int r), .sh (.int f), .no, .no, .no, .no, .no]) ⟨_, by simp! [ib], rfl⟩ ?_
 rintro _ rfl
 clear ib
 have g1 : l < l + 1 + z1 := by omega
 have g2 : l + 1 + z1 < l + 1 + z1 + 1 + z2 := by omega
 have g3 : l + 1 + z1 + 1 + z2 < r := by omega
 have g4 : t < t + 1 + z3 := by omega
 have g5 : t + 1 + z3 < t + 1 + z3 + 1 + z4 := by omega
 have g6 : t + 1 + z3 + 1 + z4 < f := by omega
 refine cx (fun e => e = [.mu (fdV a1 c1 k), .sh Rv, .sh (.int l), .sh (.int t), .sh (.int r), .sh (.int f), .sh (.int (l + 1 + z1)), .no, .no, .no, .no]) ⟨_, by simp! [e1], rfl⟩ ?_
 rintro _ rfl
 generalize l + 1 + z1 = A at *
 refine cx (fun e => e = [.mu (fdV a2 c2 k), .sh Rv, .sh (.int l), .sh (.int t), .sh (.int r), .sh (.int f), .sh (.int A), .sh (.int (A + 1 + z2)), .no, .no, .no]) ⟨_, by simp! [e2], rfl⟩ ?_
 rintro _ rfl
 generalize A + 1 + z2 = C at *
 refine cx (fun e => e = [.mu (fdV a3 c3 k), .sh Rv, .sh (.int l), .sh (.int t), .sh (.int r), .sh (.int f), .sh (.int A), .sh (.int C), .sh (.int (t + 1 + z3)), .no, .no]) ⟨_, by simp! [e3], rfl⟩ ?_
 rintro _ rfl
 generalize t + 1 + z3 = B at *
 refine cx (fun e => e = [.mu (fdV a4 c4 k), .sh Rv, .sh (.int l), .sh (.int t), .sh (.int r), .sh (.int f), .sh (.int A), .sh (.int C), .sh (.int B), .sh (.int (B + 1 + z4)), .no]) ⟨_, by simp! [e4], rfl⟩ ?_
 rintro _ rfl
 generalize B + 1 + z4 = D at *
 refine cx (fun e => e = [.mu (fdV a4 c4 k), .sh Rv, .sh (.int l), .sh (.int t), .sh (.int r), .sh (.int f), .sh (.int A), .sh (.int C), .sh (.int B), .sh (.int D), .sh (.lst ([⟨l, t, C, B⟩, ⟨C, t, r, D⟩, ⟨A, D, r, f⟩, ⟨l, B, A, f⟩, ⟨A, B, C, D⟩].map ibV))]) ⟨_, by simp! [kh]; exact rfl, rfl⟩ ?_
 rintro _ rfl
 by_cases hq : z5 = 0
 ·subst hq
  exact ⟨_, a5, c5, ⟨Gd.wound2 g1 g2 g3 g4 g5 g6, by simp⟩, by simp! [e5, xi, ibV, beq_self_eq_true]⟩
 ·exact ⟨_, a5, c5, ⟨Gd.wound1 g1 g2 g3 g4 g5 g6, by simp⟩, by simp! [e5, xi, beq_eq_false_iff_ne.mpr hq]⟩
theorem yT {bs : List Gd.Ib} (hne : 0 < bs.length) (hl : bs.length <= 21) (hp : ∀ b ∈ bs, b.Pos) (hS : ∀ b ∈ bs, Sml 100 b) (a c k : Int) : ∃ (bs' : List Gd.Ib) (a' c' : Int), (bs'.length = bs.length /\ (∀ b ∈ bs', b.Pos) /\ ∀ b ∈ bs', Sml 1000 b) /\ cJ.G [fdV a c k, .lst (bs.map ibV)] = .ok (.new (.lst (bs'.map ibV))) [fdV a' c' k] := by
 obtain ⟨i, a1, c1, e1, hi0, hi1⟩ := bt (a := a) (b := c) (k := k) (m := (((bs.map ibV).length : Nat) : Int)) (by rw [List.length_map]; omega) (gy (Int.natCast_nonneg _) (by rw [List.length_map]; omega))
 have hi1' : i.toNat < bs.length := by rw [List.length_map] at hi1; omega
 have ab := wD hi0 hi1'
 have ix : ixN (bs.map ibV).length i = some i.toNat := nT hi0 (by rw [List.length_map]; exact hi1')
 have hb : bs[i.toNat] ∈ bs := List.getElem_mem hi1'
 have sb := hS _ hb
 have ob := hp _ hb
 generalize bs[i.toNat] = b at *
 obtain ⟨l, t, r, f⟩ := b
 have := sb.l0
 have := sb.l1
 have := sb.t0
 have := sb.t1
 have := sb.r0
 have := sb.r1
 have := sb.f0
 have := sb.f1
 have ox := ob.x
 have oy := ob.y
 dsimp only at *
 obtain ⟨q, a2, c2, e2, hq0, hq1⟩ := bt (a := a1) (b := c1) (k := k) (m := 4) (by decide) (sm8 (by decide))
 obtain ⟨u, eu, pu, su⟩ : ∃ u, atI [ibV ⟨l + 1, t, r + 1, f⟩, ibV ⟨l, t - 1, r, f - 1⟩, ibV ⟨l, t, r, f⟩, ibV ⟨t, l, f, r⟩] q = some (ibV u) /\ u.Pos /\ Sml 1000 u := by
  rcases (show q = 0 \/ q = 1 \/ q = 2 \/ q = 3 by omega) with rfl | rfl | rfl | rfl
  ·exact ⟨_, ati0 .., ⟨by dsimp only; omega, by dsimp only; omega⟩, ⟨by dsimp only; omega, by dsimp only; omega, by dsimp only; omega, by dsimp only; omega, by dsimp only; omega, by dsimp only; omega, by dsimp only; omega, by dsimp only; omega⟩⟩
  ·exact ⟨_, ati1 .., ⟨by dsimp only; omega, by dsimp only; omega⟩, ⟨by dsimp only; omega, by dsimp only; omega, by dsimp only; omega, by dsimp only; omega, by dsimp only; omega, by dsimp only; omega, by dsimp only; omega, by dsimp only; omega⟩⟩
  ·exact ⟨_, ati2 .., ⟨by dsimp only; omega, by dsimp only; omega⟩, ⟨by dsimp only; omega, by dsimp only; omega, by dsimp only; omega, by dsimp only; omega, by dsimp only; omega, by dsimp only; omega, by dsimp only; omega, by dsimp only; omega⟩⟩
  ·exact ⟨_, ati3 .., ⟨by dsimp only; omega, by dsimp only; omega⟩, ⟨by dsimp only; omega, by dsimp only; omega, by dsimp only; omega, by dsimp only; omega, by dsimp only; omega, by dsimp only; omega, by dsimp only; omega, by dsimp only; omega⟩⟩
 refine ⟨bs.set i.toNat u, a2, c2, ⟨List.length_set, fun x hx => ?_, fun x hx => ?_⟩, ?_⟩
 ·rcases List.mem_or_eq_of_mem_set hx with hx | rfl
  ·exact hp x hx
  ·exact pu
 ·rcases List.mem_or_eq_of_mem_set hx with hx | rfl
  ·exact jq (hS x hx) (by decide)
  ·exact su
 ·unfold cJ
  rw [b8, List.map_set]
  unfold iu
  have ab' : atI (bs.map ibV) i = some (.tup [.int l, .int t, .int r, .int f]) := ab
  have eu' : atI [.tup [.int (l + 1), .int t, .int (r + 1), .int f], .tup [.int l, .int (t - 1), .int r, .int (f - 1)], .tup [.int l, .int t, .int r, .int f], .tup [.int t, .int l, .int f, .int r]] q = some (ibV u) := eu
  simp! [e1, ab', e2, eu', ix]
theorem
    sH {bs : List Gd.Ib} {x y : Int} : bU.G [.lst (bs.map ibV), .int x, .int y] = .ok (.val (.bl (decide (0 < (bs.foldl (Gd.cn x y) (0, 0)).1) && decide ((bs.foldl (Gd.cn x y) (0, 0)).2 < 2)))) [] := by
 have k2 : ∀ v : Int, bz.G (.int 2) (.int v) = .val (.int (2 * v)) := fun v => dB (CMulA.left (by decide) (by decide))
 obtain ⟨e',
       ⟨s5, s6, s7, s8, rfl, h5, h6, h7, h8⟩, fr⟩ := mn (g := (gtX (gtT 4 (aC (gtN 5) (aC (gtN 6) (aC (gtN 7) (aC (gtN 8) bS)))))).G) (B := dk.G) ibV (Gd.cn x y) (fun s e => ∃ s5 s6 s7 s8, e = [.sh (.lst (bs.map ibV)), .sh (.int x), .sh (.int y), .sh (.int s.1), .sh (.int s.2), s5, s6, s7, s8] /\ s5.pl = true /\ s6.pl = true /\ s7.pl = true /\ s8.pl = true) bs (0, 0) [.sh (.lst (bs.map ibV)), .sh (.int x), .sh (.int y), .sh (.int 0), .sh (.int 0), .no, .no, .no, .no] ⟨_, _, _, _, rfl, rfl, rfl, rfl, rfl⟩ (by
  rintro b hb ⟨n, i⟩ e ⟨s5, s6, s7, s8, rfl, h5, h6, h7, h8⟩
  obtain ⟨l, t, r, f⟩ := b
  have ib : ibV ⟨l, t, r, f⟩ = .tup [.int l, .int t, .int r, .int f] := rfl
  refine ⟨[.sh (.lst (bs.map ibV)), .sh (.int x), .sh (.int y), .sh (.int n), .sh (.int i), .sh (.int l), .sh (.int t), .sh (.int r), .sh (.int f)], ?_⟩
  suffices hz : ∃ z : Int × Int, Gd.cn x y (n, i) ⟨l, t, r, f⟩ = z /\ dk.G [.sh (.lst (bs.map ibV)), .sh (.int x), .sh (.int y), .sh (.int n), .sh (.int i), .sh (.int l), .sh (.int t), .sh (.int r), .sh (.int f)] = .nx [.sh (.lst (bs.map ibV)), .sh (.int x), .sh (.int y), .sh (.int z.1), .sh (.int z.2), .sh (.int l), .sh (.int t), .sh (.int r), .sh (.int f)] by
   obtain ⟨z, hz, q⟩ := hz
   subst hz
   exact ⟨_, by simp! [ib, h5, h6, h7, h8], .inl q, _, _, _, _, rfl, rfl, rfl, rfl, rfl⟩
  unfold dk
  by_cases c1 : 2 * l <= x
  ·by_cases c2
         : x <= 2 * r
   ·by_cases c3 : 2 * t <= y
    ·by_cases c4 : y <= 2 * f
     ·have hc : Gd.cl x y ⟨l, t, r, f⟩ = true := by simp [Gd.cl, c1, c2, c3, c4]
      have key : ∀ b : Bool, Gd.st x y ⟨l, t, r, f⟩ = b -> Gd.cn x y (n, i) ⟨l, t, r, f⟩ = (n + 1, i + if b = true then 1 else 0) := fun b hb => by
       unfold Gd.cn
       rw [if_pos hc, hb]
      by_cases d1 : 2 * l < x
      ·by_cases d2 : x < 2 * r
       ·by_cases d3 : 2 * t < y
        ·by_cases d4 : y < 2 * f
         ·exact ⟨(n + 1, i + 1), key true (by simp [Gd.st, d1, d2, d3, d4]), by simp! [k2, c1, c2, c3, c4, d1, d2, d3, d4]⟩
         ·exact ⟨(n + 1, i + 0), key false (by simp [Gd.st, d1, d2, d3, d4]), by simp! [k2, c1, c2, c3, c4, d1, d2, d3, d4, Int.add_zero]⟩
        ·exact ⟨(n + 1, i + 0), key false (by simp [Gd.st, d1, d2, d3]), by simp! [k2, c1, c2, c3, c4, d1, d2, d3, Int.add_zero]⟩
       ·exact ⟨(n + 1, i + 0), key false (by simp [Gd.st, d1, d2]), by simp! [k2, c1, c2, c3, c4, d1, d2, Int.add_zero]⟩
      ·exact ⟨(n + 1, i + 0), key false (by simp [Gd.st, d1]), by simp! [k2, c1, c2, c3, c4, d1, Int.add_zero]⟩
     ·exact ⟨(n, i), (by simp [Gd.cn, Gd.cl, c4]), by simp! [k2, c1, c2, c3, c4]⟩
    ·exact ⟨(n, i), (by simp [Gd.cn, Gd.cl, c3]), by simp! [k2, c1, c2, c3]⟩
   ·exact ⟨(n, i), (by simp [Gd.cn, Gd.cl, c2]), by simp! [k2, c1, c2]⟩
  ·exact ⟨(n, i), (by simp [Gd.cn, Gd.cl, c1]), by simp! [k2, c1]⟩)
 unfold bU
 rw [b8]
 unfold fQ
 by_cases hn : 0 < (bs.foldl (Gd.cn x y) (0, 0)).1
 ·simp! [fr, decide_eq_true hn]
 ·simp! [fr, decide_eq_false hn]
theorem BV {R : Gd.Ib} {bs : List Gd.Ib} (hR : R.Pos) (h : Gd.Part R bs) {x y : Int} (h1 : 2 * R.l <= x) (h2 : x <= 2 * R.r) (h3 : 2 * R.t <= y) (h4 : y <= 2 * R.f) : bU.G [.lst (bs.map ibV), .int x, .int y] = .ok (.val (.bl true)) [] := by
 rw [sH]
 obtain ⟨b, hb, k⟩ := Gd.near hR h h1 h2 h3 h4
 have n1 := (Gd.cn_near (x := x) (y := y) bs (0, 0)).2 ⟨b, hb, by simp [Gd.cl, k]⟩
 have n2 := Gd.cn_inner (x := x) (y := y) bs (0, 0) h.dis
 dsimp only at n1 n2
 rw [decide_eq_true n1, decide_eq_true (show _ < (2 : Int) by omega)]
 rfl
theorem vf (rm : Bx) (ws : List Int) (bs : List Bx) : fG rm ws bs = .non \/ ∃ xs, fG rm ws bs = .tup xs := by
 unfold fG
 split
 ·exact .inr ⟨_, rfl⟩
 ·split
  ·exact .inr ⟨_, rfl⟩
  ·unfold jy
   split
   ·exact .inr ⟨_, rfl⟩
   ·exact .inl rfl
theorem ug : ∀ {ws : List Int}, (∀ w ∈ ws, 1 <= w) -> ∀ w ∈ ws, w <= ws.sum
 | [], _, w, h => nomatch h
 |
  x :: ws, hp, w, h => by
  rw [List.sum_cons]
  have h0 := fD (ws := ws) fun u hu => hp u (List.mem_cons_of_mem _ hu)
  rcases List.mem_cons.mp h with rfl | h
  ·omega
  ·have := ug (ws := ws) (fun u hu => hp u (List.mem_cons_of_mem _ hu)) w h
   have := hp x (List.mem_cons_self ..)
   omega
theorem EJ {R : Gd.Ib} (hR : R.Pos) (hS : Sml 100 R) : R.ar <= 40000 := by
 have := hS.l0
 have := hS.r1
 have := hS.t0
 have := hS.f1
 have := hR.x
 have := hR.y
 have h1 : (R.r - R.l) * (R.f - R.t) <= 200 * (R.f - R.t) := Int.mul_le_mul_of_nonneg_right (by omega) (by omega)
 unfold Gd.Ib.ar
 omega
theorem tJ {R : Gd.Ib} {bs : List Gd.Ib} (hR : R.Pos) (hS : Sml 100 R) (h : Gd.Part R bs) (hl : bs.length <= 21) : Wts 16 (bs.map Gd.Ib.ar) := by
 have hp : ∀ w ∈ bs.map Gd.Ib.ar, 1 <= w := fun w hw => by
  obtain ⟨b, hb, rfl⟩ := List.mem_map.mp hw
  exact Gd.ar_pos (h.pos b hb)
 have hs : (bs.map Gd.Ib.ar).sum <= 40000 := by rw [h.sum]; exact EJ hR hS
 have h0 := fD hp
 refine ⟨fun z => ?_, hp, by rw [List.length_map]; omega, fun w hw => ?_, ?_⟩
 ·have := lJ hR h
  have : bs = [] := List.map_eq_nil_iff.mp z
  subst this
  simp at *
 ·have := ug hp w hw
  have := hp w hw
  show w.natAbs < 2 ^ 16
  omega
 ·show (bs.map Gd.Ib.ar).sum.natAbs < 2 ^ 16
  omega
structure Lw (ns : List Int) (k wd hg : Int) (R : Gd.Ib) (bs : List Gd.Ib) : Prop where
 hR : R.Pos
 hS : Sml 100 R
 hx : R.r = R.l + wd
 hy : R.f = R.t + hg
 pt : Gd.Part R bs
 hl : bs.length <= 21
 k1 : 0 <= wd /\ wd <= 200
 k2 : 0 <= hg /\ hg <= 200
noncomputable def lwE (ns : List Int) (k wd hg : Int) (R : Gd.Ib) (bs : List Gd.Ib) (s6 s9 : Sl) (e : E3) : Prop := ∃ (a c : Int) (s10 s11 s12 : Sl), e = [.sh (.kl (ns.map .int)), .sh (.int k), .ow (fdV a c k), .sh (.int wd), .sh (.int hg), .sh (ibV R), s6, .sh (.lst (bs.map ibV)), .sh (.lst ((bs.map Gd.Ib.ar).map .int)), s9, s10, s11, s12] /\ s10.pl = true /\ s11.pl = true /\ s12.pl = true
theorem za {ns : List Int} {k wd hg : Int} {R : Gd.Ib} {bs cs : List Gd.Ib} (H : Lw ns k wd hg R bs) (hc : Gd.Part R cs) {s6 : Sl} {e : E3} (he : lwE ns k wd hg R bs s6 (.sh (.lst (cs.map ibV))) e) : ∃ e', lwE ns k wd hg R bs s6 (.sh (.lst (cs.map ibV))) e' /\ du (gtN 10).G jo.G (rgV 20) e = .nx e' := by
 refine jV (g := (gtN 10).G) (B := jo.G) (lwE ns k wd hg R bs s6 (.sh (.lst (cs.map ibV)))) (rgV 20) e he ?_
 rintro v hv e ⟨a, c, s10, s11, s12, rfl, h10, h11, h12⟩
 have := H.k1
 have := H.k2
 have := H.hR.x
 have := H.hR.y
 have e1 := H.hx
 have e2 := H.hy
 obtain ⟨z1, a1, c1, n1, h10', h11'⟩ := bt (a := a) (b := c) (k := k) (m := 2 * wd + 1) (by omega) (gy (by omega) (by omega))
 obtain ⟨z2, a2, c2, n2, h20, h21⟩ := bt (a := a1) (b := c1) (k := k) (m := 2 * hg + 1) (by omega) (gy (by omega) (by omega))
 have q := BV H.hR hc (x := 2 * R.l + z1) (y := 2 * R.t + z2) (by omega) (by omega) (by omega) (by omega)
 have k2 : ∀ v : Int, bz.G (.int 2) (.int v) = .val (.int (2 * v)) := fun v => dB (CMulA.left (by decide) (by decide))
 have iR : (ibV R).items = some [.int R.l, .int R.t, .int R.r, .int R.f] := rfl
 refine ⟨[.sh (.kl (ns.map .int)), .sh (.int k), .ow (fdV a c k), .sh (.int wd), .sh (.int hg), .sh (ibV R), s6, .sh (.lst (bs.map ibV)), .sh (.lst ((bs.map Gd.Ib.ar).map .int)), .sh (.lst (cs.map ibV)), .sh v, s11, s12], [.sh (.kl (ns.map .int)), .sh (.int k), .ow (fdV a2 c2 k), .sh (.int wd), .sh (.int hg), .sh (ibV R), s6, .sh (.lst (bs.map ibV)), .sh (.lst ((bs.map Gd.Ib.ar).map .int)), .sh (.lst (cs.map ibV)), .sh v, .sh (.int (2 * R.l + z1)), .sh (.int (2 * R.t + z2))], ?_, .inl ?_, a2, c2, _, _, _, rfl, rfl, rfl, rfl⟩
 ·simp! [h10]
 ·unfold jo
  simp! [k2, iR, n1, n2, h11, h12, q]
theorem tx (cs : List Gd.Ib) (hl : cs.length <= 21) : ∃ s : Sl, lcV (gtN 0).G qY.G (aB bL (ag (ah 0) ao)).G (cs.map ibV) [] [.no] = .ok ((cs.map ibB).map bV) [s] := by
 obtain ⟨e', ⟨s', rfl, _⟩, lc⟩ := iN (g := (gtN 0).G) (F := (aB bL (ag (ah 0) ao)).G) ibV (fun b => bV (ibB b)) (fun e => ∃ s : Sl, e = [s] /\ s.pl = true) cs [] [.no] ⟨.no, rfl, rfl⟩ (by
  rintro b hb e ⟨s, rfl, hs⟩
  have q := nY b
  refine ⟨[.sh (ibV b)], .val (bV (ibB b)), [.sh (ibV b)], ?_, ?_, rfl, ⟨_, rfl, rfl⟩⟩
  ·simp! [hs]
  ·simp! [q]) (by simp; omega)
 rw [List.nil_append] at lc
 refine ⟨s', ?_⟩
 rw [List.map_map]
 exact lc
theorem wV {ns : List Int} {k wd hg : Int} {R : Gd.Ib} {bs cs : List Gd.Ib} (H : Lw ns k wd hg R bs) (hl : cs.length = bs.length) (hp : ∀ b ∈ cs, b.Pos) (hs : ∀ b ∈ cs, Sml 1000 b) {s6 : Sl} {e : E3} (he : lwE ns k wd hg R bs s6 (.sh (.lst (cs.map ibV))) e) : ∃ e', lwE ns k wd hg R bs s6 (.sh (.lst (cs.map ibV))) e' /\ ji.G e = .nx e' := by
 have he0 := he
 obtain ⟨a, c, s10, s11, s12, rfl, h10, h11, h12⟩ := he
 have hll := H.hl
 have bq := nY R
 obtain ⟨s', lc⟩ := tx cs (by omega)
 have hlm : ((cs.map ibB).map bV).length <= 16777216 := by rw [List.length_map, List.length_map]; omega
 have fe := nq (rm := ibB R) (ws := bs.map Gd.Ib.ar) (bs := cs.map ibB) (n := 101) (m := 16) (kv H.hR) (kF (jq H.hS (by decide))) (tJ H.hR H.hS H.pt H.hl) (by rw [List.length_map, List.length_map]; exact hl) (fun b hb => by obtain ⟨x, hx, rfl⟩ := List.mem_map.mp hb; exact kv (hp x hx)) (fun b hb => by obtain ⟨x, hx, rfl⟩ := List.mem_map.mp hb; exact kF (hs x hx)) (by omega)
 have rg : iE [.int 20] = some (rgV 20) := lu (i := 20) (by decide) (by decide)
 unfold ji
 rcases vf (ibB R) (bs.map Gd.Ib.ar) (cs.map ibB) with z | ⟨xs, z⟩
 ·have fi := (nR (R := R) (ws := bs.map Gd.Ib.ar) (bs := cs) H.hR H.pt.sum (by rw [List.length_map]; exact hl)).mp z
  have pc : Gd.Part R cs := ⟨hp, fi.2.1, fi.2.2, by rw [fi.1]; exact H.pt.sum⟩
  obtain ⟨e', he', fr⟩ := za H pc he0
  rw [z] at fe
  refine ⟨e', he', ?_⟩
  simp! [bq, lc, hlm, fe, rg, fr]
 ·rw [z] at fe
  refine ⟨_, he0, ?_⟩
  simp! [bq, lc, hlm, fe]
theorem xv {ns : List Int} {k wd hg : Int} {R : Gd.Ib} {bs : List Gd.Ib} (H : Lw ns k wd hg R bs) {s6 s9 : Sl} (h6 : s6.pl = true) (h9 : s9.pl = true) {e : E3} (he : lwE ns k wd hg R bs s6 s9 e) : ∃ e' s9', s9'.pl = true /\ lwE ns k wd hg R bs s6 s9' e' /\ (eM (eB (fq (ag (ah 7) (ag (aB cJ (ag (ah 2) (ag (ah 7) ao))) ao)))) (gtN 9) (ji)).G e = .nx e' := by
 obtain ⟨a, c, s10, s11, s12, rfl, h10, h11, h12⟩ := he
 have hsm : ∀ b ∈ bs, Sml 100 b := fun b hb => kC H.hS (H.pt.inn b hb) (H.pt.pos b hb)
 obtain ⟨cs, a1, c1, ⟨hl, hp, hs⟩, eb⟩ := yT (lJ H.hR H.pt) H.hl H.pt.pos hsm a c k
 obtain ⟨e1, he1, q1⟩ := wV H (cs := bs) rfl H.pt.pos (fun b hb => jq (hsm b hb) (by decide)) (s6 := s6) (e := [.sh (.kl (ns.map .int)), .sh (.int k), .ow (fdV a1 c1 k), .sh (.int wd), .sh (.int hg), .sh (ibV R), s6, .sh (.lst (bs.map ibV)), .sh (.lst ((bs.map Gd.Ib.ar).map .int)), .sh (.lst (bs.map ibV)), s10, s11, s12]) ⟨a1, c1, _, _, _, rfl, h10, h11, h12⟩
 obtain ⟨a2, c2, t10, t11, t12, rfl, g10, g11, g12⟩ := he1
 obtain ⟨e2, he2, q2⟩ := wV H (cs := cs) hl hp hs (s6 := s6) (e := [.sh (.kl (ns.map .int)), .sh (.int k), .ow (fdV a2 c2 k), .sh (.int wd), .sh (.int hg), .sh (ibV R), s6, .sh (.lst (bs.map ibV)), .sh (.lst ((bs.map Gd.Ib.ar).map .int)), .sh (.lst (cs.map ibV)), t10, t11, t12]) ⟨a2, c2, _, _, _, rfl, g10, g11, g12⟩
 refine ⟨e2, _, rfl, he2, ?_⟩
 simp! [eb, fU, h9, q1, q2]
noncomputable def lwP (ns : List Int) (e : E3) : Prop := ∃ s1 s2 s3 s4 s5 s6 s7 s8 s9 s10 s11 s12 : Sl, e = [.sh (.kl (ns.map .int)), s1, s2, s3, s4, s5, s6, s7, s8, s9, s10, s11, s12] /\ s1.pl = true /\ s2.pl = true /\ s3.pl = true /\ s4.pl = true /\ s5.pl = true /\ s6.pl = true /\ s7.pl = true /\ s8.pl = true /\ s9.pl = true /\ s10.pl = true /\ s11.pl = true /\ s12.pl = true
noncomputable def lwQ (ns : List Int) (r : SR3) : Prop := ∃ e, r = .nx e /\ lwP ns e
theorem
    yq {ns : List Int} {k : Int} (hk : 0 <= k) {s2 s3 s4 s5 s6 s7 s8 s9 s10 s11 s12 : Sl} (h2 : s2.pl = true) (h3 : s3.pl = true) (h4 : s4.pl = true) (h5 : s5.pl = true) (h6 : s6.pl = true) (h7 : s7.pl = true) (h8 : s8.pl = true) (h9 : s9.pl = true) (h10 : s10.pl = true) (h11 : s11.pl = true) (h12 : s12.pl = true) : lwQ ns (iX.G [.sh (.kl (ns.map .int)), .sh (.int k), s2, s3, s4, s5, s6, s7, s8, s9, s10, s11, s12]) := by
 unfold iX
 obtain ⟨a0, fe⟩ := xw (ns := ns) hk
 refine cx (fun e => e = [.sh (.kl (ns.map .int)), .sh (.int k), .ow (fdV a0 0 k), s3, s4, s5, s6, s7, s8, s9, s10, s11, s12]) ⟨_, by simp! [fe, h2], rfl⟩ ?_
 rintro _ rfl
 obtain ⟨n1, a1, c1, e1, h10', h11'⟩ := bt (a := a0) (b := 0) (k := k) (m := 20) (by decide) (sm8 (by decide))
 obtain ⟨n2, a2, c2, e2, h20, h21⟩ := bt (a := a1) (b := c1) (k := k) (m := 20) (by decide) (sm8 (by decide))
 refine cx (fun e => e = [.sh (.kl (ns.map .int)), .sh (.int k), .ow (fdV a2 c2 k), .sh (.int (3 + n1)), .sh (.int (3 + n2)), s5, s6, s7, s8, s9, s10, s11, s12]) ⟨_, by simp! [e1, e2, h3, h4], rfl⟩ ?_
 rintro _ rfl
 obtain ⟨n3, a3, c3, e3, h30, h31⟩ := bt (a := a2) (b := c2) (k := k) (m := 9) (by decide) (sm8 (by decide))
 obtain ⟨n4, a4, c4, e4, h40, h41⟩ := bt (a := a3) (b := c3) (k := k) (m := 9) (by decide) (sm8 (by decide))
 refine cx (fun e => e = [.sh (.kl (ns.map .int)), .sh (.int k), .ow (fdV a4 c4 k), .sh (.int (3 + n1)), .sh (.int (3 + n2)), .sh (.tup [.int n3, .int (0 - n4), .int 0, .int 0]), s6, s7, s8, s9, s10, s11, s12]) ⟨_, by simp! [e3, e4, h5], rfl⟩ ?_
 rintro _ rfl
 obtain ⟨R, hRe⟩ : ∃ R : Gd.Ib, R = ⟨n3, 0 - n4, n3 + (3 + n1), 0 - n4 + (3 + n2)⟩ := ⟨_, rfl⟩
 have sl2 : aSl (.tup [.int n3, .int (0 - n4), .int 0, .int 0]) none (some 2) = .val (.tup [.int n3, .int (0 - n4)]) := rfl
 refine cx (fun e => e = [.sh (.kl (ns.map .int)), .sh (.int k), .ow (fdV a4 c4 k), .sh (.int (3 + n1)), .sh (.int (3 + n2)), .sh (ibV R), s6, s7, s8, s9, s10, s11, s12]) ⟨_, by subst hRe; simp! [sl2, ibV], rfl⟩ ?_
 rintro _ rfl
 have hR : R.Pos := by subst hRe; exact ⟨by dsimp only; omega, by dsimp only; omega⟩
 have hS : Sml 100 R := by subst hRe; exact ⟨by dsimp only; omega, by dsimp only; omega, by dsimp only; omega, by dsimp only; omega, by dsimp only; omega, by dsimp only; omega, by dsimp only; omega, by dsimp only; omega⟩
 have hx : R.r = R.l + (3 + n1) := by subst hRe; rfl
 have hy : R.f = R.t + (3 + n2) := by subst hRe; rfl
 obtain ⟨n5, a5, c5, e5, h50, h51⟩ := bt (a := a4) (b := c4) (k := k) (m := 3) (by decide) (sm8 (by decide))
 refine cx (fun e => e = [.sh (.kl (ns.map .int)), .sh (.int k), .ow (fdV a5 c5 k), .sh (.int (3 + n1)), .sh (.int (3 + n2)), .sh (ibV R), .sh (.bl (n5 == 0)), s7, s8, s9, s10, s11, s12]) ⟨_, by simp! [e5, h6], rfl⟩ ?_
 rintro _ rfl
 refine cx (fun e => ∃ bs a c, (Gd.Part R bs /\ bs.length <= 21) /\ e = [.sh (.kl (ns.map .int)), .sh (.int k), .ow (fdV a c k), .sh (.int (3 + n1)), .sh (.int (3 + n2)), .sh (ibV R), .sh (.bl (n5 == 0)), .sh (.lst (bs.map ibV)), s8, s9, s10, s11, s12]) ?_ ?_
 ·cases hq : (n5 == 0) with
  |
   true =>
   obtain ⟨bs, a6, c6, hb, e6⟩ := vO hS (by omega) (by omega) a5 c5 k
   exact ⟨_, by simp! [e6, h7], bs, a6, c6, hb, rfl⟩
  |
   false =>
   obtain ⟨m, a6, c6, e6, h60, h61⟩ := bt (a := a5) (b := c5) (k := k) (m := 10) (by decide) (sm8 (by decide))
   obtain ⟨bs, a7, c7, hb, e7⟩ := zk hR hS h60 (by omega) a6 c6 k
   exact ⟨_, by simp! [e6, e7, h7], bs, a7, c7, hb, rfl⟩
 rintro _ ⟨bs, a6, c6, ⟨pt, hl⟩, rfl⟩
 have H : Lw ns k (3 + n1) (3 + n2) R bs := ⟨hR, hS, hx, hy, pt, hl, ⟨by omega, by omega⟩, by omega, by omega⟩
 refine cx (fun e => e = [.sh (.kl (ns.map .int)), .sh (.int k), .ow (fdV a6 c6 k), .sh (.int (3 + n1)), .sh (.int (3 + n2)), .sh (ibV R), .sh (.bl (n5 == 0)), .sh (.lst (bs.map ibV)), .sh (.lst ((bs.map Gd.Ib.ar).map .int)), s9, s10, s11, s12]) ?_ ?_
 ·obtain ⟨e', ⟨t0, t1, t2, t3, rfl, _⟩, lc⟩ := iN (g := (gtT 4 (aC (gtN 0) (aC (gtN 1) (aC (gtN 2) (aC (gtN 3) bS))))).G) (F := (pOp bz (pOp bT (ah 2) (ah 0)) (pOp bT (ah 3) (ah 1))).G) ibV (fun b => Val.int b.ar) (fun e => ∃ t0 t1 t2 t3 : Sl, e = [t0, t1, t2, t3] /\ t0.pl = true /\ t1.pl = true /\ t2.pl = true /\ t3.pl = true) bs [] [.no, .no, .no, .no] ⟨_, _, _, _, rfl, rfl, rfl, rfl, rfl⟩ (by
   rintro b hb e ⟨t0, t1, t2, t3, rfl, p0, p1, p2, p3⟩
   have sb := kC hS (pt.inn b hb) (pt.pos b hb)
   obtain ⟨l, t, r, f⟩ := b
   have := sb.t0
   have := sb.t1
   have := sb.f0
   have := sb.f1
   dsimp only at *
   have km : bz.G (.int (r - l)) (.int (f - t)) = .val (.int ((r - l) * (f - t))) := dB (CMulA.right (by omega) (by omega))
   refine ⟨[.sh (.int l), .sh (.int t), .sh (.int r), .sh (.int f)], .val (.int ((r - l) * (f - t))), [.sh (.int l), .sh (.int t), .sh (.int r), .sh (.int f)], ?_, ?_, rfl, ⟨_, _, _, _, rfl, rfl, rfl, rfl, rfl⟩⟩
   ·unfold ibV
    simp! [p0, p1, p2, p3]
   ·simp! [km]) (by simp; omega)
  rw [List.nil_append, show (bs.map fun b => Val.int b.ar) = (bs.map Gd.Ib.ar).map .int by rw [List.map_map]; rfl] at lc
  have hlm : ((bs.map Gd.Ib.ar).map Val.int).length <= 16777216 := by rw [List.length_map, List.length_map]; omega
  exact ⟨_, by simp! [lc, hlm, h8], rfl⟩
 rintro _ rfl
 refine cx (fun e => e = [.sh (.kl (ns.map .int)), .sh (.int k), .ow (fdV a6 c6 k), .sh (.int (3 + n1)), .sh (.int (3 + n2)), .sh (ibV R), .sh (.bl (n5 == 0)), .sh (.lst (bs.map ibV)), .sh (.lst ((bs.map Gd.Ib.ar).map .int)), s9, s10, s11, s12]) ?_ ?_
 ·have bq := nY R
  obtain ⟨s', lc⟩ := tx bs hl
  have hlm : ((bs.map ibB).map bV).length <= 16777216 := by rw [List.length_map, List.length_map]; omega
  have fe := nq (rm := ibB R) (ws := bs.map Gd.Ib.ar) (bs := bs.map ibB) (n := 101) (m := 16) (kv hR) (kF (jq hS (by decide))) (tJ hR hS pt hl) (by rw [List.length_map, List.length_map]) (fun b hb => by obtain ⟨x, hx, rfl⟩ := List.mem_map.mp hb; exact kv (pt.pos x hx)) (fun b hb => by
   obtain ⟨x, hx, rfl⟩ := List.mem_map.mp hb
   exact kF (jq (kC hS (pt.inn x hx) (pt.pos x hx)) (by decide))) (by omega)
  rw [(nR (R := R) (ws := bs.map Gd.Ib.ar) (bs := bs) hR pt.sum (by rw [List.length_map])).mpr ⟨rfl, pt.inn, pt.dis⟩] at fe
  exact ⟨_, by simp! [bq, lc, hlm, fe], rfl⟩
 rintro _ rfl
 obtain ⟨e', s9', h9', ⟨a7, c7, t10, t11, t12, rfl, g10, g11, g12⟩, q⟩ := xv H (s6 := .sh (.bl (n5 == 0))) rfl h9 ⟨a6, c6, s10, s11, s12, rfl, h10, h11, h12⟩
 exact ⟨_, q, _, _, _, _, _, _, _, _, _, _, _, _, rfl, rfl, rfl, rfl, rfl, rfl, rfl, rfl, rfl, h9', g10, g11, g12⟩
theorem Bc (ns : List Int) (hl : ns.length <= 63) : kA.G [.kl (ns.map .int)] = .ok (.val (.bl true)) [] := by
 unfold kA
 rw [b8]
 unfold rS
 have rg : ∃ m : Nat, iE [.int (if (if (((ns.map Val.int).length : Nat) : Int) < 5 then (((ns.map Val.int).length : Nat) : Int) else 5) > 1 then (if (((ns.map Val.int).length : Nat) : Int) < 5 then (((ns.map Val.int).length : Nat) : Int) else 5) else 1)] = some (rgV m) := by
  refine ⟨_, lu ?_ ?_⟩ <;> (split <;> split <;> omega)
 obtain ⟨m, rg⟩ := rg
 obtain ⟨e', ⟨s1, s2, s3, s4, s5, s6, s7, s8, s9, s10, s11, s12, rfl, _⟩, fr⟩ := jV (g := (gtN 1).G) (B := iX.G) (lwP ns) (rgV m) [.sh (.kl (ns.map .int)), .no, .no, .no, .no, .no, .no, .no, .no, .no, .no, .no, .no] ⟨_, _, _, _, _, _, _, _, _, _, _, _, rfl, rfl, rfl, rfl, rfl, rfl, rfl, rfl, rfl, rfl, rfl, rfl, rfl⟩ (by
  rintro v hv e ⟨s1, s2, s3, s4, s5, s6, s7, s8, s9, s10, s11, s12, rfl, h1, h2, h3, h4, h5, h6, h7, h8, h9, h10, h11, h12⟩
  obtain ⟨j, _, rfl⟩ := List.mem_map.mp hv
  obtain ⟨e2, q, hP⟩ := yq (ns := ns) (k := (j : Nat)) (by omega) h2 h3 h4 h5 h6 h7 h8 h9 h10 h11 h12
  refine ⟨_, e2, ?_, .inl q, hP⟩
  simp! [h1])
 simp! [rg, fr]
theorem BB {K : PySem.W.Frag} {h : Heap} {mg : Str -> Option Value} {a_NoFraction : Addr} {a_NoBox : Addr} {a_NoWeights : Addr} {a_TooMany : Addr} (X : K.In h) (G : h.Ns mainGlobals mg)
  (m_NoBox : PySem.W.nsIn K mainGlobals "NoBox" = some (some (.ref a_NoBox)))
  (m_NoFraction : PySem.W.nsIn K mainGlobals "NoFraction" = some (some (.ref a_NoFraction)))
  (m_NoWeights : PySem.W.nsIn K mainGlobals "NoWeights" = some (some (.ref a_NoWeights)))
  (m_TooMany : PySem.W.nsIn K mainGlobals "TooMany" = some (some (.ref a_TooMany)))
  (n_abs : PySem.W.nsIn K mainGlobals "abs" = some none)
  (n_all : PySem.W.nsIn K mainGlobals "all" = some none)
  (n_bool : PySem.W.nsIn K mainGlobals "bool" = some none)
  (n_enumerate : PySem.W.nsIn K mainGlobals "enumerate" = some none)
  (n_int : PySem.W.nsIn K mainGlobals "int" = some none)
  (n_isinstance : PySem.W.nsIn K mainGlobals "isinstance" = some none)
  (n_len : PySem.W.nsIn K mainGlobals "len" = some none)
  (n_list : PySem.W.nsIn K mainGlobals "list" = some none)
  (n_max : PySem.W.nsIn K mainGlobals "max" = some none)
  (n_min : PySem.W.nsIn K mainGlobals "min" = some none)
  (n_range : PySem.W.nsIn K mainGlobals "range" = some none)
  (n_sum : PySem.W.nsIn K mainGlobals "sum" = some none)
  (n_tuple : PySem.W.nsIn K mainGlobals "tuple" = some none)
  (g_MOST_WEIGHTS : GC K mg "MOST_WEIGHTS" eQ)
  (gs_ : PySem.W.specialIn K (.builtin "object.__class__") "__get__" = some (some (.builtin "getset_descriptor.__get__")))
  (tk_ : PySem.W.takesIn K (.builtin "object.__class__") = some true)
  (x_NoFraction : PySem.W.excIn K a_NoFraction eL "ValueError.__new__" = true)
  (k_NoFraction_cls : (PySem.W.clsIn K a_NoFraction).isSome = true)
  (k_NoFraction_ga : PySem.W.findIn K (.ref a_NoFraction) "__getattribute__" = some (some (.builtin "BaseException.__getattribute__")))
  (k_NoFraction_gt : PySem.W.findIn K (.ref a_NoFraction) "__getattr__" = some none)
  (k_NoFraction_at : PySem.W.findIn K (.ref a_NoFraction) "__class__" = some (some (.builtin "object.__class__")))
  (k_NoFraction_mo : PySem.W.mroIn K a_NoFraction (.type "object") = some true)
  (k_NoFraction_mb : PySem.W.mroIn K a_NoFraction (.type "BaseException") = some true)
  (x_NoBox : PySem.W.excIn K a_NoBox eL "ValueError.__new__" = true)
  (k_NoBox_cls : (PySem.W.clsIn K a_NoBox).isSome = true)
  (k_NoBox_ga : PySem.W.findIn K (.ref a_NoBox) "__getattribute__" = some (some (.builtin "BaseException.__getattribute__")))
  (k_NoBox_gt : PySem.W.findIn K (.ref a_NoBox) "__getattr__" = some none)
  (k_NoBox_at : PySem.W.findIn K (.ref a_NoBox) "__class__" = some (some (.builtin "object.__class__")))
  (k_NoBox_mo : PySem.W.mroIn K a_NoBox (.type "object") = some true)
  (k_NoBox_mb : PySem.W.mroIn K a_NoBox (.type "BaseException") = some true)
  (x_NoWeights : PySem.W.excIn K a_NoWeights eL "ValueError.__new__" = true)
  (k_NoWeights_cls : (PySem.W.clsIn K a_NoWeights).isSome = true)
  (k_NoWeights_ga : PySem.W.findIn K (.ref a_NoWeights) "__getattribute__" = some (some (.builtin "BaseException.__getattribute__")))
  (k_NoWeights_gt : PySem.W.findIn K (.ref a_NoWeights) "__getattr__" = some none)
  (k_NoWeights_at : PySem.W.findIn K (.ref a_NoWeights) "__class__" = some (some (.builtin "object.__class__")))
  (k_NoWeights_mo : PySem.W.mroIn K a_NoWeights (.type "object") = some true)
  (k_NoWeights_mb : PySem.W.mroIn K a_NoWeights (.type "BaseException") = some true)
  (x_TooMany : PySem.W.excIn K a_TooMany eL "ValueError.__new__" = true)
  (k_TooMany_cls : (PySem.W.clsIn K a_TooMany).isSome = true)
  (k_TooMany_ga : PySem.W.findIn K (.ref a_TooMany) "__getattribute__" = some (some (.builtin "BaseException.__getattribute__")))
  (k_TooMany_gt : PySem.W.findIn K (.ref a_TooMany) "__getattr__" = some none)
  (k_TooMany_at : PySem.W.findIn K (.ref a_TooMany) "__class__" = some (some (.builtin "object.__class__")))
  (k_TooMany_mo : PySem.W.mroIn K a_TooMany (.type "object") = some true)
  (k_TooMany_mb : PySem.W.mroIn K a_TooMany (.type "BaseException") = some true)
  (i0 : PySem.W.kitOne K (.type "NoneType") (.type "bool") = some false)
  (i1 : PySem.W.kitOne K (.type "bool") (.type "bool") = some true)
  (i2 : PySem.W.kitOne K (.type "int") (.type "bool") = some false)
  (i3 : PySem.W.kitOne K (.type "str") (.type "bool") = some false)
  (i4 : PySem.W.kitOne K (.type "tuple") (.type "bool") = some false)
  (i5 : PySem.W.kitOne K (.type "list") (.type "bool") = some false)
  (i6 : PySem.W.kitOne K (.type "dict") (.type "bool") = some false)
  (i7 : PySem.W.kitOne K (.type "NoneType") (.type "int") = some false)
  (i8 : PySem.W.kitOne K (.type "bool") (.type "int") = some true)
  (i9 : PySem.W.kitOne K (.type "int") (.type "int") = some true)
  (i10 : PySem.W.kitOne K (.type "str") (.type "int") = some false)
  (i11 : PySem.W.kitOne K (.type "tuple") (.type "int") = some false)
  (i12 : PySem.W.kitOne K (.type "list") (.type "int") = some false)
  (i13 : PySem.W.kitOne K (.type "dict") (.type "int") = some false)
  (i14 : PySem.W.kitOne K (.type "NoneType") (.type "list") = some false)
  (i15 : PySem.W.kitOne K (.type "bool") (.type "list") = some false)
  (i16 : PySem.W.kitOne K (.type "int") (.type "list") = some false)
  (i17 : PySem.W.kitOne K (.type "str") (.type "list") = some false)
  (i18 : PySem.W.kitOne K (.type "tuple") (.type "list") = some false)
  (i19 : PySem.W.kitOne K (.type "list") (.type "list") = some true)
  (i20 : PySem.W.kitOne K (.type "dict") (.type "list") = some false)
  (i21 : PySem.W.kitOne K (.type "NoneType") (.type "tuple") = some false)
  (i22 : PySem.W.kitOne K (.type "bool") (.type "tuple") = some false)
  (i23 : PySem.W.kitOne K (.type "int") (.type "tuple") = some false)
  (i24 : PySem.W.kitOne K (.type "str") (.type "tuple") = some false)
  (i25 : PySem.W.kitOne K (.type "tuple") (.type "tuple") = some true)
  (i26 : PySem.W.kitOne K (.type "list") (.type "tuple") = some false)
  (i27 : PySem.W.kitOne K (.type "dict") (.type "tuple") = some false)
  : Txt K mg a_NoFraction a_NoBox a_NoWeights a_TooMany := by
 have mNoBox := PySem.W.mg_of X G m_NoBox
 have mNoFraction := PySem.W.mg_of X G m_NoFraction
 have mNoWeights := PySem.W.mg_of X G m_NoWeights
 have mTooMany := PySem.W.mg_of X G m_TooMany
 exact {
 g_MOST_WEIGHTS := g_MOST_WEIGHTS,
 m_NoBox := mNoBox,
 m_NoFraction := mNoFraction,
 m_NoWeights := mNoWeights,
 m_TooMany := mTooMany,
 n_abs := PySem.W.mg_none_of X G n_abs,
 n_all := PySem.W.mg_none_of X G n_all,
 n_bool := PySem.W.mg_none_of X G n_bool,
 n_enumerate := PySem.W.mg_none_of X G n_enumerate,
 n_int := PySem.W.mg_none_of X G n_int,
 n_isinstance := PySem.W.mg_none_of X G n_isinstance,
 n_len := PySem.W.mg_none_of X G n_len,
 n_list := PySem.W.mg_none_of X G n_list,
 n_max := PySem.W.mg_none_of X G n_max,
 n_min := PySem.W.mg_none_of X G n_min,
 n_range := PySem.W.mg_none_of X G n_range,
 n_sum := PySem.W.mg_none_of X G n_sum,
 n_tuple := PySem.W.mg_none_of X G n_tuple,
 x_NoFraction := x_NoFraction,
 x_NoBox := x_NoBox,
 x_NoWeights := x_NoWeights,
 x_TooMany := x_TooMany,
 kits := (aG i0 rfl rfl bg
   (aG i1 rfl rfl bg
   (aG i2 rfl rfl bg
   (aG i3 rfl rfl bg
   (aG i4 rfl rfl bg
   (aG i5 rfl rfl bg
   (aG i6 rfl rfl bg
   (aG i7 rfl rfl bg
   (aG i8 rfl rfl bg
   (aG i9 rfl rfl bg
   (aG i10 rfl rfl bg
   (aG i11 rfl rfl bg
   (aG i12 rfl rfl bg
   (aG i13 rfl rfl bg
   (aG i14 rfl rfl bg
   (aG i15 rfl rfl bg
   (aG i16 rfl rfl bg
   (aG i17 rfl rfl bg
   (aG i18 rfl rfl bg
   (aG i19 rfl rfl bg
   (aG i20 rfl rfl bg
   (aG i21 rfl rfl bg
   (aG i22 rfl rfl bg
   (aG i23 rfl rfl bg
   (aG i24 rfl rfl bg
   (aG i25 rfl rfl bg
   (aG i26 rfl rfl bg
   (aG i27 rfl rfl bg
   uy))))))))))))))))))))))))))))
 }
end KK
noncomputable def PySem.W.Fast.tw9147807486782296905 : Unit := ()
theorem PySem.W.Fast.te9147807486782296905 : True := trivial
open PySem PySem.W PyProof.Rows L2 L3 KK
set_option maxRecDepth 100000 in
set_option maxHeartbeats 0 in
theorem PySem.Challenge.cw_weightrooms_k10_whole_what_is_let_by_cov_holds : PySem.Challenge.rw_weightrooms_k10_whole_what_is_let_by_cov.Holds := by
 w_on; o_law; k_head; (case hw => w_witness2)
 k_fill
 refine L2.walk_lawD (l := PySem.Challenge.rw_weightrooms_k10_whole_what_is_let_by_cov) (x := "_law_script") (k := 7) rfl rfl ⟨rfl, by decide, by decide⟩ (fun w h Y => PySem.W.kIn_of Y) ?F ?D
 case F =>
  intro w mg h KX G base kb nb
  have TT := by
   refine' BB KX G ?m_NoBox ?m_NoFraction ?m_NoWeights ?m_TooMany ?n_abs ?n_all ?n_bool ?n_enumerate ?n_int ?n_isinstance ?n_len ?n_list ?n_max ?n_min ?n_range ?n_sum ?n_tuple ?g_MOST_WEIGHTS ?gs_ ?tk_ ?x_NoFraction ?k_NoFraction_cls ?k_NoFraction_ga ?k_NoFraction_gt ?k_NoFraction_at ?k_NoFraction_mo ?k_NoFraction_mb ?x_NoBox ?k_NoBox_cls ?k_NoBox_ga ?k_NoBox_gt ?k_NoBox_at ?k_NoBox_mo ?k_NoBox_mb ?x_NoWeights ?k_NoWeights_cls ?k_NoWeights_ga ?k_NoWeights_gt ?k_NoWeights_at ?k_NoWeights_mo ?k_NoWeights_mb ?x_TooMany ?k_TooMany_cls ?k_TooMany_ga ?k_TooMany_gt ?k_TooMany_at ?k_TooMany_mo ?k_TooMany_mb ?i0 ?i1 ?i2 ?i3 ?i4 ?i5 ?i6 ?i7 ?i8 ?i9 ?i10 ?i11 ?i12 ?i13 ?i14 ?i15 ?i16 ?i17 ?i18 ?i19 ?i20 ?i21 ?i22 ?i23 ?i24 ?i25 ?i26 ?i27
   (case m_NoBox => k_is)
   (case m_NoFraction => k_is)
   (case m_NoWeights => k_is)
   (case m_TooMany => k_is)
   (case n_abs => k_is)
   (case n_all => k_is)
   (case n_bool => k_is)
   (case n_enumerate => k_is)
   (case n_int => k_is)
   (case n_isinstance => k_is)
   (case n_len => k_is)
   (case n_list => k_is)
   (case n_max => k_is)
   (case n_min => k_is)
   (case n_range => k_is)
   (case n_sum => k_is)
   (case n_tuple => k_is)
   (case g_MOST_WEIGHTS => exact (by refine' BG KX G ?a; (case a => k_is)))
   (case gs_ => k_is)
   (case tk_ => k_is)
   (case x_NoFraction => k_exc)
   (case k_NoFraction_cls => exact Option.isSome_iff_exists.mpr ⟨_, by k_is⟩)
   (case k_NoFraction_ga => k_is)
   (case k_NoFraction_gt => k_is)
   (case k_NoFraction_at => k_is)
   (case k_NoFraction_mo => k_is)
   (case k_NoFraction_mb => k_is)
   (case x_NoBox => k_exc)
   (case k_NoBox_cls => exact Option.isSome_iff_exists.mpr ⟨_, by k_is⟩)
   (case k_NoBox_ga => k_is)
   (case k_NoBox_gt => k_is)
   (case k_NoBox_at => k_is)
   (case k_NoBox_mo => k_is)
   (case k_NoBox_mb => k_is)
   (case x_NoWeights => k_exc)
   (case k_NoWeights_cls => exact Option.isSome_iff_exists.mpr ⟨_, by k_is⟩)
   (case k_NoWeights_ga => k_is)
   (case k_NoWeights_gt => k_is)
   (case k_NoWeights_at => k_is)
   (case k_NoWeights_mo => k_is)
   (case k_NoWeights_mb => k_is)
   (case x_TooMany => k_exc)
   (case k_TooMany_cls => exact Option.isSome_iff_exists.mpr ⟨_, by k_is⟩)
   (case k_TooMany_ga => k_is)
   (case k_TooMany_gt => k_is)
   (case k_TooMany_at => k_is)
   (case k_TooMany_mo => k_is)
   (case k_TooMany_mb => k_is)
   (case i0 => kit_is)
   (case i1 => kit_is)
   (case i2 => kit_is)
   (case i3 => kit_is)
   (case i4 => kit_is)
   (case i5 => kit_is)
   (case i6 => kit_is)
   (case i7 => kit_is)
   (case i8 => kit_is)
   (case i9 => kit_is)
   (case i10 => kit_is)
   (case i11 => kit_is)
   (case i12 => kit_is)
   (case i13 => kit_is)
   (case i14 => kit_is)
   (case i15 => kit_is)
   (case i16 => kit_is)
   (case i17 => kit_is)
   (case i18 => kit_is)
   (case i19 => kit_is)
   (case i20 => kit_is)
   (case i21 => kit_is)
   (case i22 => kit_is)
   (case i23 => kit_is)
   (case i24 => kit_is)
   (case i25 => kit_is)
   (case i26 => kit_is)
   (case i27 => kit_is)
  have D_law_feed := by
   refine' aY (x := "_law_feed") (st := ip) KX G ?a ?l ?c ?k
   (case a => k_is); (case l => k_is); (case c => k_is); (case k => k_is)
  have D_law_next := by
   refine' aY (x := "_law_next") (st := iK) KX G ?a ?l ?c ?k
   (case a => k_is); (case l => k_is); (case c => k_is); (case k => k_is)
  have D_law_wound := by
   refine' aY (x := "_law_wound") (st := gG) KX G ?a ?l ?c ?k
   (case a => k_is); (case l => k_is); (case c => k_is); (case k => k_is)
  have D_law_cut := by
   refine' aY (x := "_law_cut") (st := jh) KX G ?a ?l ?c ?k
   (case a => k_is); (case l => k_is); (case c => k_is); (case k => k_is)
  have D_is_whole := by
   refine' aY (x := "is_whole") (st := gZ) KX G ?a ?l ?c ?k
   (case a => k_is); (case l => k_is); (case c => k_is); (case k => k_is)
  have D_common_divisor := by
   refine' aY (x := "common_divisor") (st := dZ) KX G ?a ?l ?c ?k
   (case a => k_is); (case l => k_is); (case c => k_is); (case k => k_is)
  have D_is_fraction := by
   refine' aY (x := "is_fraction") (st := ft) KX G ?a ?l ?c ?k
   (case a => k_is); (case l => k_is); (case c => k_is); (case k => k_is)
  have D_is_box := by
   refine' aY (x := "is_box") (st := iD) KX G ?a ?l ?c ?k
   (case a => k_is); (case l => k_is); (case c => k_is); (case k => k_is)
  have D_check_box := by
   refine' aY (x := "check_box") (st := gE) KX G ?a ?l ?c ?k
   (case a => k_is); (case l => k_is); (case c => k_is); (case k => k_is)
  have D_is_weight := by
   refine' aY (x := "is_weight") (st := gz) KX G ?a ?l ?c ?k
   (case a => k_is); (case l => k_is); (case c => k_is); (case k => k_is)
  have D_check_weights := by
   refine' aY (x := "check_weights") (st := dA) KX G ?a ?l ?c ?k
   (case a => k_is); (case l => k_is); (case c => k_is); (case k => k_is)
  have D_fraction := by
   refine' aY (x := "fraction") (st := hZ) KX G ?a ?l ?c ?k
   (case a => k_is); (case l => k_is); (case c => k_is); (case k => k_is)
  have D_times := by
   refine' aY (x := "times") (st := kO) KX G ?a ?l ?c ?k
   (case a => k_is); (case l => k_is); (case c => k_is); (case k => k_is)
  have D_area := by
   refine' aY (x := "area") (st := nE) KX G ?a ?l ?c ?k
   (case a => k_is); (case l => k_is); (case c => k_is); (case k => k_is)
  have D_added := by
   refine' aY (x := "added") (st := lA) KX G ?a ?l ?c ?k
   (case a => k_is); (case l => k_is); (case c => k_is); (case k => k_is)
  have D_walls := by
   refine' aY (x := "walls") (st := kR) KX G ?a ?l ?c ?k
   (case a => k_is); (case l => k_is); (case c => k_is); (case k => k_is)
  have D_is_less := by
   refine' aY (x := "is_less") (st := iQ) KX G ?a ?l ?c ?k
   (case a => k_is); (case l => k_is); (case c => k_is); (case k => k_is)
  have D_lies_within := by
   refine' aY (x := "lies_within") (st := fk) KX G ?a ?l ?c ?k
   (case a => k_is); (case l => k_is); (case c => k_is); (case k => k_is)
  have D_share_more_than_walls := by
   refine' aY (x := "share_more_than_walls") (st := cE) KX G ?a ?l ?c ?k
   (case a => k_is); (case l => k_is); (case c => k_is); (case k => k_is)
  have D_first_over := by
   refine' aY (x := "first_over") (st := er) KX G ?a ?l ?c ?k
   (case a => k_is); (case l => k_is); (case c => k_is); (case k => k_is)
  have D_fault := by
   refine' aY (x := "fault") (st := lZ) KX G ?a ?l ?c ?k
   (case a => k_is); (case l => k_is); (case c => k_is); (case k => k_is)
  have D_law_box := by
   refine' aY (x := "_law_box") (st := jn) KX G ?a ?l ?c ?k
   (case a => k_is); (case l => k_is); (case c => k_is); (case k => k_is)
  have D_law_bent := by
   refine' aY (x := "_law_bent") (st := iC) KX G ?a ?l ?c ?k
   (case a => k_is); (case l => k_is); (case c => k_is); (case k => k_is)
  have D_law_in_one := by
   refine' aY (x := "_law_in_one") (st := fK) KX G ?a ?l ?c ?k
   (case a => k_is); (case l => k_is); (case c => k_is); (case k => k_is)
  have D_law := by
   refine' aY (x := "law") (st := iL) KX G ?a ?l ?c ?k
   (case a => k_is); (case l => k_is); (case c => k_is); (case k => k_is)
  have c_law_feed := nz (P := PySem.Challenge.rw_weightrooms_k10_whole_what_is_let_by_cov.prog) (w := w) (base := base) TT D_law_feed
  have c_law_next := nD (P := PySem.Challenge.rw_weightrooms_k10_whole_what_is_let_by_cov.prog) (w := w) (base := base) TT D_law_next
  have c_law_wound := mz (P := PySem.Challenge.rw_weightrooms_k10_whole_what_is_let_by_cov.prog) (w := w) (base := base) TT D_law_wound c_law_next
  have c_law_cut := o6 (P := PySem.Challenge.rw_weightrooms_k10_whole_what_is_let_by_cov.prog) (w := w) (base := base) TT D_law_cut c_law_next
  have c_is_whole := nA (P := PySem.Challenge.rw_weightrooms_k10_whole_what_is_let_by_cov.prog) (w := w) (base := base) TT D_is_whole
  have c_common_divisor := jf (P := PySem.Challenge.rw_weightrooms_k10_whole_what_is_let_by_cov.prog) (w := w) (base := base) TT D_common_divisor
  have c_is_fraction := kG (P := PySem.Challenge.rw_weightrooms_k10_whole_what_is_let_by_cov.prog) (w := w) (base := base) TT D_is_fraction c_is_whole c_common_divisor
  have c_is_box := rh (P := PySem.Challenge.rw_weightrooms_k10_whole_what_is_let_by_cov.prog) (w := w) (base := base) TT D_is_box c_is_fraction
  have c_check_box := mw (P := PySem.Challenge.rw_weightrooms_k10_whole_what_is_let_by_cov.prog) (w := w) (base := base) TT D_check_box c_is_box
  have c_is_weight := mC (P := PySem.Challenge.rw_weightrooms_k10_whole_what_is_let_by_cov.prog) (w := w) (base := base) TT D_is_weight c_is_whole
  have c_check_weights := jJ (P := PySem.Challenge.rw_weightrooms_k10_whole_what_is_let_by_cov.prog) (w := w) (base := base) TT D_check_weights c_is_weight
  have c_fraction := oI (P := PySem.Challenge.rw_weightrooms_k10_whole_what_is_let_by_cov.prog) (w := w) (base := base) TT D_fraction c_common_divisor
  have c_times := sP (P := PySem.Challenge.rw_weightrooms_k10_whole_what_is_let_by_cov.prog) (w := w) (base := base) TT D_times c_fraction
  have c_area := ux (P := PySem.Challenge.rw_weightrooms_k10_whole_what_is_let_by_cov.prog) (w := w) (base := base) TT D_area c_check_box c_times
  have c_added := tw (P := PySem.Challenge.rw_weightrooms_k10_whole_what_is_let_by_cov.prog) (w := w) (base := base) TT D_added c_fraction
  have c_walls := sJ (P := PySem.Challenge.rw_weightrooms_k10_whole_what_is_let_by_cov.prog) (w := w) (base := base) TT D_walls c_added
  have c_is_less := o1 (P := PySem.Challenge.rw_weightrooms_k10_whole_what_is_let_by_cov.prog) (w := w) (base := base) TT D_is_less
  have c_lies_within := kr (P := PySem.Challenge.rw_weightrooms_k10_whole_what_is_let_by_cov.prog) (w := w) (base := base) TT D_lies_within c_walls c_is_less
  have c_share_more_than_walls := fE (P := PySem.Challenge.rw_weightrooms_k10_whole_what_is_let_by_cov.prog) (w := w) (base := base) TT D_share_more_than_walls c_is_less
  have c_first_over := lT (P := PySem.Challenge.rw_weightrooms_k10_whole_what_is_let_by_cov.prog) (w := w) (base := base) TT D_first_over c_walls c_share_more_than_walls
  have c_fault := sW (P := PySem.Challenge.rw_weightrooms_k10_whole_what_is_let_by_cov.prog) (w := w) (base := base) TT D_fault c_check_box c_check_weights c_is_box c_area c_times c_fraction c_lies_within c_first_over
  have c_law_box := ph (P := PySem.Challenge.rw_weightrooms_k10_whole_what_is_let_by_cov.prog) (w := w) (base := base) TT D_law_box
  have c_law_bent := nr (P := PySem.Challenge.rw_weightrooms_k10_whole_what_is_let_by_cov.prog) (w := w) (base := base) TT D_law_bent c_law_next
  have c_law_in_one := lM (P := PySem.Challenge.rw_weightrooms_k10_whole_what_is_let_by_cov.prog) (w := w) (base := base) TT D_law_in_one
  have c_law := xZ (P := PySem.Challenge.rw_weightrooms_k10_whole_what_is_let_by_cov.prog) (w := w) (base := base) TT D_law c_law_feed c_law_next c_law_wound c_law_cut c_fault c_law_box c_law_bent c_law_in_one
  exact uv c_law (law3 kA rfl Bc)
 case D =>
  intro w mg h KX G
  refine ⟨iL, ?_, (fun _ _ _ _ _ _ => ar1 fun _ => rfl)⟩
  refine' aY KX G ?a ?l ?c ?k
  (case a => k_is); (case l => k_is); (case c => k_is); (case k => k_is)
