import PyProof.Rows.All
import Wide.All
import OpenK.AllK
import Wide.FinOn
import Lean
import PyProof.EqAt
import PyProof.EqKinds
import PyProof.TupleCall
import PyProof.Rows.SumAny
import PyProof.EnumMake
import PyProof.Draws
import PyProof.ZipIter
import KE.KUnpack
import PySem.Challenge.RW_weightrooms_k53_least_worst_refused
local macro_rules|`(tactic|trivial)=>`(tactic|first|exact Or.inl rfl|exact Or.inr rfl)
local macro_rules|`(tactic|decide)=>`(tactic|decide +kernel)
set_option genSizeOf false
set_option genInjectivity false
set_option bootstrap.genMatcherCode false
noncomputable section
set_option Elab.async false
set_option linter.all false
set_option maxRecDepth 100000
namespace L2
open PySem PySem.Spec PyProof.Rows
abbrev Key:=Sum Int Str
def l7:Key->Value->Bool
 | .inl k,v=>Value.isInt k v
 | .inr x,v=>Value.isStrOf x v
def keyH (w:World):Key->Int
 | .inl k=>hashInt k
 | .inr x=>hashStr w x
theorem cD:∀ {k:Key}{v:Value},l7 k v=true->(∃ i t,k=Sum.inl i/\v=Value.int i t)\/(∃ x t,k=Sum.inr x/\v=Value.str x t)
 |
  .inl i,v,h=>by
  obtain⟨t,e⟩:=Value.isInt_shape (k:=i) (v:=v) h
  exact .inl ⟨i,t,rfl,e⟩
 |
  .inr x,v,h=>by
  obtain⟨t,e⟩:=Value.isStrOf_shape (x:=x) (v:=v) h
  exact .inr ⟨x,t,rfl,e⟩
theorem x9 (i:Int) (t:Tok):l7 (.inl i) (.int i t)=true:=by simp [l7,Value.isInt]
theorem w6 (x:Str) (t:Tok):l7 (.inr x) (.str x t)=true:=by simp [l7,Value.isStrOf]
theorem Hr (a b:Int):decide ((Sum.inl a:Key)=Sum.inl b)=(a == b):=by
 by_cases e:a=b
 ·subst e;simp
 ·have h:¬ (Sum.inl a:Key)=Sum.inl b:=λq=>e (Sum.inl.inj q)
  rw[decide_eq_false h]
  exact (beq_eq_false_iff_ne.mpr e).symm
theorem FE (a b:Str):decide ((Sum.inr a:Key)=Sum.inr b)=decide (a=b):=by
 by_cases e:a=b
 ·subst e;simp
 ·have h:¬ (Sum.inr a:Key)=Sum.inr b:=λq=>e (Sum.inr.inj q)
  rw[decide_eq_false h,decide_eq_false e]
theorem F5 (a:Int) (b:Str):decide ((Sum.inl a:Key)=Sum.inr b)=false:=decide_eq_false (λq=>nomatch q)
theorem Et (a:Str) (b:Int):decide ((Sum.inr a:Key)=Sum.inl b)=false:=decide_eq_false (λq=>nomatch q)
def bF (prog:Program) (w:World):PySem.KeyKind prog w Key where
 is:=l7
 hash:=keyH w
 inj
  := λv a b ha hb=>by
  rcases cD ha with ⟨i,t,rfl,rfl⟩ | ⟨x,t,rfl,rfl⟩
  ·rcases cD hb with ⟨j,u,rfl,e⟩ | ⟨y,u,rfl,e⟩
   ·injection e with e1 _;rw[e1]
   ·exact nomatch e
  ·rcases cD hb with ⟨j,u,rfl,e⟩ | ⟨y,u,rfl,e⟩
   ·exact nomatch e
   ·injection e with e1 _;rw[e1]
 byValue:=λk v h=>by
  rcases cD h with ⟨i,t,rfl,rfl⟩ | ⟨x,t,rfl,rfl⟩ <;> rfl
 pyHash:=λhv h=>by
  rcases cD hv with ⟨i,t,rfl,rfl⟩ | ⟨x,t,rfl,rfl⟩
  ·exact wpAny_pyHash_int h
  ·exact wpAny_pyHash_str h
 eqBool:=λhu hv h=>by
  rcases cD hu with ⟨i,t,rfl,rfl⟩ | ⟨x,t,rfl,rfl⟩
  ·rcases cD hv with ⟨j,u,rfl,rfl⟩ | ⟨y,u,rfl,rfl⟩
   ·rw[Hr] at h;exact wpAny_eqBool_int h
   ·rw[F5] at h;exact SeqAt.EqAt.int_str i t y u _ _ _ _ h
  ·rcases cD hv with ⟨j,u,rfl,rfl⟩ | ⟨y,u,rfl,rfl⟩
   ·rw[Et] at h;exact SeqAt.EqAt.str_int x t j u _ _ _ _ h
   ·rw[FE] at h;exact wpAny_eqBool_str h
 «strs»:=λk x t v h=>by
  rcases cD h with ⟨i,u,rfl,e⟩ | ⟨y,u,rfl,e⟩
  ·exact nomatch e
  ·injection e with e1 _
   subst e1
   cases v <;> rfl
theorem tV (prog:Program) (w:World) (i:Int) (t:Tok):(bF prog w).is (.inl i) (.int i t)=true:=x9 i t
theorem mF (prog:Program) (w:World) (x:Str) (t:Tok):(bF prog w).is (.inr x) (.str x t)=true:=w6 x t
end L2
namespace L2
open PySem PySem.Spec PyProof.Rows
inductive V where
 | non | bl (b:Bool) | int (i:Int) | str (x:Str) | byt (b:Array UInt8) | flt (b:UInt64) | ref (a:Addr) | ty (n:String)
 deriving DecidableEq
def RelV:V->Value->Prop
 | .non,u=>u=Value.none
 | .bl b,u=>u=Value.bool b
 | .int i,u=>∃ t,u=Value.int i t
 | .str x,u=>∃ t,u=Value.str x t
 | .byt b,u=>∃ t,u=Value.bytes b t
 | .flt b,u=>∃ t,u=Value.float b t
 | .ref a,u=>u=Value.ref a
 | .ty n,u=>u=Value.type n
abbrev Vals:List V->List Value->Prop:=Paired RelV
theorem Vals.length {xs:List V}{us:List Value} (r:Vals xs us):xs.length=us.length:=Paired.length r
theorem Vals.get {xs:List V}{us:List Value}{i:Nat}{x:V} (r:Vals xs us) (e:xs[i]?=some x):∃ u,us[i]?=some u/\RelV x u:=by
 induction r generalizing i with
 | nil=>rw[List.getElem?_nil] at e;cases e
 |
  cons r t ih=>
  cases i with
  | zero=>cases e;exact⟨_,rfl,r⟩
  | succ i=>exact ih (i:=i) e
theorem Vals.set {x:V}{u:Value} (r:RelV x u) {xs:List V}{us:List Value} (i:Nat) (q:Vals xs us):Vals (xs.set i x) (us.set i u):=by
 induction q generalizing i with
 | nil=>exact .nil
 |
  cons q t ih=>
  cases i with
  | zero=>exact .cons r t
  | succ i=>exact .cons q (ih i)
theorem Vals.append {xs ys:List V}{us ws:List Value} (r:Vals xs us) (s:Vals ys ws):Vals (xs++ys) (us++ws):=by
 induction r with
 | nil=>exact s
 | cons r t ih=>exact .cons r ih
theorem Vals.take {xs:List V}{us:List Value} (n:Nat) (r:Vals xs us):Vals (xs.take n) (us.take n):=by
 induction r generalizing n with
 | nil=>rw[List.take_nil,List.take_nil];exact .nil
 |
  cons r t ih=>
  cases n with
  | zero=>exact .nil
  | succ n=>exact .cons r (ih n)
theorem Vals.drop {xs:List V}{us:List Value} (n:Nat) (r:Vals xs us):Vals (xs.drop n) (us.drop n):=by
 induction r generalizing n with
 | nil=>rw[List.drop_nil,List.drop_nil];exact .nil
 |
  cons r t ih=>
  cases n with
  | zero=>exact .cons r t
  | succ n=>exact ih n
def RelO:Option V->Option Value->Prop
 | some v,some u=>RelV v u
 | none,none=>True
 | _,_=>False
def KV {κ:Type}:List (κ×V)->List (κ×Value)->Prop:=Paired λ(p:κ×V) (q:κ×Value)=>p.1=q.1/\RelV p.2 q.2
def kV:Key->V
 | .inl i=>.int i
 | .inr x=>.str x
inductive HO where
 | lst (xs:List V)
 | tup (xs:List V)
 | dK (kvs:List (Key×V)) | dT (kvs:List (List Key×V))
 | set (S:Int->Bool) (n:Nat)
 | ins (C dx:Addr) (fs:List (Str×V))
 | own (x:Addr)
 | xd (fs:List (Str×V))
 | met (f x:Addr)
 | rng (lo hi:Int)
 | frz (o:Obj) (u:HO)
 | tbl (ps:Array Value)
 | ext (φ:Heap->Prop)
abbrev Hp:=Addr->Option HO
def upd (H:Hp) (a:Addr) (o:HO):Hp:=λb=>if b=a then some o else H b
theorem bY {H:Hp}{a:Addr}{o:HO}:upd H a o a=some o:=by unfold upd;rw[if_pos rfl]
theorem aZ {H:Hp}{a b:Addr}{o:HO} (h:b ≠ a):upd H a o b=H b:=by unfold upd;rw[if_neg h]
theorem JK {H:Hp}{a b:Addr}{o u:HO} (h:H a=some o) (h':H b=some u) (d:o ≠ u):a ≠ b:=by
 intro e;subst e;rw[h] at h';exact d (Option.some.inj h')
theorem cC {H:Hp}{a b:Addr}{o:HO} (h:H a=some o) (h':H b=none):a ≠ b:=by
 intro e;subst e;rw[h] at h';cases h'
section
variable (P:Program) (w:World)
def ObjOk (H:Hp) (h:Heap) (a:Addr):HO->Prop
 | .lst xs=>xs.length<=sizeLine/\∃ (its:List Value) (n:Nat),Vals xs its/\h.get? a=some { cls:=.type "list",data:=.seq its.toArray n }
 | .tup xs=>xs.length<=sizeLine/\∃ its:List Value,Vals xs its/\IsTup h a its.toArray
 | .dK kvs=>kvs.length<=sizeLine/\(a == sysModules)=false/\∃ vs,KV kvs vs/\h.DictOf (bF P w) a vs
 | .dT kvs=>kvs.length<=sizeLine/\(a == sysModules)=false/\∃ xs:List (List Key×Addr×Value),
  Paired (λ(p:List Key×V) (q:List Key×Addr×Value)=>p.1=q.1/\H q.2.1=some (.tup (p.1.map kV))/\RelV p.2 q.2.2) kvs xs/\
  ∃ o es ep,h.get? a=some o/\o.ExactDict/\o.data=.dict es ep/\es.toList=xs.map (entryOfKey (tupleKind (bF P w)))/\(xs.map (·.1)).Nodup
 | .set S n=>h.SetOf (intKind P w) a S n
 | .ins C dx fs=>H dx=some (.own a)/\fs.length<=1000/\dx ≠ a/\h.get? a=some (W.instObj C dx)/\
  ∃ mA,h.Ns1 dx mA/\(∀ f,RelO (fs.lookup f) (mA f))/\PySem.Within mA (fs.map (·.1))
 | .own _=>∃ o,h.get? a=some o
 | .xd fs=>∃ mA,h.Ns1 a mA/\∀ f,RelO (fs.lookup f) (mA f)
 | .rng lo hi=>∃ t u v,h.get? a=some { cls:=.type "range",data:=.fields #[.int lo t,.int hi u,.int 1 v] }
 | .frz o u=>h.get? a=some o/\ObjOk H h a u
 | .tbl ps=>h.get? a=some { cls:=.none,data:=.fields ps }
 | .met f x=>h.get? a=some (W.methodObj (.ref f) (.ref x))
 | .ext φ=>φ h/\(∃ o,h.get? a=some o)/\∀ h1 h2:Heap,φ h1->(∀ o,h1.get? a=some o->h2.get? a=some o)->φ h2
def HOk (H:Hp) (h:Heap):Prop:=∀ a o,H a=some o->ObjOk P w H h a o
end
section
variable {P:Program}{w:World}{H H':Hp}{h h':Heap}{a:Addr}{o:HO}
theorem ObjOk.lt (x:ObjOk P w H h a o):a < h.objs.size:=by
 cases o with
 | lst xs=>obtain⟨_,_,_,_,e⟩:=x;exact Heap.lt_size e
 | tup xs=>obtain⟨_,_,_,p⟩:=x;exact p.lt
 | dK kvs=>obtain⟨_,_,_,_,o,_,_,e,_⟩:=x;exact Heap.lt_size e
 | dT kvs=>obtain⟨_,_,_,_,o,_,_,e,_⟩:=x;exact Heap.lt_size e
 | set S n=>obtain⟨o,_,_,_,e,_⟩:=x;exact Heap.lt_size e
 | ins C dx fs=>obtain⟨_,_,_,e,_⟩:=x;exact Heap.lt_size e
 | own y=>obtain⟨_,e⟩:=x;exact Heap.lt_size e
 | xd fs=>obtain⟨_,⟨_,_,_,e,_⟩,_⟩:=x;exact Heap.lt_size e
 | rng lo hi=>obtain⟨_,_,_,e⟩:=x;exact Heap.lt_size e
 | frz ob u=>obtain⟨e,_⟩:=x;exact Heap.lt_size e
 | tbl ps=>exact Heap.lt_size (show h.get? a=some _ from x)
 | met f y=>exact Heap.lt_size (show h.get? a=some _ from x)
 | ext φ=>obtain⟨_,⟨_,e⟩,_⟩:=x;exact Heap.lt_size e
theorem Paired.mapP {α β:Type}{F G:α->β->Prop}{l₁:List α}{l₂:List β} (r:Paired F l₁ l₂) (f:∀ a b,F a b->G a b):Paired G l₁ l₂:=by
 induction r with
 | nil=>exact .nil
 | cons r t ih=>exact .cons (f _ _ r) ih
theorem ObjOk.stay (x:ObjOk P w H h a o) (k:∀ b u,(b=a\/H b=some (.own a))->h.get? b=some u->h'.get? b=some u)
 (ho:∀ b,H b=some (.own a)->H' b=some (.own a)) (ht:∀ b xs,H b=some (.tup xs)->H' b=some (.tup xs)):ObjOk P w H' h' a o:=by
 induction o with
 | lst xs=>obtain⟨z,its,n,r,e⟩:=x;exact⟨z,its,n,r,k _ _ (.inl rfl) e⟩
 | tup xs=>obtain⟨z,its,r,ob,e,c⟩:=x;exact⟨z,its,r,ob,k _ _ (.inl rfl) e,c⟩
 | dK kvs=>obtain⟨z,y,vs,r,ob,es,ep,e,c⟩:=x;exact⟨z,y,vs,r,ob,es,ep,k _ _ (.inl rfl) e,c⟩
 |
  dT kvs=>
  obtain⟨z,y,xs,r,ob,es,ep,e,c⟩:=x
  exact⟨z,y,xs,Paired.mapP r λp q z=>⟨z.1,ht _ _ z.2.1,z.2.2⟩,ob,es,ep,k _ _ (.inl rfl) e,c⟩
 | set S n=>obtain⟨ob,es,ep,t,e,c⟩:=x;exact⟨ob,es,ep,t,k _ _ (.inl rfl) e,c⟩
 |
  ins C dx fs=>
  obtain⟨d,z,ne,e,mA,⟨od,es,ep,e2,c⟩,r⟩:=x
  exact⟨ho _ d,z,ne,k _ _ (.inl rfl) e,mA,⟨od,es,ep,k _ _ (.inr d) e2,c⟩,r⟩
 | own y=>obtain⟨ob,e⟩:=x;exact⟨ob,k _ _ (.inl rfl) e⟩
 | xd fs=>obtain⟨mA,⟨od,es,ep,e,c⟩,r⟩:=x;exact⟨mA,⟨od,es,ep,k _ _ (.inl rfl) e,c⟩,r⟩
 | rng lo hi=>obtain⟨t,u,v,e⟩:=x;exact⟨t,u,v,k _ _ (.inl rfl) e⟩
 | frz ob u ih=>obtain⟨e,q⟩:=x;exact⟨k _ _ (.inl rfl) e,ih q⟩
 |
  tbl ps=>
  have e:h.get? a=some { cls:=.none,data:=.fields ps }:=x
  show h'.get? a=some { cls:=.none,data:=.fields ps }
  exact k a _ (.inl rfl) e
 |
  met f y=>
  have e:h.get? a=some (W.methodObj (.ref f) (.ref y)):=x
  show h'.get? a=some (W.methodObj (.ref f) (.ref y))
  exact k a _ (.inl rfl) e
 | ext φ=>obtain⟨p,⟨o,e⟩,st⟩:=x;exact⟨st _ _ p λo q=>k _ _ (.inl rfl) q,⟨o,k _ _ (.inl rfl) e⟩,st⟩
theorem HOk.lt (x:HOk P w H h) (e:H a=some o):a < h.objs.size:=(x a o e).lt
theorem HOk.fresh (x:HOk P w H h) (e:h.objs.size<=a):H a=none:=by
 cases q:H a with
 | none=>rfl
 | some u=>exact absurd (Nat.lt_of_lt_of_le (x.lt q) e) (Nat.lt_irrefl _)
theorem HOk.kept (x:HOk P w H h) (k:∀ b u,h.get? b=some u->h'.get? b=some u):HOk P w H h':=λa o e=>
 (x a o e).stay (λb u _ q=>k b u q) (λ_ q=>q) λ_ _ q=>q
theorem HOk.laid (x:HOk P w H h) (k:∀ b u,h.get? b=some u->h'.get? b=some u) (hp:h.objs.size<=a) (new:ObjOk P w (upd H a o) h' a o):HOk P w (upd H a o) h':=λb u e=>by
 have hn:=x.fresh hp
 by_cases hb:b=a
 ·subst hb;rw[bY] at e;cases e;exact new
 ·rw[aZ hb] at e
  exact (x b u e).stay (λc v _ q=>k c v q) (λc q=>by rw[aZ (cC q hn)];exact q) λc xs q=>by rw[aZ (cC q hn)];exact q
end
def Rd (H:Hp) (a:Addr) (u:HO):Prop:=H a=some u\/∃ o,H a=some (.frz o u)
theorem Rd.ok {P:Program}{w:World}{H:Hp}{h:Heap}{a:Addr}{u:HO} (r:Rd H a u) (x:HOk P w H h):ObjOk P w H h a u:=by
 rcases r with r | ⟨o,r⟩
 ·exact x a u r
 ·obtain⟨_,q⟩:=x a _ r
  exact q
def Mut:Option HO->Prop
 | some (.lst _)=>True
 | some (.dK _)=>True
 | some (.dT _)=>True
 | some (.set _ _)=>True
 | some (.ins _ _ _)=>True
 | some (.ext _)=>True
 | _=>False
section
variable {P:Program}{w:World}{H:Hp}{h h':Heap}{x e:Addr}{o':HO}
theorem HOk.write (ok:HOk P w H h) (mu:Mut (H x)) (he:e=x\/H e=some (.own x)) (k:∀ b u,b ≠ e->h.get? b=some u->h'.get? b=some u) (heo:∃ u,h'.get? e=some u)
 (new:ObjOk P w (upd H x o') h' x o'):HOk P w (upd H x o') h':=λb u q=>by
 have nown:∀ c y,H c=some (.own y)->c ≠ x:=λc y r z=>by subst z;rw[r] at mu;exact mu
 have ntup:∀ c xs,H c=some (.tup xs)->c ≠ x:=λc xs r z=>by subst z;rw[r] at mu;exact mu
 by_cases hb:b=x
 ·subst hb;rw[bY] at q;cases q;exact new
 ·rw[aZ hb] at q
  by_cases hbe:b=e
  ·have q':H b=some (.own x):=by
    rcases he with z | z
    ·exact absurd (hbe.trans z) hb
    ·rw[hbe];exact z
   rw[q] at q';cases q'
   obtain⟨v,hv⟩:=heo
   exact⟨v,by rw[hbe];exact hv⟩
  ·refine (ok b u q).stay (λc v hc r=>k c v ?_ r) (λc r=>by rw[aZ (nown c b r)];exact r) λc xs r=>by rw[aZ (ntup c xs r)];exact r
   rcases hc with rfl | hc
   ·exact hbe
   ·rintro rfl
    rcases he with z | z
    ·exact nown c b hc z
    ·rw[hc] at z;cases z;exact hb rfl
end
structure Un (fs ex:List Addr) (H H':Hp) (h h':Heap):Prop where
 keep:∀ b o,h.get? b=some o->H b=none->b ∉ fs->b ∉ ex->h'.get? b=some o
 slot:∀ b o,h.get? b=some o->H b=none->b ∈ fs->b ∉ ex->∃ sl,h'.get? b=some { o with slots:=sl }
 free:∀ b o,h.get? b=some o->H b=none->b ∉ ex->H' b=none
 there:∀ b o,h.get? b=some o->b ∉ ex->∃ o',h'.get? b=some o'
 tups:∀ b xs,H b=some (.tup xs)->H' b=some (.tup xs)
 frzs:∀ b o u,H b=some (.frz o u)->H' b=some (.frz o u)
 tbls:∀ b ps,H b=some (.tbl ps)->∃ more,H' b=some (.tbl (ps++more))
section
variable {fs fs' ex ex':List Addr}{H H1 H2:Hp}{h h1 h2 h':Heap}{a x e:Addr}{o:HO}
theorem Un.any (u:Un fs ex H H1 h h1) {b:Addr}{ob:Obj} (q:h.get? b=some ob) (n:H b=none) (hx:b ∉ ex):∃ sl,h1.get? b=some { ob with slots:=sl }:=by
 by_cases hb:b ∈ fs
 ·exact u.slot b ob q n hb hx
 ·exact⟨ob.slots,u.keep b ob q n hb hx⟩
theorem Un.kept (k:∀ b u,h.get? b=some u->h'.get? b=some u):Un fs ex H H h h':=
 ⟨λb ob q _ _ _=>k b ob q,λb ob q _ _ _=>⟨ob.slots,k b ob q⟩,λ_ _ _ n _=>n,λb ob q _=>⟨ob,k b ob q⟩,λ_ _ q=>q,λ_ _ _ q=>q,λ_ ps q=>⟨#[],by rw[q];simp⟩⟩
theorem Un.refl:Un fs ex H H h h:=Un.kept λ_ _ q=>q
theorem Un.laid (k:∀ b u,h.get? b=some u->h'.get? b=some u) (hp:h.objs.size<=a) (hn:H a=none):Un fs ex H (upd H a o) h h' where
 keep:=λb u q _ _ _=>k b u q
 slot:=λb u q _ _ _=>⟨u.slots,k b u q⟩
 free:=λb u q n _=>by rw[aZ (Nat.ne_of_lt (Nat.lt_of_lt_of_le (Heap.lt_size q) hp))];exact n
 there:=λb u q _=>⟨u,k b u q⟩
 tups:=λb xs q=>by rw[aZ (cC q hn)];exact q
 frzs:=λb u xs q=>by rw[aZ (cC q hn)];exact q
 tbls:=λb ps q=>⟨#[],by rw[aZ (cC q hn),q];simp⟩
theorem Un.write (mu:Mut (H x)) (he:e=x\/H e=some (.own x)) (k:∀ b u,b ≠ e->h.get? b=some u->h'.get? b=some u) (heo:∃ u,h'.get? e=some u):Un fs ex H (upd H x o) h h':=by
 have hx:∀ b,H b=none->b ≠ x:=λb n z=>by subst z;rw[n] at mu;exact mu
 have hb:∀ b,H b=none->b ≠ e:=λb n z=>by
  subst z
  rcases he with r | r
  ·exact hx b n r
  ·rw[n] at r;cases r
 have hm:∀ b u,H b=some u->¬ Mut (some u)->b ≠ x:=λb u q nm z=>by subst z;rw[q] at mu;exact nm mu
 refine⟨λb u q n _ _=>k b u (hb b n) q,λb u q n _ _=>⟨u.slots,k b u (hb b n) q⟩,λb u q n _=>by rw[aZ (hx b n)];exact n,λb u q _=>?_,
  λb xs q=>by rw[aZ (hm b _ q λz=>z)];exact q,λb u xs q=>by rw[aZ (hm b _ q λz=>z)];exact q,λb ps q=>⟨#[],by rw[aZ (hm b _ q λz=>z),q];simp⟩⟩
 by_cases hbe:b=e
 ·subst hbe;exact heo
 ·exact⟨u,k b u hbe q⟩
end
def trk (h:Heap) (H:Hp):List Addr:=(List.range h.objs.size).filter λa=>(H a).isSome
def km (h:Heap) (H:Hp):Heap:=W.hideAll h (trk h H)
theorem yH (h:Heap) (H:Hp):(km h H).objs.size=h.objs.size:=W.hideAll_size _ _
theorem zr {h:Heap}{H:Hp}{b:Addr}{o:Obj} (e:h.get? b=some o) (n:H b=none):(km h H).get? b=some o:=
 W.hideAll_get _ e λhm=>by
  have q:(H b).isSome=true:=(List.mem_filter.mp hm).2
  rw[n] at q;simp at q
theorem CH {h:Heap}{H:Hp}{b:Addr}{o:Obj} (e:(km h H).get? b=some o):h.get? b=some o/\H b=none:=by
 have e':h.get? b=some o:=W.of_hideAll (trk h H) e
 refine⟨e',?_⟩
 cases q:H b with
 | none=>rfl
 |
  some x=>
  have hm:b ∈ trk h H:=List.mem_filter.mpr ⟨List.mem_range.mpr (Heap.lt_size e'),by simp [q]⟩
  have z:(km h H).get? b=none:=W.hideAll_none (trk h H) hm
  rw[z] at e;cases e
def DF (g h:Heap) (L:Addr):List (Addr×Obj):=(List.range h.objs.size).filterMap λa=>if a=L\/(g.get? a).isSome=true then none else (h.get? a).map λo=>(a,o)
def rest (g h:Heap) (L d:Addr):List (Addr×Obj):=(DF g h L).filter λp=>decide (p.1 ≠ d)
end L2
namespace L2
open PySem PySem.Spec PyProof.Rows
structure Mod (K:W.Frag) (mg:Str->Option Value) (base:Heap):Prop where
 kin:K.In base
 glob:base.Ns mainGlobals mg
 blt:∃ mb,base.Ns builtinsNs mb/\∀ x:Str,x ≠ "__name__"->mb x=bootBuiltins x
 nolimit:base.NoLimit
structure Cx where
 prog:Program
 w:World
 K:W.Frag
 mg:Str->Option Value
 base:Heap
 A:Around
 N:List Str
 s₀:Shared
 H₀:Hp
 env:Env
 outer:List Env
 stack:List Env
 ex:List Addr
 fn:Str->Bool
 calm:Bool
 pn:List (Addr×Obj)
 xe:Value->Shared->Prop
def frs (l:List Env):List Addr:=l.filterMap (·.frame)
abbrev Cx.fs (X:Cx):List Addr:=frs X.outer
def Vis (sc:Scope) (x:Str):Prop:=sc.names.lookup x=some .local\/sc.names.lookup x=some .cell\/sc.names.lookup x=some .free
def Loc (sc:Scope) (x:Str):Prop:=sc.names.lookup x=some .local\/sc.names.lookup x=some .cell
def wd (env:Env) (h:Heap) (m:Str->Option Value) (x:Str) (u:Value):Prop:=
 (env.kindOf x=some .local/\m x=some u)\/((env.kindOf x=some .cell\/env.kindOf x=some .free)/\∃ c,env.cells.lookup x=some c/\h.IsCell c (some u))
structure Cx.Ok (X:Cx):Prop where
 mod:Mod X.K X.mg X.base
 kind:X.env.scope.kind=.function
 glob:X.env.globals=mainGlobals
 blt:X.env.builtins=builtinsNs
 above:X.s₀.heap.objs.size<=X.env.locals
 inj:∀ x y c,X.env.cells.lookup x=some c->X.env.cells.lookup y=some c->x=y
 has:∀ x,(X.env.kindOf x=some .cell\/X.env.kindOf x=some .free)->∃ c,X.env.cells.lookup x=some c
 cab:∀ x c,X.fn x=true->X.env.cells.lookup x=some c->X.s₀.heap.objs.size<=c
 hd:X.calm=true->X.A.handled=none
 frames:X.A.frames=some X.stack
 stk:X.stack=X.outer\/(X.stack=X.env :: X.outer/\X.env.frame=some X.env.locals)
 exf:∀ b ∈ X.ex,b ≠ X.env.locals/\∀ x c,X.env.cells.lookup x=some c->c ≠ b
 bs:∀ b o,X.base.get? b=some o->X.s₀.heap.get? b=some o/\X.H₀ b=none
 bsz:X.base.objs.size<=X.s₀.heap.objs.size
 noex:∀ b o,X.base.get? b=some o->b ∉ X.ex
 exfs:∀ b ∈ X.ex,b ∉ X.fs
 funs:X.s₀.heap.FunFrames X.base X.outer
 frf:∀ b ∈ X.fs,X.H₀ b=none
structure Inv (X:Cx) (pins:List (Addr×Obj)) (σ:List (Option V)) (H:Hp) (s:Shared):Prop where
 ok:X.Ok
 os:s.os=X.s₀.os
 bare:AllBare s.gens
 base:Un X.fs X.ex X.H₀ H X.s₀.heap s.heap
 loc:∃ m,s.heap.Ns X.env.locals m/\∀ (i:Nat) (x:Str) (v:V),X.N[i]?=some x->σ[i]?=some (some v)->Vis X.env.scope x->∃ u,RelV v u/\wd X.env s.heap m x u
 cell:∀ x c,X.env.cells.lookup x=some c->∃ v,s.heap.IsCell c v
 free:H X.env.locals=none
 freeC:∀ x c,X.env.cells.lookup x=some c->H c=none
 pin:∀ p ∈ X.pn++pins,s.heap.get? p.1=some p.2/\H p.1=none/\p.1 ≠ X.env.locals/\p.1 ∉ X.fs/\∀ v,p.2.data ≠ .cell v
 hok:HOk X.prog X.w H s.heap
 len:σ.length=X.N.length
section
variable {X:Cx}{pins:List (Addr×Obj)}{σ:List (Option V)}{H H':Hp}{s:Shared}{h':Heap}
theorem Cx.Ok.nofr (ok:X.Ok) {b:Addr}{o:Obj} (e:X.base.get? b=some o):b ∉ X.fs:=λhb=>by
 have:=(ok.funs.mem hb).1
 rw[e] at this;cases this
theorem Inv.bs (I:Inv X pins σ H s):∀ b o,X.base.get? b=some o->s.heap.get? b=some o/\H b=none:=λb o e=>
 ⟨I.base.keep b o (I.ok.bs b o e).1 (I.ok.bs b o e).2 (I.ok.nofr e) (I.ok.noex b o e),I.base.free b o (I.ok.bs b o e).1 (I.ok.bs b o e).2 (I.ok.noex b o e)⟩
theorem Inv.bk (I:Inv X pins σ H s):∀ b o,X.base.get? b=some o->s.heap.get? b=some o:=λb o e=>(I.bs b o e).1
theorem Inv.mod (I:Inv X pins σ H s):Mod X.K X.mg X.base:=I.ok.mod
theorem Inv.kIn (I:Inv X pins σ H s):X.K.In s.heap:=I.ok.mod.kin.keeps I.bk
theorem Inv.lt (I:Inv X pins σ H s):X.env.locals < s.heap.objs.size:=let ⟨_,hn,_⟩:=I.loc;hn.lt
theorem Inv.sz (I:Inv X pins σ H s):X.s₀.heap.objs.size<=s.heap.objs.size:=Nat.le_trans I.ok.above (Nat.le_of_lt I.lt)
theorem Inv.nofs (I:Inv X pins σ H s) {a:Addr} (h:s.heap.objs.size<=a):a ∉ X.fs:=λhb=>by
 obtain⟨_,o,ho,_⟩:=I.ok.funs.mem hb
 exact absurd (Nat.lt_of_lt_of_le (Heap.lt_size ho) (Nat.le_trans I.sz h)) (Nat.lt_irrefl _)
theorem Inv.cne (I:Inv X pins σ H s):∀ x c,X.env.cells.lookup x=some c->c ≠ X.env.locals:=λx c e z=>by
 obtain⟨v,o,ho,hd⟩:=I.cell x c e
 obtain⟨m,⟨o',es,ep,ho',hd',_⟩,_⟩:=I.loc
 rw[z,ho'] at ho;cases ho;rw[hd'] at hd;cases hd
theorem Inv.funs (I:Inv X pins σ H s):s.heap.FunFrames X.base X.outer:=by
 have all:∀ (l:List Env),(∀ b ∈ frs l,b ∈ X.fs)->X.s₀.heap.FunFrames X.base l->s.heap.FunFrames X.base l:=by
  intro l
  induction l with
  | nil=>intro _ _;trivial
  |
   cons env r ih=>
   intro hs hl
   obtain⟨hk,⟨L,o,hf,hn,ho,hd⟩,hr⟩:=hl
   have hL:L ∈ X.fs:=hs L (by unfold frs;rw[List.filterMap_cons,hf];exact List.mem_cons_self)
   obtain⟨sl,e⟩:=I.base.slot L o ho (I.ok.frf L hL) hL λz=>I.ok.exfs L z hL
   exact⟨hk,⟨L,_,hf,hn,e,hd⟩,ih (λb hb=>hs b (by unfold frs;rw[List.filterMap_cons,hf];exact List.mem_cons_of_mem _ hb)) hr⟩
 exact all X.outer (λ_ hb=>hb) I.ok.funs
theorem Inv.stack (I:Inv X pins σ H s):s.heap.FunFrames X.base X.stack:=by
 rcases I.ok.stk with e | ⟨e,hf⟩
 ·rw[e];exact I.funs
 ·rw[e]
  obtain⟨m,hn,_⟩:=I.loc
  refine .cons (by rw[I.ok.kind];decide) hf hn ?_ I.funs
  exact Heap.get?_none_of_le (Nat.le_trans I.ok.bsz I.ok.above)
theorem Inv.stkSub (I:Inv X pins σ H s):∀ b ∈ frs X.stack,b ∈ X.env.locals :: X.fs:=λb hb=>by
 rcases I.ok.stk with e | ⟨e,hf⟩
 ·rw[e] at hb;exact List.mem_cons_of_mem _ hb
 ·rw[e] at hb
  unfold frs at hb
  rw[List.filterMap_cons,hf] at hb
  exact hb
theorem Inv.stkFree (I:Inv X pins σ H s):∀ b ∈ frs X.stack,H b=none:=λb hb=>by
 rcases List.mem_cons.mp (I.stkSub b hb) with e | hb
 ·rw[e];exact I.free
 ·obtain⟨_,o,ho,_⟩:=I.ok.funs.mem hb
  exact I.base.free b o ho (I.ok.frf b hb) λz=>I.ok.exfs b z hb
theorem Inv.step {g':Array GenState}{t':Nat}{d':Drawn}{ch:List Addr} (I:Inv X pins σ H s)
 (hch:∀ b ∈ ch,(b ∈ X.ex\/X.s₀.heap.objs.size<=b)/\b ≠ X.env.locals/\(∀ x c,X.env.cells.lookup x=some c->c ≠ b)/\∀ p ∈ X.pn++pins,p.1 ≠ b)
 (keep:∀ b o,b ≠ X.env.locals->b ∉ X.fs->b ∉ ch->s.heap.get? b=some o->H b=none->h'.get? b=some o)
 (slot:∀ b o,b ≠ X.env.locals->b ∈ X.fs->b ∉ ch->s.heap.get? b=some o->H b=none->∃ sl,h'.get? b=some { o with slots:=sl }) (free:∀ b o,b ∉ ch->s.heap.get? b=some o->H b=none->H' b=none)
 (there:∀ b o,b ∉ ch->s.heap.get? b=some o->∃ o',h'.get? b=some o')
 (tups:∀ b xs,H b=some (.tup xs)->H' b=some (.tup xs)) (frzs:∀ b o u,H b=some (.frz o u)->H' b=some (.frz o u)) (tbls:∀ b ps,H b=some (.tbl ps)->∃ more,H' b=some (.tbl (ps++more)))
 (ns:∀ m,s.heap.Ns X.env.locals m->h'.Ns X.env.locals m) (hok:HOk X.prog X.w H' h') (hg:AllBare g'):
 Inv X pins σ H' { s with heap:=h',gens:=g',drawn:=d',toks:=t' }:=by
 have neL:∀ b o,X.s₀.heap.get? b=some o->b ≠ X.env.locals:=λb o e=>Nat.ne_of_lt (Nat.lt_of_lt_of_le (Heap.lt_size e) I.ok.above)
 have neC:∀ b o,X.s₀.heap.get? b=some o->b ∉ X.ex->b ∉ ch:=λb o e hx hb=>by
  rcases (hch b hb).1 with z | z
  ·exact hx z
  ·exact absurd (Nat.lt_of_lt_of_le (Heap.lt_size e) z) (Nat.lt_irrefl _)
 have cellK:∀ x c,X.env.cells.lookup x=some c->∀ v,s.heap.IsCell c v->h'.IsCell c v:=λx c e v ⟨o,ho,hd⟩=>by
  have nch:c ∉ ch:=λz=>(hch c z).2.2.1 x c e rfl
  by_cases hc:c ∈ X.fs
  ·obtain⟨sl,q⟩:=slot c o (I.cne x c e) hc nch ho (I.freeC x c e)
   exact⟨_,q,hd⟩
  ·exact⟨o,keep c o (I.cne x c e) hc nch ho (I.freeC x c e),hd⟩
 refine⟨I.ok,I.os,hg,⟨λb o e n hb hx=>?_,λb o e n hb hx=>?_,λb o e n hx=>?_,λb o e hx=>?_,λb xs e=>tups b xs (I.base.tups b xs e),λb o xs e=>frzs b o xs (I.base.frzs b o xs e),λb ps e=>?_⟩,?_,λx c e=>?_,?_,λx c e=>?_,λp hp=>?_,hok,I.len⟩
 ·exact keep b o (neL b o e) hb (neC b o e hx) (I.base.keep b o e n hb hx) (I.base.free b o e n hx)
 ·obtain⟨sl,e1⟩:=I.base.slot b o e n hb hx
  obtain⟨sl',e2⟩:=slot b _ (neL b o e) hb (neC b o e hx) e1 (I.base.free b o e n hx)
  exact⟨sl',e2⟩
 ·obtain⟨o',e1⟩:=I.base.there b o e hx
  exact free b o' (neC b o e hx) e1 (I.base.free b o e n hx)
 ·obtain⟨o',e1⟩:=I.base.there b o e hx
  exact there b o' (neC b o e hx) e1
 ·obtain⟨m1,e1⟩:=I.base.tbls b ps e
  obtain⟨m2,e2⟩:=tbls b _ e1
  exact⟨m1++m2,by rw[e2,Array.append_assoc]⟩
 ·obtain⟨m,hn,hl⟩:=I.loc
  refine⟨m,ns m hn,λi x v e1 e2 e3=>?_⟩
  obtain⟨u,r,l⟩:=hl i x v e1 e2 e3
  refine⟨u,r,?_⟩
  rcases l with l | ⟨k,c,e,z⟩
  ·exact .inl l
  ·exact .inr ⟨k,c,e,cellK x c e _ z⟩
 ·obtain⟨v,z⟩:=I.cell x c e
  exact⟨v,cellK x c e v z⟩
 ·obtain⟨m,⟨o,_,_,ho,_⟩,_⟩:=I.loc
  exact free _ o (λz=>(hch _ z).2.1 rfl) ho I.free
 ·obtain⟨v,o,ho,hd⟩:=I.cell x c e
  exact free c o (λz=>(hch c z).2.2.1 x c e rfl) ho (I.freeC x c e)
 ·obtain⟨e,n,ne,nf,d⟩:=I.pin p hp
  have nch:p.1 ∉ ch:=λz=>(hch p.1 z).2.2.2 p hp rfl
  exact⟨keep p.1 p.2 ne nf nch e n,free p.1 p.2 nch e n,ne,nf,d⟩
theorem Inv.un {t':Nat} (I:Inv X pins σ H s) (u:Un X.fs [] H H' s.heap h') (hok:HOk X.prog X.w H' h'):Inv X pins σ H' { s with heap:=h',toks:=t' }:=by
 obtain⟨m,⟨o,es,ep,ho,r⟩,_⟩:=id I.loc
 obtain⟨sl,hL⟩:=u.any ho I.free (by simp)
 exact I.step (g':=s.gens) (d':=s.drawn) (ch:=[]) (λ_ z=>nomatch z) (λb o _ hb _ e n=>u.keep b o e n hb (by simp)) (λb o _ hb _ e n=>u.slot b o e n hb (by simp)) (λb o _ e n=>u.free b o e n (by simp)) (λb o _ e=>u.there b o e (by simp)) u.tups u.frzs u.tbls (λm' hm=>by
  obtain⟨o',es',ep',ho',r'⟩:=hm
  rw[ho] at ho';cases ho'
  exact⟨_,es',ep',hL,r'⟩) hok I.bare
theorem Inv.call {g':Array GenState}{t':Nat}{d':Drawn}{ch:List Addr} (I:Inv X pins σ H s) (u:Un (frs X.stack) ch H H' s.heap h') (hok:HOk X.prog X.w H' h') (hg:AllBare g')
 (hch:∀ b ∈ ch,(b ∈ X.ex\/X.s₀.heap.objs.size<=b)/\b ≠ X.env.locals/\(∀ x c,X.env.cells.lookup x=some c->c ≠ b)/\∀ p ∈ X.pn++pins,p.1 ≠ b):
 Inv X pins σ H' { s with heap:=h',gens:=g',drawn:=d',toks:=t' }:=by
 obtain⟨m,⟨o,es,ep,ho,r⟩,_⟩:=id I.loc
 obtain⟨sl,hL⟩:=u.any ho I.free λz=>(hch _ z).2.1 rfl
 exact I.step (ch:=ch) hch (λb o hL hb hc e n=>u.keep b o e n (λz=>(List.mem_cons.mp (I.stkSub b z)).elim hL hb) hc) (λb o _ _ hc e n=>u.any e n hc) (λb o hc e n=>u.free b o e n hc) (λb o hc e=>u.there b o e hc) u.tups u.frzs u.tbls (λm' hm=>by
  obtain⟨o',es',ep',ho',r'⟩:=hm
  rw[ho] at ho';cases ho'
  exact⟨_,es',ep',hL,r'⟩) hok hg
theorem Inv.turned {t':Nat}{it:Addr} (I:Inv X pins σ H s) (k:∀ b o,b ≠ it->s.heap.get? b=some o->h'.get? b=some o) (hn:H it=none) (hL:it ≠ X.env.locals)
 (h1:it ∈ X.ex\/X.s₀.heap.objs.size<=it) (h2:∀ x c,X.env.cells.lookup x=some c->c ≠ it) (h3:∀ p ∈ X.pn++pins,p.1 ≠ it):Inv X pins σ H { s with heap:=h',toks:=t' }:=by
 have nit:∀ b u,H b=some u->b ≠ it:=λb u e z=>by rw[z,hn] at e;cases e
 refine I.step (g':=s.gens) (d':=s.drawn) (ch:=[it]) (λb hb=>?_) (λb o _ _ hc e _=>k b o (λz=>hc (by simp [z])) e) (λb o _ _ hc e _=>⟨o.slots,k b o (λz=>hc (by simp [z])) e⟩) (λ_ _ _ _ n=>n)
  (λb o hc e=>⟨o,k b o (λz=>hc (by simp [z])) e⟩) (λ_ _ e=>e) (λ_ _ _ e=>e) (λb ps e=>⟨#[],by rw[e];simp⟩) (λm hm=>?_) (λb u e=>?_) I.bare
 ·have e:b=it:=by simpa using hb
  subst e
  exact⟨h1,hL,h2,h3⟩
 ·obtain⟨o,es,ep,ho,r⟩:=hm
  exact⟨o,es,ep,k _ o (Ne.symm hL) ho,r⟩
 ·refine (I.hok b u e).stay (λc v hc q=>k c v ?_ q) (λ_ q=>q) λ_ _ q=>q
  rcases hc with z | z
  ·rw[z];exact nit b u e
  ·exact nit c _ z
theorem Inv.tok (I:Inv X pins σ H s) (t:Nat):Inv X pins σ H { s with toks:=t }:=I.un (h':=s.heap) (t':=t) Un.refl I.hok
theorem Inv.kept {t':Nat} (I:Inv X pins σ H s) (k:∀ b u,s.heap.get? b=some u->h'.get? b=some u):Inv X pins σ H { s with heap:=h',toks:=t' }:=I.un (Un.kept k) (I.hok.kept k)
theorem Inv.laid {a:Addr}{o:HO}{t':Nat} (I:Inv X pins σ H s) (k:∀ b u,s.heap.get? b=some u->h'.get? b=some u) (hp:s.heap.objs.size<=a) (new:ObjOk X.prog X.w (upd H a o) h' a o):
 Inv X pins σ (upd H a o) { s with heap:=h',toks:=t' }:=I.un (Un.laid k hp (I.hok.fresh hp)) (I.hok.laid k hp new)
theorem Inv.write {x e:Addr}{o:HO}{t':Nat} (I:Inv X pins σ H s) (mu:Mut (H x)) (he:e=x\/H e=some (.own x)) (k:∀ b u,b ≠ e->s.heap.get? b=some u->h'.get? b=some u) (heo:∃ u,h'.get? e=some u)
 (new:ObjOk X.prog X.w (upd H x o) h' x o):Inv X pins σ (upd H x o) { s with heap:=h',toks:=t' }:=I.un (Un.write mu he k heo) (I.hok.write mu he k heo new)
theorem Inv.pins_of {pins':List (Addr×Obj)} (I:Inv X pins σ H s) (h:∀ p ∈ pins',s.heap.get? p.1=some p.2/\H p.1=none/\p.1 ≠ X.env.locals/\p.1 ∉ X.fs/\∀ v,p.2.data ≠ .cell v):Inv X pins' σ H s:=
 ⟨I.ok,I.os,I.bare,I.base,I.loc,I.cell,I.free,I.freeC,λp hp=>(List.mem_append.mp hp).elim (λz=>I.pin p (List.mem_append_left _ z)) (h p),I.hok,I.len⟩
theorem nq {N:List Str} (hN:N.Nodup) {i j:Nat}{x:Str} (a:N[i]?=some x) (b:N[j]?=some x):i=j:=by
 obtain⟨h1,e1⟩:=List.getElem?_eq_some_iff.mp a
 obtain⟨h2,e2⟩:=List.getElem?_eq_some_iff.mp b
 exact (List.getElem_inj hN).mp (e1.trans e2.symm)
theorem pY {M:Model}{A:Around}{E:Value->Shared->Prop}{i:Nat}{x:Str}{v:V}{u:Value}{Q:Unit->Shared->Prop} (I:Inv X pins σ H s) (hN:X.N.Nodup) (hi:X.N[i]?=some x) (hx:Loc X.env.scope x) (r:RelV v u)
 (h:∀ s',Inv X pins (σ.set i (some v)) H s'->(∃ a,Heap.SameBut a s.heap s'.heap/\(a=X.env.locals\/X.env.cells.lookup x=some a))->Q () s') (hf:X.fn x=true\/X.env.scope.names.lookup x=some .local:=by first | exact .inl rfl | exact .inr rfl | assumption):wpAny M A (storeName X.env x u) Q E s:=by
 obtain⟨m,hn,hl⟩:=id I.loc
 have hcls:(X.env.scope.kind == .class || (X.env.scope.kind == .module && X.env.locals != X.env.globals))=false:=by rw[I.ok.kind];rfl
 have hiσ:i < σ.length:=by rw[I.len];exact (List.getElem?_eq_some_iff.mp hi).1
 have cne:=I.cne
 have tracked:∀ {a:Addr}{h':Heap},(∃ o,s.heap.get? a=some o/\H a=none)->Heap.SameBut a s.heap h'->HOk X.prog X.w H h':=λ{a h'} ha hs b ob e=>by
  obtain⟨_,_,hfree⟩:=ha
  refine (I.hok b ob e).stay (λc w' hc q=>(hs.2 c ?_).trans q) (λ_ q=>q) λ_ _ q=>q
  rintro rfl
  rcases hc with rfl | hc
  ·rw[hfree] at e;cases e
  ·rw[hfree] at hc;cases hc
 rcases hx with hk | hk
 ·refine wpAny_storeName_local hk hn (λh' hn' hs=>?_) hcls
  obtain⟨oL,_,_,hoL,_⟩:=id hn
  refine h _ ⟨I.ok,I.os,I.bare,⟨λb o e n hb hx=>?_,λb o e n hb hx=>?_,I.base.free,λb o e hx=>?_,I.base.tups,I.base.frzs,I.base.tbls⟩,⟨_,hn',λj y v' e1 e2 e3=>?_⟩,λy c e=>?_,I.free,I.freeC,λp hp=>?_,tracked ⟨oL,hoL,I.free⟩ hs,by simpa using I.len⟩ ⟨_,hs,.inl rfl⟩
  ·exact (hs.2 b (Nat.ne_of_lt (Nat.lt_of_lt_of_le (Heap.lt_size e) I.ok.above))).trans (I.base.keep b o e n hb hx)
  ·obtain⟨sl,e1⟩:=I.base.slot b o e n hb hx
   exact⟨sl,(hs.2 b (Nat.ne_of_lt (Nat.lt_of_lt_of_le (Heap.lt_size e) I.ok.above))).trans e1⟩
  ·obtain⟨o',e1⟩:=I.base.there b o e hx
   exact⟨o',(hs.2 b (Nat.ne_of_lt (Nat.lt_of_lt_of_le (Heap.lt_size e) I.ok.above))).trans e1⟩
  ·by_cases hj:j=i
   ·subst hj
    rw[hi] at e1;cases e1
    rw[List.getElem?_set_self hiσ] at e2
    cases e2
    exact⟨u,r,.inl ⟨hk,by simp⟩⟩
   ·rw[List.getElem?_set_ne (Ne.symm hj)] at e2
    obtain⟨u',r',q⟩:=hl j y v' e1 e2 e3
    refine⟨u',r',?_⟩
    rcases q with ⟨k,e⟩ | ⟨k,c,e,z⟩
    ·refine .inl ⟨k,?_⟩
     have:y ≠ x:=λe=>hj (nq hN e1 (e ▸ hi))
     simp [this,e]
    ·exact .inr ⟨k,c,e,z.sameBut hs (cne y c e)⟩
  ·obtain⟨w',z⟩:=I.cell y c e
   exact⟨w',z.sameBut hs (cne y c e)⟩
  ·obtain⟨e,n,ne,nf,d⟩:=I.pin p hp
   exact⟨(hs.2 p.1 ne).trans e,n,ne,nf,d⟩
 ·have hfn:X.fn x=true:=by
   rcases hf with z | z
   ·exact z
   ·rw[z] at hk;cases hk
  obtain⟨c,hc⟩:=I.ok.has x (.inl hk)
  obtain⟨w',z⟩:=I.cell x c hc
  refine wpAny_storeName_cell I.ok.kind hk hc z (λh' hc' hs=>?_)
  obtain⟨oc,hoc,hocd⟩:=id z
  refine h { s with heap:=h' } ⟨I.ok,I.os,I.bare,⟨λb o e n hb hx=>?_,λb o e n hb hx=>?_,I.base.free,λb o e hx=>?_,I.base.tups,I.base.frzs,I.base.tbls⟩,⟨m,hn.sameBut hs (Ne.symm (cne x c hc)),λj y v' e1 e2 e3=>?_⟩,λy c' e=>?_,I.free,I.freeC,λp hp=>?_,tracked ⟨oc,hoc,I.freeC x c hc⟩ hs,by simpa using I.len⟩ ⟨c,hs,.inr hc⟩
  ·exact (hs.2 b (Nat.ne_of_lt (Nat.lt_of_lt_of_le (Heap.lt_size e) (I.ok.cab x c hfn hc)))).trans (I.base.keep b o e n hb hx)
  ·obtain⟨sl,e1⟩:=I.base.slot b o e n hb hx
   exact⟨sl,(hs.2 b (Nat.ne_of_lt (Nat.lt_of_lt_of_le (Heap.lt_size e) (I.ok.cab x c hfn hc)))).trans e1⟩
  ·obtain⟨o',e1⟩:=I.base.there b o e hx
   exact⟨o',(hs.2 b (Nat.ne_of_lt (Nat.lt_of_lt_of_le (Heap.lt_size e) (I.ok.cab x c hfn hc)))).trans e1⟩
  ·by_cases hj:j=i
   ·subst hj
    rw[hi] at e1;cases e1
    rw[List.getElem?_set_self hiσ] at e2
    cases e2
    exact⟨u,r,.inr ⟨.inl hk,c,hc,hc'⟩⟩
   ·rw[List.getElem?_set_ne (Ne.symm hj)] at e2
    obtain⟨u',r',q⟩:=hl j y v' e1 e2 e3
    refine⟨u',r',?_⟩
    rcases q with q | ⟨k,c',e,z'⟩
    ·exact .inl q
    ·refine .inr ⟨k,c',e,z'.sameBut hs ?_⟩
     rintro rfl
     exact hj (nq hN e1 (I.ok.inj _ _ _ e hc ▸ hi))
  ·by_cases hcc:c'=c
   ·subst hcc;exact⟨_,hc'⟩
   ·obtain⟨w2,z2⟩:=I.cell y c' e
    exact⟨w2,z2.sameBut hs hcc⟩
  ·obtain⟨e,n,ne,nf,d⟩:=I.pin p hp
   refine⟨(hs.2 p.1 ?_).trans e,n,ne,nf,d⟩
   intro q
   rw[q,hoc] at e
   have q':oc=p.2:=Option.some.inj e
   exact d w' (by rw[<- q'];exact hocd)
theorem gu {M:Model}{A:Around}{E:Value->Shared->Prop}{i:Nat}{x:Str}{v:V}{u:Value}{Q:Unit->Shared->Prop} (I:Inv X pins σ H s) (hN:X.N.Nodup) (hi:X.N[i]?=some x) (hx:Loc X.env.scope x) (r:RelV v u)
 (h:∀ s',Inv X pins (σ.set i (some v)) H s'->Q () s') (hf:X.fn x=true\/X.env.scope.names.lookup x=some .local:=by first | exact .inl rfl | exact .inr rfl | assumption):wpAny M A (storeName X.env x u) Q E s:=
 pY I hN hi hx r (λs' I' _=>h s' I') hf
theorem Inv.call' {s':Shared}{ch:List Addr} (I:Inv X pins σ H s) (ho:s'.os=s.os) (u:Un (frs X.stack) ch H H' s.heap s'.heap) (hok:HOk X.prog X.w H' s'.heap) (hg:AllBare s'.gens)
 (hch:∀ b ∈ ch,(b ∈ X.ex\/X.s₀.heap.objs.size<=b)/\b ≠ X.env.locals/\(∀ x c,X.env.cells.lookup x=some c->c ≠ b)/\∀ p ∈ X.pn++pins,p.1 ≠ b):Inv X pins σ H' s':=by
 obtain⟨h',g',d',t',o'⟩:=s'
 have e:o'=s.os:=ho
 subst e
 exact I.call (g':=g') (t':=t') (d':=d') u hok hg hch
end
abbrev XK:=Value->Option Addr->Hp->Prop
abbrev St:=List (Option V)
abbrev VK:=V->Hp->Prop
abbrev TE:=St->Hp->VK->Prop
abbrev TT:=St->Hp->(Bool->Hp->Prop)->Prop
abbrev TA:=St->Hp->(List V->Hp->Prop)->Prop
structure Ends where
 nx:St->Hp->Prop
 rt:VK
 bk:St->Hp->Prop:=λ_ _=>False
 ct:St->Hp->Prop:=λ_ _=>False
abbrev TS:=Ends->St->Hp->Prop
def EP (X:Cx) (pins:List (Addr×Obj)) (σ:St) (Q:VK) (u:Value) (s':Shared):Prop:=∃ v H',Inv X pins σ H' s'/\RelV v u/\Q v H'
def TP (X:Cx) (pins:List (Addr×Obj)) (σ:St) (Q:Bool->Hp->Prop) (b:Bool) (s':Shared):Prop:=∃ H',Inv X pins σ H' s'/\Q b H'
def AP (X:Cx) (pins:List (Addr×Obj)) (σ:St) (Q:List V->Hp->Prop) (us:List Value) (s':Shared):Prop:=∃ vs H',Inv X pins σ H' s'/\Vals vs us/\Q vs H'
def SP (X:Cx) (pins:List (Addr×Obj)) (D:Ends) (f:Flow) (s':Shared):Prop:=
 match f with
 | .next=>∃ σ' H',Inv X pins σ' H' s'/\D.nx σ' H'
 | .brk=>∃ σ' H',Inv X pins σ' H' s'/\D.bk σ' H'
 | .cont=>∃ σ' H',Inv X pins σ' H' s'/\D.ct σ' H'
 | .ret u=>∃ v σ' H',Inv X pins σ' H' s'/\RelV v u/\D.rt v H'
def PE (X:Cx) (e:Expr) (t:TE):Prop:=
 ∀ (pins:List (Addr×Obj)) (s:Shared) (σ:St) (H:Hp) (Q:VK),Inv X pins σ H s->t σ H Q->wpAny (model X.prog X.w) X.A (eval e X.env) (EP X pins σ Q) X.xe s
def PT (X:Cx) (e:Expr) (t:TT):Prop:=
 ∀ (pins:List (Addr×Obj)) (s:Shared) (σ:St) (H:Hp) (Q:Bool->Hp->Prop),Inv X pins σ H s->t σ H Q->wpAny (model X.prog X.w) X.A (isTrue e X.env (eval e X.env)) (TP X pins σ Q) X.xe s
def PW (X:Cx) (e:Expr) (t:TT):Prop:=
 ∀ (ci:Sem Value) (pins:List (Addr×Obj)) (s:Shared) (σ:St) (H:Hp) (Q:Bool->Hp->Prop),Inv X pins σ H s->t σ H Q->wpAny (model X.prog X.w) X.A (isTrue e X.env ci) (TP X pins σ Q) X.xe s
theorem PW.pt {X:Cx}{e:Expr}{t:TT} (h:PW X e t):PT X e t:=h _
def PA (X:Cx) (es:List Expr) (t:TA):Prop:=
 ∀ (pos:Pos) (pins:List (Addr×Obj)) (s:Shared) (σ:St) (H:Hp) (Q:List V->Hp->Prop),Inv X pins σ H s->t σ H Q->wpAny (model X.prog X.w) X.A (spliced (backTo pos (starEach es X.env))) (AP X pins σ Q) X.xe s
def PS (X:Cx) (st:Stmt) (t:TS):Prop:=
 ∀ (pins:List (Addr×Obj)) (s:Shared) (σ:St) (H:Hp) (D:Ends),Inv X pins σ H s->t D σ H->wpAny (model X.prog X.w) X.A (exec st X.env) (SP X pins D) X.xe s
def PSs (X:Cx) (st:List Stmt) (t:TS):Prop:=
 ∀ (pins:List (Addr×Obj)) (s:Shared) (σ:St) (H:Hp) (D:Ends),Inv X pins σ H s->t D σ H->wpAny (model X.prog X.w) X.A (execs st X.env) (SP X pins D) X.xe s
theorem thn {α:Type}{t:Sem α}{Q Q':α->Shared->Prop}{M:Model}{A:Around}{E:Value->Shared->Prop}{s:Shared} (h:wpAny M A t Q E s) (hQ:∀ a s,Q a s->Q' a s):wpAny M A t Q' E s:=wpAny_mono h hQ λ_ _ x=>x
end L2
namespace L2
open PySem PySem.Spec PyProof.Rows
section
variable {X:Cx}
def tVar (i:Nat):TE:=λσ H Q=>∃ v,σ[i]?=some (some v)/\Q v H
def tC (v:V):TE:=λ_ H Q=>Q v H
theorem Ft {i:Nat}{x:Str}{pos:Pos} (hN:X.N[i]?=some x) (hv:Vis X.env.scope x) (hd:(x == ("__debug__" : Str))=false:=by decide) (j':(x == ("__classdict__" : Str))=false:=by decide):PE X (.Name x pos) (tVar i):=by
 intro pins s σ H Q I h
 obtain⟨v,e,h⟩:=h
 obtain⟨m,hn,hl⟩:=I.loc
 obtain⟨u,r,l⟩:=hl i x v hN e hv
 have fin:EP X pins σ Q u s:=⟨v,H,I,r,h⟩
 rcases l with ⟨hk,hm⟩ | ⟨hk,c,hc,hcell⟩
 ·exact wpAny_Name (wpAny_loadName_local I.ok.kind hk hn hm fin) hd
 ·rcases hk with hk | hk
  ·exact wpAny_Name (wpAny_loadName_cell I.ok.kind hk hc hcell fin) hd
  ·exact wpAny_Name (wpAny_loadName_free I.ok.kind hk hc hcell fin j') hd
theorem Fx {i j pos}:PE X (.Constant (.int i) j pos) (tC (.int i)):=λ_ _ _ H _ I h=>wpAny_Constant_int ⟨.int i,H,I.tok _,⟨_,rfl⟩,h⟩
theorem K8 {b j pos}:PE X (.Constant (.bool b) j pos) (tC (.bl b)):=λ_ _ _ H _ I h=>Constant_bool ⟨.bl b,H,I,rfl,h⟩
theorem EX {j pos}:PE X (.Constant .none j pos) (tC .non):=λ_ _ _ H _ I h=>Constant_none ⟨.non,H,I,rfl,h⟩
theorem xx {x j pos}:PE X (.Constant (.str x) j pos) (tC (.str x)):=λ_ _ _ H _ I h=>Calls.Constant_str ⟨.str x,H,I.tok _,⟨_,rfl⟩,h⟩
def Gl (X:Cx) (x:Str):Prop:=X.env.kindOf x=some .globalImplicit
theorem mr {E:Value->Shared->Prop}{pins:List (Addr×Obj)}{s:Shared}{σ:St}{H:Hp}{x:Str}{u:Value}{pos:Pos}{Q:Value->Shared->Prop} (I:Inv X pins σ H s) (hg:Gl X x) (hm:X.mg x=some u) (h:Q u s)
 (hd:(x == ("__debug__" : Str))=false:=by decide):wpAny (model X.prog X.w) X.A (eval (.Name x pos) X.env) Q E s:=
 Calls.Name_function_global I.ok.kind hg (Calls.loadGlobal_global (by rw[I.ok.glob];exact I.mod.glob.keeps I.bk) hm h) hd
theorem iY {E:Value->Shared->Prop}{pins:List (Addr×Obj)}{s:Shared}{σ:St}{H:Hp}{x:Str}{u:Value}{pos:Pos}{Q:Value->Shared->Prop} (I:Inv X pins σ H s) (hg:Gl X x) (hm:X.mg x=none) (hv:bootBuiltins x=some u) (h:Q u s)
 (hn:x ≠ "__name__":=by decide) (hd:(x == ("__debug__" : Str))=false:=by decide):wpAny (model X.prog X.w) X.A (eval (.Name x pos) X.env) Q E s:=by
 obtain⟨mb,h1,h2⟩:=I.mod.blt
 exact Calls.Name_function_global I.ok.kind hg (Calls.loadGlobal_builtin (by rw[I.ok.glob];exact I.mod.glob.keeps I.bk) hm (by rw[I.ok.blt];exact h1.keeps I.bk) ((h2 x hn).trans hv) h) hd
theorem u5 {x:Str}{v:V}{u:Value}{pos:Pos} (hg:Gl X x) (hm:X.mg x=some u) (r:RelV v u) (hd:(x == ("__debug__" : Str))=false:=by decide):PE X (.Name x pos) (tC v):=
 λ_ _ _ H _ I h=>mr I hg hm ⟨v,H,I,r,h⟩ hd
theorem D7 {x:Str}{v:V}{u:Value}{pos:Pos} (hg:Gl X x) (hm:X.mg x=none) (hv:bootBuiltins x=some u) (r:RelV v u) (hn:x ≠ "__name__":=by decide) (hd:(x == ("__debug__" : Str))=false:=by decide):PE X (.Name x pos) (tC v):=
 λ_ _ _ H _ I h=>iY I hg hm hv ⟨v,H,I,r,h⟩ hn hd
variable {a b:Expr}{ta tb:TE}{pos:Pos}
def tB (t:TE):TT:=λσ H Q=>t σ H λx H1=>∃ c,x=.bl c/\Q c H1
theorem HL {e:Expr}{t:TE} (h:PE X e t) (he:∀ ci,isTrue e X.env ci=(do let v <- ci;standAt e.pos;holding [v] (truthy v)):=by intro _;rfl):PT X e (tB t):=by
 intro pins s σ H Q I hw
 refine isTrue_plain (thn (h pins s σ H _ I hw) λv s1 ⟨x,H1,I1,r1,q1⟩=>?_) (he _)
 obtain⟨d,rfl,q⟩:=q1
 cases r1
 exact wpAny_truthy_bool ⟨H1,I1,q⟩
variable {tA tB':TT}{rest:List Expr}
def tAnd (t u:TT):TT:=λσ H Q=>t σ H λc H1=>if c=true then u σ H1 Q else Q false H1
def tOr (t u:TT):TT:=λσ H Q=>t σ H λc H1=>if c=true then Q true H1 else u σ H1 Q
def tNot (t:TT):TT:=λσ H Q=>t σ H λc H1=>Q (!c) H1
theorem Cg (ha:PT X a tA):PW X (.BoolOp .And [a] pos) tA:=by
 intro wh pins s σ H Q I h
 refine isTrue_and (thn (ha pins s σ H Q I h) λc s1 e=>?_)
 cases c with
 | true=>exact isTrue_and_nil e
 | false=>exact e
theorem G5 (ha:PT X a tA):PW X (.BoolOp .Or [a] pos) tA:=by
 intro wh pins s σ H Q I h
 refine isTrue_or (thn (ha pins s σ H Q I h) λc s1 e=>?_)
 cases c with
 | false=>exact isTrue_or_nil e
 | true=>exact e
theorem Fs (ha:PT X a tA) (hb:PW X (.BoolOp .And (b :: rest) pos) tB'):PW X (.BoolOp .And (a :: b :: rest) pos) (tAnd tA tB'):=by
 intro wh pins s σ H Q I h
 refine isTrue_and (thn (ha pins s σ H _ I h) λc s1 ⟨H1,I1,q1⟩=>?_)
 cases c with
 | true=>exact hb wh pins s1 σ H1 Q I1 q1
 | false=>exact⟨H1,I1,q1⟩
theorem Kw (ha:PT X a tA) (hb:PW X (.BoolOp .Or (b :: rest) pos) tB'):PW X (.BoolOp .Or (a :: b :: rest) pos) (tOr tA tB'):=by
 intro wh pins s σ H Q I h
 refine isTrue_or (thn (ha pins s σ H _ I h) λc s1 ⟨H1,I1,q1⟩=>?_)
 cases c with
 | true=>exact⟨H1,I1,q1⟩
 | false=>exact hb wh pins s1 σ H1 Q I1 q1
theorem G6 (ha:PT X a tA):PT X (.UnaryOp .Not a pos) (tNot tA):=by
 intro pins s σ H Q I h
 exact isTrue_not (ha pins s σ H (λc H1=>Q (!c) H1) I h)
def Js (ta tb:TE):TE:=λσ H Q=>ta σ H λx H1=>∃ c,x=.bl c/\if c=true then tb σ H1 Q else Q (.bl false) H1
def K0 (ta:TE):TE:=λσ H Q=>ta σ H λx H1=>∃ c,x=.bl c/\Q (.bl (!c)) H1
theorem Ge {op}{t:TE} (h:PE X a t):PE X (.BoolOp op [a] pos) t:=λpins s σ H Q I hw=>BoolOp_one (h pins s σ H Q I hw)
theorem Hg (ha:PE X a ta) (hb:PE X (.BoolOp .And (b :: rest) pos) tb):PE X (.BoolOp .And (a :: b :: rest) pos) (Js ta tb):=by
 intro pins s σ H Q I h
 refine BoolOp_and (thn (ha pins s σ H _ I h) λv s1 ⟨x,H1,I1,r1,q1⟩=>?_)
 obtain⟨c,rfl,q1⟩:=q1
 cases r1
 refine wpAny_truthy_bool ?_
 cases c with
 | true=>exact hb pins s1 σ H1 Q I1 q1
 | false=>exact⟨.bl false,H1,I1,rfl,q1⟩
theorem En (ha:PE X a ta):PE X (.UnaryOp .Not a pos) (K0 ta):=by
 intro pins s σ H Q I h
 refine UnaryOp_ (thn (ha pins s σ H _ I h) λv s1 ⟨x,H1,I1,r1,q1⟩=>?_)
 obtain⟨c,rfl,q1⟩:=q1
 cases r1
 exact not_of (wpAny_truthy_bool ⟨.bl (!c),H1,I1,rfl,q1⟩)
end
end L2
namespace L2
open PySem PySem.Spec PyProof.Rows
def SqL (K:W.Frag) (H:Hp) (a:Addr) (xs:List V):Prop:=
 Rd H a (.lst xs)\/
  ∃ (o:Obj) (its:Array Value) (n:Nat),K.lookup a=some o/\o.cls=.type "list" /\ o.dict=none/\o.data=.seq its n/\its.size<=sizeLine/\Vals xs its.toList
def SqT (K:W.Frag) (H:Hp) (a:Addr) (xs:List V):Prop:=
 Rd H a (.tup xs)\/
  ∃ (o:Obj) (its:Array Value) (n:Nat),K.lookup a=some o/\o.cls=.type "tuple" /\ o.data=.seq its n/\its.size<=sizeLine/\Vals xs its.toList
def absV:Value->Option V
 | .none=>some .non
 | .bool b=>some (.bl b)
 | .int i _=>some (.int i)
 | .str x _=>some (.str x)
 | .bytes b _=>some (.byt b)
 | .float b _=>some (.flt b)
 | .ref a=>some (.ref a)
 | .type n=>some (.ty n)
 | _=>none
theorem RelV.abs {x:V}{u:Value} (r:RelV x u):absV u=some x:=by
 cases x with
 | non=>cases r;rfl
 | bl _=>cases r;rfl
 | int _=>obtain⟨t,rfl⟩:=r;rfl
 | str _=>obtain⟨t,rfl⟩:=r;rfl
 | byt _=>obtain⟨t,rfl⟩:=r;rfl
 | flt _=>obtain⟨t,rfl⟩:=r;rfl
 | ref _=>cases r;rfl
 | ty _=>cases r;rfl
theorem RelV.inj {x y:V}{u:Value} (r:RelV x u) (q:RelV y u):x=y:=Option.some.inj (r.abs.symm.trans q.abs)
theorem Vals.inj {xs ys:List V}{us:List Value} (r:Vals xs us) (q:Vals ys us):xs=ys:=by
 induction r generalizing ys with
 | nil=>cases q;rfl
 |
  cons r t ih=>
  cases q with
  | cons q t'=>rw[r.inj q,ih t']
section
variable {X:Cx}{pins:List (Addr×Obj)}{σ:St}{H:Hp}{s:Shared}{a:Addr}{xs ys:List V}
theorem SqL.of {K:W.Frag} (h:H a=some (.lst xs)):SqL K H a xs:=.inl (.inl h)
theorem SqT.of {K:W.Frag} (h:H a=some (.tup xs)):SqT K H a xs:=.inl (.inl h)
theorem Inv.list (I:Inv X pins σ H s) (h:SqL X.K H a xs):∃ its:List Value,Vals xs its/\PlainL s.heap a its.toArray/\xs.length<=sizeLine:=by
 rcases h with h | ⟨o,its,n,hk,hc,hd,hs,hz,r⟩
 ·obtain⟨z,its,n,r,e⟩:=h.ok I.hok
  exact⟨its,r,⟨_,n,e,rfl,rfl,rfl⟩,z⟩
 ·refine⟨its.toList,r,⟨o,n,I.kIn a o hk,hc,hd,by simpa using hs⟩,?_⟩
  have e:=r.length
  simp only[Array.length_toList] at e
  omega
theorem Inv.tuple (I:Inv X pins σ H s) (h:SqT X.K H a xs):∃ its:List Value,Vals xs its/\IsTup s.heap a its.toArray/\xs.length<=sizeLine:=by
 rcases h with h | ⟨o,its,n,hk,hc,hs,hz,r⟩
 ·obtain⟨z,its,r,p⟩:=h.ok I.hok
  exact⟨its,r,p,z⟩
 ·refine⟨its.toList,r,⟨o,I.kIn a o hk,hc,n,by simpa using hs⟩,?_⟩
  have e:=r.length
  simp only[Array.length_toList] at e
  omega
theorem Inv.list_inj (I:Inv X pins σ H s) (h:SqL X.K H a xs) (h':SqL X.K H a ys):xs=ys:=by
 obtain⟨its,r,⟨o,n,e,_,_,d⟩,_⟩:=I.list h
 obtain⟨its',r',⟨o',n',e',_,_,d'⟩,_⟩:=I.list h'
 rw[e] at e';cases e'
 rw[d] at d'
 injection d' with d1 _
 have:its=its':=by simpa using congrArg Array.toList d1
 subst this
 exact r.inj r'
theorem Inv.tuple_inj (I:Inv X pins σ H s) (h:SqT X.K H a xs) (h':SqT X.K H a ys):xs=ys:=by
 obtain⟨its,r,⟨o,e,_,n,d⟩,_⟩:=I.tuple h
 obtain⟨its',r',⟨o',e',_,n',d'⟩,_⟩:=I.tuple h'
 rw[e] at e';cases e'
 rw[d] at d'
 injection d' with d1 _
 have:its=its':=by simpa using congrArg Array.toList d1
 subst this
 exact r.inj r'
end
section
variable {X:Cx}{pins:List (Addr×Obj)}{σ:St}{H:Hp}{s:Shared}{E:Value->Shared->Prop}
end
section
variable {X:Cx}{st:Stmt}{rest:List Stmt}{t u:TS}{e:Expr}{te:TE}{pos:Pos}
def JR:TS:=λD σ H=>D.nx σ H
def tSeq (t u:TS):TS:=λD σ H=>t { D with nx:=u D } σ H
theorem Ck:PSs X [] JR:=λ_ _ σ H _ I h=>wpAny_execs_nil ⟨σ,H,I,h⟩
theorem A0 (h1:PS X st t) (h2:PSs X rest u):PSs X (st :: rest) (tSeq t u):=by
 intro pins s σ H D I h
 refine wpAny_execs_cons (thn (h1 pins s σ H { D with nx:=u D } I h) λf s1 q=>?_)
 cases f with
 |
  next=>
  obtain⟨σ',H',I',q⟩:=q
  exact h2 pins s1 σ' H' D I' q
 | ret v=>exact q
 | brk=>exact q
 | cont=>exact q
theorem CL (h1:PS X st t):PSs X [st] t:=by
 intro pins s σ H D I h
 refine wpAny_execs_cons (thn (h1 pins s σ H D I h) λf s1 q=>?_)
 cases f with
 | next=>exact wpAny_execs_nil q
 | ret v=>exact q
 | brk=>exact q
 | cont=>exact q
def JL:TS:=λD σ H=>D.ct σ H
theorem ud:PS X (.Continue pos) JL:=λ_ _ σ H _ I h=>wpAny_Continue ⟨σ,H,I,h⟩
theorem Inv.quiet {pins:List (Addr×Obj)}{σ:St}{H:Hp}{s:Shared} (I:Inv X pins σ H s):interactive X.env=false:=by simp [interactive,I.ok.kind]
def Ko (te:TE):TS:=λD σ H=>te σ H λ_ H1=>D.nx σ H1
theorem Cn (he:PE X e te) (hs:swapsWith e none pos.line X.env=pure false:=by rfl):PS X (.Expr e pos) (Ko te):=by
 intro pins s σ H D I h
 exact wpAny_Expr_any (thn (he pins s σ H _ I h) λv s1 ⟨x,H1,I1,r1,q1⟩=>⟨σ,H1,I1,q1⟩) I.quiet hs
def tRet (te:TE):TS:=λD σ H=>te σ H D.rt
theorem F9 (he:PE X e te):PS X (.Return (some e) pos) (tRet te):=by
 intro pins s σ H D I h
 exact wpAny_Return_some (thn (he pins s σ H _ I h) λv s1 ⟨x,H1,I1,r1,q1⟩=>⟨x,σ,H1,I1,r1,q1⟩)
def tIfS (c:TT) (t u:TS):TS:=λD σ H=>c σ H λb H1=>if b=true then t D σ H1 else u D σ H1
theorem IZ {c:Expr}{a b:List Stmt}{tc:TT} (hc:PT X c tc) (ha:PSs X a t) (hb:PSs X b u):PS X (.If c a b pos) (tIfS tc t u):=by
 intro pins s σ H D I h
 refine wpAny_If (thn (hc pins s σ H _ I h) λd s1 ⟨H1,I1,q1⟩=>?_)
 cases d with
 | true=>exact ha pins s1 σ H1 D I1 q1
 | false=>exact hb pins s1 σ H1 D I1 q1
end
abbrev TG:=V->St->Hp->(St->Hp->Prop)->Prop
abbrev TGs:=List V->St->Hp->(St->Hp->Prop)->Prop
def PG (X:Cx) (target:Expr) (t:TG):Prop:=
 ∀
  (pins:List (Addr×Obj)) (s:Shared) (σ:St) (H:Hp) (v:V) (u:Value) (Q:St->Hp->Prop),Inv X pins σ H s->RelV v u->t v σ H Q->
  wpAny (model X.prog X.w) X.A (assign target X.env u) (λ_ s'=>∃ σ' H',Inv X pins σ' H' s'/\Q σ' H') X.xe s
def PGs (X:Cx) (ts:List Expr) (t:TGs):Prop:=
 ∀
  (pins:List (Addr×Obj)) (s:Shared) (σ:St) (H:Hp) (vs:List V) (us:List Value) (Q:St->Hp->Prop),Inv X pins σ H s->Vals vs us->t vs σ H Q->
  wpAny (model X.prog X.w) X.A (assignInOrder ((assignEach ts X.env).map (·.2)) us) (λ_ s'=>∃ σ' H',Inv X pins σ' H' s'/\Q σ' H') X.xe s
abbrev m9:=V->V->V->Hp->(Hp->Prop)->Prop
def rF (X:Cx) (t:m9):Prop:=
 ∀
  (pins:List (Addr×Obj)) (s:Shared) (σ:St) (H:Hp) (o i v:V) (ov iv u:Value) (Q:Hp->Prop),Inv X pins σ H s->RelV o ov->RelV i iv->RelV v u->t o i v H Q->
  wpAny (model X.prog X.w) X.A (setItem ov iv u) (λ_ s'=>∃ H',Inv X pins σ H' s'/\Q H') X.xe s
abbrev TIp:=V->V->Hp->VK->Prop
def PIp (X:Cx) (op:Operator) (t:TIp):Prop:=
 ∀
  (pins:List (Addr×Obj)) (s:Shared) (σ:St) (H:Hp) (x y:V) (v u:Value) (Q:VK),Inv X pins σ H s->RelV x v->RelV y u->t x y H Q->
  wpAny (model X.prog X.w) X.A (inplaceOp op v u) (EP X pins σ Q) X.xe s
section
variable {X:Cx}{pos:Pos}
def nU (i:Nat):TG:=λv σ H Q=>Q (σ.set i (some v)) H
theorem D9 {i:Nat}{x:Str} (hN:X.N.Nodup) (hi:X.N[i]?=some x) (hx:Loc X.env.scope x) (hf:X.fn x=true\/X.env.scope.names.lookup x=some .local:=by first | exact .inl rfl | exact .inr rfl | assumption):PG X (.Name x pos) (nU i):=by
 intro pins s σ H v u Q I r h
 exact wpAny_assign_Name (gu I hN hi hx r (λs' I'=>⟨_,H,I',h⟩) hf)
def gNil:TGs:=λvs σ H Q=>vs=[]/\Q σ H
def JQ (t:TG) (u:TGs):TGs:=λvs σ H Q=>∃ v r,vs=v :: r/\t v σ H λσ' H'=>u r σ' H' Q
theorem Cq:PGs X [] gNil:=by
 intro pins s σ H vs us Q I r h
 obtain⟨e,h⟩:=h
 subst e
 cases r
 exact assignInOrder_nil ⟨σ,H,I,h⟩
theorem zN {e:Expr}{es:List Expr}{t:TG}{u:TGs} (h1:PG X e t) (h2:PGs X es u)
 (hs:(assignEach (e :: es) X.env).map (·.2)=assign e X.env :: (assignEach es X.env).map (·.2):=by rfl):PGs X (e :: es) (JQ t u):=by
 intro pins s σ H vs us Q I r h
 obtain⟨v,vr,e1,h⟩:=h
 subst e1
 cases r with
 |
  cons r rr=>
  rw[hs]
  refine assignInOrder_cons (thn (h1 pins s σ H _ _ _ I r h) λ_ s1 ⟨σ1,H1,I1,q1⟩=>?_)
  exact h2 pins s1 σ1 H1 _ _ Q I1 rr q1
def gTup (K:W.Frag) (n:Nat) (t:TGs):TG:=λv σ H Q=>∃ a xs,v=.ref a/\SqT K H a xs/\xs.length=n/\t xs σ H Q
theorem yV {es:List Expr}{k:Nat}{t:TGs}{n:Nat} (hc:X.calm=true) (h:PGs X es t)
 (hn:(assignEach es X.env).length=n:=by rfl) (hst:(assignEach es X.env).findIdx? (·.1)=none:=by rfl):PG X (.Tuple es k pos) (gTup X.K n t):=by
 intro pins s σ H v u Q I r hw
 obtain⟨a,xs,e1,hq,hl,hw⟩:=hw
 subst e1
 cases r
 obtain⟨its,rv,ht,hz⟩:=I.tuple hq
 refine assign_Tuple_tuple (I.ok.hd hc) ht (by simp [hn,<- hl,rv.length]) hst λh' hx=>?_
 have I1:Inv X pins σ H { s with heap:=h' }:=I.kept (t':=s.toks) λb o e=>hx b o (Nat.ne_of_lt (Heap.lt_size e)) e
 exact h pins _ σ H xs _ Q I1 (by simpa using rv) hw
def gSub (to ti:TE) (t:m9):TG:=λv σ H Q=>to σ H λo H1=>ti σ H1 λi H2=>t o i v H2 λH3=>Q σ H3
theorem HX {o i:Expr}{to ti:TE}{t:m9} (ho:PE X o to) (hi:PE X i ti) (hs:rF X t)
 (ha:∀ v,assign (.Subscript o i pos) X.env v=(do
  let ov <- holding [v] (eval o X.env)
  let iv <- holding [v,ov] (eval i X.env)
  standAt pos
  holding [v,ov,iv] (setItem ov iv v)
  release [v,ov,iv] []):=by intro _;rfl):PG X (.Subscript o i pos) (gSub to ti t):=by
 intro pins s σ H v u Q I r h
 rw[ha]
 refine wpAny_bind (wpAny_holding (thn (ho pins s σ H _ I h) λov s1 ⟨x,H1,I1,r1,q1⟩=>?_))
 refine wpAny_bind (wpAny_holding (thn (hi pins s1 σ H1 _ I1 q1) λiv s2 ⟨y,H2,I2,r2,q2⟩=>?_))
 refine wpAny_bind (wpAny_standAt (wpAny_bind (wpAny_holding (thn (hs pins s2 σ H2 x y v ov iv u _ I2 r1 r2 r q2) λ_ s3 ⟨H3,I3,q3⟩=>?_))))
 exact wpAny_release ⟨σ,H3,I3,q3⟩
def rX (te:TE) (g:TG):TS:=λD σ H=>te σ H λx H1=>g x σ H1 D.nx
theorem Ha {tg e:Expr}{te:TE}{g:TG} (he:PE X e te) (hg:PG X tg g) (hs:swapsWithSole [tg] e pos.line X.env=pure false:=by rfl) (hw:swappedStores [tg] e X.env=pure none:=by rfl)
 (h1:(assignEach [tg] X.env).map (·.2)=[assign tg X.env]:=by rfl):PS X (.Assign [tg] e pos) (rX te g):=by
 intro pins s σ H D I h
 refine wpAny_Assign_stores (thn (he pins s σ H _ I h) λv s1 ⟨x,H1,I1,r1,q1⟩=>?_) hs hw
 rw[h1]
 exact thn (hg pins s1 σ H1 x v _ I1 r1 q1) λ_ s2 q=>q
theorem FP {i:Nat}{x:Str}{e:Expr}{te:TE}{jp:Pos} (hN:X.N.Nodup) (hi:X.N[i]?=some x) (hx:Loc X.env.scope x) (he:PE X e te) (hs:swapsWith e (some (.Name x jp)) pos.line X.env=pure false:=by rfl) (hf:X.fn x=true\/X.env.scope.names.lookup x=some .local:=by first | exact .inl rfl | exact .inr rfl | assumption):
 PS X (.Assign [.Name x jp] e pos) (rX te (nU i)):=by
 intro pins s σ H D I h
 refine wpAny_Assign_Name (thn (he pins s σ H _ I h) λv s1 ⟨y,H1,I1,r1,q1⟩=>?_) hs
 exact gu I1 hN hi hx r1 (λs2 I2=>⟨_,H1,I2,q1⟩) hf
def tPar (i j:Nat) (ta:TA):TS:=λD σ H=>ta σ H λvs H1=>∃ v w,vs=[v,w]/\D.nx ((σ.set i (some v)).set j (some w)) H1
theorem HQ {i j:Nat}{x y:Str}{a b:Expr}{ta:TA}{px py pt:Pos}{kt k2 pt2} (hc:X.calm=true) (hN:X.N.Nodup) (hi:X.N[i]?=some x) (hj:X.N[j]?=some y) (hij:i ≠ j)
 (hx:X.env.scope.names.lookup x=some .local) (hy:X.env.scope.names.lookup y=some .local) (ha:PA X [a,b] ta)
 (hw:swappedStores [.Tuple [.Name x px,.Name y py] kt pt] (.Tuple [a,b] k2 pt2) X.env=pure (some [x,y]))
 (hs:swapsWithSole [.Tuple [.Name x px,.Name y py] kt pt] (.Tuple [a,b] k2 pt2) pos.line X.env=pure false:=by rfl):
 PS X (.Assign [.Tuple [.Name x px,.Name y py] kt pt] (.Tuple [a,b] k2 pt2) pos) (tPar i j ta):=by
 intro pins s σ H D I h
 rw[exec_Assign_arm]
 refine wpAny_bind (wpAny_standAt ?_)
 rw[hs]
 refine wpAny_bind (wpAny_pure ?_)
 rw[if_neg (by decide)]
 refine wpAny_bind (Tuple_ (thn (ha _ pins s σ H _ I h) λus s1 ⟨vs,H1,I1,r1,q1⟩=>?_))
 obtain⟨v,w,e1,q1⟩:=q1
 subst e1
 obtain⟨u1,u2,rfl,rv,rw'⟩:∃ u1 u2,us=[u1,u2]/\RelV v u1/\RelV w u2:=by
  cases r1 with
  |
   cons p q=>
   cases q with
   |
    cons p' q'=>
    cases q'
    exact⟨_,_,rfl,p,p'⟩
 refine wpAny_newObj_type ?_ (by show 2<=sizeLine;decide)
 have I2:Inv X pins σ H1 { s1 with heap:=s1.heap.push { cls:=.type "tuple",data:=.seq [u1,u2].toArray } }:=I1.kept (t':=s1.toks) λb o e=>Heap.get?_push_of_some _ e
 rw[hw]
 refine wpAny_bind (wpAny_pure ?_)
 show wpAny (model X.prog X.w) X.A (do rule "assign.swapped-stores";let items <- unpackItems (.ref s1.heap.objs.size) 2 none;assignInOrder [λv=>bindName X.env y v,λv=>bindName X.env x v] items.reverse;pure Flow.next) _ _ _
 refine wpAny_bind (wpAny_rule (wpAny_bind (unpackItems_tuple (items:=#[u1,u2]) (I.ok.hd hc) (IsTup.new s1.heap _) λh' hx'=>?_)))
 have I3:=I2.kept (h':=h') (t':=s1.toks) λb o e=>hx' b o (Nat.ne_of_lt (Heap.lt_size e)) e
 show wpAny _ _ (assignInOrder [λv=>bindName X.env y v,λv=>bindName X.env x v] [u2,u1] >>= λ_=>pure Flow.next) _ _ _
 refine wpAny_bind (assignInOrder_cons (wpAny_bindName (gu I3 hN hj (.inl hy) rw' (λs2 I4=>?_) (.inr hy))))
 refine assignInOrder_cons (wpAny_bindName (gu I4 hN hi (.inl hx) rv (λs3 I5=>assignInOrder_nil (wpAny_pure ?_)) (.inr hx)))
 rw[List.set_comm _ _ (Ne.symm hij)] at I5
 exact⟨_,H1,I5,q1⟩
def tAug (i:Nat) (te:TE) (ti:TIp):TS:=λD σ H=>∃ x,σ[i]?=some (some x)/\te σ H λy H1=>ti x y H1 λz H2=>D.nx (σ.set i (some z)) H2
theorem FY {i:Nat}{x:Str}{e:Expr}{te:TE}{op:Operator}{ti:TIp}{jp:Pos} (hN:X.N.Nodup) (hi:X.N[i]?=some x) (hx:Loc X.env.scope x) (he:PE X e te) (ho:PIp X op ti) (hf:X.fn x=true\/X.env.scope.names.lookup x=some .local:=by first | exact .inl rfl | exact .inr rfl | assumption):
 PS X (.AugAssign (.Name x jp) op e pos) (tAug i te ti):=by
 intro pins s σ H D I h
 obtain⟨v,e1,h⟩:=h
 obtain⟨m,hn,hl⟩:=I.loc
 have vis:Vis X.env.scope x:=by rcases hx with k | k;exact .inl k;exact .inr (.inl k)
 obtain⟨u,r,l⟩:=hl i x v hi e1 vis
 refine wpAny_AugAssign_Name ?_
 have go:wpAny (model X.prog X.w) X.A (eval e X.env) (λw s₂=>wpAny (model X.prog X.w) X.A (inplaceOp op u w) (λr s₃=>wpAny (model X.prog X.w) X.A (storeName X.env x r) (λ_=>SP X pins D .next) X.xe s₃) X.xe s₂) X.xe s:=by
  refine thn (he pins s σ H _ I h) λw s1 ⟨y,H1,I1,r1,q1⟩=>?_
  refine thn (ho pins s1 σ H1 v y u w _ I1 r r1 q1) λz s2 ⟨zv,H2,I2,r2,q2⟩=>?_
  exact gu I2 hN hi hx r2 (λs3 I3=>⟨_,H2,I3,q2⟩) hf
 rcases l with ⟨hk,hm⟩ | ⟨hk,c,hc,hcell⟩
 ·exact wpAny_loadName_local I.ok.kind hk hn hm go
 ·rcases hk with hk | hk
  ·exact wpAny_loadName_cell I.ok.kind hk hc hcell go
  ·rcases hx with k | k
   ·have:X.env.scope.names.lookup x=some .free:=hk
    rw[k] at this;cases this
   ·have:X.env.scope.names.lookup x=some .free:=hk
    rw[k] at this;cases this
def ipI (f:Int->Int->Int):TIp:=λx y H Q=>∃ i j,x=.int i/\y=.int j/\Q (.int (f i j)) H
theorem GH:PIp X .Add (ipI λi j=>i + j):=by
 intro pins s σ H x y v u Q I r1 r2 h
 obtain⟨i,j,e1,e2,q⟩:=h
 subst e1;subst e2
 obtain⟨t,rfl⟩:=r1
 obtain⟨t',rfl⟩:=r2
 exact iadd_int ⟨.int _,H,I.tok _,⟨_,rfl⟩,q⟩
end
section
variable {X:Cx}{pos:Pos}
def Hi (c:TT) (tb:TS):TS:=λD σ H=>∃ W:Nat->St->Hp->Prop,(∃ m,W m σ H)/\∀ m σ H,W m σ H->
 c σ H λb H1=>if b=true then ∃ N:St->Hp->Prop,(∀ σ' H',N σ' H'->∃ m',m' < m/\W m' σ' H')/\tb { D with nx:=N,ct:=N,bk:=D.nx } σ H1 else D.nx σ H1
theorem zb {c:Expr}{body:List Stmt}{tc:TT}{tb:TS} (hp:PassesOwn (model X.prog X.w) X.A X.env X.xe) (hc:PT X c tc) (hb:PSs X body tb):PS X (.While c body [] pos) (Hi tc tb):=by
 intro pins s σ H D I h
 obtain⟨W,⟨m0,w0⟩,turn⟩:=h
 refine wpAny_While (codeAny_whileLoop (λn s'=>∃ σ' H',Inv X pins σ' H' s'/\W n σ' H') ?_ m0 ⟨σ,H,I,w0⟩)
 rintro n s1 ⟨σ1,H1,I1,w1⟩
 refine wpAny_passesOwn hp (thn (hc pins s1 σ1 H1 _ I1 (turn n σ1 H1 w1)) λb s2 ⟨H2,I2,q2⟩=>?_)
 cases b with
 |
  true=>
  obtain⟨N,hN,q2⟩:=q2
  rw[if_pos rfl]
  refine wpAny_passesOwn hp (thn (hb pins s2 σ1 H2 _ I2 q2) λf s3 q3=>?_)
  cases f with
  |
   next=>
   obtain⟨σ3,H3,I3,n3⟩:=q3
   obtain⟨m',hm,w3⟩:=hN σ3 H3 n3
   exact⟨m',hm,σ3,H3,I3,w3⟩
  |
   cont=>
   obtain⟨σ3,H3,I3,n3⟩:=q3
   obtain⟨m',hm,w3⟩:=hN σ3 H3 n3
   exact⟨m',hm,σ3,H3,I3,w3⟩
  | brk=>exact q3
  | ret v=>exact q3
 |
  false=>
  rw[if_neg Bool.false_ne_true]
  exact wpAny_execs_nil ⟨σ1,H2,I2,q2⟩
end
structure It where
 go:Nat->Hp->Prop
 yld:Nat->Hp->V->Hp->Prop
 stop:Nat->Hp->Prop
def lG (X:Cx) (pins:List (Addr×Obj)) (H:Hp) (b:Addr):Prop:=
 H b=none/\b ≠ X.env.locals/\b ∉ X.fs/\(b ∈ X.ex\/X.s₀.heap.objs.size<=b)/\(∀ x c,X.env.cells.lookup x=some c->c ≠ b)/\∀ p ∈ X.pn++pins,p.1 ≠ b
theorem Inv.fpOk {X:Cx}{pins:List (Addr×Obj)}{σ:St}{H H':Hp}{s:Shared}{b:Addr} (I:Inv X pins σ H s) (hb:s.heap.objs.size<=b) (hn:H' b=none):lG X pins H' b:=by
 refine⟨hn,Nat.ne_of_gt (Nat.lt_of_lt_of_le I.lt hb),I.nofs hb,.inr (Nat.le_trans I.sz hb),λx c e z=>?_,λp hp z=>?_⟩
 ·obtain⟨v,q⟩:=I.cell x c e
  exact absurd (Nat.lt_of_lt_of_le q.lt (by rw[z];exact hb)) (Nat.lt_irrefl _)
 ·exact absurd (Nat.lt_of_lt_of_le (Heap.lt_size (I.pin p hp).1) (by rw[z];exact hb)) (Nat.lt_irrefl _)
structure Turn (P:Program) (w:World) (K:W.Frag) (tg:Expr) (J:It) (fp:List Addr) (it:Addr) (tn:Nat->Heap->Prop):Prop where
 mem:it ∈ fp
 obj:∀ i h,tn i h->∀ b ∈ fp,∃ o,h.get? b=some o/\∀ v,o.data ≠ .cell v
 keep:∀ i h h',tn i h->(∀ b ∈ fp,∀ o,h.get? b=some o->h'.get? b=some o)->tn i h'
 item:∀ (X:Cx),X.prog=P->X.w=w->X.K=K->X.calm=true->∀ (i:Nat) (pins:List (Addr×Obj)) (s:Shared) (σ:St) (H:Hp) (E:Value->Shared->Prop),Inv X pins σ H s->(∀ b ∈ fp,lG X pins H b)->tn i s.heap->J.go i H->
  wpAny (model P w) X.A (pyNext (.ref it)) (λr s1=>∃ u,r=some u/\
   wpAny (model P w) X.A (letOwnedTupleGo tg (.ref it) u) (λ_ s2=>∃ x H',Inv X pins σ H' s2/\RelV x u/\J.yld i H x H'/\tn (i + 1) s2.heap/\∀ b ∈ fp,H' b=none) E s1) E s
 done:∀ (X:Cx),X.prog=P->X.w=w->X.K=K->X.calm=true->∀ (i:Nat) (pins:List (Addr×Obj)) (s:Shared) (σ:St) (H:Hp) (E:Value->Shared->Prop),Inv X pins σ H s->(∀ b ∈ fp,lG X pins H b)->tn i s.heap->J.stop i H->
  wpAny (model P w) X.A (pyNext (.ref it)) (λr s1=>r=none/\Inv X pins σ H s1) E s
 self:∀ (A:Around) (i:Nat) (s:Shared) (Q:Value->Shared->Prop) (E:Value->Shared->Prop),tn i s.heap->Q (.ref it) s->wpAny (model P w) A (pyIter (.ref it)) Q E s
abbrev TI:=St->Hp->(It->Hp->Prop)->Prop
def PIE (X:Cx) (pins:List (Addr×Obj)) (σ:St) (tg:Expr) (R:It->Hp->Prop) (itv:Value) (s2:Shared):Prop:=
 ∃ (it:Addr) (fp:List Addr) (tn:Nat->Heap->Prop) (J:It) (H':Hp),itv=.ref it/\Inv X pins σ H' s2/\Turn X.prog X.w X.K tg J fp it tn/\tn 0 s2.heap/\(∀ b ∈ fp,lG X pins H' b)/\R J H'
def PI (X:Cx) (tg al:Expr) (wi:TI):Prop:=
 ∀
  (pins:List (Addr×Obj)) (s:Shared) (σ:St) (H:Hp) (R:It->Hp->Prop),Inv X pins σ H s->wi σ H R->
  wpAny (model X.prog X.w) X.A (eval al X.env) (λv s1=>wpAny (model X.prog X.w) X.A (pyIter v) (PIE X pins σ tg R) X.xe s1) X.xe s
theorem u7 {M:Model}{A:Around}{E:Value->Shared->Prop}{s:Shared}{tg:Expr}{it:Addr}{u:Value}{o:Obj}{n:String}{vs:Array Value}{Q:Unit->Shared->Prop} (ho:s.heap.get? it=some o) (hc:o.cls=.type n) (hd:o.data=.fields vs)
 (hn:["enumerate", "zip", "dict_itemiterator", "dict_reverseitemiterator", "odict_iterator", "itertools.zip_longest", "itertools.pairwise"].contains n=false) (hQ:Q () s):wpAny M A (letOwnedTupleGo tg (.ref it) u) Q E s:=by
 unfold letOwnedTupleGo
 cases tg
  <;> first
  | exact wpAny_pure hQ
  | (cases u <;> first
   | exact wpAny_pure hQ
   | (
    refine wpAny_bind (wpAny_load ho ?_)
    rw[hc,hd]
    show wpAny M A (if (["enumerate", "zip", "dict_itemiterator", "dict_reverseitemiterator", "odict_iterator", "itertools.zip_longest", "itertools.pairwise"].contains n && vs[0]? == some (rawInt _))=true then _ else _) Q E s
    rw[if_neg (by intro h;rw[hn,Bool.false_and] at h;cases h)]
    exact wpAny_pure hQ))
def Itl (K:W.Frag) (a:Addr):It:=
 ⟨λi H=>∃ xs x,SqL K H a xs/\xs[i]?=some x,λi H x H'=>H'=H/\∀ xs,SqL K H a xs->xs[i]?=some x,λi H=>∃ xs,SqL K H a xs/\xs.length<=i⟩
def Itt (K:W.Frag) (a:Addr):It:=
 ⟨λi H=>∃ xs x,SqT K H a xs/\xs[i]?=some x,λi H x H'=>H'=H/\∀ xs,SqT K H a xs->xs[i]?=some x,λi H=>∃ xs,SqT K H a xs/\xs.length<=i⟩
def Itr (lo:Int) (n:Nat):It:=⟨λi _=>i < n,λi H x H'=>H'=H/\x=.int (lo + i),λi _=>n<=i⟩
theorem xA {P:Program}{w:World}{K:W.Frag}{tg:Expr} (a it:Addr):Turn P w K tg (Itl K a) [it] it (λi h=>h.IsListIter it a i) where
 mem:=by simp
 obj:=λi h st b hb=>by
  have e:b=it:=by simpa using hb
  subst e
  obtain⟨o,e,c,d⟩:=st
  exact⟨o,e,λv z=>by rw[d] at z;cases z⟩
 keep:=λi h h' st k=>st.at λo e=>k it (by simp) o e
 item:=by
  intro X hP hw hK hc i pins s σ H E I hf st hg
  subst hP hw hK
  obtain⟨xs,x,hq,hx⟩:=hg
  obtain⟨its,rv,p,hz⟩:=I.list hq
  obtain⟨u,hu,ru⟩:=rv.get hx
  obtain⟨f0,f1,f2,f3,f4,f5⟩:=hf it (by simp)
  refine wpAny_pyNext_list_item st p.isList (x:=u) (by simpa using hu) λh' st' sb=>?_
  have I1:Inv X pins σ H { s with heap:=h' }:=I.turned (t':=s.toks) (λb o hb e=>(sb.2 b hb).trans e) f0 f1 f3 f4 f5
  obtain⟨o,e,c,d⟩:=id st'
  exact⟨u,rfl,u7 (s:={ s with heap:=h' }) e c d (by decide) ⟨x,H,I1,ru,⟨rfl,λys hy=>by rw[I.list_inj hy hq];exact hx⟩,st',λb hb=>(hf b hb).1⟩⟩
 done:=by
  intro X hP hw hK hc i pins s σ H E I hf st hg
  subst hP hw hK
  obtain⟨xs,hq,hx⟩:=hg
  obtain⟨its,rv,p,hz⟩:=I.list hq
  obtain⟨f0,f1,f2,f3,f4,f5⟩:=hf it (by simp)
  have hl:=rv.length
  exact wpAny_pyNext_list_end (I.ok.hd hc) st p.isList (by simp;omega) λh' eb=>⟨rfl,I.turned (t':=s.toks) (λb o hb e=>eb b o hb e) f0 f1 f3 f4 f5⟩
 self:=λ_ _ _ _ _ st h=>wpAny_pyIter_listiter st h
theorem vc {P:Program}{w:World}{K:W.Frag}{tg:Expr} (a it:Addr):Turn P w K tg (Itt K a) [it] it (λi h=>h.IsTupleIter it a i) where
 mem:=by simp
 obj:=λi h st b hb=>by
  have e:b=it:=by simpa using hb
  subst e
  obtain⟨o,e,c,d⟩:=st
  exact⟨o,e,λv z=>by rw[d] at z;cases z⟩
 keep:=λi h h' st k=>st.at λo e=>k it (by simp) o e
 item:=by
  intro X hP hw hK hc i pins s σ H E I hf st hg
  subst hP hw hK
  obtain⟨xs,x,hq,hx⟩:=hg
  obtain⟨its,rv,p,hz⟩:=I.tuple hq
  obtain⟨u,hu,ru⟩:=rv.get hx
  obtain⟨f0,f1,f2,f3,f4,f5⟩:=hf it (by simp)
  refine wpAny_pyNext_tuple_item st (show s.heap.IsTuple a its.toArray from p) (x:=u) (by simpa using hu) λh' st' sb=>?_
  have I1:Inv X pins σ H { s with heap:=h' }:=I.turned (t':=s.toks) (λb o hb e=>(sb.2 b hb).trans e) f0 f1 f3 f4 f5
  obtain⟨o,e,c,d⟩:=id st'
  exact⟨u,rfl,u7 (s:={ s with heap:=h' }) e c d (by decide) ⟨x,H,I1,ru,⟨rfl,λys hy=>by rw[I.tuple_inj hy hq];exact hx⟩,st',λb hb=>(hf b hb).1⟩⟩
 done:=by
  intro X hP hw hK hc i pins s σ H E I hf st hg
  subst hP hw hK
  obtain⟨xs,hq,hx⟩:=hg
  obtain⟨its,rv,p,hz⟩:=I.tuple hq
  obtain⟨f0,f1,f2,f3,f4,f5⟩:=hf it (by simp)
  have hl:=rv.length
  exact wpAny_pyNext_tuple_end (I.ok.hd hc) st (show s.heap.IsTuple a its.toArray from p) (by simp;omega) λh' eb=>⟨rfl,I.turned (t':=s.toks) (λb o hb e=>eb b o hb e) f0 f1 f3 f4 f5⟩
 self:=λ_ _ _ _ _ st h=>wpAny_pyIter_tupleiter st h
theorem ve {P:Program}{w:World}{K:W.Frag}{tg:Expr} (it:Addr) (lo:Int) (n:Nat):Turn P w K tg (Itr lo n) [it] it (λi h=>IsRangeIter h it (lo + (i:Nat) * 1) ((n:Int) - (i:Nat)) 1) where
 mem:=by simp
 obj
  := λi h st b hb=>by
  have e:b=it:=by simpa using hb
  subst e
  exact⟨_,st,λv z=>by
   have z':Data.fields _=Data.cell v:=z
   cases z'⟩
 keep:=λi h h' st k=>k it (by simp) _ st
 item:=by
  intro X hP hw hK hc i pins s σ H E I hf st hg
  subst hP hw hK
  obtain⟨f0,f1,f2,f3,f4,f5⟩:=hf it (by simp)
  have W:=Walks.range (prog:=X.prog) (w:=X.w) (I.ok.hd hc) it lo 1 n
  refine W.item i s _ _ hg st λv h' tk hv st' kk=>?_
  obtain⟨t,rfl⟩:=hv
  have I1:Inv X pins σ H { s with heap:=h',toks:=tk }:=I.turned (λb o hb e=>kk b o (by simpa using hb) e) f0 f1 f3 f4 f5
  refine⟨_,rfl,u7 (s:={ s with heap:=h',toks:=tk }) (n:="range_iterator") st' rfl rfl (by decide) ⟨.int (lo + i),H,I1,⟨t,?_⟩,⟨rfl,rfl⟩,st',λb hb=>(hf b hb).1⟩⟩
  rw[Int.mul_one]
 done:=by
  intro X hP hw hK hc i pins s σ H E I hf st hg
  subst hP hw hK
  obtain⟨f0,f1,f2,f3,f4,f5⟩:=hf it (by simp)
  exact wpAny_pyNext_range_end (I.ok.hd hc) st (by have:n<=i:=hg;omega) λh' eb=>⟨rfl,I.turned (t':=s.toks) (λb o hb e=>eb b o hb e) f0 f1 f3 f4 f5⟩
 self:=λ_ _ _ _ _ st h=>wpAny_pyIter_rangeiter st h
end L2
namespace L2
open PySem PySem.Spec PyProof.Rows
section
variable {X:Cx}{tg:Expr}
theorem sY {pins:List (Addr×Obj)}{σ:St}{H:Hp}{s:Shared}{R:It->Hp->Prop}{E:Value->Shared->Prop}{lo hi:Int}{t u v:Tok}{tk:Nat} (I:Inv X pins σ H s) (h1:-(2 ^ 62)<=lo) (h2:lo < 2 ^ 62) (h3:-(2 ^ 62)<=hi) (h4:hi < 2 ^ 62)
 (q:R (Itr lo (hi - lo).toNat) H):wpAny (model X.prog X.w) X.A (pyIter (.ref s.heap.objs.size)) (PIE X pins σ tg R) E { s with heap:=s.heap.push { cls:=.type "range",data:=.fields #[.int lo t,.int hi u,.int 1 v] },toks:=tk }:=by
 refine wpAny_pyIter_range (IsRange.new ..) (small_one h1 h2 h3 h4) ?_
 have I1:Inv X pins σ H { s with heap:=s.heap.push { cls:=.type "range",data:=.fields #[.int lo t,.int hi u,.int 1 v] },toks:=tk }:=I.kept λb o e=>Heap.get?_push_of_some _ e
 refine⟨(s.heap.push { cls:=.type "range",data:=.fields #[.int lo t,.int hi u,.int 1 v] }).objs.size,[(s.heap.push { cls:=.type "range",data:=.fields #[.int lo t,.int hi u,.int 1 v] }).objs.size],_,_,H,rfl,
  I1.kept (t':=tk) λb o e=>Heap.get?_push_of_some _ e,ve _ lo (hi - lo).toNat,?_,λb hb=>?_,q⟩
 ·have e1:lo + ((0:Nat):Int) * 1=lo:=by simp
  have e2:(((hi - lo).toNat:Nat):Int) - ((0:Nat):Int)=Builtin.Range.rangeSize lo hi 1:=by rw[rangeSize_one];split <;> omega
  show IsRangeIter _ _ (lo + ((0:Nat):Int) * 1) ((((hi - lo).toNat:Nat):Int) - ((0:Nat):Int)) 1
  rw[e1,e2]
  exact Heap.get?_push_size _ rfl
 ·have e:b=(s.heap.push { cls:=.type "range",data:=.fields #[.int lo t,.int hi u,.int 1 v] }).objs.size:=by simpa using hb
  subst e
  exact I1.fpOk (Nat.le_refl _) (I1.hok.fresh (Nat.le_refl _))
def IT (ta:TA):TI:=λσ H R=>ta σ H λvs H1=>∃ j:Int,vs=[.int j]/\-(2 ^ 62)<=j/\j < 2 ^ 62/\R (Itr 0 j.toNat) H1
def KS (ta:TA):TI:=λσ H R=>ta σ H λvs H1=>∃ i j:Int,vs=[.int i,.int j]/\(-(2 ^ 62)<=i/\i < 2 ^ 62/\-(2 ^ 62)<=j/\j < 2 ^ 62)/\R (Itr i (j - i).toNat) H1
theorem yB {a:Expr}{ta:TA}{p pos:Pos} (hg:Gl X "range") (hm:X.mg "range"=none) (ha:PA X [a] ta) (hs:starEach [a] X.env=[(false,eval a X.env)]:=by rfl):PI X tg (.Call (.Name "range" p) [a] [] pos) (IT ta):=by
 intro pins s σ H R I h
 refine Call_ (iY I hg hm boot_range (PyProof.Rows.callWith_type1 (thn (ha pos pins s σ H _ I h) λus s1 ⟨vs,H1,I1,r1,q1⟩=>?_) hs rfl))
 obtain⟨j,e,q1,q2,q⟩:=q1
 subst e
 cases r1 with
 |
  cons r rr=>
  cases rr
  obtain⟨t,rfl⟩:=r
  exact call_range_1 (sY I1 (by omega) (by omega) q1 q2 (by simpa using q))
theorem xU {a b:Expr}{ta:TA}{p pos:Pos} (hg:Gl X "range") (hm:X.mg "range"=none) (ha:PA X [a,b] ta) (hs:starEach [a,b] X.env=[(false,eval a X.env),(false,eval b X.env)]:=by rfl) (hs2:starEach [b] X.env=[(false,eval b X.env)]:=by rfl):
 PI X tg (.Call (.Name "range" p) [a,b] [] pos) (KS ta):=by
 intro pins s σ H R I h
 refine Call_ (iY I hg hm boot_range (PyProof.Rows.callWith_type1 (thn (ha pos pins s σ H _ I h) λus s1 ⟨vs,H1,I1,r1,q1⟩=>?_) (by rw[hs,hs2]) (by rw[hs2];rfl)))
 obtain⟨i,j,e,⟨q1,q2,q3,q4⟩,q⟩:=q1
 subst e
 cases r1 with
 |
  cons r rr=>
  cases rr with
  |
   cons r' rr=>
   cases rr
   obtain⟨t,rfl⟩:=r
   obtain⟨t',rfl⟩:=r'
   exact call_range_2 (sY I1 q1 q2 q3 q4 q)
def tFor (wi:TI) (g:TG) (tb:TS):TS:=λD σ H=>wi σ H λJ H1=>∃ W:Nat->Nat->St->Hp->Prop,(∃ m,W 0 m σ H1)/\∀ i m σ H,W i m σ H->
 (J.stop i H/\D.nx σ H)\/(J.go i H/\∃ N:St->Hp->Prop,(∀ σ' H',N σ' H'->∃ m',m' < m/\W (i + 1) m' σ' H')/\∀ x H',J.yld i H x H'->g x σ H' λσ2 H2=>tb { D with nx:=N,ct:=N,bk:=D.nx } σ2 H2)
def jO (fp:List Addr) (h:Heap):List (Addr×Obj):=fp.filterMap λb=>(h.get? b).map λo=>(b,o)
theorem eN {fp:List Addr}{h:Heap}{b:Addr}{o:Obj} (hb:b ∈ fp) (e:h.get? b=some o):(b,o) ∈ jO fp h:=List.mem_filterMap.mpr ⟨b,hb,by rw[e];rfl⟩
theorem xY {fp:List Addr}{h:Heap}{p:Addr×Obj} (hp:p ∈ jO fp h):p.1 ∈ fp/\h.get? p.1=some p.2:=by
 obtain⟨b,hb,e⟩:=List.mem_filterMap.mp hp
 cases q:h.get? b with
 | none=>rw[q] at e;cases e
 |
  some o=>
  rw[q] at e
  have e':(b,o)=p:=Option.some.inj e
  subst e'
  exact⟨hb,q⟩
theorem Inv.pinned {pins:List (Addr×Obj)}{σ:St}{H:Hp}{s:Shared}{fp:List Addr} (I:Inv X pins σ H s) (hf:∀ b ∈ fp,lG X pins H b) (ho:∀ b ∈ fp,∃ o,s.heap.get? b=some o/\∀ v,o.data ≠ .cell v):Inv X (pins++jO fp s.heap) σ H s:=
 I.pins_of λp hp=>(List.mem_append.mp hp).elim (λz=>I.pin p (List.mem_append_right _ z)) λz=>by
  obtain⟨hb,e⟩:=xY z
  obtain⟨f0,f1,f2,_⟩:=hf p.1 hb
  obtain⟨o,e',d⟩:=ho p.1 hb
  rw[e] at e';cases e'
  exact⟨e,f0,f1,f2,d⟩
theorem Inv.unpinned {pins pl:List (Addr×Obj)}{σ:St}{H:Hp}{s:Shared} (I:Inv X (pins++pl) σ H s):Inv X pins σ H s:=I.pins_of λp hp=>I.pin p (List.mem_append_right _ (List.mem_append_left _ hp))
theorem HP {al:Expr}{body:List Stmt}{wi:TI}{g:TG}{tb:TS}{pos:Pos} (hp:PassesOwn (model X.prog X.w) X.A X.env X.xe) (hc:X.calm=true) (hi:PI X tg al wi) (hg:PG X tg g) (hb:PSs X body tb)
 (hs:∀ x,foldedSetIterable al X.env x=pure x:=by intro _;rfl):PS X (.For tg al body [] pos) (tFor wi g tb):=by
 intro pins s σ H D I h
 refine wpAny_For (thn (hi pins s σ H _ I h) λv s1 h1=>thn h1 λitv s2 h2=>?_) hs
 obtain⟨it,fp,tn,J,H2,e,I2,T,st2,f2,W,⟨m0,w0⟩,turn⟩:=h2
 subst e
 have stat:∀ {H':Hp},(∀ b ∈ fp,H' b=none)->∀ b ∈ fp,lG X pins H' b:=λhn b hb=>⟨hn b hb,(f2 b hb).2⟩
 refine codeAny_forLoop_any (λn s'=>∃ i σ' H',Inv X pins σ' H' s'/\tn i s'.heap/\(∀ b ∈ fp,H' b=none)/\W i n σ' H') ?_ m0 ⟨0,σ,H2,I2,st2,λb hb=>(f2 b hb).1,w0⟩
 rintro n s3 ⟨i,σ3,H3,I3,st3,fr3,w3⟩
 rcases turn i n σ3 H3 w3 with ⟨stop,qn⟩ | ⟨go,N,hN,step⟩
 ·refine wpAny_passesOwn hp (thn (T.done X rfl rfl rfl hc i pins s3 σ3 H3 X.xe I3 (stat fr3) st3 stop) λr s4 ⟨hr,I4⟩=>?_)
  subst hr
  exact wpAny_execs_nil ⟨σ3,H3,I4,qn⟩
 ·refine wpAny_passesOwn hp (thn (T.item X rfl rfl rfl hc i pins s3 σ3 H3 X.xe I3 (stat fr3) st3 go) λr s4 ⟨u,hr,h4⟩=>?_)
  subst hr
  refine wpAny_passesOwn hp (thn h4 λ_ s5 ⟨x,H5,I5,r5,y5,st5,fr5⟩=>?_)
  have I5':=I5.pinned (stat fr5) (T.obj _ _ st5)
  refine wpAny_passesOwn hp (thn (hg _ s5 σ3 H5 x u _ I5' r5 (step x H5 y5)) λ_ s6 ⟨σ6,H6,I6,q6⟩=>?_)
  refine wpAny_passesOwn hp (thn (hb _ s6 σ6 H6 _ I6 q6) λf s7 q7=>?_)
  have again:∀ {σ7:St}{H7:Hp},Inv X (pins++jO fp s5.heap) σ7 H7 s7->N σ7 H7->∃ m,m < n/\∃ i σ' H',Inv X pins σ' H' s7/\tn i s7.heap/\(∀ b ∈ fp,H' b=none)/\W i m σ' H':=λ{σ7 H7} I7 n7=>by
   obtain⟨m',hm,w7⟩:=hN σ7 H7 n7
   refine⟨m',hm,i + 1,σ7,H7,I7.unpinned,T.keep _ _ _ st5 λb hb o e=>(I7.pin (b,o) (List.mem_append_right _ (List.mem_append_right _ (eN hb e)))).1,λb hb=>?_,w7⟩
   obtain⟨o,e,d⟩:=T.obj _ _ st5 b hb
   exact (I7.pin (b,o) (List.mem_append_right _ (List.mem_append_right _ (eN hb e)))).2.1
  cases f with
  | next=>obtain⟨σ7,H7,I7,n7⟩:=q7;exact again I7 n7
  | cont=>obtain⟨σ7,H7,I7,n7⟩:=q7;exact again I7 n7
  | brk=>obtain⟨σ7,H7,I7,q7⟩:=q7;exact⟨σ7,H7,I7.unpinned,q7⟩
  | ret v=>obtain⟨x7,σ7,H7,I7,r7,q7⟩:=q7;exact⟨x7,σ7,H7,I7.unpinned,r7,q7⟩
end
end L2
namespace L2
open PySem PySem.Spec PyProof.Rows
abbrev R2:=V->V->Hp->VK->Prop
def OpR (X:Cx) (f:Value->Value->Sem Value) (r:R2):Prop:=
 ∀
  (pins:List (Addr×Obj)) (s:Shared) (σ:St) (H:Hp) (x y:V) (v u:Value) (Q:VK),Inv X pins σ H s->RelV x v->RelV y u->r x y H Q->
  wpAny (model X.prog X.w) X.A (f v u) (EP X pins σ Q) X.xe s
def UnR (X:Cx) (f:Value->Sem Value) (r:V->Hp->VK->Prop):Prop:=
 ∀
  (pins:List (Addr×Obj)) (s:Shared) (σ:St) (H:Hp) (x:V) (v:Value) (Q:VK),Inv X pins σ H s->RelV x v->r x H Q->
  wpAny (model X.prog X.w) X.A (f v) (EP X pins σ Q) X.xe s
def CallR (X:Cx) (f:Value) (r:List V->Hp->VK->Prop):Prop:=
 ∀
  (pins:List (Addr×Obj)) (s:Shared) (σ:St) (H:Hp) (xs:List V) (us:List Value) (Q:VK),Inv X pins σ H s->Vals xs us->r xs H Q->
  wpAny (model X.prog X.w) X.A (call f us) (EP X pins σ Q) X.xe s
def TruR (X:Cx) (r:V->Hp->(Bool->Hp->Prop)->Prop):Prop:=
 ∀
  (pins:List (Addr×Obj)) (s:Shared) (σ:St) (H:Hp) (x:V) (v:Value) (Q:Bool->Hp->Prop),Inv X pins σ H s->RelV x v->r x H Q->
  wpAny (model X.prog X.w) X.A (truthy v) (TP X pins σ Q) X.xe s
def tOp (r:R2) (ta tb:TE):TE:=λσ H Q=>ta σ H λx H1=>tb σ H1 λy H2=>r x y H2 Q
def tUn (r:V->Hp->VK->Prop) (ta:TE):TE:=λσ H Q=>ta σ H λx H1=>r x H1 Q
def rI (C:Int->Int->Prop) (g:Int->Int->V):R2:=λx y H Q=>∃ i j,x=.int i/\y=.int j/\C i j/\Q (g i j) H
def rI0 (g:Int->Int->V):R2:=λx y H Q=>∃ i j,x=.int i/\y=.int j/\Q (g i j) H
def rU (g:Int->V):V->Hp->VK->Prop:=λx H Q=>∃ i,x=.int i/\Q (g i) H
section
variable {X:Cx}{a b c:Expr}{ta tb tc:TE}{pos:Pos}
theorem zA (ha:PE X a ta) (hb:PE X b tb) {pins:List (Addr×Obj)}{s:Shared}{σ:St}{H:Hp}{R:V->V->Hp->Prop} (I:Inv X pins σ H s)
 (h:ta σ H λx H1=>tb σ H1 λy H2=>R x y H2) {Q:Value->Shared->Prop}{f:Value->Value->Sem Value}
 (hf:∀ v u s2 x y H2,Inv X pins σ H2 s2->RelV x v->RelV y u->R x y H2->wpAny (model X.prog X.w) X.A (f v u) Q X.xe s2):
 wpAny (model X.prog X.w) X.A (eval a X.env) (λv s₁=>wpAny (model X.prog X.w) X.A (eval b X.env) (λu s₂=>wpAny (model X.prog X.w) X.A (f v u) Q X.xe s₂) X.xe s₁) X.xe s:=by
 refine thn (ha pins s σ H _ I h) λv s1 ⟨x,H1,I1,r1,q1⟩=>?_
 refine thn (hb pins s1 σ H1 _ I1 q1) λu s2 ⟨y,H2,I2,r2,q2⟩=>?_
 exact hf v u s2 x y H2 I2 r1 r2 q2
theorem J7 {op:Operator}{r:R2} (ho:OpR X (binaryOp op) r) (ha:PE X a ta) (hb:PE X b tb):PE X (.BinOp a op b pos) (tOp r ta tb):=by
 intro pins s σ H Q I h
 exact wpAny_BinOp (zA ha hb I h λv u s2 x y H2 I2 rx ry q=>ho pins s2 σ H2 x y v u Q I2 rx ry q)
theorem Jf {op:UnaryOp}{r:V->Hp->VK->Prop} (ho:UnR X (unaryOp op) r) (ha:PE X a ta):PE X (.UnaryOp op a pos) (tUn r ta):=by
 intro pins s σ H Q I h
 exact UnaryOp_ (thn (ha pins s σ H _ I h) λv s1 ⟨x,H1,I1,r1,q1⟩=>ho pins s1 σ H1 x v Q I1 r1 q1)
theorem opI {f:Value->Value->Sem Value}{C:Int->Int->Prop}{g:Int->Int->Int}
 (rule:∀ (i j:Int) (t u:Tok) (s:Shared) (Q:Value->Shared->Prop) (E:Value->Shared->Prop),C i j->Q (.int (g i j) s.toks) { s with toks:=s.toks + 1 }->wpAny (model X.prog X.w) X.A (f (.int i t) (.int j u)) Q E s):
 OpR X f (rI C λi j=>.int (g i j)):=by
 intro pins s σ H x y v u Q I rx ry h
 obtain⟨i,j,rfl,rfl,hc,q⟩:=h
 obtain⟨t,rfl⟩:=rx
 obtain⟨t',rfl⟩:=ry
 exact rule i j t t' s _ _ hc ⟨.int (g i j),H,I.tok _,⟨_,rfl⟩,q⟩
theorem opI0 {f:Value->Value->Sem Value}{g:Int->Int->Int}
 (rule:∀ (i j:Int) (t u:Tok) (s:Shared) (Q:Value->Shared->Prop) (E:Value->Shared->Prop),Q (.int (g i j) s.toks) { s with toks:=s.toks + 1 }->wpAny (model X.prog X.w) X.A (f (.int i t) (.int j u)) Q E s):
 OpR X f (rI0 λi j=>.int (g i j)):=by
 intro pins s σ H x y v u Q I rx ry h
 obtain⟨i,j,rfl,rfl,q⟩:=h
 obtain⟨t,rfl⟩:=rx
 obtain⟨t',rfl⟩:=ry
 exact rule i j t t' s _ _ ⟨.int (g i j),H,I.tok _,⟨_,rfl⟩,q⟩
theorem Bi {f:Value->Value->Sem Value}{g:Int->Int->Bool}
 (rule:∀ (i j:Int) (t u:Tok) (s:Shared) (Q:Value->Shared->Prop) (E:Value->Shared->Prop),Q (.bool (g i j)) s->wpAny (model X.prog X.w) X.A (f (.int i t) (.int j u)) Q E s):
 OpR X f (rI0 λi j=>.bl (g i j)):=by
 intro pins s σ H x y v u Q I rx ry h
 obtain⟨i,j,rfl,rfl,q⟩:=h
 obtain⟨t,rfl⟩:=rx
 obtain⟨t',rfl⟩:=ry
 exact rule i j t t' s _ _ ⟨.bl (g i j),H,I,rfl,q⟩
def oZ (i j:Int):Prop:=0<=j/\j<=1000000/\i.natAbs < 2 ^ 64
def CMul (i j:Int):Prop:=(-(2 ^ 64) < i/\i < 2 ^ 64)\/(-(2 ^ 64) < j/\j < 2 ^ 64)
theorem CMul.ok {i j:Int} (h:CMul i j):IntMulOk i j:=by
 rcases h with ⟨h1,h2⟩ | ⟨h1,h2⟩
 ·exact .of_left (intBits_le_64 h1 h2)
 ·exact .of_right (intBits_le_64 h1 h2)
theorem E4:OpR X (binaryOp .Add) (rI0 λi j=>.int (i + j)):=opI0 λ_ _ _ _ _ _ _ q=>add_int q
theorem H9:OpR X (binaryOp .Mult) (rI CMul λi j=>.int (i * j)):=opI λ_ _ _ _ _ _ _ hc q=>mul_int q hc.ok
theorem d4:OpR X (binaryOp .Mod) (rI (λ_ j=>j ≠ 0) λi j=>.int (i.fmod j)):=opI λ_ _ _ _ _ _ _ hc q=>mod_int' hc q
theorem xQ:OpR X (binaryOp .Pow) (rI oZ λi j=>.int (i ^ j.toNat)):=opI λ_ _ _ _ _ _ _ hc q=>pow_int_small hc.1 hc.2.1 hc.2.2 q
theorem unI {f:Value->Sem Value}{g:Int->Int}
 (rule:∀ (i:Int) (t:Tok) (s:Shared) (Q:Value->Shared->Prop) (E:Value->Shared->Prop),Q (.int (g i) s.toks) { s with toks:=s.toks + 1 }->wpAny (model X.prog X.w) X.A (f (.int i t)) Q E s):
 UnR X f (rU λi=>.int (g i)):=by
 intro pins s σ H x v Q I rx h
 obtain⟨i,rfl,q⟩:=h
 obtain⟨t,rfl⟩:=rx
 exact rule i t s _ _ ⟨.int (g i),H,I.tok _,⟨_,rfl⟩,q⟩
theorem fJ:UnR X (unaryOp .USub) (rU λi=>.int (-i)):=unI λ_ _ _ _ _ q=>neg_int q
end
section
variable {X:Cx}{a b c:Expr}{ta tb tc:TE}{pos:Pos}
theorem nC {pins:List (Addr×Obj)}{σ:St}{H:Hp}{s:Shared}{Q:VK}{k k':Bool} (I:Inv X pins σ H s) (q:Q (.bl k) H) (e:k=k'):EP X pins σ Q (.bool k') s:=by
 subst e
 exact⟨.bl k,H,I,rfl,q⟩
theorem qD:OpR X (compareOp .Lt) (rI0 λi j=>.bl (decide (i < j))):=Bi λ_ _ _ _ _ _ _ q=>lt_int q
theorem j4:OpR X (compareOp .Gt) (rI0 λi j=>.bl (decide (j < i))):=Bi λ_ _ _ _ _ _ _ q=>gt_int q
theorem vF:OpR X (compareOp .GtE) (rI0 λi j=>.bl (decide (j<=i))):=Bi λ_ _ _ _ _ _ _ q=>ge_int q
theorem Gk:OpR X (compareOp .Is) (λx y H Q=>y=.non/\Q (.bl (decide (x=.non))) H):=by
 intro pins s σ H x y v u Q I rx ry h
 obtain⟨rfl,q⟩:=h
 cases ry
 refine is_none_gen (nC I q ?_)
 cases x <;> first
  | (cases rx;rfl)
  | (obtain⟨t,rfl⟩:=rx;rfl)
theorem Cu:OpR X (compareOp .IsNot) (λx y H Q=>y=.non/\Q (.bl (!decide (x=.non))) H):=by
 intro pins s σ H x y v u Q I rx ry h
 obtain⟨rfl,q⟩:=h
 cases ry
 refine isnot_none_gen (nC I q ?_)
 cases x <;> first
  | (cases rx;rfl)
  | (obtain⟨t,rfl⟩:=rx;rfl)
theorem OpR.or {f:Value->Value->Sem Value}{r r':R2} (h:OpR X f r) (h':OpR X f r'):OpR X f (λx y H Q=>r x y H Q\/r' x y H Q):=by
 intro pins s σ H x y v u Q I rx ry q
 rcases q with q | q
 ·exact h pins s σ H x y v u Q I rx ry q
 ·exact h' pins s σ H x y v u Q I rx ry q
theorem a8 (b:Expr) {op:CmpOp} (h:op ≠ .In:=by decide) (h2:op ≠ .NotIn:=by decide):behindInMarks op b=false:=by
 have e1:(op == CmpOp.In)=false:=by cases op <;> first | rfl | exact absurd rfl h
 have e2:(op == CmpOp.NotIn)=false:=by cases op <;> first | rfl | exact absurd rfl h2
 cases b <;> simp [behindInMarks,e1,e2]
theorem DL {op:CmpOp}{r:R2} (ho:OpR X (compareOp op) r) (ha:PE X a ta) (hb:PE X b tb) (hm:behindInMarks op b=false):PE X (.Compare a [op] [b] pos) (tOp r ta tb):=by
 intro pins s σ H Q I h
 exact wpAny_Compare1 (zA ha hb I h λv u s2 x y H2 I2 rx ry q=>ho pins s2 σ H2 x y v u Q I2 rx ry q) hm
def Ks (t:TE):TT:=λσ H Q=>t σ H λx H'=>∃ k,x=.bl k/\Q k H'
theorem DV {op:CmpOp}{r:R2} (ho:OpR X (compareOp op) r) (ha:PE X a ta) (hb:PE X b tb) (hm:behindInMarks op b=false):PT X (.Compare a [op] [b] pos) (Ks (tOp r ta tb)):=by
 intro pins s σ H Q I h
 refine wpAny_isTrue_Compare1 (thn (ha pins s σ H _ I h) λv s1 ⟨x,H1,I1,r1,q1⟩=>thn (hb pins s1 σ H1 _ I1 q1) λu s2 ⟨y,H2,I2,r2,q2⟩=>
  thn (ho pins s2 σ H2 x y v u _ I2 r1 r2 q2) λc s3 ⟨z,H3,I3,r3,k,e,q3⟩=>?_) hm
 subst e
 cases r3
 exact wpAny_truthy_bool ⟨H3,I3,q3⟩
def zt (K:W.Frag) (x:V) (H:Hp) (k:Bool):Prop:=
 match x with
 | .non=>k=false
 | .bl b=>k=b
 | .int i=>k=(i != 0)
 | .str y=>y.length<=sizeLine/\k=((y.length:Int) != 0)
 | .byt y=>y.size<=sizeLine/\k=((y.size:Int) != 0)
 | .ref p=>(∃ xs,SqL K H p xs/\k=!xs.isEmpty)\/(∃ xs,SqT K H p xs/\k=!xs.isEmpty)\/∃ kvs,H p=some (.dK kvs)/\k=!kvs.isEmpty
 | _=>False
theorem vp {κ:Type}{kvs:List (κ×V)}{vs:List (κ×Value)} (r:KV kvs vs):(!vs.isEmpty)=!kvs.isEmpty:=by
 cases r <;> rfl
theorem nG {xs:List V}{its:List Value} (r:Vals xs its):(!its.toArray.isEmpty)=!xs.isEmpty:=by
 cases r <;> simp
theorem iP:(sizeLine:Nat) < 2 ^ 63:=by rw[sizeLine_eq];decide
theorem Hb:TruR X (λx H Q=>∃ k,zt X.K x H k/\Q k H):=by
 intro pins s σ H x v Q I rx h
 obtain⟨k,e,q⟩:=h
 have hl:=iP
 have hs:sizeLine=16777216:=sizeLine_eq
 cases x with
 |
  non=>
  cases rx
  have e':k=false:=e
  subst e'
  exact truthy_none ⟨H,I,q⟩
 |
  bl b=>
  cases rx
  have e':k=b:=e
  subst e'
  exact wpAny_truthy_bool ⟨H,I,q⟩
 |
  int i=>
  obtain⟨t,rfl⟩:=rx
  have e':k=(i != 0):=e
  subst e'
  exact PySem.P.truthy_int ⟨H,I,q⟩
 |
  str y=>
  obtain⟨t,rfl⟩:=rx
  obtain⟨hy,e'⟩:y.length<=sizeLine/\k=((y.length:Int) != 0):=e
  subst e'
  exact PySem.P.truthy_str (by omega) ⟨H,I.tok _,q⟩
 |
  byt y=>
  obtain⟨t,rfl⟩:=rx
  obtain⟨hy,e'⟩:y.size<=sizeLine/\k=((y.size:Int) != 0):=e
  subst e'
  exact W.truthy_bytes (by omega) ⟨H,I.tok _,q⟩
 |
  ref p=>
  cases rx
  have e':(∃ xs,SqL X.K H p xs/\k=!xs.isEmpty)\/(∃ xs,SqT X.K H p xs/\k=!xs.isEmpty)\/∃ kvs,H p=some (.dK kvs)/\k=!kvs.isEmpty:=e
  rcases e' with ⟨xs,hx,e'⟩ | ⟨xs,hx,e'⟩ | ⟨kvs,hx,e'⟩
  ·subst e'
   obtain⟨its,r,pl,hz⟩:=I.list hx
   have be:=r.length
   exact wpAny_truthy_list pl.isList (by simp only[List.size_toArray];omega) ⟨H,I.tok _,by rw[nG r];exact q⟩
  ·subst e'
   obtain⟨its,r,pl,hz⟩:=I.tuple hx
   have be:=r.length
   exact truthy_tuple pl (by simp only[List.size_toArray];omega) ⟨H,I.tok _,by rw[nG r];exact q⟩
  ·subst e'
   obtain⟨hz,hS,vs,r,m⟩:kvs.length<=sizeLine/\(p == sysModules)=false/\∃ vs,KV kvs vs/\s.heap.DictOf (bF X.prog X.w) p vs:=I.hok p _ hx
   have be:kvs.length=vs.length:=Paired.length r
   exact wpAny_truthy_dict hS m (by omega) ⟨H,I.tok _,by rw[vp r];exact q⟩
 | _=>exact (show False from e).elim
theorem Ak (ha:PE X a ta) (he:∀ ci,isTrue a X.env ci=(do let v <- ci;standAt a.pos;holding [v] (truthy v))):
 PT X a (λσ H Q=>ta σ H λx H'=>∃ k,zt X.K x H' k/\Q k H'):=by
 intro pins s σ H Q I h
 exact isTrue_plain (thn (ha pins s σ H _ I h) λv s1 ⟨x,H1,I1,r1,q1⟩=>Hb pins s1 σ H1 x v Q I1 r1 q1) (he _)
theorem hE {x:V}{us:List Value} (r:Vals [x] us):∃ u,us=[u]/\RelV x u:=by
 cases r with
 | cons r1 r2=>cases r2;exact⟨_,rfl,r1⟩
theorem vD {x y:V}{us:List Value} (r:Vals [x,y] us):∃ u w',us=[u,w']/\RelV x u/\RelV y w':=by
 cases r with
 |
  cons r1 r2=>
  cases r2 with
  | cons r3 r4=>cases r4;exact⟨_,_,rfl,r1,r3⟩
theorem so:CallR X (.builtin "abs") (λxs H Q=>∃ i,xs=[.int i]/\Q (.int (if i < 0 then -i else i)) H):=by
 intro pins s σ H xs us Q I r h
 obtain⟨i,rfl,q⟩:=h
 obtain⟨u,rfl,t,rfl⟩:=hE r
 exact call_abs_int λu tk=>⟨.int (if i < 0 then -i else i),H,I.tok _,⟨_,rfl⟩,q⟩
theorem xW (hc:X.calm=true):CallR X (.builtin "min") (λxs H Q=>∃ i j,xs=[.int i,.int j]/\Q (.int (if j < i then j else i)) H):=by
 intro pins s σ H xs us Q I r h
 obtain⟨i,j,rfl,q⟩:=h
 obtain⟨u,w',rfl,⟨t,rfl⟩,⟨t',rfl⟩⟩:=vD r
 refine min_two_ints (I.ok.hd hc) λh' tk k=>⟨_,H,I.kept k,?_,q⟩
 by_cases hj:j < i
 ·rw[if_pos hj,if_pos hj];exact⟨_,rfl⟩
 ·rw[if_neg hj,if_neg hj];exact⟨_,rfl⟩
theorem xr:CallR X (.type "int") (λxs H Q=>(∃ i,xs=[.int i]/\Q (.int i) H)\/∃ k,xs=[.bl k]/\Q (.int (if k then 1 else 0)) H):=by
 intro pins s σ H xs us Q I r h
 rcases h with ⟨i,rfl,q⟩ | ⟨k,rfl,q⟩
 ·obtain⟨u,rfl,t,rfl⟩:=hE r
  exact call_int_int ⟨.int i,H,I,⟨_,rfl⟩,q⟩
 ·obtain⟨u,rfl,r1⟩:=hE r
  cases r1
  exact call_int_bool ⟨.int (if k then 1 else 0),H,I.tok _,⟨_,rfl⟩,q⟩
end
end L2
namespace L2
open PySem PySem.Spec PyProof.Rows
structure ObjM (h:Heap) (x dx C:Addr) (mA:Str->Option Value):Prop where
 obj:h.get? x=some (W.instObj C dx)
 ns:h.Ns1 dx mA
 ne:dx ≠ x
theorem xB {h:Heap}{dx:Addr}{mA:Str->Option Value} (n:h.Ns1 dx mA):∃ od,h.get? dx=some od/\∀ name,W.lookIn name od=some (mA name):=by
 obtain⟨o,es,ep,ho,hd,hk,_,hm⟩:=n
 refine⟨o,ho,λname=>?_⟩
 have e:=hm name
 unfold nsFind findBy at e
 rw[<- Array.find?_toList] at e
 unfold W.lookIn
 rw[hd]
 dsimp only
 split
 ·rename_i y q
  rw[q] at e
  exact congrArg some e
 ·rename_i q
  rw[q] at e
  have a:es.toList.any (·.refKey)=false:=by
   rw[List.any_eq_false]
   intro y hy
   obtain⟨z,t,hkey⟩:=hk y (Array.mem_toList_iff.mp hy)
   simp [DictEntry.refKey,hkey]
  have a':¬ es.toList.any (·.refKey)=true:=by rw[a];exact Bool.false_ne_true
  rw[if_neg a']
  exact congrArg some e
theorem ObjM.look {h:Heap}{x dx C:Addr}{mA:Str->Option Value} (I:ObjM h x dx C mA):∃ od,W.InstAt h x (W.instObj C dx) C (some od)/\∀ name,W.lookIn name od=some (mA name):=
 let ⟨od,ho,hl⟩:=xB I.ns
 ⟨od,⟨I.obj,rfl,rfl,ho⟩,hl⟩
section
variable {prog:Program}{w:World}{A:Around}{E:Value->Shared->Prop}{s:Shared}{K:W.Frag}{x dx C f:Addr}{mA:Str->Option Value}{name:Str}{v:Value}
end
theorem RelO.some_of {v:V}{o:Option Value} (r:RelO (some v) o):∃ u,o=some u/\RelV v u:=by
 cases o with
 | none=>exact (show False from r).elim
 | some u=>exact⟨u,rfl,r⟩
section
variable {P:Program}{w:World}{H H':Hp}{h h':Heap}{a C dx:Addr}{fs fs':List (Str×V)}
theorem CF (hok:HOk P w H h) (e:H a=some (.ins C dx fs)):∃ mA,ObjM h a dx C mA/\(∀ f,RelO (fs.lookup f) (mA f))/\PySem.Within mA (fs.map (·.1))/\fs.length<=1000/\H dx=some (.own a):=by
 obtain⟨d,z,ne,ob,mA,n,r,q⟩:=(show ObjOk P w H h a (.ins C dx fs) from hok a _ e)
 exact⟨mA,⟨ob,n,ne⟩,r,q,z,d⟩
end
structure Cls (K:W.Frag) (C:Addr):Prop where
 pg:W.plainGet K C Str.empty=true
 hd:W.hasDictIn K C=true
 po:W.plainOver K C=true
 sa:W.findIn K (.ref C) "__setattr__"=some (some (.builtin "object.__setattr__"))
theorem Cls.get {K:W.Frag}{C:Addr} (c:Cls K C) (f:Str):W.plainGet K C f=true:=c.pg
structure Con (K:W.Frag) (C:Addr) (f:Str) (v:V) (u:Value):Prop where
 at_:W.findIn K (.ref C) f=some (some u)
 rel:RelV v u
 get:W.specialIn K u "__get__"=some none
 cp:W.copiedNames.contains f=false
structure Meth (K:W.Frag) (C:Addr) (m:Str) (f:Addr):Prop where
 at_:W.findIn K (.ref C) m=some (some (.ref f))
 fn:W.isFn K (.ref f)=true
 kp:W.keepIn K (.ref f)=true
section
variable {X:Cx}{pins:List (Addr×Obj)}{σ:St}{H:Hp}{s:Shared}{a C dx:Addr}{fs:List (Str×V)}{f:Str}{v:V}{A:Around}{E:Value->Shared->Prop}
end
section
variable {X:Cx}{o e value:Expr}{f:Str}{pos jp tpos:Pos}{ta tv:TE}
end
section
variable {X:Cx}{pins:List (Addr×Obj)}{σ:St}{H:Hp}{s:Shared}{A:Around}{E:Value->Shared->Prop}{Q:Value->Shared->Prop}{c:Value}{b:Bool}
inductive TyOf (K:W.Frag) (H:Hp):V->Value->Prop where
 | non:TyOf K H .non (.type "NoneType")
 | bl (x:Bool):TyOf K H (.bl x) (.type "bool")
 | int (i:Int):TyOf K H (.int i) (.type "int")
 | str (x:Str):TyOf K H (.str x) (.type "str")
 | flt (x:UInt64):TyOf K H (.flt x) (.type "float")
 | lst {a:Addr}{xs:List V} (e:H a=some (.lst xs)):TyOf K H (.ref a) (.type "list")
 | frz {a:Addr}{o:Obj}{xs:List V} (e:H a=some (.frz o (.lst xs))):TyOf K H (.ref a) (.type "list")
 | tup {a:Addr}{xs:List V} (e:H a=some (.tup xs)):TyOf K H (.ref a) (.type "tuple")
 | dK {a:Addr}{kvs:List (Key×V)} (e:H a=some (.dK kvs)):TyOf K H (.ref a) (.type "dict")
 | dT {a:Addr}{kvs:List (List Key×V)} (e:H a=some (.dT kvs)):TyOf K H (.ref a) (.type "dict")
 | ins {a C dx:Addr}{fs:List (Str×V)} (e:H a=some (.ins C dx fs)) (cl:Cls K C) (ha:W.findIn K (.ref C) "__class__"=some (some (.builtin "object.__class__")))
  (hn:W.specialIn K (.builtin "object.__class__") "__get__"=some (some (.builtin "getset_descriptor.__get__"))) (htk:W.takesIn K (.builtin "object.__class__")=some true)
  (hm:W.mroIn K C (.type "object")=some true):TyOf K H (.ref a) (.ref C)
end
end L2
namespace L2
open PySem PySem.Spec PyProof.Rows
structure Room (k:Nat) (A:Around):Prop where
 hd:A.handled=none
 dp:A.depth + 3 * k + 5 < recursionLimit
 un:A.units + 16 * k + 200 < cLine
theorem Room.mono {j k:Nat}{A:Around} (r:Room k A) (h:j<=k):Room j A:=⟨r.hd,by have:=r.dp;omega,by have:=r.un;omega⟩
theorem Room.deeper {k:Nat}{A:Around} (r:Room (k + 1) A) (env:Env):Room k (A.deeper env):=
 ⟨r.hd,by have:=r.dp;show A.depth + 1 + 3 * k + 5 < _;omega,by have:=r.un;show A.units + 3 + 16 * k + 200 < _;omega⟩
theorem Room.depth {k:Nat}{A:Around} (r:Room k A):A.depth < recursionLimit:=by have:=r.dp;omega
theorem Room.units {k:Nat}{A:Around} (r:Room k A):A.units + 64 < cLine:=by have:=r.un;omega
def tNil:TA:=λ_ H Q=>Q [] H
def K7 (ta:TE) (tr:TA):TA:=λσ H Q=>ta σ H λx H1=>tr σ H1 λxs H2=>Q (x :: xs) H2
section
variable {X:Cx}{e:Expr}{es:List Expr}{te:TE}{t:TA}{pos:Pos}
theorem H0:PA X [] tNil:=λ_ _ _ _ H Q I h=>Calls.spliced_nil ⟨[],H,I,.nil,h⟩
theorem DH (ha:PE X e te) (hr:PA X es t) (hs:starEach (e :: es) X.env=(false,eval e X.env) :: starEach es X.env:=by rfl):PA X (e :: es) (K7 te t):=by
 intro pos pins s σ H Q I h
 rw[hs]
 show wpAny _ _ (spliced ((false,eval e X.env) :: backTo pos (starEach es X.env))) _ _ s
 refine Calls.spliced_cons (thn (ha pins s σ H _ I h) λu s1 ⟨x,H1,I1,r1,q1⟩=>?_)
 exact thn (hr pos pins s1 σ H1 _ I1 q1) λus s2 ⟨xs,H2,I2,r2,q2⟩=>⟨x :: xs,H2,I2,.cons r1 r2,q2⟩
def tTup (t:TA):TE:=λσ H Q=>t σ H λxs H1=>xs.length<=sizeLine/\∀ p,H1 p=none->Q (.ref p) (upd H1 p (.tup xs))
def tLst (t:TA):TE:=λσ H Q=>t σ H λxs H1=>xs.length<=sizeLine/\∀ p,H1 p=none->Q (.ref p) (upd H1 p (.lst xs))
theorem Ip {x1} (h:PA X es t):PE X (.Tuple es x1 pos) (tTup t):=by
 intro pins s σ H Q I hq
 refine wpAny_Tuple_spliced (thn (h pos pins s σ H _ I hq) λus s1 ⟨xs,H1,I1,r,z,q⟩=>⟨by rw[<- r.length];exact z,?_⟩)
 have hf:H1 s1.heap.objs.size=none:=I1.hok.fresh (Nat.le_refl _)
 refine⟨.ref s1.heap.objs.size,upd H1 s1.heap.objs.size (.tup xs),I1.laid (t':=s1.toks) (λb u e=>Heap.get?_push_of_some _ e) (Nat.le_refl _) ?_,rfl,q _ hf⟩
 exact⟨z,us,r,⟨_,Heap.get?_push_size _ rfl,rfl,_,rfl⟩⟩
theorem FT (h:PA X es t):PE X (.List es pos) (tLst t):=by
 intro pins s σ H Q I hq
 refine wpAny_List_spliced (thn (h pos pins s σ H _ I hq) λus s1 ⟨xs,H1,I1,r,z,q⟩=>⟨by rw[<- r.length];exact z,?_⟩)
 have hf:H1 s1.heap.objs.size=none:=I1.hok.fresh (Nat.le_refl _)
 refine⟨.ref s1.heap.objs.size,upd H1 s1.heap.objs.size (.lst xs),I1.laid (t':=s1.toks) (λb u e=>Heap.get?_push_of_some _ e) (Nat.le_refl _) ?_,rfl,q _ hf⟩
 exact⟨z,us,0,r,Heap.get?_push_size _ rfl⟩
end
abbrev Sp:=List V->Hp->VK->XK->Prop
abbrev CXT:=List Env->Hp->Shared->XK->Value->Shared->Prop
structure Env0 (P:Program) (w:World) (K:W.Frag) (mg:Str->Option Value) (base:Heap) (A:Around) (outer:List Env) (s:Shared) (H:Hp):Prop where
 frames:A.frames=some outer
 mod:Mod K mg base
 bs:∀ b o,base.get? b=some o->s.heap.get? b=some o/\H b=none
 bsz:base.objs.size<=s.heap.objs.size
 funs:s.heap.FunFrames base outer
 frf:∀ b ∈ frs outer,H b=none
 hok:HOk P w H s.heap
 bare:AllBare s.gens
def CE (outer:List Env) (P:Program) (w:World) (H:Hp) (s:Shared) (Q:VK) (u:Value) (s':Shared):Prop:=
 ∃ v H',s'.os=s.os/\AllBare s'.gens/\Un (frs outer) [] H H' s.heap s'.heap/\HOk P w H' s'.heap/\RelV v u/\Q v H'
def CR (CX:CXT) (outer:List Env) (P:Program) (w:World) (H:Hp) (s:Shared) (Q:VK) (E:XK) (r:Result) (s':Shared):Prop:=
 match r with
 | .ok (.ret u)=>CE outer P w H s Q u s'
 | .ok _=>False
 | .error e=>CX outer H s E e s'
structure FnOk (P:Program) (w:World) (K:W.Frag) (mg:Str->Option Value) (base:Heap) (CX:CXT) (k:Nat) (f:Addr) (fd:FuncData) (ps:List Str) (sp:Sp):Prop where
 len:∀ vs H Q E,sp vs H Q E->vs.length=ps.length
 run:∀ (A:Around) (outer:List Env) (s:Shared) (H:Hp) (args:Args) (us:List Value) (vs:List V) (Q:VK) (E:XK),Room k A->Env0 P w K mg base A outer s H->BindsTo s fd args (ps.zip us)->Vals vs us->sp vs H Q E->
  codeAny (model P w) A (.call (.ref f) args) (CR CX outer P w H s Q E) s
theorem FnOk.imp {P:Program}{w:World}{K:W.Frag}{mg:Str->Option Value}{base:Heap}{CX:CXT}{k:Nat}{f:Addr}{fd:FuncData}{ps:List Str}{sp sp':Sp} (F:FnOk P w K mg base CX k f fd ps sp)
 (h:∀ vs H Q E,sp' vs H Q E->sp vs H Q E):FnOk P w K mg base CX k f fd ps sp':=
 ⟨λvs H Q E q=>F.len vs H Q E (h _ _ _ _ q),λA outer s H args us vs Q E hr he hb hv hs=>F.run A outer s H args us vs Q E hr he hb hv (h _ _ _ _ hs)⟩
section
variable {X:Cx}{pins:List (Addr×Obj)}{σ:St}{H:Hp}{s s':Shared}
theorem Inv.env0 (I:Inv X pins σ H s):Env0 X.prog X.w X.K X.mg X.base X.A X.stack s H:=
 ⟨I.ok.frames,I.ok.mod,I.bs,Nat.le_trans I.ok.bsz I.sz,I.stack,I.stkFree,I.hok,I.bare⟩
theorem Inv.after {Q:VK}{u:Value} (I:Inv X pins σ H s) (h:CE X.stack X.prog X.w H s Q u s'):EP X pins σ Q u s':=by
 obtain⟨v,H',os,bare,un,hok,r,q⟩:=h
 obtain⟨hh,g,d,t,os'⟩:=s'
 obtain rfl:os'=s.os:=os
 exact⟨v,H',I.call (h':=hh) (g':=g) (d':=d) (t':=t) (ch:=[]) un hok bare (λb z=>absurd z (by simp)),r,q⟩
end
def Binds (K:W.Frag) (fd:FuncData) (ps:List Str) (ds:List Value):Prop:=
 ∀ (s:Shared) (us:List Value),K.In s.heap->(us++ds).length=ps.length->BindsTo s fd ⟨us,[]⟩ (ps.zip (us++ds))
theorem Binds.all {K:W.Frag}{fd:FuncData}{ps:List Str} (h:∀ us:List Value,us.length=ps.length->bindArgs fd ⟨us,[]⟩=pure (ps.zip us)):Binds K fd ps []:=λs us _ hl=>by
 rw[List.append_nil] at hl ⊢
 exact .of_eq (h us hl)
def rl (CX:CXT) (X:Cx) (E:XK):Prop:=∀ (pins:List (Addr×Obj)) (σ:St) (H:Hp) (s:Shared) (e:Value) (s':Shared),Inv X pins σ H s->CX X.stack H s E e s'->X.xe e s'
section
variable {X:Cx}{CX:CXT}{k:Nat}{f C:Addr}{fd:FuncData}{ps:List Str}{sp:Sp}{dvs:List V}{ds:List Value}{E:XK}{x m:Str}{p pos apos:Pos}{e o:Expr}{es:List Expr}{ta:TE}{t:TA}
structure Mk (K:W.Frag) (C f:Addr):Prop where
 makes:W.makesIn K C=true
 init:W.findIn K (.ref C) "__init__"=some (some (.ref f))
 fn:W.isFn K (.ref f)=true
 kp:W.keepIn K (.ref C)=true
end
section
variable {X:Cx}{CX:CXT}{k:Nat}{f C:Addr}{fd:FuncData}{ps ks:List Str}{sp:Sp}{E:XK}{x m:Str}{p pos apos kpos:Pos}{e o:Expr}{es:List Expr}{kws:List Keyword}{te ta:TE}{t tk:TA}{nm:Option Str}
structure KBinds (K:W.Frag) (fd:FuncData) (ps ks:List Str) (g:List Value->List Value->List Value) (gV:List V->List V->List V):Prop where
 to:∀ (s:Shared) (us ws:List Value),K.In s.heap->(g us ws).length=ps.length->BindsTo s fd ⟨us,ks.zip ws⟩ (ps.zip (g us ws))
 rel:∀ {vs:List V}{us:List Value}{zs:List V}{ws:List Value},Vals vs us->Vals zs ws->Vals (gV vs zs) (g us ws)
variable {g:List Value->List Value->List Value}{gV:List V->List V->List V}
end
structure FnScope (N P:List Str) (sc:Scope):Prop where
 kind:sc.kind=.function
 co:sc.isCoroutine=false
 gen:sc.isGenerator=false
 nd:N.Nodup
 pre:N.take P.length=P
 par:∀ x ∈ P,sc.names.lookup x=some .local\/sc.names.lookup x=some .cell
 nofree:∀ y ∈ sc.names,y.2 ≠ .free
theorem pK {kindOf:Str->Option NameKind}{x:Str}:∀ {binds:List (Str×Value)}{m:Str->Option Value},(∀ v,(x,v) ∉ binds)->bindL kindOf binds m x=m x
 | [],_,_=>rfl
 |
  (n,v) :: r,m,h=>by
  unfold bindL
  rw[pK λw hw=>h w (List.mem_cons_of_mem _ hw)]
  split
  ·have:x ≠ n:=by rintro rfl;exact h v List.mem_cons_self
   simp [this]
  ·rfl
theorem pZ {kindOf:Str->Option NameKind}{x:Str}:∀ {binds:List (Str×Value)}{m:Str->Option Value},(∀ v,(x,v) ∉ binds)->bindC kindOf binds m x=m x
 | [],_,_=>rfl
 |
  (n,v) :: r,m,h=>by
  unfold bindC
  rw[pZ λw hw=>h w (List.mem_cons_of_mem _ hw)]
  split
  ·rfl
  ·have:x ≠ n:=by rintro rfl;exact h v List.mem_cons_self
   simp [this]
theorem pM {kindOf:Str->Option NameKind}{x:Str}{v:Value}:∀ {P:List Str}{vs:List Value}{i:Nat}{m:Str->Option Value},P.Nodup->P[i]?=some x->vs[i]?=some v->kindOf x=some .local->
 bindL kindOf (P.zip vs) m x=some v
 | [],_,_,_,_,h,_,_=>by simp at h
 | _ :: _,[],_,_,_,_,h,_=>by simp at h
 |
  p :: P,w :: vs,0,m,nd,h1,h2,hk=>by
  simp at h1 h2;subst h1;subst h2
  show bindL kindOf ((p,w) :: P.zip vs) m p=_
  unfold bindL
  rw[pK λv hv=>(List.nodup_cons.mp nd).1 (List.of_mem_zip hv).1,if_pos hk]
  simp
 |
  p :: P,w :: vs,i + 1,m,nd,h1,h2,hk=>by
  show bindL kindOf ((p,w) :: P.zip vs) m x=_
  unfold bindL
  exact pM (i:=i) (List.nodup_cons.mp nd).2 (by simpa using h1) (by simpa using h2) hk
theorem qa {kindOf:Str->Option NameKind}{x:Str}{v:Value}:∀ {P:List Str}{vs:List Value}{i:Nat}{m:Str->Option Value},P.Nodup->P[i]?=some x->vs[i]?=some v->kindOf x ≠ some .local->
 bindC kindOf (P.zip vs) m x=some v
 | [],_,_,_,_,h,_,_=>by simp at h
 | _ :: _,[],_,_,_,_,h,_=>by simp at h
 |
  p :: P,w :: vs,0,m,nd,h1,h2,hk=>by
  simp at h1 h2;subst h1;subst h2
  show bindC kindOf ((p,w) :: P.zip vs) m p=_
  unfold bindC
  rw[pZ λv hv=>(List.nodup_cons.mp nd).1 (List.of_mem_zip hv).1,if_neg hk]
  simp
 |
  p :: P,w :: vs,i + 1,m,nd,h1,h2,hk=>by
  show bindC kindOf ((p,w) :: P.zip vs) m x=_
  unfold bindC
  exact qa (i:=i) (List.nodup_cons.mp nd).2 (by simpa using h1) (by simpa using h2) hk
def dm (N:List Str) (vs:List V):St:=vs.map some++List.replicate (N.length - vs.length) none
def er (CX:CXT) (P:Program) (w:World) (K:W.Frag) (mg:Str->Option Value) (base:Heap) (N:List Str) (qual:Str) (scope:Scope) (f:Addr) (cd:Value) (A:Around) (outer:List Env) (s:Shared) (H:Hp) (E:XK):Cx where
 prog:=P
 w:=w
 K:=K
 mg:=mg
 base:=base
 A:=A.deeper (envOfC qual scope s.heap.objs.size f cd)
 N:=N
 s₀:=s
 H₀:=H
 env:=envOfC qual scope s.heap.objs.size f cd
 outer:=outer
 stack:=envOfC qual scope s.heap.objs.size f cd :: outer
 ex:=[]
 calm:=true
 fn:=λ_=>true
 pn:=[]
 xe:=λe s'=>wpAny (model P w) (A.deeper (envOfC qual scope s.heap.objs.size f cd)) (leaving (envOfC qual scope s.heap.objs.size f cd) e) (λ_ s''=>CX outer H s E e s'') (λe' s''=>CX outer H s E e' s'') s'
theorem sG {sc:Scope}{n:Nat}{x:Str} (h:sc.names.lookup x=some .cell):∃ c,(cellsFrom n sc.names []).lookup x=some c:=by
 have q:=W.cellsFrom_some sc.names n [] (.inl h)
 exact Option.isSome_iff_exists.mp q
theorem pP {CX:CXT}{P:Program}{w:World}{K:W.Frag}{mg:Str->Option Value}{base:Heap}{N ps:List Str}{qual:Str}{scope:Scope}{f:Addr}{cd:Value}{A:Around}{outer:List Env}{s s1:Shared}{H:Hp}{E:XK}{us:List Value}{vs:List V}
 (S:FnScope N ps scope) (hd:A.handled=none) (e0:Env0 P w K mg base A outer s H) (hl:vs.length=ps.length) (r:Vals vs us)
 (x:InCallC s s.heap.objs.size (bindL (envOfC qual scope s.heap.objs.size f cd).kindOf (ps.zip us) λ_=>none) (cellsFrom (s.heap.objs.size + 1) scope.names []) (bindC (envOfC qual scope s.heap.objs.size f cd).kindOf (ps.zip us) λ_=>none) s1):
 Inv (er CX P w K mg base N qual scope f cd A outer s H E) [] (dm N vs) H s1:=by
 have hpl:ps.length<=N.length:=by have:=congrArg List.length S.pre;rw[List.length_take] at this;omega
 obtain⟨h1,tk,rfl,hk⟩:=x.done
 have noA:∀ b:Addr,b ∉ (er CX P w K mg base N qual scope f cd A outer s H E).ex:=λb z=>absurd (show b ∈ ([]:List Addr) from z) (by simp)
 refine⟨⟨e0.mod,S.kind,rfl,rfl,Nat.le_refl _,λy z c h1 h2=>?_,λy hy=>?_,λy c _ h=>?_,λ_=>hd,Around.frames_deeper e0.frames,.inr ⟨rfl,rfl⟩,λb z=>absurd z (noA b),e0.bs,e0.bsz,λb _ _=>noA b,λb z=>absurd z (noA b),e0.funs,e0.frf⟩,
  rfl,e0.bare,Un.kept hk,⟨_,x.toInCall.ns,λi y v h1 h2 h3=>?_⟩,λy c h=>⟨_,x.cell y c h⟩,e0.hok.fresh (Nat.le_refl _),λy c h=>?_,λp hp=>absurd (show p ∈ ([]:List (Addr×Obj)) from hp) (by simp),e0.hok.kept hk,?_⟩
 ·exact name_of_addr x.apart (PySem.mem_of_lookup h1) (PySem.mem_of_lookup h2)
 ·have hy:scope.names.lookup y=some .cell\/scope.names.lookup y=some .free:=hy
  rcases hy with hy | hy
  ·exact sG hy
  ·exact absurd rfl (S.nofree _ (PySem.mem_of_lookup hy))
 ·exact Nat.le_of_lt (x.above y c (PySem.mem_of_lookup h))
 ·have hi:i < vs.length:=by
   unfold dm at h2
   by_cases hi:i < vs.length
   ·exact hi
   ·rw[List.getElem?_append_right (by simpa using hi)] at h2
    rw[List.getElem?_replicate] at h2
    split at h2 <;> cases h2
  have ha:vs[i]?=some v:=by
   unfold dm at h2
   rw[List.getElem?_append_left (by simpa using hi),List.getElem?_map] at h2
   cases e:vs[i]? with
   | none=>rw[e] at h2;cases h2
   | some a=>rw[e] at h2;cases h2;rfl
  obtain⟨u,hu,rv⟩:=r.get ha
  have hp:ps[i]?=some y:=by
   rw[<- S.pre,List.getElem?_take_of_lt (by omega)];exact h1
  have ndP:ps.Nodup:=by rw[<- S.pre];exact S.nd.sublist (List.take_sublist _ _)
  refine⟨u,rv,?_⟩
  rcases S.par y (List.mem_of_getElem? hp) with k | k
  ·exact .inl ⟨k,pM ndP hp hu k⟩
  ·obtain⟨c,e⟩:=sG (n:=s.heap.objs.size + 1) k
   refine .inr ⟨.inl k,c,e,?_⟩
   have q:=x.cell y c e
   rw[qa ndP hp hu (by show scope.names.lookup y ≠ _;rw[k];decide)] at q
   exact q
 ·exact e0.hok.fresh (Nat.le_of_lt (x.above y c (PySem.mem_of_lookup h)))
 ·unfold dm
  show _=N.length
  rw[List.length_append,List.length_map,List.length_replicate]
  omega
theorem J6 {CX:CXT}{P:Program}{w:World}{K:W.Frag}{mg:Str->Option Value}{base:Heap}{k:Nat}{f:Addr}{name qual:Str}{params:Arguments}{body:List Stmt}{scope:Scope}{dV kV doc pm cdv ct oc:Value}{an od:Option Addr}
 {osl:Array (Option Value)}{N ps:List Str}{sp:Sp} (lk:K.lookup f=some ⟨oc,od,.func (W.fnOf name qual params body scope dV kV doc pm an cdv ct),osl⟩) (j':W.codeIn K cdv qual=true) (S:FnScope N ps scope)
 (len:∀ vs H Q E,sp vs H Q E->vs.length=ps.length)
 (bn:∀ (A:Around) (outer:List Env) (s:Shared) (H:Hp) (vs:List V) (Q:VK) (E:XK),Room k (A.deeper (envOfC qual scope s.heap.objs.size f cdv))->sp vs H Q E->
  ∃ t,PSs (er CX P w K mg base N qual scope f cdv A outer s H E) body t/\t { nx:=λ_ H'=>Q .non H',rt:=Q } (dm N vs) H):
 FnOk P w K mg base CX (k + 1) f (W.fnOf name qual params body scope dV kV doc pm an cdv ct) ps sp:=by
 refine⟨len,λA outer s H args us vs Q E hr e0 hb r hsp=>?_⟩
 have hl:=len _ _ _ _ hsp
 have KX:K.In s.heap:=e0.mod.kin.keeps λb o e=>(e0.bs b o e).1
 have lim:s.heap.NoLimit:=e0.mod.nolimit.keeps λb o e=>(e0.bs b o e).1
 have hkind:∀ y ∈ ps.zip us,scope.names.lookup y.1=some .local\/(scope.names.lookup y.1=some .cell/\((cellsFrom (s.heap.objs.size + 1) scope.names []).lookup y.1).isSome=true):=λ⟨n,v⟩ hy=>by
  rcases S.par n (List.of_mem_zip hy).1 with q | q
  ·exact .inl q
  ·exact .inr ⟨q,W.cellsFrom_some _ _ _ (.inl q)⟩
 refine codeAny_call_function hr.depth (KX _ _ lk) rfl S.co S.gen rfl (W.codeRec_of KX j') (hb _ _ _ _ ?_)
 refine wpAny_newFunctionEnv_cells S.kind hkind λenv he s1 x=>?_
 subst he
 refine⟨lim.keeps x.toInCall.keep,codeAny_func ?_⟩
 obtain⟨t,ht,hq⟩:=bn A outer s H vs Q E (hr.deeper _) hsp
 have I:Inv (er CX P w K mg base N qual scope f cdv A outer s H E) [] (dm N vs) H s1:=pP S hr.hd e0 hl r x
 refine wpAny_mono (ht [] s1 (dm N vs) H _ I hq) (λfl s' hs=>?_) λe s' hs=>hs
 have fin:∀ {σ':St}{H':Hp}{v:V}{u:Value},Inv (er CX P w K mg base N qual scope f cdv A outer s H E) [] σ' H' s'->RelV v u->Q v H'->CE outer P w H s Q u s':=
  λ{σ' H' v u} J rv q=>⟨v,H',J.os,J.bare,J.base,J.hok,rv,q⟩
 cases fl with
 |
  ret u=>
  obtain⟨v,σ',H',J,rv,q⟩:=hs
  exact fin J rv q
 |
  next=>
  obtain⟨σ',H',J,q⟩:=hs
  exact fin (v:=V.non) (u:=Value.none) J rfl q
 |
  brk=>
  obtain⟨_,_,_,q⟩:=hs
  exact False.elim q
 |
  cont=>
  obtain⟨_,_,_,q⟩:=hs
  exact False.elim q
end L2
namespace L2
open PySem PySem.Spec PyProof.Rows
section
variable {X:Cx}{x:Str}{p pos:Pos}{e:Expr}{es:List Expr}{t:TA}{id T:String}{r:List V->Hp->VK->Prop}
def tCB (r:List V->Hp->VK->Prop) (t:TA):TE:=λσ H Q=>t σ H λvs H1=>r vs H1 Q
theorem y8 (hc:CallR X (.builtin id) r) (hg:Gl X x) (hm:X.mg x=none) (hv:bootBuiltins x=some (.builtin id)) (ha:PA X (e :: es) t) (hn:x ≠ "__name__":=by decide) (hdb:(x == ("__debug__" : Str))=false:=by decide)
 (he:starEach (e :: es) X.env=(false,eval e X.env) :: starEach es X.env:=by rfl) (hpl:(backTo pos (starEach es X.env)).any (·.1)=false:=by rfl):PE X (.Call (.Name x p) (e :: es) [] pos) (tCB r t):=by
 intro pins s σ H Q I h
 refine wpAny_Call_Name_kw (iY I hg hm hv ?_ hn hdb)
 exact PyProof.Rows.callWith_builtin1 (thn (ha pos pins s σ H _ I h) λus s1 ⟨vs,H1,I1,r1,q1⟩=>hc pins s1 σ H1 vs us Q I1 r1 q1) he hpl
theorem yf (hc:CallR X (.type T) r) (hg:Gl X x) (hm:X.mg x=none) (hv:bootBuiltins x=some (.type T)) (ha:PA X (e :: es) t) (hn:x ≠ "__name__":=by decide) (hdb:(x == ("__debug__" : Str))=false:=by decide)
 (he:starEach (e :: es) X.env=(false,eval e X.env) :: starEach es X.env:=by rfl) (hpl:(backTo pos (starEach es X.env)).any (·.1)=false:=by rfl):PE X (.Call (.Name x p) (e :: es) [] pos) (tCB r t):=by
 intro pins s σ H Q I h
 refine wpAny_Call_Name_kw (iY I hg hm hv ?_ hn hdb)
 exact PyProof.Rows.callWith_type1 (thn (ha pos pins s σ H _ I h) λus s1 ⟨vs,H1,I1,r1,q1⟩=>hc pins s1 σ H1 vs us Q I1 r1 q1) he hpl
end
end L2
namespace HT
open PySem PyProof.Rows
section
open PySem.SeqAt
open PySem.AutoSeq1 (wpAny_loadPart')
open PySem.MeetsSeq PySem.MeetsSeq2 PySem.MeetsSeq3
end
section
variable {prog:Program}{w:World}{A:Around}{E:Value->Shared->Prop}{s:Shared}
theorem cat_tup {t b:Addr}{vs ws:List Value}{Q:Value->Shared->Prop} (ht:IsTup s.heap t vs.toArray) (hb:IsTup s.heap b ws.toArray) (hv:vs ≠ [])
 (h1:ws=[]->Q (.ref t) s) (h2:ws ≠ []->Q (.ref s.heap.objs.size) { s with heap:=s.heap.push { cls:=.type "tuple",data:=.seq (vs++ws).toArray } })
 (hsz:vs.length + ws.length<=sizeLine):wpAny (model prog w) A (binaryOp .Add (.ref t) (.ref b)) Q E s:=by
 obtain⟨⟨cls,dd,data,sl⟩,ho,hc,n,hd⟩:=id ht
 obtain⟨⟨cls2,dd2,data2,sl2⟩,ho2,hc2,n2,hd2⟩:=id hb
 simp only at hc hd hc2 hd2
 subst hc hd hc2 hd2
 have e:vs.toArray++ws.toArray=(vs++ws).toArray:=by simp
 by_cases hw:ws=[]
 ·exact concat_meets ⟨_,ho,rfl⟩ ⟨_,ho2,rfl⟩ noFill_tuple_add seq_tuple_add PySem.F.slot_tuple_add PySem.F.entry_tuple_add (PySem.F.args_tuple_add_2 _ _)
   (tuple_addW1 t b vs.toArray ws.toArray n n2 dd dd2 sl sl2 (by simpa using hv) (by simp [hw])) ⟨ho,ho2,h1 hw⟩
 ·refine concat_meets ⟨_,ho,rfl⟩ ⟨_,ho2,rfl⟩ noFill_tuple_add seq_tuple_add PySem.F.slot_tuple_add PySem.F.entry_tuple_add (PySem.F.args_tuple_add_2 _ _)
   (tuple_addW2 t b vs.toArray ws.toArray n n2 dd dd2 sl sl2 (by simpa using hv) (by simpa using hw) (by rw[List.size_toArray,List.size_toArray];exact hsz)) ⟨ho,ho2,?_⟩
  rw[e]
  exact h2 hw
def sIx (n d:Nat):Option Int->Nat
 | none=>d
 | some v=>if v < 0 then (v + (n:Int)).toNat else min v.toNat n
theorem sIx_none (n d:Nat):sIx n d none=d:=rfl
theorem sIx_nat (n d k:Nat):sIx n d (some (k:Int))=min k n:=by
 show (if (k:Int) < 0 then ((k:Int) + (n:Int)).toNat else min (k:Int).toNat n)=min k n
 rw[if_neg (by omega),Int.toNat_natCast]
theorem HG (n d:Nat) (hd:d<=n) (o:Option Int):sIx n d o<=n:=by
 cases o with
 | none=>exact hd
 |
  some v=>
  show (if v < 0 then (v + (n:Int)).toNat else min v.toNat n)<=n
  by_cases hv:v < 0
  ·rw[if_pos hv];omega
  ·rw[if_neg hv];exact Nat.min_le_right _ _
theorem uY (v:Int) (n d:Nat):(if v < 0 then max (v + (n:Int)) 0 else min v (n:Int))=((sIx n d (some v):Nat):Int):=by
 show (if v < 0 then max (v + (n:Int)) 0 else min v (n:Int))=(((if v < 0 then (v + (n:Int)).toNat else min v.toNat n):Nat):Int)
 by_cases hv:v < 0
 ·simp only[if_pos hv];omega
 ·simp only[if_neg hv];omega
theorem vk (lo hi:Option Int) (n:Nat):Builtin.Slice.sliceAdjust lo hi 1 (n:Int)=(((sIx n 0 lo:Nat):Int),((sIx n n hi:Nat):Int)):=by
 have h1:¬ ((1:Int) < 0):=by omega
 unfold Builtin.Slice.sliceAdjust
 simp only[h1,if_false]
 refine Prod.ext ?_ ?_
 ·cases lo with
  | none=>rfl
  | some v=>exact uY v n 0
 ·cases hi with
  | none=>rfl
  | some v=>exact uY v n n
theorem wk (i j:Nat):Builtin.Slice.slicePlaces (i:Int) (j:Int) 1=j - i:=by
 unfold Builtin.Slice.slicePlaces
 have h1:(1:Int) > 0:=by omega
 simp only[h1,if_true,Int.ediv_one]
 split <;> omega
theorem ny {v:Value}{o:Option Int}{Q:Option Int->Shared->Prop} (p:IsPart v o) (h:Q o s):wpAny (model prog w) A (Builtin.Slice.slicePartIndex v) Q E s:=by
 cases p with
 | none=>exact slicePart_none h
 | int i t=>exact slicePart_int h
theorem mJ {sl:Addr}{vl vu:Value}{lo hi:Option Int}{n:Nat}{Q:Int×Int×Nat->Shared->Prop} (hs:s.heap.IsSliceOf sl vl vu .none) (pl:IsPart vl lo) (pu:IsPart vu hi)
 (h:Q (((sIx n 0 lo:Nat):Int),1,sIx n n hi - sIx n 0 lo) s):wpAny (model prog w) A (Builtin.Slice.sliceApplied (.ref sl) (pure (n:Int))) Q E s:=by
 obtain⟨os,hos,hcs,hds⟩:=id hs
 unfold Builtin.Slice.sliceApplied Builtin.Slice.sliceFields
 refine wpAny_bind (wpAny_bind (wpAny_field hos hds (x:=vl) rfl (wpAny_bind (wpAny_field hos hds (x:=vu) rfl (wpAny_bind (wpAny_field hos hds (x:=.none) rfl (wpAny_pure ?_)))))))
 refine wpAny_bind (slicePart_none ?_)
 show wpAny _ _ (if ((1:Int) == 0)=true then _ else _) _ _ s
 rw[if_neg (by decide)]
 refine wpAny_bind (ny pl (wpAny_bind (ny pu (wpAny_bind (wpAny_pure ?_)))))
 show wpAny _ _ (match Builtin.Slice.sliceAdjust lo hi 1 (n:Int) with | (lo,hi)=>pure (lo,(1:Int),Builtin.Slice.slicePlaces lo hi 1)) _ _ s
 rw[vk lo hi n]
 show wpAny _ _ (pure (((sIx n 0 lo:Nat):Int),(1:Int),Builtin.Slice.slicePlaces ((sIx n 0 lo:Nat):Int) ((sIx n n hi:Nat):Int) 1)) _ _ s
 rw[wk]
 exact wpAny_pure h
theorem AR (xs:Array Value) (i k:Nat):((List.range k).filterMap λ(m:Nat)=>xs[((i:Int) + (m:Int) * 1).toNat]?).toArray=((xs.toList.drop i).take k).toArray:=by
 have e:(λ(m:Nat)=>xs[((i:Int) + (m:Int) * 1).toNat]?)=λm=>xs[i + m]?:=by
  funext m
  have:((i:Int) + (m:Int) * 1).toNat=i + m:=by omega
  rw[this]
 rw[e]
 have:=pick_run xs i k
 rw[List.filterMap_map] at this
 have e2:((λx=>xs[x]?) ∘ λx=>i + x)=λm=>xs[i + m]?:=rfl
 rw[e2] at this
 rw[this]
theorem getItem_tuple_cut {t sl:Addr}{items:Array Value}{vl vu:Value}{lo hi:Option Int}{Q:Value->Shared->Prop} (ht:IsTup s.heap t items) (hs:s.heap.IsSliceOf sl vl vu .none) (pl:IsPart vl lo) (pu:IsPart vu hi)
 (hw:¬ (sIx items.size 0 lo=0/\sIx items.size items.size hi=items.size))
 (h:Q (.ref s.heap.objs.size) { s with heap:=s.heap.push { cls:=.type "tuple",data:=.seq ((items.toList.drop (sIx items.size 0 lo)).take (sIx items.size items.size hi - sIx items.size 0 lo)).toArray } })
 (hsz:items.size<=sizeLine):wpAny (model prog w) A (getItem (.ref t) (.ref sl)) Q E s:=by
 have htake:sizeOk (.seq ((items.toList.drop (sIx items.size 0 lo)).take (sIx items.size items.size hi - sIx items.size 0 lo)).toArray):=by
  show ((items.toList.drop (sIx items.size 0 lo)).take (sIx items.size items.size hi - sIx items.size 0 lo)).toArray.size<=sizeLine
  rw[List.size_toArray,List.length_take,List.length_drop,Array.length_toList]
  omega
 have hj:sIx items.size items.size hi<=items.size:=HG _ _ (Nat.le_refl _) hi
 obtain⟨os,hos,hcs,hds⟩:=id hs
 have hTs:s.TypeIs (.ref sl) "slice":=⟨os,hos,hcs⟩
 unfold getItem
 try with_reducible refine wpAny_holding ?_
 first | refine wpAny_bind (wpAny_pure ?_) | skip
 refine wpAny_bind (wpAny_sequenceKey ht.typeIs (by decide) ?_)
 refine wpAny_bind (wpAny_callSpecial?_slot (name:=Str.ofString "__getitem__") ht.typeIs PyProof.Rows.slot_tuple_getitem
  (wpAny_call_entry PyProof.Rows.slot_tuple_getitem ht.typeIs entry_tuple_getitem ?_ (args_tuple_getitem _ _)))
 show wpAny _ _ (Builtin.Tuple.tupleItemsOf (.ref t) >>= _) _ _ s
 refine wpAny_bind (tupleItemsOf_ ht ?_)
 refine wpAny_bind (wpAny_typeOf hTs ?_)
 rw[if_pos (by decide)]
 refine wpAny_bind (mJ hs pl pu ?_)
 have hno:¬ ((((sIx items.size 0 lo:Nat):Int) == 0 && (1:Int) == 1 && (sIx items.size items.size hi - sIx items.size 0 lo) == items.size)=true):=by
  intro q
  rw[Bool.and_eq_true,Bool.and_eq_true] at q
  have q1:((sIx items.size 0 lo:Nat):Int)=0:=eq_of_beq q.1.1
  have q2:sIx items.size items.size hi - sIx items.size 0 lo=items.size:=eq_of_beq q.2
  exact hw ⟨by omega,by omega⟩
 show wpAny _ _ (if (((sIx items.size 0 lo:Nat):Int) == 0 && (1:Int) == 1 && (sIx items.size items.size hi - sIx items.size 0 lo) == items.size)=true then _ else _) _ _ s
 rw[if_neg hno,AR]
 first
  | exact wpAny_bind (m:=Builtin.Tuple.tupleExact _) (wpAny_newObj_type (wpAny_pure ⟨_,rfl,wpAny_pure h⟩) htake)
  | exact wpAny_bind (m:=Builtin.Tuple.tupleExact _) (wpAny_newObj_type (wpAny_bind (wpAny_pure (wpAny_pure ⟨_,rfl,wpAny_pure h⟩))) htake)
  | exact wpAny_bind (wpAny_bind (m:=Builtin.Tuple.tupleExact _) (wpAny_newObj_type (wpAny_pure (wpAny_pure ⟨_,rfl,wpAny_pure h⟩)) htake))
  | exact wpAny_bind (wpAny_bind (m:=Builtin.Tuple.tupleExact _) (wpAny_newObj_type (wpAny_pure ⟨_,rfl,wpAny_pure h⟩) htake))
end
end HT
namespace L2
open PySem PySem.Spec PyProof.Rows
abbrev TO:=St->Hp->(Option Int->Hp->Prop)->Prop
def PO (X:Cx) (e:Option Expr) (t:TO):Prop:=
 ∀
  (pins:List (Addr×Obj)) (s:Shared) (σ:St) (H:Hp) (Q:Option Int->Hp->Prop),Inv X pins σ H s->t σ H Q->
  wpAny (model X.prog X.w) X.A (evalPart e X.env) (λu s'=>∃ o H',Inv X pins σ H' s'/\IsPart u o/\Q o H') X.xe s
def Cr:TO:=λ_ H Q=>Q none H
def Jz (t:TE):TO:=λσ H Q=>t σ H λx H1=>∃ i,x=.int i/\Q (some i) H1
section
variable {X:Cx}{e:Expr}{te:TE}{lo hi:Option Expr}{tl th:TO}{pos p2:Pos}
theorem CI:PO X none Cr:=by
 intro pins s σ H Q I h
 rw[evalPart_none]
 exact wpAny_pure ⟨none,H,I,.none,h⟩
theorem Dt (h:PE X e te):PO X (some e) (Jz te):=by
 intro pins s σ H Q I hw
 rw[evalPart_some]
 refine thn (h pins s σ H _ I hw) λu s1 ⟨x,H1,I1,r1,q1⟩=>?_
 obtain⟨i,rfl,q⟩:=q1
 obtain⟨t,rfl⟩:=r1
 exact⟨some i,H1,I1,.int i t,q⟩
def SlR (X:Cx) (r:V->Option Int->Option Int->Hp->VK->Prop):Prop:=
 ∀
  (pins:List (Addr×Obj)) (s:Shared) (σ:St) (H:Hp) (x:V) (v vl vu:Value) (lo hi:Option Int) (sl:Addr) (Q:VK),Inv X pins σ H s->RelV x v->s.heap.IsSliceOf sl vl vu .none->IsPart vl lo->IsPart vu hi->r x lo hi H Q->
  ∃ T id,typeLookup (.type T) "__getitem__"=pure (some (.builtin id))/\s.TypeIs v T/\wpAny (model X.prog X.w) X.A (getItem v (.ref sl)) (EP X pins σ Q) X.xe s
theorem SlR.or {r r':V->Option Int->Option Int->Hp->VK->Prop} (h:SlR X r) (h':SlR X r'):SlR X (λx lo hi H Q=>r x lo hi H Q\/r' x lo hi H Q):=by
 intro pins s σ H x v vl vu lo hi sl Q I rx hs pl pu q
 rcases q with q | q
 ·exact h pins s σ H x v vl vu lo hi sl Q I rx hs pl pu q
 ·exact h' pins s σ H x v vl vu lo hi sl Q I rx hs pl pu q
def tSl (r:V->Option Int->Option Int->Hp->VK->Prop) (te:TE) (tl th:TO):TE:=λσ H Q=>te σ H λx H1=>tl σ H1 λl H2=>th σ H2 λu H3=>r x l u H3 Q
theorem Ar {r:V->Option Int->Option Int->Hp->VK->Prop} (hr:SlR X r) (he:PE X e te) (hl:PO X lo tl) (hu:PO X hi th):PE X (.Subscript e (.Slice lo hi none p2) pos) (tSl r te tl th):=by
 intro pins s σ H Q I h
 refine Subscript_ (thn (he pins s σ H _ I h) λv s1 ⟨x,H1,I1,r1,q1⟩=>?_)
 refine wpAny_Slice (thn (hl pins s1 σ H1 _ I1 q1) λvl s2 ⟨l,H2,I2,pl,q2⟩=>thn (hu pins s2 σ H2 _ I2 q2) λvu s3 ⟨u,H3,I3,pu,q3⟩=>?_)
 rw[evalPart_none]
 refine wpAny_pure ?_
 have I4:Inv X pins σ H3 { s3 with heap:=s3.heap.push { cls:=.type "slice",data:=.fields #[vl,vu,.none] } }:=I3.kept (t':=s3.toks) λb ob q=>Heap.get?_push_of_some _ q
 obtain⟨T,id,hT,ht,hg⟩:=hr pins { s3 with heap:=s3.heap.push { cls:=.type "slice",data:=.fields #[vl,vu,.none] } } σ H3 x v vl vu l u s3.heap.objs.size Q I4 r1 (Heap.IsSliceOf.new ..) pl pu q3
 show wpAny (model X.prog X.w) X.A (subscriptTail e (.Slice lo hi none p2) v (.ref s3.heap.objs.size)) (EP X pins σ Q) X.xe { s3 with heap:=s3.heap.push { cls:=.type "slice",data:=.fields #[vl,vu,.none] } }
 exact tail_any (ops:=[.ref s3.heap.objs.size,v]) ht hT hg (by with_unfolding_all rfl)
def kW (xs:List V) (lo hi:Option Int):List V:=(xs.drop (HT.sIx xs.length 0 lo)).take (HT.sIx xs.length xs.length hi - HT.sIx xs.length 0 lo)
theorem mG (xs:List V) (lo hi:Option Int):(kW xs lo hi).length<=xs.length:=by
 unfold kW
 rw[List.length_take,List.length_drop]
 omega
def rSlT (K:W.Frag):V->Option Int->Option Int->Hp->VK->Prop:=λx lo hi H Q=>∃ a xs,x=.ref a/\SqT K H a xs/\
 ¬ (HT.sIx xs.length 0 lo=0/\HT.sIx xs.length xs.length hi=xs.length)/\∀ p,H p=none->Q (.ref p) (upd H p (.tup (kW xs lo hi)))
theorem Fg:SlR X (rSlT X.K):=by
 intro pins s σ H x v vl vu lo hi sl Q I rx hs pl pu h
 obtain⟨a,xs,rfl,hx,hw,q⟩:=h
 cases rx
 obtain⟨its,r,ht,hz⟩:=I.tuple hx
 have be:its.toArray.size=xs.length:=by rw[List.size_toArray];exact r.length.symm
 refine⟨"tuple",_,PyProof.Rows.slot_tuple_getitem.lookup,ht.typeIs,?_⟩
 refine HT.getItem_tuple_cut ht hs pl pu (by rw[be];exact hw) ?_ (by rw[be];exact hz)
 rw[be]
 refine⟨.ref s.heap.objs.size,_,I.laid (t':=s.toks) (o:=.tup (kW xs lo hi)) (λb ob q=>Heap.get?_push_of_some _ q) (Nat.le_refl _) ?_,rfl,q _ (I.hok.fresh (Nat.le_refl _))⟩
 exact⟨Nat.le_trans (mG xs lo hi) hz,_,(r.drop (HT.sIx xs.length 0 lo)).take (HT.sIx xs.length xs.length hi - HT.sIx xs.length 0 lo),IsTup.new _ _⟩
def mB (K:W.Frag):R2:=λx y H Q=>∃ a b xs ys,x=.ref a/\y=.ref b/\SqT K H a xs/\SqT K H b ys/\xs ≠ []/\xs.length + ys.length<=sizeLine/\
 (ys=[]->Q (.ref a) H)/\(ys ≠ []->∀ p,H p=none->Q (.ref p) (upd H p (.tup (xs++ys))))
theorem Vals.nil_iff {xs:List V}{us:List Value} (r:Vals xs us):us=[] ↔ xs=[]:=by
 cases r with
 | nil=>simp
 | cons _ _=>simp
theorem DQ:OpR X (binaryOp .Add) (mB X.K):=by
 intro pins s σ H x y v u Q I rx ry h
 obtain⟨a,b,xs,ys,rfl,rfl,ha,hb,hx,hz,q1,q2⟩:=h
 cases rx
 cases ry
 obtain⟨its,r1,p1,_⟩:=I.tuple ha
 obtain⟨its2,r2,p2,_⟩:=I.tuple hb
 refine HT.cat_tup p1 p2 (λz=>hx (r1.nil_iff.mp z)) (λz=>⟨.ref a,H,I,rfl,q1 (r2.nil_iff.mp z)⟩) (λz=>?_) (by rw[<- r1.length,<- r2.length];exact hz)
 refine⟨.ref s.heap.objs.size,_,I.laid (t':=s.toks) (o:=.tup (xs++ys)) (λb ob q=>Heap.get?_push_of_some _ q) (Nat.le_refl _) ?_,rfl,q2 (λw=>z (r2.nil_iff.mpr w)) _ (I.hok.fresh (Nat.le_refl _))⟩
 exact⟨by rw[List.length_append];exact hz,_,r1.append r2,IsTup.new _ _⟩
end
end L2
namespace L2
open PySem PySem.Spec PyProof.Rows
def ixN (n:Nat) (i:Int):Option Nat:=if 0<=i then (if i < n then some i.toNat else none) else if -(n:Int)<=i then some (i + n).toNat else none
def atI {α:Type} (xs:List α) (i:Int):Option α:=(ixN xs.length i).bind λj=>xs[j]?
theorem uD {n:Nat}{i:Int}{j:Nat} (h:ixN n i=some j):seqIndex? i n=some j/\j < n/\-(n:Int)<=i/\i < n:=by
 unfold ixN at h
 by_cases h0:0<=i
 ·rw[if_pos h0] at h
  by_cases h1:i < n
  ·rw[if_pos h1] at h
   have e:i.toNat=j:=Option.some.inj h
   exact⟨by rw[seqIndex_of h0 h1,e],by omega,by omega,h1⟩
  ·rw[if_neg h1] at h;cases h
 ·rw[if_neg h0] at h
  by_cases h1:-(n:Int)<=i
  ·rw[if_pos h1] at h
   have e:(i + n).toNat=j:=Option.some.inj h
   exact⟨by rw[seqIndex_neg (by omega) h1,e],by omega,h1,by omega⟩
  ·rw[if_neg h1] at h;cases h
theorem uP {α:Type}{xs:List α}{i:Int}{v:α} (h:atI xs i=some v):∃ j,seqIndex? i xs.length=some j/\xs[j]?=some v/\j < xs.length/\-(xs.length:Int)<=i/\i < xs.length:=by
 unfold atI at h
 cases e:ixN xs.length i with
 | none=>rw[e] at h;cases h
 |
  some j=>
  rw[e] at h
  obtain⟨h1,h2,h3,h4⟩:=uD e
  exact⟨j,h1,h,h2,h3,h4⟩
def oY (b:Expr):Prop:=∀ o i,subscripted b false o i=operate [o,i] (getItem o i)
def IxR (X:Cx) (r:R2):Prop:=
 ∀
  (value gl:Expr) (pins:List (Addr×Obj)) (s:Shared) (σ:St) (H:Hp) (x y:V) (v u:Value) (Q:VK),Inv X pins σ H s->RelV x v->RelV y u->r x y H Q->
  subscripted gl false v u=operate [v,u] (getItem v u)->wpAny (model X.prog X.w) X.A (subscriptTail value gl v u) (EP X pins σ Q) X.xe s
def MtR (X:Cx) (id:String) (r:V->List V->Hp->VK->Prop):Prop:=
 ∀
  (pins:List (Addr×Obj)) (s:Shared) (σ:St) (H:Hp) (x:V) (xs:List V) (v:Value) (us:List Value) (Q:VK),Inv X pins σ H s->RelV x v->Vals xs us->r x xs H Q->
  wpAny (model X.prog X.w) X.A (call (.builtin id) (v :: us)) (EP X pins σ Q) X.xe s
section
variable {X:Cx}{a b:Expr}{ta tb:TE}{pos:Pos}
theorem IxR.or {r r':R2} (h:IxR X r) (h':IxR X r'):IxR X (λx y H Q=>r x y H Q\/r' x y H Q):=by
 intro value gl pins s σ H x y v u Q I rx ry q hs
 rcases q with q | q
 ·exact h value gl pins s σ H x y v u Q I rx ry q hs
 ·exact h' value gl pins s σ H x y v u Q I rx ry q hs
theorem JG {r:R2} (hr:IxR X r) (ha:PE X a ta) (hb:PE X b tb) (hs:oY b):PE X (.Subscript a b pos) (tOp r ta tb):=by
 intro pins s σ H Q I h
 exact Subscript_ (zA ha hb I h λv u s2 x y H2 I2 rx ry q=>hr a b pins s2 σ H2 x y v u Q I2 rx ry q (hs _ _))
def wu (K:W.Frag):R2:=λx y H Q=>∃ p xs i v,x=.ref p/\y=.int i/\SqL K H p xs/\atI xs i=some v/\Q v H
def wU (K:W.Frag):R2:=λx y H Q=>∃ p xs i v,x=.ref p/\y=.int i/\SqT K H p xs/\atI xs i=some v/\Q v H
theorem Du:IxR X (wu X.K):=by
 intro value gl pins s σ H x y v u Q I rx ry h hs
 obtain⟨p,xs,i,z,rfl,rfl,hq,he,q⟩:=h
 cases rx
 obtain⟨t,rfl⟩:=ry
 obtain⟨its,r,pl,hz⟩:=I.list hq
 obtain⟨j,h1,h2,h3,h4,h5⟩:=uP he
 obtain⟨w,ew,rw'⟩:=r.get h2
 have hl:=r.length
 have hn:=iP
 have fin:EP X pins σ Q w s:=⟨z,H,I,rw',q⟩
 by_cases h0:0<=i
 ·have hj:i.toNat=j:=by
   rw[seqIndex_of h0 h5] at h1
   exact Option.some.inj h1
  exact item_listR pl.isList h0 (by omega) (by rw[hj];simpa using ew) fin hs
 ·have hj:(i + (its.toArray.size:Int)).toNat=j:=by
   rw[seqIndex_neg (by omega) h4] at h1
   rw[List.size_toArray,<- hl]
   exact Option.some.inj h1
  exact subscriptTail_builtinR (x:=w) pl.isList.typeIs slot_list_getitem.lookup
   (wpAny_getItem_list_neg (Q:=λr s'=>r=w/\EP X pins σ Q r s') pl.isList (by omega) (by rw[List.size_toArray] <;> omega) (by omega) (by rw[hj];simpa using ew) ⟨rfl,fin⟩) hs
theorem FW:IxR X (wU X.K):=by
 intro value gl pins s σ H x y v u Q I rx ry h hs
 obtain⟨p,xs,i,z,rfl,rfl,hq,he,q⟩:=h
 cases rx
 obtain⟨t,rfl⟩:=ry
 obtain⟨its,r,pl,hz⟩:=I.tuple hq
 obtain⟨j,h1,h2,h3,h4,h5⟩:=uP he
 obtain⟨w,ew,rw'⟩:=r.get h2
 have hl:=r.length
 have hn:=iP
 have fin:EP X pins σ Q w s:=⟨z,H,I,rw',q⟩
 exact subscriptTail_builtinR (x:=w) pl.typeIs slot_tuple_getitem.lookup
  (getItem_tuple (j:=j) (Q:=λr s'=>r=w/\EP X pins σ Q r s') pl (by omega) (by omega) (by rw[List.size_toArray,<- hl];exact h1) (by simpa using ew) ⟨rfl,fin⟩) hs
theorem vJ (its:List Value) (n j:Nat) (u:Value):Obj.mapSeq (·.setIfInBounds j u) { cls:=.type "list",data:=.seq its.toArray n }={ cls:=.type "list",data:=.seq (its.set j u).toArray n }:=by
 simp [Obj.mapSeq]
theorem Inv.lst {pins:List (Addr×Obj)}{σ:St}{H:Hp}{s:Shared}{p:Addr}{xs:List V} (I:Inv X pins σ H s) (h:H p=some (.lst xs)):
 ∃ (its:List Value) (n:Nat),Vals xs its/\s.heap.get? p=some { cls:=.type "list",data:=.seq its.toArray n }/\xs.length<=sizeLine:=by
 obtain⟨z,its,n,r,e⟩:=I.hok p _ h
 exact⟨its,n,r,e,z⟩
theorem Inv.lstUpd {pins:List (Addr×Obj)}{σ:St}{H:Hp}{s:Shared}{p:Addr}{xs ys:List V}{its its':List Value}{n n':Nat}{f:Obj->Obj} (I:Inv X pins σ H s) (h:H p=some (.lst xs))
 (ho:s.heap.get? p=some { cls:=.type "list",data:=.seq its.toArray n }) (hf:f { cls:=.type "list",data:=.seq its.toArray n }={ cls:=.type "list",data:=.seq its'.toArray n' }) (r:Vals ys its') (hz:ys.length<=sizeLine) (t:Nat):
 Inv X pins σ (upd H p (.lst ys)) { s with heap:=s.heap.update p f,toks:=t }:=by
 have e:(s.heap.update p f).get? p=some { cls:=.type "list",data:=.seq its'.toArray n' }:=by
  rw[Heap.get?_update_self f ho (by rw[hf] <;> rfl),hf]
 refine I.write (x:=p) (e:=p) (by rw[h];trivial) (.inl rfl) (λb u hb q=>(Heap.get?_update_other _ _ (Ne.symm hb)).trans q) ⟨_,e⟩ ?_
 exact⟨hz,its',n',r,e⟩
def vH:V->V->V->Hp->(Hp->Prop)->Prop:=λo i v H Q=>∃ p xs k j,o=.ref p/\i=.int k/\H p=some (.lst xs)/\ixN xs.length k=some j/\Q (upd H p (.lst (xs.set j v)))
theorem fo:rF X vH:=by
 intro pins s σ H o i v ov iv u Q I ro ri rv h
 obtain⟨p,xs,k,j,rfl,rfl,hp,hj,q⟩:=h
 cases ro
 obtain⟨t,rfl⟩:=ri
 obtain⟨its,n,r,ho,hz⟩:=I.lst hp
 obtain⟨h1,h2,h3,h4⟩:=uD hj
 have hl:=r.length
 have hn:=iP
 have I':Inv X pins σ (upd H p (.lst (xs.set j v))) { s with heap:=s.heap.update p (Obj.mapSeq (·.setIfInBounds j u)) }:=
  I.lstUpd hp ho (vJ its n j u) (r.set rv j) (by rw[List.length_set];exact hz) s.toks
 by_cases h0:0<=k
 ·have hk:k.toNat=j:=by
   rw[seqIndex_of h0 h4] at h1
   exact Option.some.inj h1
  exact W.ki_setAt ho h0 (by omega) (by rw[List.size_toArray,<- hl];exact h4) (by rw[hk];exact⟨_,I',q⟩)
 ·have hk:(k + (its.toArray.size:Int)).toNat=j:=by
   rw[seqIndex_neg (by omega) h3] at h1
   rw[List.size_toArray,<- hl]
   exact Option.some.inj h1
  exact W.ki_setBack ho (by omega) (by rw[List.size_toArray,<- hl];exact h3) (by omega) (by rw[hk];exact⟨_,I',q⟩)
theorem qU (lo hi:Option Int) (n:Nat):(sliceBounds lo hi none n).1=((HT.sIx n 0 lo:Nat):Int)/\(sliceBounds lo hi none n).2.1=((HT.sIx n n hi:Nat):Int)/\(sliceBounds lo hi none n).2.2=1:=by
 refine⟨?_,?_,rfl⟩
 ·cases lo with
  | none=>simp [sliceBounds,HT.sIx]
  |
   some i=>
   simp only[sliceBounds,HT.sIx,Option.getD_none,show (1:Int) > 0 by decide,if_true]
   by_cases h:i < 0
   ·simp only[h,if_true] <;> omega
   ·simp only[h,if_false] <;> omega
 ·cases hi with
  | none=>simp [sliceBounds,HT.sIx]
  |
   some i=>
   simp only[sliceBounds,HT.sIx,Option.getD_none,show (1:Int) > 0 by decide,if_true]
   by_cases h:i < 0
   ·simp only[h,if_true] <;> omega
   ·simp only[h,if_false] <;> omega
theorem qz (its:List Value) (lo hi:Option Int):slicePick its.toArray lo hi none=((its.drop (HT.sIx its.length 0 lo)).take (HT.sIx its.length its.length hi - HT.sIx its.length 0 lo)).toArray:=by
 obtain⟨h1,h2,h3⟩:=qU lo hi its.toArray.size
 unfold slicePick
 rw[h1,h2,h3]
 simp only[sliceRange_one,pick_run,List.size_toArray] <;> rfl
def rSlL (K:W.Frag):V->Option Int->Option Int->Hp->VK->Prop:=λx lo hi H Q=>∃ a xs,x=.ref a/\SqL K H a xs/\∀ p,H p=none->Q (.ref p) (upd H p (.lst (kW xs lo hi)))
theorem B1:SlR X (rSlL X.K):=by
 intro pins s σ H x v vl vu lo hi sl Q I rx hs pl pu h
 obtain⟨a,xs,rfl,hx,q⟩:=h
 cases rx
 obtain⟨its,r,ht,hz⟩:=I.list hx
 have be:=r.length
 refine⟨"list",_,slot_list_getitem.lookup,ht.isList.typeIs,?_⟩
 refine wpAny_getItem_list_slice ht.isList hs pl pu .none (by simp) ?_ (by rw[List.size_toArray] <;> omega)
 rw[qz,<- be]
 refine⟨.ref s.heap.objs.size,_,I.laid (t':=s.toks) (o:=.lst (kW xs lo hi)) (λb ob q=>Heap.get?_push_of_some _ q) (Nat.le_refl _) ?_,rfl,q _ (I.hok.fresh (Nat.le_refl _))⟩
 exact⟨Nat.le_trans (mG xs lo hi) hz,_,0,(r.drop (HT.sIx xs.length 0 lo)).take (HT.sIx xs.length xs.length hi - HT.sIx xs.length 0 lo),Heap.get?_push_size _ rfl⟩
def flatV:V->Bool
 | .non=>true
 | .bl _=>true
 | .int _=>true
 | .str _=>true
 | _=>false
def eqV:V->V->Bool
 | .non,.non=>true
 | .bl a,.bl b=>a == b
 | .bl a,.int b=>(if a then 1 else 0) == b
 | .int a,.bl b=>a == (if b then 1 else 0)
 | .int a,.int b=>a == b
 | .str a,.str b=>a == b
 | _,_=>false
theorem Gm {A:Around}{s:Shared}{y x:V}{u v:Value} (ry:RelV y u) (rx:RelV x v) (fy:flatV y=true) (fx:flatV x=true):SeqAt.EqAt A s u v (eqV y x):=by
 cases y with
 |
  non=>
  cases ry
  cases x with
  | non=>cases rx;exact SeqAt.EqAt.same _
  | bl b=>cases rx;exact SeqAt.EqAt.none_bool b
  | int b=>obtain⟨t,rfl⟩:=rx;exact SeqAt.EqAt.none_int b t
  | str b=>obtain⟨t,rfl⟩:=rx;exact SeqAt.EqAt.none_str b t
  | _=>exact absurd (show false=true from fx) Bool.false_ne_true
 |
  bl a=>
  cases ry
  cases x with
  | non=>cases rx;exact SeqAt.EqAt.bool_none a
  | bl b=>cases rx;exact SeqAt.EqAt.bool_bool a b
  | int b=>obtain⟨t,rfl⟩:=rx;exact SeqAt.EqAt.bool_int a b t
  | str b=>obtain⟨t,rfl⟩:=rx;exact SeqAt.EqAt.bool_str a b t
  | _=>exact absurd (show false=true from fx) Bool.false_ne_true
 |
  int a=>
  obtain⟨t',rfl⟩:=ry
  cases x with
  | non=>cases rx;exact SeqAt.EqAt.int_none a t'
  | bl b=>cases rx;exact SeqAt.EqAt.int_bool a t' b
  | int b=>obtain⟨t,rfl⟩:=rx;exact SeqAt.EqAt.int_int a t' b t
  | str b=>obtain⟨t,rfl⟩:=rx;exact SeqAt.EqAt.int_str a t' b t
  | _=>exact absurd (show false=true from fx) Bool.false_ne_true
 |
  str a=>
  obtain⟨t',rfl⟩:=ry
  cases x with
  | non=>cases rx;exact SeqAt.EqAt.str_none a t'
  | bl b=>cases rx;exact SeqAt.EqAt.str_bool a t' b
  | int b=>obtain⟨t,rfl⟩:=rx;exact SeqAt.EqAt.str_int a t' b t
  | str b=>obtain⟨t,rfl⟩:=rx;exact SeqAt.EqAt.str_str a t' b t
  | _=>exact absurd (show false=true from fx) Bool.false_ne_true
 | _=>exact absurd (show false=true from fy) Bool.false_ne_true
def eqU (x:V) (u:Value):Bool:=match u with
 | .none=>eqV .non x
 | .bool b=>eqV (.bl b) x
 | .int i _=>eqV (.int i) x
 | .str z _=>eqV (.str z) x
 | _=>false
theorem xO {x y:V}{u:Value} (r:RelV y u) (f:flatV y=true):eqU x u=eqV y x:=by
 cases y with
 | non=>cases r;rfl
 | bl b=>cases r;rfl
 | int i=>obtain⟨t,rfl⟩:=r;rfl
 | str z=>obtain⟨t,rfl⟩:=r;rfl
 | _=>exact absurd (show false=true from f) Bool.false_ne_true
theorem jF {x:V}:∀ {xs:List V}{us:List Value},Vals xs us->xs.all flatV=true->us.any (eqU x)=xs.any λy=>eqV y x
 | _,_,.nil,_=>rfl
 |
  y :: xs,u :: us,.cons r t,f=>by
  rw[List.all_cons,Bool.and_eq_true] at f
  rw[List.any_cons,List.any_cons,xO r f.1,jF t f.2]
theorem iJ {A:Around}{s:Shared}{x:V}{v:Value} (rx:RelV x v) (fx:flatV x=true):∀ {xs:List V}{us:List Value},Vals xs us->xs.all flatV=true->∀ u ∈ us,SeqAt.EqAt A s u v (eqU x u)
 | _,_,.nil,_=>λu hu=>by cases hu
 |
  y :: xs,u :: us,.cons r t,f=>λu' hu=>by
  rw[List.all_cons,Bool.and_eq_true] at f
  rcases List.mem_cons.mp hu with rfl | hu
  ·rw[xO r f.1];exact Gm r rx f.1 fx
  ·exact iJ rx fx t f.2 u' hu
def inV (x:V) (xs:List V):Bool:=xs.any λy=>eqV y x
def rIn (K:W.Frag) (ii:Bool):R2:=λx y H Q=>∃ p xs,y=.ref p/\(SqL K H p xs\/SqT K H p xs)/\flatV x=true/\xs.all flatV=true/\Q (.bl (if ii then !inV x xs else inV x xs)) H
theorem yi:OpR X (compareOp .In) (rIn X.K false):=by
 intro pins s σ H x y v u Q I rx ry h
 obtain⟨p,xs,rfl,hq,fx,fs,q⟩:=h
 cases ry
 rcases hq with hq | hq
 ·obtain⟨its,r,pl,hz⟩:=I.list hq
  refine SeqAt.in_listAt (eqU x) pl.isList (λw hw=>iJ rx fx r fs w (by simpa using hw)) ⟨.bl _,H,I,rfl,?_⟩
  rw[show its.toArray.any (eqU x)=its.any (eqU x) by simp,jF r fs]
  exact q
 ·obtain⟨its,r,pl,hz⟩:=I.tuple hq
  refine SeqAt.in_tupleAt (eqU x) pl (λw hw=>iJ rx fx r fs w (by simpa using hw)) ⟨.bl _,H,I,rfl,?_⟩
  rw[show its.toArray.any (eqU x)=its.any (eqU x) by simp,jF r fs]
  exact q
theorem tM:OpR X (compareOp .NotIn) (rIn X.K true):=by
 intro pins s σ H x y v u Q I rx ry h
 obtain⟨p,xs,rfl,hq,fx,fs,q⟩:=h
 cases ry
 rcases hq with hq | hq
 ·obtain⟨its,r,pl,hz⟩:=I.list hq
  refine SeqAt.notIn_listAt (eqU x) pl.isList (λw hw=>iJ rx fx r fs w (by simpa using hw)) ⟨.bl _,H,I,rfl,?_⟩
  rw[show its.toArray.any (eqU x)=its.any (eqU x) by simp,jF r fs]
  exact q
 ·obtain⟨its,r,pl,hz⟩:=I.tuple hq
  refine SeqAt.notIn_tupleAt (eqU x) pl (λw hw=>iJ rx fx r fs w (by simpa using hw)) ⟨.bl _,H,I,rfl,?_⟩
  rw[show its.toArray.any (eqU x)=its.any (eqU x) by simp,jF r fs]
  exact q
theorem rE:CallR X (.builtin "len") (λxs H Q=>∃ p ys,xs=[.ref p]/\(SqL X.K H p ys\/SqT X.K H p ys)/\Q (.int ys.length) H):=by
 intro pins s σ H xs us Q I r h
 obtain⟨p,ys,rfl,hq,q⟩:=h
 obtain⟨u,rfl,rx⟩:=hE r
 cases rx
 have hn:=iP
 rcases hq with hq | hq
 ·obtain⟨its,r',pl,hz⟩:=I.list hq
  have be:=r'.length
  exact Calls.call_len_list pl.isList (by simp only[List.size_toArray] <;> omega) ⟨.int ys.length,H,I.tok _,⟨s.toks + 1,by rw[List.size_toArray,be]⟩,q⟩
 ·obtain⟨its,r',pl,hz⟩:=I.tuple hq
  have be:=r'.length
  exact len_tuple pl (by simp only[List.size_toArray] <;> omega) ⟨.int ys.length,H,I.tok _,⟨s.toks + 1,by rw[List.size_toArray,be]⟩,q⟩
theorem rT:CallR X (.builtin "len") (λxs H Q=>∃ z,xs=[.str z]/\z.length<=sizeLine/\Q (.int z.length) H):=by
 intro pins s σ H xs us Q I r h
 obtain⟨z,rfl,hz,q⟩:=h
 obtain⟨u,rfl,t,rfl⟩:=hE r
 have hn:=iP
 exact len_str (by omega) ⟨.int z.length,H,I.tok _,⟨_,rfl⟩,q⟩
theorem CallR.or {f:Value}{r r':List V->Hp->VK->Prop} (h:CallR X f r) (h':CallR X f r'):CallR X f (λxs H Q=>r xs H Q\/r' xs H Q):=by
 intro pins s σ H xs us Q I rs q
 rcases q with q | q
 ·exact h pins s σ H xs us Q I rs q
 ·exact h' pins s σ H xs us Q I rs q
theorem tI:CallR X (.type "list") (λxs H Q=>∃ p ys,xs=[.ref p]/\(SqL X.K H p ys\/SqT X.K H p ys)/\∀ l,H l=none->Q (.ref l) (upd H l (.lst ys))):=by
 intro pins s σ H xs us Q I r h
 obtain⟨p,ys,rfl,hq,q⟩:=h
 obtain⟨u,rfl,rx⟩:=hE r
 cases rx
 have fin:∀ (its:List Value),Vals ys its->ys.length<=sizeLine->∀ (h':Heap) (c':Nat),(∀ b o',s.heap.get? b=some o'->h'.get? b=some o')->
  h'.get? s.heap.objs.size=some { cls:=.type "list",dict:=none,data:=.seq its.toArray c',slots:=#[] }->EP X pins σ Q (.ref s.heap.objs.size) { s with heap:=h' }:=λits r' hz h' c' kp e=>
  ⟨.ref s.heap.objs.size,_,I.laid (t':=s.toks) kp (Nat.le_refl _) (show ObjOk X.prog X.w _ h' _ (.lst ys) from ⟨hz,its,c',r',e⟩),rfl,q _ (I.hok.fresh (Nat.le_refl _))⟩
 rcases hq with hq | hq
 ·obtain⟨its,r',pl,hz⟩:=I.list hq
  have be:=r'.length
  obtain⟨o,ho,hc,n,hd⟩:=pl.isList
  exact call_list_seq p (.inl rfl) ho hc hd (λh' c' kp e=>fin its r' hz h' c' kp e) (by simp only[List.size_toArray] <;> omega)
 ·obtain⟨its,r',pl,hz⟩:=I.tuple hq
  have be:=r'.length
  obtain⟨o,ho,hc,n,hd⟩:=pl
  exact call_list_seq p (.inr rfl) ho hc hd (λh' c' kp e=>fin its r' hz h' c' kp e) (by simp only[List.size_toArray] <;> omega)
theorem qu:CallR X (.type "tuple") (λxs H Q=>∃ p ys,xs=[.ref p]/\((SqL X.K H p ys/\∀ l,H l=none->Q (.ref l) (upd H l (.tup ys)))\/(SqT X.K H p ys/\Q (.ref p) H))):=by
 intro pins s σ H xs us Q I r h
 obtain⟨p,ys,rfl,h⟩:=h
 obtain⟨u,rfl,rx⟩:=hE r
 cases rx
 rcases h with ⟨hq,q⟩ | ⟨hq,q⟩
 ·obtain⟨its,r',pl,hz⟩:=I.list hq
  have be:=r'.length
  refine call_tuple_list pl.isList (λh' kp=>?_) (by simp only[List.size_toArray] <;> omega)
  have I1:Inv X pins σ H { s with heap:=h' }:=I.kept (t':=s.toks) kp
  have I2:Inv X pins σ (upd H h'.objs.size (.tup ys)) { s with heap:=h'.push { cls:=.type "tuple",data:=.seq its.toArray } }:=
   I1.laid (t':=s.toks) (λb o e=>Heap.get?_push_of_some _ e) (Nat.le_refl _) (show ObjOk X.prog X.w _ _ _ (.tup ys) from ⟨hz,its,r',IsTup.new _ _⟩)
  exact⟨.ref h'.objs.size,_,I2,rfl,q _ (I1.hok.fresh (Nat.le_refl _))⟩
 ·obtain⟨its,r',pl,hz⟩:=I.tuple hq
  exact call_tuple_same pl ⟨.ref p,H,I,rfl,q⟩
def tyV (K:W.Frag) (T:String) (x:V) (H:Hp):Prop:=match x with
 | .str _=>T="str"
 | .int _=>T="int"
 | .ref p=>(T="list" /\ ∃ xs,SqL K H p xs)\/(T="tuple" /\ ∃ o,K.lookup p=some o/\o.cls=.type "tuple" /\ o.dict=none)\/
  (T="dict" /\ ((∃ kvs,H p=some (.dK kvs))\/∃ kvs,H p=some (.dT kvs)))\/(T="set" /\ ∃ S n,H p=some (.set S n))
 | _=>False
theorem Ek {pins:List (Addr×Obj)}{σ:St}{H:Hp}{s:Shared}{T:String}{x:V}{v:Value} (I:Inv X pins σ H s) (r:RelV x v) (ty:tyV X.K T x H):
 s.TypeIs v T/\∀ a,v=.ref a->∃ ob,s.heap.get? a=some ob/\ob.dict=none:=by
 cases x with
 |
  str z=>
  obtain⟨t,rfl⟩:=r
  cases (show T="str" from ty)
  exact⟨typeIs_str s z t,λ_ e=>nomatch e⟩
 |
  int i=>
  obtain⟨t,rfl⟩:=r
  cases (show T="int" from ty)
  exact⟨typeIs_int s i t,λ_ e=>nomatch e⟩
 |
  ref p=>
  cases r
  rcases ty with ⟨rfl,xs,hq⟩ | ⟨rfl,o,hk,hc,hd⟩ | ⟨rfl,hk⟩ | ⟨rfl,S,n,hk⟩
  ·obtain⟨its,_,pl,_⟩:=I.list hq
   refine⟨pl.isList.typeIs,λa e=>?_⟩
   cases e
   obtain⟨o,n,e,c,hd,_⟩:=pl
   exact⟨o,e,hd⟩
  ·refine⟨⟨o,I.kIn p o hk,hc⟩,λa e=>?_⟩
   cases e
   exact⟨o,I.kIn _ o hk,hd⟩
  ·have z:∃ o,s.heap.get? p=some o/\o.ExactDict:=by
    rcases hk with ⟨kvs,hk⟩ | ⟨kvs,hk⟩
    ·obtain⟨_,_,_,_,o,_,_,e,ex,_⟩:=I.hok p _ hk
     exact⟨o,e,ex⟩
    ·obtain⟨_,_,_,_,o,_,_,e,ex,_⟩:=I.hok p _ hk
     exact⟨o,e,ex⟩
   obtain⟨o,e,ex⟩:=z
   refine⟨⟨o,e,ex.1⟩,λa e2=>?_⟩
   cases e2
   exact⟨o,e,ex.2.1⟩
  ·obtain⟨o,_,_,_,e,ex,_⟩:=I.hok p _ hk
   refine⟨⟨o,e,ex.1⟩,λa e2=>?_⟩
   cases e2
   exact⟨o,e,ex.2.1⟩
 | _=>exact False.elim ty
def tBM (K:W.Frag) (T:String) (r:V->List V->Hp->VK->Prop) (to:TE) (t:TA):TE:=λσ H Q=>to σ H λx H1=>tyV K T x H1/\t σ H1 λxs H2=>r x xs H2 Q
variable {o e:Expr}{es:List Expr}{to:TE}{t:TA}{name:Str}{apos cpos:Pos}{T id:String}{r:V->List V->Hp->VK->Prop}
theorem Kk (pa:PlainAttrs T) (slot:Slot T name id) (hty:typeOf (.builtin id)=pure (.type "method_descriptor")) (hm:MtR X id r) (ho:PE X o to) (ha:PA X (e :: es) t)
 (hbase:attributeBase o name X.env (eval o X.env)=eval o X.env:=by rfl)
 (hfew:((backTo cpos (starEach (e :: es) X.env)).all (λx=>!x.1) && (backToKw cpos (keywordEach [] X.env)).all (λx=>x.1.isSome)
  && decide ((e :: es).length + ([]:List Keyword).length + (if ([]:List Keyword).isEmpty then 0 else 1) < 30))=true:=by rfl)
 (hline:(apos.endLine == cpos.line)=true:=by rfl) (hs:starEach (e :: es) X.env=(false,eval e X.env) :: starEach es X.env:=by rfl) (db:(backTo cpos (starEach es X.env)).any (·.1)=false:=by rfl):
 PE X (.Call (.Attribute o name apos) (e :: es) [] cpos) (tBM X.K T r to t):=by
 intro pins s σ H Q I h
 refine wpAny_Call_method_late hbase hfew hline rfl (thn (ho pins s σ H _ I h) λv s1 ⟨x,H1,I1,r1,ty,q1⟩=>?_)
 obtain⟨h1,h2⟩:=Ek I1 r1 ty
 refine⟨T,id,pa,slot,hty,h1,h2,?_⟩
 have hA:=ha cpos pins s1 σ H1 _ I1 q1
 rw[hs] at hA ⊢
 refine Calls.callWith_builtin (by show (false || (backTo cpos (starEach es X.env)).any (·.1))=false;rw[db] <;> rfl) (Calls.evalArgs_plain ?_)
 exact thn hA λus s2 ⟨vs,H2,I2,r2,q2⟩=>hm pins s2 σ H2 x vs v us Q I2 r1 r2 q2
end
end L2
namespace L2
open PySem PySem.Spec PyProof.Rows
def MtM (X:Cx) (id:String) (r:V->List V->Hp->VK->Prop):Prop:=
 ∀
  (pins:List (Addr×Obj)) (s:Shared) (σ:St) (H:Hp) (x:V) (xs:List V) (v:Value) (us:List Value) (Q:VK),Inv X pins σ H s->RelV x v->Vals xs us->r x xs H Q->
  wpAny (model X.prog X.w) X.A (call (.builtin id) (v :: us)) (EP X pins σ Q) X.xe s
theorem Vals.one {x:V}{us:List Value} (r:Vals [x] us):∃ u,us=[u]/\RelV x u:=by
 cases r with
 | cons r t=>cases t;exact⟨_,rfl,r⟩
theorem Vals.rep {xs:List V}{us:List Value} (h:Vals xs us):∀ k:Nat,Vals (List.replicate k xs).flatten (List.replicate k us).flatten
 | 0=>.nil
 |
  k + 1=>by
  rw[List.replicate_succ,List.replicate_succ,List.flatten_cons,List.flatten_cons]
  exact Vals.append h (Vals.rep h k)
theorem pR (its:List Value):∀ (k:Nat) (acc:List Value),
 List.foldl (λx1 x2=>x1++x2) acc.toArray (List.replicate k its.toArray)=(acc++(List.replicate k its).flatten).toArray
 | 0,acc=>by simp
 |
  k + 1,acc=>by
  have e:acc.toArray++its.toArray=(acc++its).toArray:=by simp
  have e2:(acc++its)++(List.replicate k its).flatten=acc++(List.replicate (k + 1) its).flatten:=by
   rw[List.replicate_succ,List.flatten_cons,List.append_assoc]
  rw[<- e2,<- pR its k (acc++its),<- e,List.replicate_succ,List.foldl_cons]
section
variable {X:Cx}{pins:List (Addr×Obj)}{σ:St}{H:Hp}{s:Shared}{l b:Addr}{xs ys zs:List V}
theorem Inv.lset {its its':List Value}{n:Nat}{f:Array Value->Array Value}{t':Nat} (I:Inv X pins σ H s) (hH:H l=some (.lst xs))
 (e:s.heap.get? l=some { cls:=.type "list",data:=.seq its.toArray n }) (hf:f its.toArray=its'.toArray) (hv:Vals ys its') (hz:ys.length<=sizeLine):
 Inv X pins σ (upd H l (.lst ys)) { s with heap:=s.heap.update l (Obj.mapSeq f),toks:=t' }:=by
 have q:=PySem.IsL.update e f
 rw[hf] at q
 refine I.write (x:=l) (e:=l) (by rw[hH];exact trivial) (.inl rfl) (λb' u hb hu=>(Heap.get?_update_other s.heap (Obj.mapSeq f) (Ne.symm hb)).trans hu) ⟨_,q⟩ ?_
 exact⟨hz,its',_,hv,q⟩
theorem Inv.lnew {its:List Value}{t':Nat} (I:Inv X pins σ H s) (hv:Vals ys its) (hz:ys.length<=sizeLine):
 Inv X pins σ (upd H s.heap.objs.size (.lst ys)) { s with heap:=s.heap.push { cls:=.type "list",data:=.seq its.toArray },toks:=t' }:=
 I.laid (λ_ _ q=>Heap.get?_push_of_some _ q) (Nat.le_refl _) ⟨hz,its,0,hv,Heap.get?_push_size _ rfl⟩
theorem Inv.fresh (I:Inv X pins σ H s):H s.heap.objs.size=none:=I.hok.fresh (Nat.le_refl _)
theorem Inv.lstM (I:Inv X pins σ H s) (hH:H l=some (.lst xs)):xs.length<=sizeLine/\∃ (its:List Value) (n:Nat),Vals xs its/\xs.length=its.length/\s.heap.get? l=some { cls:=.type "list",data:=.seq its.toArray n }:=by
 obtain⟨z,its,n,r,e⟩:=I.hok l _ hH
 exact⟨z,its,n,r,r.length,e⟩
theorem zM {n:Nat} (h:n<=sizeLine):Builtin.List.listTooLong n=false:=by
 unfold Builtin.List.listTooLong
 exact decide_eq_false (by omega)
end
section
variable {X:Cx}
def o9:V->List V->Hp->VK->Prop:=λx vs H Q=>∃ l xs y,x=.ref l/\vs=[y]/\H l=some (.lst xs)/\xs.length < sizeLine/\Q .non (upd H l (.lst (xs++[y])))
theorem ez:MtM X "list.append" o9:=by
 intro pins s σ H x vs v us Q I rx rv h
 obtain⟨l,xs,y,rfl,rfl,hH,hz,q⟩:=h
 cases rx
 obtain⟨u,rfl,ru⟩:=rv.one
 obtain⟨z,its,n,r,hl,e⟩:=I.lstM hH
 refine call_meets F.slot_list_append ⟨_,e,rfl⟩ F.entry_list_append (F.args_list_append_2 _ _) (PySem.list_append l its.toArray n u (by rw[List.size_toArray];omega)) ⟨e,?_⟩
 refine⟨.non,_,I.lset (its':=its++[u]) hH e (by simp) (r.append (.cons ru .nil)) ?_,rfl,q⟩
 rw[List.length_append,List.length_singleton]
 omega
def oP:R2:=λx y H Q=>∃ l b xs zs,x=.ref l/\y=.ref b/\H l=some (.lst xs)/\H b=some (.lst zs)/\xs.length + zs.length<=sizeLine/\∀ p,H p=none->Q (.ref p) (upd H p (.lst (xs++zs)))
theorem GK:OpR X (binaryOp .Add) oP:=by
 intro pins s σ H x y v u Q I rx ry h
 obtain⟨l,b,xs,zs,rfl,rfl,hH,hB,hz,q⟩:=h
 cases rx
 cases ry
 obtain⟨z,its,n,r,hl,e⟩:=I.lstM hH
 obtain⟨z2,its2,n2,r2,hl2,e2⟩:=I.lstM hB
 refine PySem.P.add_list e e2 ?_ (by rw[List.size_toArray,List.size_toArray];omega)
 have ea:its.toArray++its2.toArray=(its++its2).toArray:=by simp
 rw[ea]
 exact⟨.ref _,_,I.lnew (t':=s.toks) (r.append r2) (by rw[List.length_append];omega),rfl,q _ I.fresh⟩
def Bd:R2:=λx y H Q=>∃ l k xs,x=.ref l/\y=.int k/\H l=some (.lst xs)/\-(2 ^ 63)<=k/\k < 2 ^ 63/\xs.length * k.toNat<=sizeLine/\
 ∀ p,H p=none->Q (.ref p) (upd H p (.lst (List.replicate k.toNat xs).flatten))
theorem Cf {α:Type} (xs:List α) (k:Nat):(List.replicate k xs).flatten.length=k * xs.length:=by
 induction k with
 | zero=>simp
 | succ k ih=>rw[List.replicate_succ,List.flatten_cons,List.length_append,ih,Nat.succ_mul,Nat.add_comm]
theorem Hl:OpR X (binaryOp .Mult) Bd:=by
 intro pins s σ H x y v u Q I rx ry h
 obtain⟨l,k,xs,rfl,rfl,hH,h1,h2,hz,q⟩:=h
 cases rx
 obtain⟨t,rfl⟩:=ry
 obtain⟨z,its,n,r,hl,e⟩:=I.lstM hH
 have be:its.toArray.size * k.toNat<=sizeLine:=by rw[List.size_toArray,<- hl];exact hz
 have hcap:¬ its.toArray.size * k.toNat > (2 ^ 63 - 1) / 8:=by
  have:(sizeLine:Nat)<=(2 ^ 63 - 1) / 8:=by decide
  omega
 have hfit:¬ (!Builtin.List.listFitsIndex k)=true:=by
  rw[fitsIndex_both h1 h2]
  exact Bool.false_ne_true
 have hlong:¬ Builtin.List.listTooLong (its.toArray.size * k.toNat)=true:=by
  rw[zM be]
  exact Bool.false_ne_true
 have hnew:List.foldl (λx1 x2=>x1++x2) #[] (List.replicate (if its.toArray.isEmpty=true then 0 else k.toNat) its.toArray)=(List.replicate k.toNat its).flatten.toArray:=by
  have f0:∀ m:Nat,List.foldl (λx1 x2=>x1++x2) #[] (List.replicate m its.toArray)=(List.replicate m its).flatten.toArray:=λm=>by
   have:=pR its m []
   rw[List.nil_append] at this
   exact this
  rw[f0]
  cases its with
  | nil=>simp
  | cons a r'=>rw[if_neg (by simp)]
 refine wpAny_binaryOp_repeat_ref (T:="list") (U:="int") (by decide) ⟨_,e,rfl⟩ (λs'=>typeIs_int s' k t) noFill_list_mul F.fills_int_mul F.slot_int_rmul repeat_list F.slot_int_index.lookup
  (call_meets F.slot_int_rmul (typeIs_int s k t) F.entry_int_rmul (F.args_int_rmul_2 _ _) (int___rmul___int_list k t l its.toArray n)
   ⟨e,rfl,⟨_,e,rfl⟩,call_meets F.slot_list_mul ⟨_,e,rfl⟩ F.entry_list_mul (F.args_list_mul_2 _ _) (AutoListH.list___mul___list_int_3 l its.toArray n k t hfit hcap hlong) ⟨e,?_⟩⟩)
 rw[hnew]
 exact⟨.ref _,_,I.lnew (t':=s.toks) (r.rep k.toNat) (by rw[Cf,Nat.mul_comm];exact hz),rfl,q _ I.fresh⟩
end
section
variable {prog:Program}{w:World}{A:Around}{E:Value->Shared->Prop}{s:Shared}
set_option maxRecDepth 100000 in
end
section
variable {X:Cx}
end
end L2
namespace Att
open PySem PySem.W PySem.Calls PyProof.Rows
theorem nN {P:Params}{h:Heap}:∀ (ns:List Int) (vs:List Value),WellAll P h vs (ns.map WData.int)->IntsAre vs ns:=by
 intro ns
 induction ns with
 |
  nil=>
  intro vs w
  rw[List.map_nil] at w
  cases w
  exact .nil
 |
  cons n ns ih=>
  intro vs w
  rw[List.map_cons] at w
  cases w with
  |
   cons a b=>
   cases a
   exact .cons _ _ (ih _ b)
theorem yI {l:OpenLaw}{n:Nat} (hn:l.most=some n) {P:Params}{h:Heap}{args:List WData}{vals:List Value}
 (hpre:l.row.toRowW.claim.pre args=true) (hwl:WellAll P h vals args):
 ∃ a vs ns,vals=[Value.ref a]/\args=[WData.list (ns.map WData.int)]/\h.get? a=some { cls:=.type "list",data:=.seq vs.toArray }/\IntsAre vs ns/\ns.length<=n:=by
 have hsh:WShape.hasAll [] args [.list .int]=true:=(pre_splitW hpre).1
 have hc:l.pre.holds [] { args:=args }=true:=(pre_splitW hpre).2
 obtain⟨d,r,rfl,h1,h2⟩:=hasAllW_cons hsh
 obtain rfl:=hasAllW_nil h2
 obtain⟨xs,rfl,h3⟩:=hasW_list h1
 obtain⟨ns,rfl⟩:=items_int h3
 have be:ns.length<=n:=by
  unfold OpenLaw.pre at hc
  have h4:(WTm.not (.lt (.lit (.int (n:Int))) (.len (.arg 0)))).holds [] { args:=[.list (ns.map .int)] }=true:=by
   have h4:=(holds_andW hc).1
   rw[hn] at h4
   exact h4
  have h5:=condW_of h4 (w_not (w_lt w_lit (w_len_list (w_arg rfl))))
  rw[List.length_map] at h5
  refine Nat.le_of_not_lt λq=>?_
  have q':(n:Int) < ((ns.length:Nat):Int):=by omega
  first
   | (rw[decide_eq_true q'] at h5;exact absurd h5 (by decide))
   | (simp at h5;omega)
 cases hwl with
 |
  cons w1 w2=>
  cases w2
  cases w1 with
  | list ho hall=>exact⟨_,_,ns,rfl,rfl,ho,nN ns _ hall,be⟩
theorem xC (l:OpenLaw) (args:List WData):l.row.toRowW.claim.post args (.bool true) args=true:=
 postW_of (r:=l.row.toRowW) (X:=(true == true))
  (show WShape.has [] (.bool true) .bool=true by first | rfl | decide | simp [WShape.has,WShape.arms,WShape.armsAll])
  (show (WTm.eq .res (.lit (.bool true))).value [] { args:=args,res:=some (.bool true),after:=args }=some (.bool (true == true)) from w_eq_bool (w_res rfl) w_lit) rfl
theorem attach_call {l:OpenLaw}{n:Nat}{q:Program}{loose:List Str}{XP:(Str->Option Value)->Heap->Prop}{YP:World->Heap->Prop}{d:DefRec}
 (hn:l.most=some n) (hdf:d.params.defaults=[])
 (call:∀ (w:World) (s₀ s₁:Shared) (mg mb:Str->Option Value) (fa:Addr) (o:Obj) (pm cd doc:Value) (a:Addr) (vs:List Value) (ns:List Int),
  Ground q loose [] XP w s₀ mg mb s₁.heap->YP w s₁.heap->
  s₁.heap.get? fa=some o->o.data=.func (docDef d.name d.params d.body d.scope pm cd doc)->s₁.heap.CodeRec cd d.name->mg d.name=some (.ref fa)->
  s₁.heap.get? a=some { cls:=.type "list",data:=.seq vs.toArray }->IntsAre vs ns->ns.length<=n->s₁.gens=#[]->
  codeAny (model l.prog w) callerA (.call (.ref fa) ⟨[.ref a],[]⟩) (λr s'=>r=.ok (.ret (.bool true))/\OldK s₁.heap s'.heap/\s'.os=s₁.os/\AllBare s'.gens) s₁):
 WalkO q loose XP YP l.row.toRowW d [] (λf vs=>PySem.call f vs):=by
 intro w s₀ s₁ mg mb G Y fa o pm cd doc dV kV ho hd j' hD hmg hg args vals as hpre hlay hrd hwl hlo
 obtain rfl:dV=.none:=Dflts.none hD hdf
 obtain rfl:kV=.none:=Dflts.noKw hD
 obtain⟨a,vs,ns,rfl,rfl,hobj,hints,be⟩:=yI hn hpre hwl
 refine enter_call (codeAny_mono (call w s₀ s₁ mg mb fa o pm cd doc a vs ns G Y ho (fd_plain hd) j' hmg hobj hints be hg) λr s' hq=>?_)
 obtain⟨rfl,h2,h3,h4⟩:=hq
 exact⟨.inl ⟨.bool true,.bool true,[],rfl,λ_=>rfl,.bool true,xC l _,λ_=>⟨List.Pairwise.nil,λ_ hm=>(nomatch hm)⟩⟩,h2,h3,h4⟩
section
variable {prog:Program}{w:World}{A:Around}{E:Value->Shared->Prop}{s:Shared}{K:Frag}
def sx (h:Heap):Heap:={ h with objs:=#[] }
theorem vI (h:Heap) (b:Addr):(sx h).get? b=none:=by
 cases e:(sx h).get? b with
 | none=>rfl
 | some o=>exact absurd (Heap.lt_size e) (Nat.not_lt_zero _)
def ledger (h:Heap) (L d:Addr):List (Addr×Obj):=(List.range h.objs.size).filterMap λa=>if a=L\/a=d then none else (h.get? a).map λo=>(a,o)
theorem fr_all {h:Heap}{L:Addr}{m:Str->Option Value} (n:h.Ns L m):Fr (sx h) L h m:=
 ⟨n,λb o e=>(by rw[vI] at e;cases e),Nat.zero_le _⟩
end
end Att
namespace L2
open PySem PySem.Spec PyProof.Rows
theorem pI:∀ {vs:List Value}{ns:List Int},IntsAre vs ns->Vals (ns.map V.int) vs
 | _,_,.nil=>.nil
 | _,_,.cons n t h=>.cons ⟨t,rfl⟩ (pI h)
def pq (H:Hp):Prop:=∀ b,H b=none\/∃ o xs,H b=some (.frz o (.lst xs))
theorem Al {P:Program}{w:World}{K:W.Frag}{mg mb:Str->Option Value}{CX:CXT}{k:Nat}{fa a:Addr}{fd:FuncData}{x:Str}{sp:Sp}{s₁:Shared}{vs:List Value}{ns:List Int}
 (KX:K.In s₁.heap) (hns:s₁.heap.Ns mainGlobals mg) (hb:s₁.heap.Ns builtinsNs mb) (hbb:∀ x:Str,x ≠ "__name__"->mb x=bootBuiltins x) (hlim:s₁.heap.NoLimit) (hg:s₁.gens=#[])
 (ha:s₁.heap.get? a=some { cls:=.type "list",data:=.seq vs.toArray }) (hi:IntsAre vs ns) (hl:ns.length<=sizeLine) (hr:Room k callerA)
 (F:∀ base:Heap,K.In base->base.Ns mainGlobals mg->FnOk P w K mg base CX k fa fd [x] sp) (hbind:∀ (s:Shared) (u:Value),BindsTo s fd ⟨[u],[]⟩ [(x,u)])
 (hsp:∀ H:Hp,pq H->SqL K H a (ns.map V.int)->sp [.ref a] H (λv _=>v=.bl true) λ_ _ _=>False)
 (hCX:∀ H e s',CX [] H s₁ (λ_ _ _=>False) e s'->False):
 codeAny (model P w) callerA (.call (.ref fa) ⟨[.ref a],[]⟩) (λr s'=>r=.ok (.ret (.bool true))/\OldK s₁.heap s'.heap/\s'.os=s₁.os/\AllBare s'.gens) s₁:=by
 have rv:=pI hi
 have lenV:=hi.length
 have core
  : ∀ H:Hp,pq H->SqL K H a (ns.map V.int)->HOk P w H s₁.heap->(∀ b,H b ≠ none->b=a)->(H a ≠ none->K.lookup a=none)->
  codeAny (model P w) callerA (.call (.ref fa) ⟨[.ref a],[]⟩) (λr s'=>r=.ok (.ret (.bool true))/\OldK s₁.heap s'.heap/\s'.os=s₁.os/\AllBare s'.gens) s₁:=by
  intro H hO hS hok hA hK
  have base_of:∀ {b:Addr}{o:Obj},s₁.heap.get? b=some o->H b=none->(km s₁.heap H).get? b=some o:=λe n=>zr e n
  have noA:∀ {b:Addr}{o:Obj}{es:Array DictEntry}{ep:Nat},s₁.heap.get? b=some o->o.data=.dict es ep->H b=none:=λ{b o es ep} e d=>by
   cases q:H b with
   | none=>rfl
   |
    some u=>
    have e':b=a:=hA b (by rw[q];simp)
    subst e'
    rw[ha] at e;cases e
    have d':Data.seq vs.toArray _=Data.dict es ep:=d
    cases d'
  have nsK:∀ {b:Addr}{m:Str->Option Value},s₁.heap.Ns b m->(km s₁.heap H).Ns b m:=λ{b m} ⟨o,es,ep,e,d,r⟩=>⟨o,es,ep,base_of e (noA e d),d,r⟩
  have hKb:K.In (km s₁.heap H):=λb o e=>base_of (KX b o e) (by
   cases q:H b with
   | none=>rfl
   |
    some u=>
    have e':b=a:=hA b (by rw[q];simp)
    subst e'
    rw[hK (by rw[q];simp)] at e;cases e)
  have hM:Mod K mg (km s₁.heap H):=⟨hKb,nsK hns,⟨mb,nsK hb,hbb⟩,let ⟨mc,h1,h2⟩:=hlim;⟨mc,nsK h1,h2⟩⟩
  have e0:Env0 P w K mg (km s₁.heap H) callerA [] s₁ H:=⟨rfl,hM,λb o e=>CH e,Nat.le_of_eq (yH _ _),trivial,λb hb=>absurd (show b ∈ ([]:List Addr) from hb) (by simp),hok,.of_eq hg⟩
  refine codeAny_mono ((F _ hKb (nsK hns)).run callerA [] s₁ H ⟨[.ref a],[]⟩ [.ref a] [.ref a] _ _ hr e0 (hbind s₁ (.ref a)) (.cons rfl .nil) (hsp H hO hS)) λr s' h=>?_
  cases r with
  | error e=>exact (hCX H e s' h).elim
  |
   ok fl=>
   cases fl with
   | next=>exact False.elim h
   | brk=>exact False.elim h
   | cont=>exact False.elim h
   |
    ret u=>
    obtain⟨v,H',os,bare,un,hok',r',q⟩:=h
    have q':v=.bl true:=q
    subst q'
    obtain rfl:u=Value.bool true:=r'
    refine⟨rfl,OldK.of_keep λb o e=>?_,os,bare⟩
    cases q:H b with
    | none=>exact un.keep b o e q (by intro z;exact absurd (show b ∈ ([]:List Addr) from z) (by simp)) (by simp)
    |
     some u=>
     rcases hO b with z | ⟨ob,xs,z⟩
     ·rw[q] at z;cases z
     ·have z2:=un.frzs b ob _ z
      obtain⟨e1,_⟩:=hok b _ z
      obtain⟨e2,_⟩:=hok' b _ z2
      rw[e] at e1;cases e1
      exact e2
 cases hk:K.lookup a with
 |
  some o=>
  have e:=KX a o hk
  rw[ha] at e
  cases e
  refine core (λ_=>none) (λ_=>.inl rfl) (.inr ⟨_,vs.toArray,_,hk,rfl,rfl,rfl,by rw[List.size_toArray,lenV];exact hl,by simpa using rv⟩) (λb u z=>by have z':(none:Option HO)=some u:=z;cases z') (λb z=>absurd rfl z) λz=>absurd rfl z
 |
  none=>
  refine core (λb=>if b=a then some (.frz { cls:=.type "list",data:=.seq vs.toArray } (.lst (ns.map V.int))) else none) (λb=>?_) (.inl (.inr ⟨{ cls:=.type "list",data:=.seq vs.toArray },if_pos rfl⟩)) (λb u z=>?_) (λb z=>?_) λ_=>hk
  ·by_cases hb:b=a
   ·exact .inr ⟨_,_,if_pos hb⟩
   ·exact .inl (if_neg hb)
  ·by_cases hb:b=a
   ·have z':=(if_pos hb).symm.trans z
    cases z'
    subst hb
    exact⟨ha,by rw[List.length_map];exact hl,vs,_,rv,ha⟩
   ·have z':=(if_neg hb).symm.trans z
    cases z'
  ·by_cases hb:b=a
   ·exact hb
   ·exact absurd (if_neg hb) z
end L2
namespace L2
open PySem PySem.Spec PyProof.Rows
abbrev KOf {K:W.Frag}{h:Heap} (_:K.In h):W.Frag:=K
theorem walk_of {l:W.OpenLaw}{n k:Nat}{q:Program}{loose:List Str}{XP:(Str->Option Value)->Heap->Prop}{YP:World->Heap->Prop}{d:DefRec}{K:Params->W.Frag}{CX:World->CXT}{sp:World->Sp}{x:Str}
 (hn:l.most=some n) (hn2:n<=sizeLine) (hdf:d.params.defaults=[]) (hr:Room k callerA)
 (hY:∀ (w:World) (h:Heap),YP w h->(K w.params).In h)
 (F:∀ (w:World) (mg:Str->Option Value) (fa:Addr) (h:Heap),(K w.params).In h->h.Ns mainGlobals mg->mg d.name=some (.ref fa)->
  ∃
   fd:FuncData,(∀ (s:Shared) (u:Value),BindsTo s fd ⟨[u],[]⟩ [(x,u)])/\
   ∀ base:Heap,(K w.params).In base->base.Ns mainGlobals mg->FnOk l.prog w (K w.params) mg base (CX w) k fa fd [x] (sp w))
 (hsp:∀ (w:World) (H:Hp) (a:Addr) (ns:List Int),ns.length<=n->pq H->SqL (K w.params) H a (ns.map V.int)->sp w [.ref a] H (λv _=>v=.bl true) λ_ _ _=>False)
 (hCX:∀ (w:World) (H:Hp) (s:Shared) (e:Value) (s':Shared),CX w [] H s (λ_ _ _=>False) e s'->False):
 W.WalkO q loose XP YP l.row.toRowW d [] (λf vs=>PySem.call f vs):=by
 refine Att.attach_call hn hdf λw s₀ s₁ mg mb fa o pm cd doc a vs ns G Y ho hd j' hmg hobj hints be hg=>?_
 have KX:=hY w _ Y
 obtain⟨fd,hb,hF⟩:=F w mg fa _ KX G.T.g hmg
 exact Al KX G.T.g G.T.b G.T.builtins G.T.nolimit hg hobj hints (Nat.le_trans be hn2) hr hF hb (λH hO hS=>hsp w H a ns be hO hS) λH e s'=>hCX w H s₁ e s'
end L2
namespace L2
open PySem PySem.Spec PyProof.Rows
def cK (s:Stmt):Arguments:=match s with
 | .FunctionDef _ a _ _ _ _ _ _ _ _=>a
 | _=>{ posonlyargs:=[],args:=[],vararg:=none,kwonlyargs:=[],kw_defaults:=[],kwarg:=none,defaults:=[] }
def bu (s:Stmt):List Stmt:=match s with
 | .FunctionDef _ _ b _ _ _ _ _ _ _=>b
 | _=>[]
def av (s:Stmt):Scope:=match s with
 | .FunctionDef _ _ _ _ _ _ sc _ _ _=>sc
 | _=>{ kind:=.function,names:=[],isGenerator:=false,isCoroutine:=false }
abbrev E0:XK:=λ_ _ _=>False
structure Fun (K:W.Frag) (x qual:Str) (st:Stmt) (f:Addr) (fd:FuncData):Prop where
 ex:∃ (oc:Value) (od:Option Addr) (kV doc pm:Value) (an:Option Addr) (cdv ct:Value) (osl:Array (Option Value)),
  fd=W.fnOf x qual (cK st) (bu st) (av st) .none kV doc pm an cdv ct/\K.lookup f=some ⟨oc,od,.func fd,osl⟩/\W.codeIn K cdv qual=true
 kp:W.keepIn K (.ref f)=true
section
variable {P:Program}{w:World}{K:W.Frag}{mg:Str->Option Value}{base:Heap}
theorem Fun.binds {x qual:Str}{st:Stmt}{f:Addr}{fd:FuncData}{ps:List Str} (F:Fun K x qual st f fd)
 (h:∀ (kV doc pm:Value) (an:Option Addr) (cdv ct:Value) (us:List Value),us.length=ps.length->bindArgs (W.fnOf x qual (cK st) (bu st) (av st) .none kV doc pm an cdv ct) ⟨us,[]⟩=pure (ps.zip us)):Binds K fd ps []:=by
 obtain⟨oc,od,kV,doc,pm,an,cdv,ct,osl,rfl,lk,j'⟩:=F.ex
 exact .all (h kV doc pm an cdv ct)
theorem EV {x qual:Str}{st:Stmt}{f:Addr}{oc:Value}{od an:Option Addr}{osl:Array (Option Value)}{kV doc pm cdv ct:Value} (l:K.lookup f=some ⟨oc,od,.func (W.fnOf x qual (cK st) (bu st) (av st) .none kV doc pm an cdv ct),osl⟩)
 (c:W.codeIn K cdv qual=true) (k:W.keepIn K (.ref f)=true):Fun K x qual st f (W.fnOf x qual (cK st) (bu st) (av st) .none kV doc pm an cdv ct):=⟨⟨oc,od,kV,doc,pm,an,cdv,ct,osl,rfl,l,c⟩,k⟩
end
theorem fb {A:Around}{k:Nat} (hr:Room k A):A.units + 1 < cLine:=Nat.lt_of_le_of_lt (Nat.add_le_add_left (by decide:1<=64) _) hr.units
section
variable {X:Cx}
end
end L2
namespace L2
open PySem PySem.Spec PyProof.Rows
section
variable {X:Cx}{pins:List (Addr×Obj)}{σ:St}{H:Hp}{s:Shared}
theorem Inv.track {a:Addr}{o:HO} (I:Inv X pins σ H s) (hn:H a=none) (h0:X.s₀.heap.get? a=none) (hL:a ≠ X.env.locals) (hc:∀ x c,X.env.cells.lookup x=some c->c ≠ a)
 (hp:∀ p ∈ X.pn++pins,p.1 ≠ a) (new:ObjOk X.prog X.w (upd H a o) s.heap a o):Inv X pins σ (upd H a o) s:=by
 have ne:∀ b u,H b=some u->b ≠ a:=λb u e z=>by rw[z,hn] at e;cases e
 have ne0:∀ b u,X.s₀.heap.get? b=some u->b ≠ a:=λb u e z=>by rw[z,h0] at e;cases e
 refine⟨I.ok,I.os,I.bare,⟨I.base.keep,I.base.slot,λb u e n hx=>?_,I.base.there,λb xs e=>?_,λb u xs e=>?_,λb ps e=>?_⟩,I.loc,I.cell,?_,λx c e=>?_,λp hp'=>?_,λb u e=>?_,I.len⟩
 ·rw[aZ (ne0 b u e)];exact I.base.free b u e n hx
 ·have q:=I.base.tups b xs e
  rw[aZ (ne _ _ q)];exact q
 ·have q:=I.base.frzs b u xs e
  rw[aZ (ne _ _ q)];exact q
 ·obtain⟨m,q⟩:=I.base.tbls b ps e
  exact⟨m,by rw[aZ (ne _ _ q)];exact q⟩
 ·rw[aZ (Ne.symm hL)];exact I.free
 ·rw[aZ (hc x c e)];exact I.freeC x c e
 ·obtain⟨e,n,r⟩:=I.pin p hp'
  exact⟨e,by rw[aZ (hp p hp')];exact n,r⟩
 ·by_cases hb:b=a
  ·subst hb;rw[bY] at e;cases e;exact new
  ·rw[aZ hb] at e
   exact (I.hok b u e).stay (λc v _ q=>q) (λc q=>by rw[aZ (ne _ _ q)];exact q) λc xs q=>by rw[aZ (ne _ _ q)];exact q
end
theorem jY {env:Env}:∀ {names:List (Str×NameKind)} (cs:List (Str×Addr)),(∀ x ∈ names,x.2=.free->∃ c,env.cells.lookup x.1=some c)->(∀ x c,cs.lookup x=some c->env.cells.lookup x=some c)->
 ∃
  cl,(forIn names cs λ(x:Str×NameKind) (r:List (Str×Addr))=>if (x.2 == NameKind.free)=true then do let a <- cellOf env x.1;pure (ForInStep.yield ((x.1,a) :: r)) else pure (ForInStep.yield r):Sem (List (Str×Addr)))=pure cl/\
  (∀ x c,cl.lookup x=some c->env.cells.lookup x=some c)/\(∀ x c,cs.lookup x=some c->∃ c',cl.lookup x=some c')/\∀ x ∈ names,x.2=.free->∃ c,cl.lookup x.1=some c
 | [],cs,_,h=>⟨cs,by simp,h,λx c e=>⟨c,e⟩,λ_ hx=>nomatch hx⟩
 |
  (n,k) :: r,cs,hf,h=>by
  rw[List.forIn_cons]
  by_cases hk:k=.free
  ·subst hk
   obtain⟨c,hc⟩:=hf (n,.free) List.mem_cons_self rfl
   have hcell:cellOf env n=pure c:=by unfold cellOf;rw[hc]
   have h':∀ x d,((n,c) :: cs).lookup x=some d->env.cells.lookup x=some d:=λx d e=>by
    rw[List.lookup_cons] at e
    cases q:x == n with
    | true=>rw[q] at e;cases e;rw[beq_iff_eq.mp q];exact hc
    | false=>rw[q] at e;exact h x d e
   obtain⟨cl,e1,e2,e3,e4⟩:=jY (env:=env) (names:=r) ((n,c) :: cs) (λx hx=>hf x (List.mem_cons_of_mem _ hx)) h'
   have top:∃ c',cl.lookup n=some c':=e3 n c (by rw[List.lookup_cons];simp)
   refine⟨cl,?_,e2,λx d e=>?_,λx hx le=>?_⟩
   ·simp only[beq_self_eq_true,if_true,hcell]
    exact e1
   ·by_cases q:x=n
    ·rw[q];exact top
    ·exact e3 x d (by rw[List.lookup_cons,(beq_eq_false_iff_ne.mpr q:(x == n)=false)];exact e)
   ·rcases List.mem_cons.mp hx with rfl | hx
    ·exact top
    ·exact e4 x hx le
  ·have hb:(k == NameKind.free)=false:=by simpa using hk
   obtain⟨cl,e1,e2,e3,e4⟩:=jY (env:=env) (names:=r) cs (λx hx=>hf x (List.mem_cons_of_mem _ hx)) h
   refine⟨cl,?_,e2,e3,λx hx le=>?_⟩
   ·simp only[hb,Bool.false_eq_true,if_false]
    exact e1
   ·rcases List.mem_cons.mp hx with rfl | hx
    ·exact absurd le hk
    ·exact e4 x hx le
theorem kS {env:Env}{scope:Scope} (hf:∀ x ∈ scope.names,x.2=.free->∃ c,env.cells.lookup x.1=some c):
 ∃ cl,closureFor scope env=pure cl/\(∀ x c,cl.lookup x=some c->env.cells.lookup x=some c)/\∀ x ∈ scope.names,x.2=.free->∃ c,cl.lookup x.1=some c:=by
 obtain⟨cl,e1,e2,_,e4⟩:=jY (env:=env) (names:=scope.names) [] hf (λx c e=>by simp at e)
 refine⟨cl,?_,e2,e4⟩
 unfold closureFor
 simp only[e1]
 rfl
def bc (X:Cx) (N:List Str) (scope:Scope) (cl:List (Str×Addr)) (C:Addr) (s₂:Shared) (H:Hp) (fp:List Addr):Cx:=
 { X with N:=N,s₀:=s₂,H₀:=H,env:=compEnvC scope cl C X.env,outer:=X.stack,stack:=X.stack,ex:=fp,fn:=λ_=>false,pn:=[],xe:=λ_ _=>False }
def dj (sub:List (Option Nat)) (σ:St):St:=sub.map λo=>o.bind λi=>(σ[i]?).bind id
def LcW (J:It) (sub:List (Option Nat)) (g:TG) (tc:TT) (te:TE) (σ:St) (H1:Hp) (Q:VK):Prop:=∃ W:Nat->Nat->List V->St->Hp->Prop,(∃ m,W 0 m [] (dj sub σ) H1)/\∀ i m ys σ H,W i m ys σ H->
 (J.stop i H/\ys.length<=sizeLine/\∀ D,H D=none->Q (.ref D) (upd H D (.lst ys)))\/
 (J.go i H/\ys.length < sizeLine/\∃ Nx:List V->St->Hp->Prop,(∀ ys' σ' H',Nx ys' σ' H'->∃ m',m' < m/\W (i + 1) m' ys' σ' H')/\
  ∀ x H',J.yld i H x H'->g x σ H' λσ2 H2=>tc σ2 H2 λb H3=>if b=true then te σ2 H3 λy H4=>Nx (ys++[y]) σ2 H4 else Nx ys σ2 H3)
def j0 (wi:TI) (sub:List (Option Nat)) (g:TG) (tc:TT) (te:TE):TE:=λσ H Q=>wi σ H λJ H1=>LcW J sub g tc te σ H1 Q
abbrev As:TT:=λ_ H Q=>Q true H
section
variable {prog:Program}{w:World}{A:Around}{R:Result->Shared->Prop}{s:Shared}
theorem kZ {im target al:Expr}{ifs:List Expr}{scope:Scope}{pos:Pos}{it acc:Value}{env:Env} (I:Nat->Shared->Prop)
 (turn
  : ∀ n s,I n s->wpAny (model prog w) A (pyNext it) (λr s₁=>match r with
  | none=>R (.ok .next) s₁
  | some v=>wpAny (model prog w) A (letOwnedTupleGo target it v) (λ_ s₁'=>wpAny (model prog w) A (assign target env v) (λ_ s₂=>
   wpAny (model prog w) A (forIn ifs true λc r=>if r=true then do let ok <- isTrue c env (eval c env);pure (ForInStep.yield ok) else pure (ForInStep.yield r))
    (λok s₃=>if ok=true then wpAny (model prog w) A (eval im env) (λx s₄=>wpAny (model prog w) A (call (.builtin "list.append") [acc,x]) (λ_ s₅=>∃ m,m < n/\I m s₅) (λ_ _=>False) s₄) (λ_ _=>False) s₃
     else ∃ m,m < n/\I m s₃) (λ_ _=>False) s₂) (λ_ _=>False) s₁') (λ_ _=>False) s₁) (λ_ _=>False) s)
 (n:Nat) (h:I n s):
 codeAny (model prog w) A (.compLoop (.ListComp im [⟨target,al,ifs,0⟩] scope pos) 0 it acc env) R s:=by
 refine codeAny_loop rfl I (λn s hI=>?_) n h
 show wpAny _ _ ((compTurn (.ListComp im [⟨target,al,ifs,0⟩] scope pos) 0 it acc env).onRaise (λx=>do noteFrame x env;theTreesLotGoes x)) _ _ s
 refine wpAny_noted ?_
 rw[compTurn_list]
 refine wpAny_mono (E:=λ_ _=>False) ?_ (λ_ _ q=>q) λ_ _ q=>q.elim
 refine wpAny_bind (wpAny_standAt (wpAny_bind (wpAny_mono (turn n s hI) (λr s₁ h₁=>?_) λ_ _ h'=>h')))
 cases r with
 | none=>exact wpAny_pure h₁
 |
  some v=>
  refine wpAny_bind (wpAny_mono h₁ (λ_ s₁' h₁'=>?_) λ_ _ h'=>h')
  refine wpAny_bind (wpAny_mono h₁' (λ_ s₂ h₂=>?_) λ_ _ h'=>h')
  refine wpAny_bind (wpAny_mono h₂ (λok s₃ h₃=>?_) λ_ _ h'=>h')
  cases ok with
  |
   true=>
   simp only[if_true] at h₃ ⊢
   refine wpAny_bind (wpAny_bind (wpAny_mono h₃ (λx s₄ h₄=>?_) λ_ _ h'=>h'))
   refine wpAny_bind (wpAny_mono h₄ (λ_ s₅ h₅=>?_) λ_ _ h'=>h')
   exact wpAny_pure (wpAny_pure ⟨rfl,h₅⟩)
  |
   false=>
   simp only[Bool.false_eq_true,if_false] at h₃ ⊢
   first
    | exact wpAny_bind (wpAny_pure (wpAny_pure ⟨rfl,h₃⟩))
    | exact wpAny_pure ⟨rfl,h₃⟩
end
section
variable {X:Cx}
def PTs (X:Cx) (ifs:List Expr) (t:TT):Prop:=
 ∀
  (pins:List (Addr×Obj)) (s:Shared) (σ:St) (H:Hp) (Q:Bool->Hp->Prop),Inv X pins σ H s->t σ H Q->
  wpAny (model X.prog X.w) X.A (forIn ifs true λc r=>if r=true then do let ok <- isTrue c X.env (eval c X.env);pure (ForInStep.yield ok) else pure (ForInStep.yield r)) (TP X pins σ Q) X.xe s
theorem uW:PTs X [] (λ_ H Q=>Q true H):=λpins s σ H Q I h=>by
 rw[List.forIn_nil]
 exact wpAny_pure ⟨H,I,h⟩
theorem CM {c:Expr}{tc:TT} (hc:PT X c tc):PTs X [c] tc:=λpins s σ H Q I h=>by
 rw[List.forIn_cons]
 simp only[if_true]
 refine wpAny_bind (wpAny_bind (thn (hc pins s σ H Q I h) λb s1 q=>wpAny_pure ?_))
 dsimp only
 rw[List.forIn_nil]
 exact wpAny_pure q
theorem yz {im al tg:Expr}{ifs:List Expr}{scope:Scope}{pos:Pos}{wi:TI}{g:TG}{tc:TT}{te:TE}{N:List Str}{sub:List (Option Nat)}
 (hc:X.calm=true) (hi:PI X tg al wi)
 (hk:scope.kind=.function) (hnc:∀ x ∈ scope.names,x.2 ≠ .cell) (bi:∀ x ∈ scope.names,x.2=.local->scope.names.lookup x.1=some .local)
 (le:∀ x ∈ scope.names,x.2=.free->X.env.kindOf x.1=some .cell\/X.env.kindOf x.1=some .free)
 (hsl:sub.length=N.length) (ge:∀ (j i:Nat) (x:Str),sub[j]?=some (some i)->N[j]?=some x->X.N[i]?=some x/\scope.names.lookup x=some .free)
 (hg:∀ cl C s₂ H fp,PG (bc X N scope cl C s₂ H fp) tg g) (ht:∀ cl C s₂ H fp,PTs (bc X N scope cl C s₂ H fp) ifs tc) (he:∀ cl C s₂ H fp,PE (bc X N scope cl C s₂ H fp) im te)
 (hs:∀ x,foldedSetIterable al X.env x=pure x:=by intro _;rfl):
 PE X (.ListComp im [⟨tg,al,ifs,0⟩] scope pos) (j0 wi sub g tc te):=by
 intro pins s σ H Q I h
 obtain⟨cl,hclos,hcl,hclf⟩:=kS (env:=X.env) (scope:=scope) λx hx hf=>I.ok.has x.1 (le x hx hf)
 rw[eval_ListComp]
 refine wpAny_comprehension_free (use:=none) rfl hs hclos hk bi ?_
 show wpAny _ _ (eval al X.env) _ _ _
 refine thn (hi pins s σ H _ I h) λv s1 h1=>thn h1 λitv s2 h2=>?_
 obtain⟨it,fp,tn,J,H2,e,I2,T,st2,f2,W,⟨m0,w0⟩,turn⟩:=h2
 subst e
 refine wpAny_newObj_type (wpAny_newFunctionEnv hnc (by intro y hy;simp at hy) (λh₁ hns₁ hsb₁=>?_) hk)
 dsimp only at hns₁ hsb₁ ⊢
 generalize hH2:s2.heap.push { cls:=.type "list",dict:=none,data:=.seq ([]:List Value).toArray }=G2 at hns₁ hsb₁ ⊢
 have hC:G2.objs.size=s2.heap.objs.size + 1:=by rw[<- hH2,Heap.size_push]
 have hDC:s2.heap.objs.size ≠ G2.objs.size:=by omega
 have below:∀ b,b < s2.heap.objs.size->b ≠ G2.objs.size/\b ≠ s2.heap.objs.size:=λb hb=>⟨by omega,by omega⟩
 have old:∀ b o,s2.heap.get? b=some o->h₁.get? b=some o:=λb o e=>hsb₁.extBut b o (below b (Heap.lt_size e)).1 (Heap.get?_push_of_some _ (hH2 ▸ Heap.get?_push_of_some _ e))
 have hD₁:h₁.get? s2.heap.objs.size=some { cls:=.type "list",dict:=none,data:=.seq ([]:List Value).toArray }:=hsb₁.extBut _ _ hDC (Heap.get?_push_of_some _ (hH2 ▸ Heap.get?_push_size _ rfl))
 have fresh:∀ a,s2.heap.objs.size<=a->s2.heap.get? a=none:=λa ha=>Heap.get?_none_of_le ha
 have cellOld:∀ x c,cl.lookup x=some c->c < s2.heap.objs.size:=λx c e=>by
  obtain⟨v,z⟩:=I2.cell x c (hcl x c e)
  exact z.lt
 have fpOld:∀ b ∈ fp,b < s2.heap.objs.size:=λb hb=>by
  obtain⟨o,e,_⟩:=T.obj _ _ st2 b hb
  exact Heap.lt_size e
 let Y:Cx:=bc X N scope cl G2.objs.size s2 H2 fp
 have okY:Y.Ok
  := by
  refine⟨I2.ok.mod,?_,I2.ok.glob,I2.ok.blt,?_,λx y c e1 e2=>I2.ok.inj x y c (hcl x c e1) (hcl y c e2),λx hx=>?_,λx c hfn _=>absurd hfn Bool.false_ne_true,I2.ok.hd,I2.ok.frames,.inl rfl,
   λb hb=>⟨?_,λx c e z=>?_⟩,I2.bs,Nat.le_trans I2.ok.bsz I2.sz,λb o e hb=>?_,λb hb hf=>?_,I2.stack,I2.stkFree⟩
  ·show (relabel scope X.env).kind=.function
   exact hk
  ·show s2.heap.objs.size<=G2.objs.size
   omega
  ·have hx':(
    relabel scope X.env).names.lookup x=some .cell\/(relabel scope X.env).names.lookup x=some .free:=hx
   have:∃ k,
    (x,k) ∈ scope.names/\k=.free:=by
    have gen:∀ (names:List (Str×NameKind)),(∀ y ∈ names,y.2 ≠ .cell)->∀ kk,(kk=NameKind.cell\/kk=NameKind.free)->(names.map λ(n,k)=>if (k == NameKind.free && X.env.scope.kind == .function && X.env.kindOf n == some .cell) then (n,NameKind.cell) else (n,k)).lookup x=some kk->∃ k,(x,k) ∈ names/\k=.free:=by
     intro names
     induction names with
     | nil=>intro _ kk _ e;simp at e
     |
      cons y r ih=>
      intro hn kk hkk e
      obtain⟨n,k⟩:=y
      rw[List.map_cons,List.lookup_cons] at e
      by_cases hkf:k=.free
      ·subst hkf
       by_cases hxn:x=n
       ·exact⟨.free,by rw[hxn];exact List.mem_cons_self,rfl⟩
       ·have hb:(x == (if (NameKind.free == NameKind.free && X.env.scope.kind == .function && X.env.kindOf n == some .cell)=true then (n,NameKind.cell) else (n,NameKind.free)).1)=false:=by
         split <;> exact beq_eq_false_iff_ne.mpr hxn
        rw[hb] at e
        obtain⟨k',m,q⟩:=ih (λz hz=>hn z (List.mem_cons_of_mem _ hz)) kk hkk e
        exact⟨k',List.mem_cons_of_mem _ m,q⟩
      ·have hb0:(k == NameKind.free && X.env.scope.kind == .function && X.env.kindOf n == some .cell)=false:=by
        have:(k == NameKind.free)=false:=by simpa using hkf
        rw[this];rfl
       rw[hb0] at e
       simp only[Bool.false_eq_true,if_false] at e
       cases q:x == n with
       |
        true=>
        rw[q] at e
        have e':k=kk:=Option.some.inj e
        subst e'
        rcases hkk with z | z
        ·exact absurd z (hn (n,k) List.mem_cons_self)
        ·exact absurd z hkf
       |
        false=>
        rw[q] at e
        obtain⟨k',m,q⟩:=ih (λz hz=>hn z (List.mem_cons_of_mem _ hz)) kk hkk e
        exact⟨k',List.mem_cons_of_mem _ m,q⟩
    rcases hx' with z | z
    ·exact gen scope.names hnc _ (.inl rfl) z
    ·exact gen scope.names hnc _ (.inr rfl) z
   obtain⟨k,m,q⟩:=this
   exact hclf (x,k) m q
  ·show b ≠ G2.objs.size
   exact (below b (fpOld b hb)).1
  ·exact (f2 b hb).2.2.2.2.1 x c (hcl x c e) z
  ·rcases (f2 b hb).2.2.2.1 with z | z
   ·exact I2.ok.noex b o e z
   ·exact absurd (Nat.lt_of_lt_of_le (Heap.lt_size e) (Nat.le_trans I2.ok.bsz z)) (Nat.lt_irrefl _)
  ·have hf':b ∈ frs X.stack:=hf
   rcases List.mem_cons.mp (I2.stkSub b hf') with z | z
   ·exact (f2 b hb).2.1 z
   ·exact (f2 b hb).2.2.1 z
 have startLoc
  : ∃ m,h₁.Ns G2.objs.size m/\∀ (i:Nat) (x:Str) (v:V),N[i]?=some x->(dj sub σ)[i]?=some (some v)->Vis (relabel scope X.env) x->∃ u,RelV v u/\wd Y.env h₁ m x u:=by
  refine⟨_,hns₁,λj x v e1 e2 e3=>?_⟩
  unfold dj at e2
  rw[List.getElem?_map] at e2
  cases q:sub[j]? with
  | none=>rw[q] at e2;cases e2
  |
   some o=>
   rw[q] at e2
   cases o with
   | none=>cases e2
   |
    some i=>
    obtain⟨hNi,hfree⟩:=ge j i x q e1
    have e2':(σ[i]?).bind id=some v:=Option.some.inj e2
    have e2'':σ[i]?=some (some v):=by
     cases z:σ[i]? with
     | none=>rw[z] at e2';cases e2'
     | some y=>rw[z] at e2';rw[show y=some v from e2']
    obtain⟨m2,hn2,hl2⟩:=I2.loc
    have hkx:=le (x,.free) (PySem.mem_of_lookup hfree) rfl
    obtain⟨u,r,l⟩:=hl2 i x v hNi e2'' (by rcases hkx with z | z;exact .inr (.inl z);exact .inr (.inr z))
    refine⟨u,r,.inr ⟨?_,?_⟩⟩
    ·rcases e3
      with z | z | z
     ·exfalso
      have gen:∀ (names:List (Str×NameKind)),names.lookup x=some .free->(names.map λ(n,k)=>if (k == NameKind.free && X.env.scope.kind == .function && X.env.kindOf n == some .cell) then (n,NameKind.cell) else (n,k)).lookup x=some .local->False:=by
       intro names
       induction names with
       | nil=>intro e _;simp at e
       |
        cons y r ih=>
        intro e1 e2
        obtain⟨n,k⟩:=y
        rw[List.lookup_cons] at e1
        rw[List.map_cons,List.lookup_cons] at e2
        by_cases hxn:x=n
        ·have hb1:(x == n)=true:=beq_iff_eq.mpr hxn
         rw[hb1] at e1
         have:k=.free:=Option.some.inj e1
         subst this
         split at e2
         ·rename_i hq
          split at e2 <;> cases e2
         ·rename_i hq
          split at hq <;> (rw[hb1] at hq;cases hq)
        ·have hb1:(x == n)=false:=beq_eq_false_iff_ne.mpr hxn
         rw[hb1] at e1
         refine ih e1 ?_
         split at e2
         ·rename_i hq
          split at hq <;> (rw[hb1] at hq;cases hq)
         ·exact e2
      exact gen scope.names hfree z
     ·exact .inl z
     ·exact .inr z
    ·obtain⟨c,hc'⟩:=hclf (x,.free) (PySem.mem_of_lookup hfree) rfl
     refine⟨c,hc',?_⟩
     rcases l with ⟨k,_⟩ | ⟨_,c2,ec2,z⟩
     ·rcases hkx with z | z <;> (rw[k] at z;cases z)
     ·have:=hcl x c hc'
      rw[ec2] at this
      cases this
      obtain⟨oc,hoc,hd⟩:=z
      exact⟨oc,old _ _ hoc,hd⟩
 have pinD:∀ {σ':St}{H':Hp}{s':Shared}{pl:List (Addr×Obj)}{o:Obj},Inv Y pl σ' H' s'->s'.heap.get? s2.heap.objs.size=some o->(∀ v,o.data ≠ .cell v)->H' s2.heap.objs.size=none->Inv Y [(s2.heap.objs.size,o)] σ' H' s':=λ{σ' H' s' pl o} IY e d n=>
  IY.pins_of λp hp=>by
   have e':p=(s2.heap.objs.size,o):=by simpa using hp
   subst e'
   refine⟨e,n,?_,?_,d⟩
   ·show s2.heap.objs.size ≠ G2.objs.size
    omega
   ·intro hf
    have hf':s2.heap.objs.size ∈ frs X.stack:=hf
    obtain⟨_,o',ho',_⟩:=I2.stack.mem hf'
    exact absurd (Heap.lt_size ho') (Nat.lt_irrefl _)
 have fpY:∀ {H':Hp}{pl:List (Addr×Obj)},(∀ b ∈ fp,H' b=none)->(∀ p ∈ pl,p.1 ∉ fp)->∀ b ∈ fp,lG Y pl H' b:=λ{H' pl} hn hp b hb=>by
  refine⟨hn b hb,?_,?_,.inl hb,λx c e=>?_,λp hp'=>?_⟩
  ·exact (okY.exf b hb).1
  ·exact okY.exfs b hb
  ·exact (okY.exf b hb).2 x c e
  ·intro z
   have hp'':p ∈ pl:=by simpa [Y,bc] using hp'
   exact hp p hp'' (by rw[z];exact hb)
 have hDfp:s2.heap.objs.size ∉ fp:=λz=>Nat.lt_irrefl _ (fpOld _ z)
 have loop
  : ∀ s₃:Shared,s₃={ s2 with heap:=h₁,toks:=s2.toks + ([]:List (Str×Value)).length }->
  codeAny (model X.prog X.w) X.A (.compLoop (.ListComp im [⟨tg,al,ifs,0⟩] scope pos) 0 (.ref it) (.ref s2.heap.objs.size) (compEnvC scope cl G2.objs.size X.env))
   (compPost (model X.prog X.w) X.A X.xe none (EP X pins σ Q) (.ref s2.heap.objs.size) G2.objs.size) s₃:=by
  rintro s₃ rfl
  have IY0:Inv Y [(s2.heap.objs.size,{ cls:=.type "list",dict:=none,data:=.seq ([]:List Value).toArray })] (dj sub σ) H2 { s2 with heap:=h₁,toks:=s2.toks + ([]:List (Str×Value)).length }:=by
   have J0:Inv Y [] (dj sub σ) H2 { s2 with heap:=h₁,toks:=s2.toks + ([]:List (Str×Value)).length }:=by
    refine⟨okY,rfl,I2.bare,Un.kept old,startLoc,λx c e=>?_,I2.hok.fresh (by show s2.heap.objs.size<=G2.objs.size;omega),λx c e=>I2.freeC x c (hcl x c e),λp hp=>absurd (show p ∈ ([]:List (Addr×Obj)) from hp) (by simp),I2.hok.kept old,?_⟩
    ·obtain⟨v,oc,hoc,hd⟩:=I2.cell x c (hcl x c e)
     exact⟨v,oc,old _ _ hoc,hd⟩
    ·show (dj sub σ).length=N.length
     unfold dj
     rw[List.length_map];exact hsl
   exact pinD J0 hD₁ (λv z=>by cases z) I2.fresh
  refine kZ (λn s'=>∃ (i:Nat) (ys:List V) (its:List Value) (k:Nat) (σ':St) (H':Hp),Inv Y [(s2.heap.objs.size,{ cls:=.type "list",dict:=none,data:=.seq its.toArray k })] σ' H' s'/\Vals ys its/\tn i s'.heap/\(∀ b ∈ fp,H' b=none)/\W i n ys σ' H') ?_ m0
   ⟨0,[],[],0,dj sub σ,H2,IY0,.nil,T.keep _ _ _ st2 (λb hb o e=>old b o e),λb hb=>(f2 b hb).1,w0⟩
  rintro n s3 ⟨i,ys,its,k,σ3,H3,I3,rv,st3,fr3,w3⟩
  have npl:∀ (o:Obj),∀ p ∈ [(s2.heap.objs.size,o)],p.1 ∉ fp:=λo p hp=>by
   have e':p=(s2.heap.objs.size,o):=by simpa using hp
   subst e'
   exact hDfp
  rcases turn i n ys σ3 H3 w3 with ⟨stop,hz,qn⟩ | ⟨go,hz,Nx,hNx,step⟩
  ·refine wpAny_mono (T.done Y rfl rfl rfl hc i _ s3 σ3 H3 (λ_ _=>False) I3 (fpY fr3 (npl _)) st3 stop) (λr s4 ⟨hr,I4⟩=>?_) λ_ _ z=>z
   subst hr
   obtain⟨m4,hn4,_⟩:=I4.loc
   refine⟨m4,hn4,λh' hs'=>?_⟩
   have hCfree:H3 G2.objs.size=none:=I4.free
   have hD4:=I4.pin (s2.heap.objs.size,{ cls:=.type "list",dict:=none,data:=.seq its.toArray k }) (List.mem_append_right _ List.mem_cons_self)
   have un4:Un (frs X.stack) fp H2 H3 s2.heap s4.heap:=I4.base
   have up:∀ b o,b ≠ G2.objs.size->s4.heap.get? b=some o->h'.get? b=some o:=λb o hb e=>hs'.extBut b o hb e
   have ne2:∀ b o,s2.heap.get? b=some o->b ≠ G2.objs.size:=λb o e=>(below b (Heap.lt_size e)).1
   have un5:Un (frs X.stack) fp H2 H3 s2.heap h':=by
    refine⟨λb o e n hb hx=>up b o (ne2 b o e) (un4.keep b o e n hb hx),λb o e n hb hx=>?_,un4.free,λb o e hx=>?_,un4.tups,un4.frzs,un4.tbls⟩
    ·obtain⟨sl,q⟩:=un4.slot b o e n hb hx
     exact⟨sl,up b _ (ne2 b o e) q⟩
    ·obtain⟨o',q⟩:=un4.there b o e hx
     exact⟨o',up b _ (ne2 b o e) q⟩
   have hok5:HOk X.prog X.w H3 h':=λb u e=>(I4.hok b u e).stay (λc v hcc q=>up c v (λz=>by
    rcases hcc with zz | zz
    ·rw[zz] at z;rw[z,hCfree] at e;cases e
    ·rw[z,hCfree] at zz;cases zz) q) (λ_ q=>q) λ_ _ q=>q
   have I5:Inv X pins σ H3 { s4 with heap:=h' }:=I2.call' (s':={ s4 with heap:=h' }) (ch:=fp) I4.os un5 hok5 I4.bare λb hb=>by
    obtain⟨_,g1,_,g3,g4,g5⟩:=f2 b hb
    exact⟨g3,g1,g4,g5⟩
   have hDfree:H3 s2.heap.objs.size=none:=hD4.2.1
   have sz0:X.s₀.heap.objs.size<=s2.heap.objs.size:=I2.sz
   refine⟨.ref s2.heap.objs.size,_,I5.track (o:=.lst ys) hDfree (Heap.get?_none_of_le sz0) (Nat.ne_of_gt I2.lt) (λx c e z=>?_) (λp hp z=>?_) ?_,rfl,qn _ hDfree⟩
   ·obtain⟨v,q⟩:=I2.cell x c e
    exact absurd q.lt (by rw[z];exact Nat.lt_irrefl _)
   ·exact absurd (Heap.lt_size (I2.pin p hp).1) (by rw[z];exact Nat.lt_irrefl _)
   ·exact⟨hz,its,k,rv,up _ _ hDC hD4.1⟩
  ·refine wpAny_mono (T.item Y rfl rfl rfl hc i _ s3 σ3 H3 (λ_ _=>False) I3 (fpY fr3 (npl _)) st3 go) (λr s4 ⟨u,hr,h4⟩=>?_) λ_ _ z=>z
   subst hr
   refine wpAny_mono h4 (λ_ s5 ⟨x,H5,I5,r5,y5,st5,fr5⟩=>?_) λ_ _ z=>z
   have I5':=I5.pinned (fpY fr5 (npl _)) (T.obj _ _ st5)
   refine wpAny_mono (hg cl G2.objs.size s2 H2 fp _ s5 σ3 H5 x u _ I5' r5 (step x H5 y5)) (λ_ s6 ⟨σ6,H6,I6,q6⟩=>?_) λ_ _ z=>z
   refine wpAny_mono (ht cl G2.objs.size s2 H2 fp _ s6 σ6 H6 _ I6 q6) (λok s7 ⟨H7,I7,q7⟩=>?_) λ_ _ z=>z
   have back:∀ {σ':St}{H':Hp}{s':Shared},Inv Y ([(s2.heap.objs.size,{ cls:=.type "list",dict:=none,data:=.seq its.toArray k })]++jO fp s5.heap) σ' H' s'->tn (i + 1) s'.heap/\∀ b ∈ fp,H' b=none:=λ{σ' H' s'} IB=>by
    refine⟨T.keep _ _ _ st5 λb hb o e=>(IB.pin (b,o) (List.mem_append_right _ (List.mem_append_right _ (eN hb e)))).1,λb hb=>?_⟩
    obtain⟨o,e,d⟩:=T.obj _ _ st5 b hb
    exact (IB.pin (b,o) (List.mem_append_right _ (List.mem_append_right _ (eN hb e)))).2.1
   cases ok with
   |
    false=>
    rw[if_neg Bool.false_ne_true] at q7
    obtain⟨m',hm,w7⟩:=hNx _ _ _ q7
    rw[if_neg Bool.false_ne_true]
    obtain⟨t7,f7⟩:=back I7
    exact⟨m',hm,i + 1,ys,its,k,σ6,H7,I7.unpinned,rv,t7,f7,w7⟩
   |
    true=>
    rw[if_pos rfl] at q7
    rw[if_pos rfl]
    refine wpAny_mono (he cl G2.objs.size s2 H2 fp _ s7 σ6 H7 _ I7 q7) (λy s8 ⟨yv,H8,I8,r8,q8⟩=>?_) λ_ _ z=>z
    obtain⟨m',hm,w8⟩:=hNx _ _ _ q8
    obtain⟨t8,f8⟩:=back I8
    have I9:=I8.unpinned
    have hD9:=I9.pin (s2.heap.objs.size,{ cls:=.type "list",dict:=none,data:=.seq its.toArray k }) (List.mem_append_right _ List.mem_cons_self)
    have e9:s8.heap.get? s2.heap.objs.size=some { cls:=.type "list",dict:=none,data:=.seq its.toArray k }:=hD9.1
    have be:=rv.length
    refine call_meets F.slot_list_append ⟨_,e9,rfl⟩ F.entry_list_append (F.args_list_append_2 _ _) (PySem.list_append _ its.toArray k y (by rw[List.size_toArray];omega)) ⟨e9,?_⟩
    have q9:=PySem.IsL.update e9 (λxs=>xs.push y)
    have ea:its.toArray.push y=(its++[y]).toArray:=by simp
    rw[ea] at q9
    have k9:∀ b o,b ≠ s2.heap.objs.size->s8.heap.get? b=some o->(s8.heap.update s2.heap.objs.size (Obj.mapSeq λxs=>xs.push y)).get? b=some o:=λb o hb e=>(Heap.get?_update_other _ _ (Ne.symm hb)).trans e
    have I10:Inv Y [] σ6 H8 { s8 with heap:=s8.heap.update s2.heap.objs.size (Obj.mapSeq λxs=>xs.push y) }:=
     (I9.pins_of (pins':=[]) (λp hp=>nomatch hp)).turned (t':=s8.toks) k9 hD9.2.1 hD9.2.2.1 (.inr (Nat.le_refl _)) (λx c e z=>absurd (cellOld x c e) (by rw[z];exact Nat.lt_irrefl _))
      (λp hp=>absurd (show p ∈ ([]:List (Addr×Obj)) from hp) (by simp))
    refine⟨m',hm,i + 1,ys++[yv],its++[y],_,σ6,H8,pinD I10 q9 (λv z=>by cases z) hD9.2.1,rv.append (.cons r8 .nil),?_,f8,w8⟩
    exact T.keep _ _ _ t8 λb hb o e=>k9 b o (λz=>hDfp (by rw[<- z];exact hb)) e
 exact codeAny_compStart_list (loop _ rfl) (T.self _ 0 _ _ _ (T.keep _ _ _ st2 λb hb o e=>old b o e) (loop _ rfl))
def fF (M:List Str) (names:List (Str×NameKind)) (sub:List (Option Nat)) (N:List Str):Bool:=(sub.zip N).all λp=>match p.1 with
 | none=>true
 | some i=>M[i]? == some p.2 && names.lookup p.2 == some .free
theorem mS {M:List Str}{names:List (Str×NameKind)}{sub:List (Option Nat)}{N:List Str} (h:fF M names sub N=true) (j i:Nat) (x:Str) (h1:sub[j]?=some (some i)) (h2:N[j]?=some x):
 M[i]?=some x/\names.lookup x=some .free:=by
 unfold fF at h
 rw[List.all_eq_true] at h
 have hm:(some i,x) ∈ sub.zip N:=by
  refine List.mem_of_getElem? (i:=j) ?_
  rw[List.getElem?_zip_eq_some]
  exact⟨h1,h2⟩
 have q:=h _ hm
 simp only[Bool.and_eq_true,beq_iff_eq] at q
 exact q
def iZ (kn names:List (Str×NameKind)):Bool:=names.all λx=>x.2 != .free || kn.lookup x.1 == some .cell || kn.lookup x.1 == some .free
theorem pA {kn names:List (Str×NameKind)} (h:iZ kn names=true):∀ x ∈ names,x.2=.free->kn.lookup x.1=some .cell\/kn.lookup x.1=some .free:=λx hx hf=>by
 unfold iZ at h
 rw[List.all_eq_true] at h
 have q:=h x hx
 rw[hf] at q
 simpa using q
theorem Eb {im al tg c:Expr}{scope:Scope}{pos:Pos}{wi:TI}{g:TG}{tc:TT}{te:TE} (M:List Str) (kn:List (Str×NameKind)) (N:List Str) (sub:List (Option Nat))
 (hc:X.calm=true) (hi:PI X tg al wi)
 (hg:∀ cl C s₂ H fp,PG (bc X N scope cl C s₂ H fp) tg g) (ht:∀ cl C s₂ H fp,PT (bc X N scope cl C s₂ H fp) c tc) (he:∀ cl C s₂ H fp,PE (bc X N scope cl C s₂ H fp) im te)
 (hM:X.N=M:=by rfl) (hkn:X.env.scope.names=kn:=by rfl) (ge:fF M scope.names sub N=true:=by decide)
 (hk:scope.kind=.function:=by rfl) (hnc:∀ x ∈ scope.names,x.2 ≠ .cell:=by decide) (bi:∀ x ∈ scope.names,x.2=.local->scope.names.lookup x.1=some .local:=by decide)
 (le:iZ kn scope.names=true:=by decide)
 (hsl:sub.length=N.length:=by rfl) (hs:∀ x,foldedSetIterable al X.env x=pure x:=by intro _;rfl):
 PE X (.ListComp im [⟨tg,al,[c],0⟩] scope pos) (j0 wi sub g tc te):=
 yz hc hi hk hnc bi (by subst hkn;exact pA le) hsl (by subst hM;exact mS ge) hg (λcl C s₂ H fp=>CM (ht cl C s₂ H fp)) he hs
theorem Ky {im al tg:Expr}{scope:Scope}{pos:Pos}{wi:TI}{g:TG}{te:TE} (M:List Str) (kn:List (Str×NameKind)) (N:List Str) (sub:List (Option Nat))
 (hc:X.calm=true) (hi:PI X tg al wi)
 (hg:∀ cl C s₂ H fp,PG (bc X N scope cl C s₂ H fp) tg g) (he:∀ cl C s₂ H fp,PE (bc X N scope cl C s₂ H fp) im te)
 (hM:X.N=M:=by rfl) (hkn:X.env.scope.names=kn:=by rfl) (ge:fF M scope.names sub N=true:=by decide)
 (hk:scope.kind=.function:=by rfl) (hnc:∀ x ∈ scope.names,x.2 ≠ .cell:=by decide) (bi:∀ x ∈ scope.names,x.2=.local->scope.names.lookup x.1=some .local:=by decide)
 (le:iZ kn scope.names=true:=by decide)
 (hsl:sub.length=N.length:=by rfl) (hs:∀ x,foldedSetIterable al X.env x=pure x:=by intro _;rfl):
 PE X (.ListComp im [⟨tg,al,[],0⟩] scope pos) (j0 wi sub g As te):=
 yz hc hi hk hnc bi (by subst hkn;exact pA le) hsl (by subst hM;exact mS ge) hg (λcl C s₂ H fp=>uW) he hs
end
end L2
namespace L2
open PySem PySem.Spec PyProof.Rows PySem.W PySem.Builtin PySem.Builtin.ObjectAttr PySem.Builtin.Getset_descriptor
structure XCls (K:W.Frag) (C:Addr):Prop where
 cls:(clsIn K C).isSome=true
 ga:findIn K (.ref C) "__getattribute__"=some (some (.builtin "BaseException.__getattribute__"))
 gt:findIn K (.ref C) "__getattr__"=some none
 at_:findIn K (.ref C) "__class__"=some (some (.builtin "object.__class__"))
 gs:specialIn K (.builtin "object.__class__") "__get__"=some (some (.builtin "getset_descriptor.__get__"))
 tk:takesIn K (.builtin "object.__class__")=some true
 mo:mroIn K C (.type "object")=some true
 mb:mroIn K C (.type "BaseException")=some true
section
variable {prog:Program}{w:World}{A:Around}{E:Value->Shared->Prop}{K:W.Frag}{x C:Addr}{o:Obj}
theorem iS {M:Model}{h:Heap} (hx:h.get? x=some o) (hc:o.cls=.ref C):Looks M h (typeOf (.ref x)) (.ref C):=hc ▸ (Looks.ld hx).andThen .now
theorem A2 {M:Model}{h:Heap} (X:K.In h) (T:XCls K C):Looks M h (find (.ref x) (.ref C) "__class__") (.bind (.builtin "getset_descriptor.__get__") (.builtin "object.__class__")):=by
 have L1:=looks_findIn (M:=M) X T.at_
 have L2:Looks M h (getOf (some (.builtin "object.__class__"))) (some (.builtin "getset_descriptor.__get__")):=looks_specialIn X T.gs
 have L3:=looks_takesIn (M:=M) X T.tk
 refine L1.andThen (L2.andThen ?_)
 exact (show Looks M h (dataDescriptor? (some (.builtin "object.__class__")) (some (.builtin "getset_descriptor.__get__"))) (some (.builtin "getset_descriptor.__get__",.builtin "object.__class__")) from L3.andThen .now).andThen (Looks.tag .now)
theorem qf {s:Shared}{tp:Value}{R:Result->Shared->Prop} (X:K.In s.heap) (hx:s.heap.get? x=some o) (hc:o.cls=.ref C) (T:XCls K C)
 (h:R (.ok (.ret (.ref C))) s):codeAny (model prog w) A (.call (.builtin "getset_descriptor.__get__") ⟨[.builtin "object.__class__",.ref x,tp],[]⟩) R s:=by
 obtain⟨hh,g,dr,t,os⟩:=s
 have L0:=iS (M:=model prog w) hx hc
 have L1:=looks_mroIn (M:=model prog w) X T.mo
 refine codeAny_call_builtin KF.slot_gs.plain KF.entry_gs (KF.slot_gs.check _ _ _ _ _ _ _ _ KF.type_class (KF.args_gs _ _ _) ?_)
 unfold Builtin.«getset_descriptor.__get__» descrGet
 rw[dga_obj]
 refine wpAny_bind (wpAny_pure ?_)
 unfold descrGetter descrCheckInstance descrNameAndClass isInstance
 simp only[KF.owner_class]
 repeat lk
 refine⟨Code.quiet_builtin _ (by decide),codeAny_builtin KF.entry_class ?_⟩
 unfold Builtin.«object.__class__» shownTypeOf
 repeat lk
 exact h
theorem xX {M:Model}{nameV:Value}{s:Shared}{Q:Unit->Shared->Prop} (X:K.In s.heap) (hx:s.heap.get? x=some o) (hc:o.cls=.ref C) (T:XCls K C) (hq:Q () s):
 wpAny M A (checkBuiltinCall "BaseException.__getattribute__" ⟨[.ref x,nameV],[]⟩) Q E s:=by
 obtain⟨h,g,dr,t,os⟩:=s
 have hk:builtinKind "BaseException.__getattribute__"=some .slot:=by decide
 have hsplit:splitId "BaseException.__getattribute__"=some ("BaseException", "__getattribute__"):=by decide
 have ha:=PySem.F.args_bexc_ga (.ref x) nameV
 have L0:=iS (M:=M) hx hc
 have LM:=looks_mroIn (M:=M) X T.mb
 have LI:Looks M h (isInstance (.ref x) (.type "BaseException")) true:=L0.andThen LM
 simp only[checkBuiltinCall,hk,hsplit]
 refine wpAny_bind ?_
 refine LI.at ?_
 repeat (first | wp_step)
 all_goals exact hq
theorem FG {s:Shared}{Q:Option Value->Shared->Prop} (X:K.In s.heap) (hx:s.heap.get? x=some o) (hc:o.cls=.ref C) (T:XCls K C) (h:Q (some (.ref C)) { s with toks:=s.toks + 1 }):
 wpAny (model prog w) A (getAttr? (.ref x) "__class__") Q E s:=by
 obtain⟨hh,g,d,t,os⟩:=s
 have L0:=iS (M:=model prog w) hx hc
 have L1:=looks_findIn (M:=model prog w) X T.ga
 have L2:=looks_findIn (M:=model prog w) X T.gt
 have LF:=A2 (M:=model prog w) (x:=x) X T
 have f3:=PySem.F.excAttr_ValueError.ga.bind (.ref x)
 have hx2:(Value.builtin "BaseException.__getattribute__" == Value.builtin "object.__getattribute__")=false:=by decide
 unfold getAttr? getAttrBy? getAttrBy
 refine wpAny_bind (wpAny_mkText (wpAny_bind (wpAny_attempt (wpAny_holding (wpAny_bind (L0.at (wpAny_bind (L1.at ?_))))))))
 dsimp only
 rw[if_neg (by rw[hx2];simp)]
 unfold getAttrByItsOwn hookBefore
 rw[if_pos (show onTheHeap (Value.ref C)=true from rfl)]
 refine wpAny_bind (L2.at ?_)
 unfold callGetattribute
 refine wpAny_bind (wpAny_attempt (wpAny_holding ?_))
 rw[if_neg (by simp)]
 unfold boundAndCalled
 refine wpAny_bind (wpAny_of_eq f3 ?_)
 refine wpAny_call (codeAny_call_builtin PySem.F.excAttr_ValueError.ga.plain PySem.F.entry_bexc_ga (xX X hx hc T ?_))
 unfold Builtin.«object.__getattribute__»
 repeat (first | (refine wpAny_bind (L0.at ?_)) | (refine wpAny_bind (LF.at ?_)) | wp_step)
 refine qf (s:=⟨hh,g,d,t + 1,os⟩) X hx hc T ?_
 repeat (first | exact h | wp_step)
def oh (x:Addr) (C:Addr) (h:Heap):Prop:=∃ o vs,h.get? x=some o/\o.cls=.ref C/\o.data=.fields vs
theorem A9 (T:XCls K C):KitX K (.ref x) (.ref C) (oh x C) where
 ty:=λM h _ ⟨o,_,hx,hc,_⟩=>iS hx hc
 it:=λM h X _=>by
  obtain⟨cd,j'⟩:=Option.isSome_iff_exists.mp T.cls
  unfold clsIn at j'
  split at j'
  ·rename_i c' d' cd' sl' ho
   intro A' Q' E' s' k q
   unfold isType loadHead
   exact wpAny_bind (wpAny_loadPart (k _ _ (X _ _ ho)) (wpAny_pure q))
  ·cases j'
 ne:=λh tp dd its n sl X htp=>by
  obtain⟨cd,j'⟩:=Option.isSome_iff_exists.mp T.cls
  refine Bool.eq_false_iff.mpr λq=>?_
  have e:C=tp:=Value.ref.inj (beq_iff_eq.mp q)
  subst e
  unfold clsIn at j'
  split at j'
  ·rename_i c' d' cd' sl' ho
   have z:=(X _ _ ho).symm.trans htp
   cases z
  ·cases j'
 ca:=λX ⟨o,_,hx,hc,_⟩ k=>FG X hx hc T k
end
inductive TyX (K:W.Frag) (H:Hp):V->Value->Prop where
 | of {x:V}{t:Value} (h:TyOf K H x t):TyX K H x t
 | exc {a C:Addr} (e:H a=some (.ext (oh a C))) (T:XCls K C):TyX K H (.ref a) (.ref C)
 | sqT {a:Addr}{xs:List V} (h:SqT K H a xs):TyX K H (.ref a) (.type "tuple")
 | sqL {a:Addr}{xs:List V} (h:SqL K H a xs):TyX K H (.ref a) (.type "list")
section
variable {X:Cx}{pins:List (Addr×Obj)}{σ:St}{H:Hp}{s:Shared}{A:Around}{E:Value->Shared->Prop}{Q:Value->Shared->Prop}{c:Value}{b:Bool}
theorem uV {x:V}{u t:Value} (I:Inv X pins σ H s) (rx:RelV x u) (ty:TyX X.K H x t):∃ Hh:Heap->Prop,KitX X.K u t Hh/\Hh s.heap/\u ≠ .builtin "__main__.__loader__#opaque":=by
 cases ty with
 |
  exc ea T=>
  cases (show u=Value.ref _ from rx)
  exact⟨_,A9 T,(I.hok _ _ ea).1,λz=>nomatch z⟩
 |
  sqT h=>
  cases (show u=Value.ref _ from rx)
  obtain⟨its,rv,⟨o,e,c,_⟩,_⟩:=I.tuple h
  exact⟨_,kitx_tuple,⟨o,e,c⟩,λz=>nomatch z⟩
 |
  sqL h=>
  cases (show u=Value.ref _ from rx)
  obtain⟨its,rv,⟨o,n,e,c,_⟩,_⟩:=I.list h
  exact⟨_,kitx_list,⟨o,e,c⟩,λz=>nomatch z⟩
 |
  of ty=>
  cases ty with
  | non=>cases (show u=Value.none from rx);exact⟨_,kitx_none,True.intro,λz=>nomatch z⟩
  | bl y=>cases (show u=Value.bool y from rx);exact⟨_,kitx_bool,True.intro,λz=>nomatch z⟩
  | int i=>obtain⟨t,q⟩:=(show ∃ t,u=Value.int i t from rx);cases q;exact⟨_,kitx_int,True.intro,λz=>nomatch z⟩
  | str y=>obtain⟨t,q⟩:=(show ∃ t,u=Value.str y t from rx);cases q;exact⟨_,kitx_str,True.intro,λz=>nomatch z⟩
  | flt y=>obtain⟨t,q⟩:=(show ∃ t,u=Value.float y t from rx);cases q;exact⟨_,kitx_float,True.intro,λz=>nomatch z⟩
  |
   @lst a xs ea=>
   cases (show u=Value.ref a from rx)
   obtain⟨_,_,n,_,h1⟩:=(show ObjOk X.prog X.w H s.heap a (.lst xs) from I.hok a _ ea)
   exact⟨_,kitx_list,⟨_,h1,rfl⟩,λz=>nomatch z⟩
  |
   @frz a ob xs ea=>
   cases (show u=Value.ref a from rx)
   obtain⟨_,_,_,n,_,h1⟩:=(show ObjOk X.prog X.w H s.heap a (.frz ob (.lst xs)) from I.hok a _ ea)
   exact⟨_,kitx_list,⟨_,h1,rfl⟩,λz=>nomatch z⟩
  |
   @tup a xs ea=>
   cases (show u=Value.ref a from rx)
   obtain⟨_,_,_,p⟩:=(show ObjOk X.prog X.w H s.heap a (.tup xs) from I.hok a _ ea)
   obtain⟨o,h1,h2,_⟩:=p
   exact⟨_,kitx_tuple,⟨o,h1,h2⟩,λz=>nomatch z⟩
  |
   @dK a kvs ea=>
   cases (show u=Value.ref a from rx)
   obtain⟨_,_,vs,_,p⟩:=(show ObjOk X.prog X.w H s.heap a (.dK kvs) from I.hok a _ ea)
   obtain⟨o,es,ep,h1,h2,_⟩:=p
   exact⟨_,kitx_dict,⟨o,h1,h2.1⟩,λz=>nomatch z⟩
  |
   @dT a kvs ea=>
   cases (show u=Value.ref a from rx)
   obtain⟨_,_,xs,_,o,es,ep,h1,h2,_⟩:=(show ObjOk X.prog X.w H s.heap a (.dT kvs) from I.hok a _ ea)
   exact⟨_,kitx_dict,⟨o,h1,h2.1⟩,λz=>nomatch z⟩
  |
   @ins a C dx fs ea cl ha hn htk hm=>
   cases (show u=Value.ref a from rx)
   obtain⟨mA,O,_⟩:=CF I.hok ea
   obtain⟨od,J,_⟩:=O.look
   exact⟨_,kitx_own (cl.get _) cl.hd ha hn htk hm,J,λz=>nomatch z⟩
end
section
variable {X:Cx}
def fP:V->Option Value
 | .ref C=>some (.ref C)
 | .ty T=>some (.type T)
 | _=>none
theorem sZ {c:V}{u v:Value} (h:fP c=some v) (r:RelV c u):u=v:=by
 cases c with
 | ref C=>cases r;exact Option.some.inj h
 | ty T=>cases r;exact Option.some.inj h
 | _=>cases h
theorem p7:∀ {cs:List V}{us vs:List Value},cs.mapM fP=some vs->Vals cs us->us=vs
 |
  [],_,vs,h,.nil=>by
  have h':some ([]:List Value)=some vs:=h
  exact Option.some.inj h'
 |
  c :: cs,_,vs,h,.cons r rr=>by
  rw[List.mapM_cons] at h
  cases q:fP c with
  | none=>rw[q] at h;cases h
  |
   some v=>
   rw[q] at h
   cases q2:cs.mapM fP with
   | none=>rw[q2] at h;cases h
   |
    some vs'=>
    rw[q2] at h
    have h':some (v :: vs')=some vs:=h
    cases h'
    rw[sZ q r,p7 q2 rr]
theorem zJ:CallR X (.builtin "isinstance") (λxs H Q=>∃ x c t v b,xs=[x,c]/\TyX X.K H x t/\fP c=some v/\kitOne X.K t v=some b/\Q (.bl b) H):=by
 intro pins s σ H xs us Q I r h
 obtain⟨x,c,t,v,b,rfl,ty,hc,hk,q⟩:=h
 obtain⟨u,w',rfl,rx,rc⟩:=vD r
 obtain rfl:=sZ hc rc
 obtain⟨Hh,Z,p,hne⟩:=uV I rx ty
 exact kia_one Z I.kIn p hk hne λtk=>⟨.bl b,H,I.tok _,rfl,q⟩
end
end L2
namespace L2
open PySem PySem.Spec PyProof.Rows
theorem ObjOk.there {P:Program}{w:World}{H:Hp}{h:Heap}{a:Addr}{o:HO} (x:ObjOk P w H h a o):∃ u,h.get? a=some u:=by
 cases o with
 | lst xs=>obtain⟨_,_,_,_,e⟩:=x;exact⟨_,e⟩
 | tup xs=>obtain⟨_,_,_,ob,e,_⟩:=x;exact⟨_,e⟩
 | dK kvs=>obtain⟨_,_,_,_,o,_,_,e,_⟩:=x;exact⟨_,e⟩
 | dT kvs=>obtain⟨_,_,_,_,o,_,_,e,_⟩:=x;exact⟨_,e⟩
 | set S n=>obtain⟨o,_,_,_,e,_⟩:=x;exact⟨_,e⟩
 | ins C dx fs=>obtain⟨_,_,_,e,_⟩:=x;exact⟨_,e⟩
 | own y=>exact x
 | xd fs=>obtain⟨_,⟨_,_,_,e,_⟩,_⟩:=x;exact⟨_,e⟩
 | rng lo hi=>obtain⟨_,_,_,e⟩:=x;exact⟨_,e⟩
 | frz ob u=>obtain⟨e,_⟩:=x;exact⟨_,e⟩
 | tbl ps=>exact⟨_,show h.get? a=some _ from x⟩
 | met f y=>exact⟨_,show h.get? a=some _ from x⟩
 | ext φ=>obtain⟨_,e,_⟩:=x;exact e
structure Fly (P:Program) (w:World) (outer:List Env) (H:Hp) (h₀:Heap) (H':Hp) (ea:Addr) (cls:Value) (h:Heap) (B:Heap) (t:Addr):Prop where
 un:Un (frs outer) [] H H' h₀ h
 hok:HOk P w H' h
 fl:Heap.FlyingW B outer ea cls (.ref t) h
 old:∀ b o,h₀.get? b=some o->b ∉ frs outer->∃ o',B.get? b=some o'
 trk:∀ b o,H' b=some o->∃ o',B.get? b=some o'
def CX1 (P:Program) (w:World):CXT:=λouter H s E e s'=>∃ (ea t:Addr) (cls:Value) (H':Hp) (B:Heap),e=.ref ea/\s'.os=s.os/\AllBare s'.gens/\Fly P w outer H s.heap H' ea cls s'.heap B t/\E cls none H'
theorem sX {env:Env}{outer:List Env}{L:Addr} (h:env.frame=some L):frs (env :: outer)=L :: frs outer:=by
 unfold frs
 rw[List.filterMap_cons,h]
section
variable {P:Program}{w:World}{outer:List Env}{H H':Hp}{h₀ h h' B:Heap}{ea t L:Addr}{cls:Value}
theorem Fly.step {outer':List Env} (F:Fly P w outer H h₀ H' ea cls h B t) (fl':Heap.FlyingW B outer' ea cls (.ref t) h') (up:h.UpToSlots h'):
 Un (frs outer) [] H H' h₀ h'/\HOk P w H' h':=by
 have st:=F.fl.1
 have same:∀ b o,(∃ o',B.get? b=some o')->h.get? b=some o->h'.get? b=some o:=λb o ⟨o',e⟩ q=>by
  have z:=st b o' e
  rw[q] at z;cases z
  exact fl'.1 b _ e
 have frame:∀ b o,b ∈ frs outer->h.get? b=some o->∃ sl,h'.get? b=some { o with slots:=sl }:=λb o hb q=>by
  obtain⟨_,o',ho',hd⟩:=F.fl.2.2.1.mem hb
  rw[q] at ho';cases ho'
  exact up b o q hd
 refine⟨⟨λb o e n hb hx=>same b o (F.old b o e hb) (F.un.keep b o e n hb hx),λb o e n hb hx=>?_,F.un.free,λb o e hx=>?_,F.un.tups,F.un.frzs,F.un.tbls⟩,λa o e=>?_⟩
 ·obtain⟨sl,q⟩:=F.un.slot b o e n hb hx
  obtain⟨sl',q'⟩:=frame b _ hb q
  exact⟨sl',q'⟩
 ·obtain⟨o',q⟩:=F.un.there b o e hx
  by_cases hb:b ∈ frs outer
  ·obtain⟨sl,q'⟩:=frame b _ hb q
   exact⟨_,q'⟩
  ·exact⟨o',same b o' (F.old b o e hb) q⟩
 ·refine (F.hok a o e).stay (λb u hb q=>same b u ?_ q) (λ_ q=>q) λ_ _ q=>q
  rcases hb with z | z
  ·rw[z];exact F.trk a o e
  ·exact F.trk b _ z
end
structure Cx.Top (X:Cx):Prop where
 ex:X.ex=[]
 stk:X.stack=X.env :: X.outer
 fr:X.env.frame=some X.env.locals
section
variable {X:Cx}{pins:List (Addr×Obj)}{σ:St}{H:Hp}{s s':Shared}{E:XK}{e:Value}
theorem xt {A:Around}{E':Value->Shared->Prop} (T:X.Top) (hA:A.frames=some X.stack) (I:Inv X pins σ H s) (h:CX1 X.prog X.w X.stack H s E e s'):
 wpAny (model X.prog X.w) A (leaving X.env e) (λ_ s''=>CX1 X.prog X.w X.outer X.H₀ X.s₀ E e s'') E' s':=by
 obtain⟨ea,t,cls,H',B,rfl,os,bare,F,q⟩:=h
 have F0:=F
 rw[T.stk] at F
 have hf:=sX (outer:=X.outer) T.fr
 refine wpAny_leaves_onW (by rw[hA,T.stk]) T.fr F.fl λh'' fl'' up=>?_
 obtain⟨un2,hok2⟩:=F.step fl'' up
 have exn:∀ b,b ∉ X.ex:=λb z=>by rw[T.ex] at z;cases z
 have neL:∀ b o,X.s₀.heap.get? b=some o->b ≠ X.env.locals:=λb o e=>Nat.ne_of_lt (Nat.lt_of_lt_of_le (Heap.lt_size e) I.ok.above)
 have notin:∀ b o,X.s₀.heap.get? b=some o->b ∉ frs X.outer->b ∉ frs (X.env :: X.outer):=λb o e hb z=>by
  rw[hf] at z
  rcases List.mem_cons.mp z with z | z
  ·exact neL b o e z
  ·exact hb z
 refine⟨ea,t,cls,H',B,rfl,os.trans I.os,bare,⟨⟨λb o e n hb hx=>?_,λb o e n hb hx=>?_,λb o e n hx=>?_,λb o e hx=>?_,λb xs e=>un2.tups b xs (I.base.tups b xs e),λb o xs e=>un2.frzs b o xs (I.base.frzs b o xs e),λb ps e=>?_⟩,hok2,fl'',λb o e hb=>?_,F.trk⟩,q⟩
 ·exact un2.keep b o (I.base.keep b o e n hb (exn b)) (I.base.free b o e n (exn b)) (notin b o e hb) (by simp)
 ·obtain⟨sl,e1⟩:=I.base.slot b o e n hb (exn b)
  obtain⟨sl',e2⟩:=un2.slot b _ e1 (I.base.free b o e n (exn b)) (by rw[hf];exact List.mem_cons_of_mem _ hb) (by simp)
  exact⟨sl',e2⟩
 ·obtain⟨o',e1⟩:=I.base.there b o e (exn b)
  exact un2.free b o' e1 (I.base.free b o e n (exn b)) (by simp)
 ·obtain⟨o',e1⟩:=I.base.there b o e (exn b)
  exact un2.there b o' e1 (by simp)
 ·obtain⟨m1,e1⟩:=I.base.tbls b ps e
  obtain⟨m2,e2⟩:=un2.tbls b _ e1
  exact⟨m1++m2,by rw[e2,Array.append_assoc]⟩
 ·obtain⟨o',e1⟩:=I.base.there b o e (exn b)
  exact F.old b o' e1 (notin b o e hb)
theorem Ai {A:Around}{E':Value->Shared->Prop}{h':Heap}{ea:Addr}{cls:Value}{args:List Value} (T:X.Top) (hA:A.frames=some X.stack) (I:Inv X pins σ H s) (hx:Heap.MadeExcOf s.heap h' ea cls args) (q:E cls none H):
 wpAny (model X.prog X.w) A (leaving X.env (.ref ea)) (λ_ s''=>CX1 X.prog X.w X.outer X.H₀ X.s₀ E (.ref ea) s'') E' { s with heap:=h' }:=by
 have hf:=sX (outer:=X.outer) T.fr
 have stk:=I.stack
 rw[T.stk] at stk
 have hin:∀ env ∈ (X.env :: X.outer),∀ b,env.frame=some b->b ∈ frs (X.env :: X.outer):=λenv he b hb=>List.mem_filterMap.mpr ⟨env,he,hb⟩
 refine wpAny_leaves_madeW (base:=W.hideAll s.heap (frs (X.env :: X.outer))) (h:=s.heap) (by rw[hA,T.stk]) T.fr (λb o q=>W.of_hideAll _ q) (W.funFrames_hide stk hin) hx λh'' t fl tup tn up=>?_
 have inB:∀ b o,s.heap.get? b=some o->b ∉ frs (X.env :: X.outer)->(W.hideAll s.heap (frs (X.env :: X.outer))).get? b=some o:=λb o e hb=>W.hideAll_get _ e hb
 have free:∀ b ∈ frs (X.env :: X.outer),H b=none:=λb hb=>I.stkFree b (by rw[T.stk];exact hb)
 have up2:s.heap.UpToSlots h'':=(Heap.UpToSlots.of_keeps hx.keeps).trans up
 have exn:∀ b,b ∉ X.ex:=λb z=>by rw[T.ex] at z;cases z
 have neL:∀ b o,X.s₀.heap.get? b=some o->b ≠ X.env.locals:=λb o e=>Nat.ne_of_lt (Nat.lt_of_lt_of_le (Heap.lt_size e) I.ok.above)
 have notin:∀ b o,X.s₀.heap.get? b=some o->b ∉ frs X.outer->b ∉ frs (X.env :: X.outer):=λb o e hb z=>by
  rw[hf] at z
  rcases List.mem_cons.mp z with z | z
  ·exact neL b o e z
  ·exact hb z
 have trk:∀ b o,H b=some o->∃ o',(W.hideAll s.heap (frs (X.env :: X.outer))).get? b=some o':=λb o e=>by
  obtain⟨u,hu⟩:=(I.hok b o e).there
  exact⟨u,inB b u hu λz=>by rw[free b z] at e;cases e⟩
 refine⟨ea,t,cls,H,_,rfl,I.os,I.bare,⟨⟨λb o e n hb hx=>?_,λb o e n hb hx=>?_,λb o e n hx=>?_,λb o e hx=>?_,I.base.tups,I.base.frzs,I.base.tbls⟩,λa o e=>?_,fl,λb o e hb=>?_,trk⟩,q⟩
 ·exact fl.1 b o (inB b o (I.base.keep b o e n hb (exn b)) (notin b o e hb))
 ·obtain⟨sl,e1⟩:=I.base.slot b o e n hb (exn b)
  obtain⟨_,o',ho',hd⟩:=I.ok.funs.mem hb
  rw[e] at ho';cases ho'
  obtain⟨sl',e2⟩:=up2 b _ e1 hd
  exact⟨sl',e2⟩
 ·exact I.base.free b o e n (exn b)
 ·obtain⟨o',e1⟩:=I.base.there b o e (exn b)
  by_cases hb:b ∈ frs X.outer
  ·obtain⟨_,o2,ho2,hd⟩:=I.funs.mem hb
   rw[e1] at ho2;cases ho2
   obtain⟨sl',e2⟩:=up2 b _ e1 hd
   exact⟨_,e2⟩
  ·exact⟨o',fl.1 b o' (inB b o' e1 (notin b o e hb))⟩
 ·refine (I.hok a o e).stay (λb u hb q=>?_) (λ_ q=>q) λ_ _ q=>q
  refine fl.1 b u (inB b u q λz=>?_)
  rcases hb with y | y
  ·rw[y] at z;rw[free a z] at e;cases e
  ·rw[free b z] at y;cases y
 ·obtain⟨o',e1⟩:=I.base.there b o e (exn b)
  exact⟨o',inB b o' e1 (notin b o e hb)⟩
theorem tE {h6:Heap}{ea t:Addr}{C:Addr}{H':Hp}{B:Heap}{g':Shared} (T:X.Top) (I:Inv X pins σ H s) (F:Fly X.prog X.w X.stack H s.heap H' ea (.ref C) s'.heap B t) (os:s'.os=s.os) (bare:AllBare s'.gens)
 (fl6:Heap.FlyingW B X.stack ea (.ref C) (.ref t) h6) (up:s'.heap.UpToSlots h6):
 H' ea=none/\Inv X pins σ (upd H' ea (.ext (oh ea C))) { s' with heap:=h6 }:=by
 obtain⟨un2,hok2⟩:=F.step fl6 up
 obtain⟨oe,vs,he,hc,hd,_⟩:=fl6.first
 have hB:B.get? ea=none:=fl6.2.1
 have hn:H' ea=none:=by
  cases q:H' ea with
  | none=>rfl
  |
   some o=>
   obtain⟨o',z⟩:=F.trk ea o q
   rw[hB] at z;cases z
 have hnf:ea ∉ frs X.stack:=λz=>by
  obtain⟨_,o,ho,hdd⟩:=fl6.2.2.1.mem z
  rw[he] at ho;cases ho
  exact hdd vs hd
 have hs:s.heap.get? ea=none:=by
  cases q:s.heap.get? ea with
  | none=>rfl
  |
   some o=>
   obtain⟨o',z⟩:=F.old ea o q hnf
   rw[hB] at z;cases z
 have I5:Inv X pins σ H' { s' with heap:=h6 }:=I.call' (s':={ s' with heap:=h6 }) (ch:=[]) os un2 hok2 bare λb hb=>nomatch hb
 refine⟨hn,I5.track hn ?_ ?_ (λx c e z=>?_) (λp hp z=>?_) ⟨⟨oe,vs,he,hc,hd⟩,⟨oe,he⟩,λh1 h2 ⟨o1,v1,e1,r⟩ k=>⟨o1,v1,k o1 e1,r⟩⟩⟩
 ·cases q:X.s₀.heap.get? ea with
  | none=>rfl
  |
   some o=>
   obtain⟨o',z⟩:=I.base.there ea o q (by rw[T.ex];simp)
   rw[hs] at z;cases z
 ·intro z
  obtain⟨m,⟨o,es,ep,ho,hdd,_⟩,_⟩:=I.loc
  rw[<- z,hs] at ho;cases ho
 ·obtain⟨v,o,ho,_⟩:=I.cell x c e
  rw[z,hs] at ho;cases ho
 ·have:=(I.pin p hp).1
  rw[z,hs] at this;cases this
end
end L2
namespace L2
open PySem PySem.Spec PyProof.Rows
section
variable {P:Program}{w:World}{K:W.Frag}{mg:Str->Option Value}{base:Heap}{N:List Str}{qual:Str}{scope:Scope}{f:Addr}{cd:Value}{A:Around}{outer:List Env}{s:Shared}{H:Hp}{E:XK}
theorem vW:(er (CX1 P w) P w K mg base N qual scope f cd A outer s H E).Top:=⟨rfl,rfl,rfl⟩
theorem aE:rl (CX1 P w) (er (CX1 P w) P w K mg base N qual scope f cd A outer s H E) E:=λpins σ H s e s' I h=>xt vW I.ok.frames I h
theorem KC {X:Cx}:rl (CX1 P w) X E0:=λpins σ H s e s' I ⟨_,_,_,_,_,_,_,_,_,q⟩=>q.elim
theorem lK:PassesOwn (model P w) (er (CX1 P w) P w K mg base N qual scope f cd A outer s H E).A (er (CX1 P w) P w K mg base N qual scope f cd A outer s H E).env (er (CX1 P w) P w K mg base N qual scope f cd A outer s H E).xe:=PassesOwn.leaving
def Rz (X:Cx) (E:XK):Prop:=∀ (pins:List (Addr×Obj)) (σ:St) (H:Hp) (s:Shared) (h':Heap) (ea:Addr) (cls:Value) (args:List Value),Inv X pins σ H s->Heap.MadeExcOf s.heap h' ea cls args->E cls none H->X.xe (.ref ea) { s with heap:=h' }
theorem rz1:Rz (er (CX1 P w) P w K mg base N qual scope f cd A outer s H E) E:=λpins σ H s h' ea cls args I hx q=>Ai vW I.ok.frames I hx q
theorem Fun.okR {x qual:Str}{st:Stmt}{f:Addr}{fd:FuncData}{N ps:List Str}{k:Nat}{sp:Sp} (F:Fun K x qual st f fd) (S:FnScope N ps (av st)) (len:∀ vs H Q E,sp vs H Q E->vs.length=ps.length)
 (bn:∀ (cdv:Value) (A:Around) (outer:List Env) (s:Shared) (H:Hp) (vs:List V) (Q:VK) (E:XK),Room k (A.deeper (envOfC qual (av st) s.heap.objs.size f cdv))->sp vs H Q E->
  ∃ t,PSs (er (CX1 P w) P w K mg base N qual (av st) f cdv A outer s H E) (bu st) t/\t { nx:=λ_ H'=>Q .non H',rt:=Q } (dm N vs) H):FnOk P w K mg base (CX1 P w) (k + 1) f fd ps sp:=by
 obtain⟨oc,od,kV,doc,pm,an,cdv,ct,osl,rfl,lk,j'⟩:=F.ex
 exact J6 lk j' S len λA outer s H vs Q E hr hsp=>bn cdv A outer s H vs Q E hr hsp
end
abbrev eJ:List Value:=[.type "ValueError",.type "Exception",.type "BaseException",.type "object"]
theorem xF {K:W.Frag}{h:Heap}{C:Addr} (X:K.In h) (q:W.excIn K C eJ "ValueError.__new__"=true):
 ∃ bm N nm q' bs hdct sn sub ab col dd k0 k1 k2 k3 k5 mN,h.get? C=some (excClassObj nm q' C N bs bm hdct sn sub ab col dd k0 k1 k2 k3 k5 "ValueError.__new__")/\h.Ns N mN/\mN "__init__"=none/\OwnTail h eJ bm:=by
 unfold W.excIn at q
 split at q
 ·rename_i dd cd sl ho
  split at q
  ·rename_i C' bm k0 k1 k2 k3 n k5 hm hs
   simp only[Bool.and_eq_true,beq_iff_eq,Bool.not_eq_true'] at q
   obtain⟨⟨⟨⟨⟨rfl,rfl⟩,hdel⟩,ht⟩,hok⟩,hni⟩:=q
   obtain⟨nm,bs,mro,ns,qn,hd,sn,sub,ab,col,del⟩:=cd
   dsimp only at hm hdel hok hni
   subst hm hdel
   have hsl:sl=#[k0,k1,k2,k3,some (.builtin "ValueError.__new__"),k5]:=by
    obtain⟨l⟩:=sl
    simp only at hs
    rw[hs]
   subst hsl
   exact⟨bm,ns,nm,qn,bs,hd,sn,sub,ab,col,dd,k0,k1,k2,k3,k5,_,X _ _ ho,.of_isNs (W.isNs_of_in X hok),W.nsMap_none_of_in X hok hni,W.tail_of_in X ht⟩
  ·cases q
 ·cases q
section
variable {X:Cx}{x:Str}{C:Addr}{E:XK}{np cpos pos:Pos}{e₀:Expr}{es:List Expr}{ta:TA}
def GO (C:Addr) (E:XK) (ta:TA):TS:=λ_ σ H=>ta σ H λvs H1=>vs.length<=sizeLine/\E (.ref C) none H1
theorem A1 (hc:X.calm=true) (hR:Rz X E) (hg:Gl X x) (hm:X.mg x=some (.ref C)) (hq:W.excIn X.K C eJ "ValueError.__new__"=true) (ha:PA X (e₀ :: es) ta)
 (he:starEach (e₀ :: es) X.env=(false,eval e₀ X.env) :: starEach es X.env:=by rfl) (db:(backTo cpos (starEach es X.env)).any (·.1)=false:=by rfl) (hd:(x == ("__debug__" : Str))=false:=by decide):
 PS X (.Raise (some (.Call (.Name x np) (e₀ :: es) [] cpos)) none pos) (GO C E ta):=by
 intro pins s σ H D I h
 obtain⟨bm,N,nm,q',bs,hdct,sn,sub,ab,col,dd,k0,k1,k2,k3,k5,mN,hC,hN,hni,T⟩:=xF I.ok.mod.kin hq
 refine wpAny_Raise_call_subT (C:=C) (nm:=nm) (q:=q') (N:=N) (bs:=bs) (bm:=bm) (hdct:=hdct) (sn:=sn) (sub:=sub) (ab:=ab) (col:=col) (dd:=dd) (k0:=k0) (k1:=k1) (k2:=k2) (k3:=k3) (k5:=k5)
  PySem.F.excBase_ValueError (mN:=mN) (T.hasType PySem.F.excBase_ValueError.hasBase) (I.ok.hd hc) (by rw[he];show (false || (backTo cpos (starEach es X.env)).any (·.1))=false;rw[db];rfl) hni (mr I hg hm ⟨rfl,?_⟩ hd)
 have hA:=ha cpos pins s σ H _ I h
 rw[he] at hA ⊢
 refine Calls.evalArgs_plain (thn hA λus s2 ⟨vs,H2,I2,r2,hz,q2⟩=>⟨rfl,by rw[<- r2.length];exact hz,I2.bk _ _ hC,hN.keeps I2.bk,T.keeps I2.bk,λh' e hm'=>?_⟩)
 exact hR pins σ H2 s2 h' e _ _ I2 hm' q2
end
abbrev XS:=St->XK
abbrev TEx:=St->Hp->VK->XK->Prop
abbrev TSx:=Ends->XS->St->Hp->Prop
def XP (X:Cx) (pins:List (Addr×Obj)) (E:XS) (e:Value) (s':Shared):Prop:=∃ σ1 H1 s1,Inv X pins σ1 H1 s1/\CX1 X.prog X.w X.stack H1 s1 (E σ1) e s'
def PEx (X:Cx) (e:Expr) (t:TEx):Prop:=
 ∀ (pins:List (Addr×Obj)) (s:Shared) (σ:St) (H:Hp) (Q:VK) (E:XS),Inv X pins σ H s->t σ H Q (E σ)->wpAny (model X.prog X.w) X.A (eval e X.env) (EP X pins σ Q) (XP X pins E) s
def PSsx (X:Cx) (st:List Stmt) (t:TSx):Prop:=
 ∀ (pins:List (Addr×Obj)) (s:Shared) (σ:St) (H:Hp) (D:Ends) (E:XS),Inv X pins σ H s->t D E σ H->wpAny (model X.prog X.w) X.A (execs st X.env) (SP X pins D) (XP X pins E) s
section
variable {X:Cx}{st:Stmt}{rest:List Stmt}{t u:TSx}{e:Expr}{es:List Expr}{te:TEx}{pos p:Pos}{x:Str}{f:Addr}{fd:FuncData}{ps:List Str}{sp:Sp}{k:Nat}{ta:TA}{dvs:List V}{ds:List Value}
end
def ir (X:Cx) (ea:Addr):Cx:={ X with A:=X.A.mark (some (.ref ea)),calm:=false,xe:=λ_ _=>False }
section
variable {X:Cx}{pins:List (Addr×Obj)}{σ:St}{H:Hp}{s:Shared}{ea:Addr}
theorem Inv.suite (I:Inv X pins σ H s):Inv (ir X ea) pins σ H s:=
 ⟨⟨I.ok.mod,I.ok.kind,I.ok.glob,I.ok.blt,I.ok.above,I.ok.inj,I.ok.has,I.ok.cab,λz=>absurd z Bool.false_ne_true,I.ok.frames,I.ok.stk,I.ok.exf,I.ok.bs,I.ok.bsz,I.ok.noex,I.ok.exfs,I.ok.funs,I.ok.frf⟩,I.os,I.bare,I.base,I.loc,I.cell,I.free,I.freeC,I.pin,I.hok,I.len⟩
theorem Inv.unsuite (ok:X.Ok) (I:Inv (ir X ea) pins σ H s):Inv X pins σ H s:=
 ⟨ok,I.os,I.bare,I.base,I.loc,I.cell,I.free,I.freeC,I.pin,I.hok,I.len⟩
theorem yC {M:Model}{A:Around}{E:Value->Shared->Prop}{K:W.Frag}{C Ce:Addr}{o:Obj}{Q:Bool->Shared->Prop} (KX:K.In s.heap) (he:s.heap.get? ea=some o) (hc:o.cls=.ref Ce)
 (hty:W.typeIn K (.ref C)=some (.type "type")) (hcl:(W.clsIn K C).isSome=true) (hb:W.mroIn K C (.type "BaseException")=some true) (hm:W.mroIn K Ce (.ref C)=some true) (q:Q true s):
 wpAny M A (excMatches (.ref ea) (.ref C)) Q E s:=by
 obtain⟨h,g,d,tk,os⟩:=s
 have L0:=iS (M:=M) he hc
 have L1:=W.looks_typeIn (M:=M) KX hty
 have L2:=W.looks_mroIn (M:=M) KX hb
 have L3:=W.looks_mroIn (M:=M) KX hm
 have L4:W.Looks M h (isType (.ref C)) true:=by
  obtain⟨cd,j'⟩:=Option.isSome_iff_exists.mp hcl
  unfold W.clsIn at j'
  split at j'
  ·rename_i c' d' cd' sl' ho
   intro A' Q' E' s' k q
   unfold isType loadHead
   exact wpAny_bind (wpAny_loadPart (k _ _ (KX _ _ ho)) (wpAny_pure q))
  ·cases j'
 have LT:W.Looks M h (isInstance (.ref C) (.type "tuple")) false:=L1.andThen (W.Looks.of_pure tc_notTuple)
 have LE:W.Looks M h (isExcClass (.ref C)) true:=by
  unfold isExcClass
  exact L4.andThen L2
 unfold excMatches
 refine wpAny_bind (LT.at ?_)
 rw[if_neg Bool.false_ne_true]
 refine wpAny_bind (wpAny_pure ?_)
 dsimp only
 refine wpAny_bind ?_
 rw[List.forIn_cons]
 refine wpAny_bind (wpAny_bind (LE.at ?_))
 simp only[Bool.not_true,Bool.false_eq_true,if_false]
 refine wpAny_pure ?_
 dsimp only
 rw[List.forIn_nil]
 refine wpAny_pure ?_
 refine wpAny_bind (L0.at (wpAny_bind ?_))
 rw[List.forIn_cons]
 refine wpAny_bind (wpAny_bind (L3.at ?_))
 simp only[if_true]
 exact wpAny_pure (wpAny_pure (wpAny_pure q))
theorem Inv.unbind {i:Nat}{n:Str}{h':Heap}{tk:Nat}{m:Str->Option Value}{v:Option Value} (I:Inv X pins σ H s) (hN:X.N.Nodup) (hi:X.N[i]?=some n) (hl:X.env.kindOf n=some .local)
 (hm:∀ (i:Nat) (x:Str) (v:V),X.N[i]?=some x->σ[i]?=some (some v)->Vis X.env.scope x->∃ u,RelV v u/\wd X.env s.heap m x u) (hn:s.heap.Ns X.env.locals m)
 (hn':h'.Ns X.env.locals (λx=>if x=n then v else m x)) (hs:Heap.SameBut X.env.locals s.heap h'):Inv X pins (σ.set i none) H { s with heap:=h',toks:=tk }:=by
 have cne:=I.cne
 have neL:∀ b o,X.s₀.heap.get? b=some o->b ≠ X.env.locals:=λb o e=>Nat.ne_of_lt (Nat.lt_of_lt_of_le (Heap.lt_size e) I.ok.above)
 refine⟨I.ok,I.os,I.bare,⟨λb o e n hb hx=>?_,λb o e n hb hx=>?_,I.base.free,λb o e hx=>?_,I.base.tups,I.base.frzs,I.base.tbls⟩,⟨_,hn',λj y v' e1 e2 e3=>?_⟩,λy c e=>?_,I.free,I.freeC,λp hp=>?_,λb ob e=>?_,by simpa using I.len⟩
 ·exact (hs.2 b (neL b o e)).trans (I.base.keep b o e n hb hx)
 ·obtain⟨sl,e1⟩:=I.base.slot b o e n hb hx
  exact⟨sl,(hs.2 b (neL b o e)).trans e1⟩
 ·obtain⟨o',e1⟩:=I.base.there b o e hx
  exact⟨o',(hs.2 b (neL b o e)).trans e1⟩
 ·by_cases hj:j=i
  ·subst hj
   have hiσ:j < σ.length:=by rw[I.len];exact (List.getElem?_eq_some_iff.mp hi).1
   rw[List.getElem?_set_self hiσ] at e2
   cases e2
  ·rw[List.getElem?_set_ne (Ne.symm hj)] at e2
   obtain⟨u',r',q⟩:=hm j y v' e1 e2 e3
   refine⟨u',r',?_⟩
   rcases q with ⟨k,e⟩ | ⟨k,c,e,z⟩
   ·refine .inl ⟨k,?_⟩
    have:y ≠ n:=λe=>hj (nq hN e1 (e ▸ hi))
    simp [this,e]
   ·exact .inr ⟨k,c,e,z.sameBut hs (cne y c e)⟩
 ·obtain⟨w',z⟩:=I.cell y c e
  exact⟨w',z.sameBut hs (cne y c e)⟩
 ·obtain⟨e,n,ne,nf,d⟩:=I.pin p hp
  exact⟨(hs.2 p.1 ne).trans e,n,ne,nf,d⟩
 ·refine (I.hok b ob e).stay (λc w' hc q=>(hs.2 c ?_).trans q) (λ_ q=>q) λ_ _ q=>q
  rintro rfl
  rcases hc with z | hc
  ·rw[<- z,I.free] at e;cases e
  ·rw[I.free] at hc;cases hc
theorem An {A:Around}{E:Value->Shared->Prop}{x:Str}{u:Value}{pos:Pos}{Q:Value->Shared->Prop} (I:Inv X pins σ H s) (hg:Gl X x) (hm:X.mg x=some u) (h:Q u s)
 (hd:(x == ("__debug__" : Str))=false:=by decide):wpAny (model X.prog X.w) A (eval (.Name x pos) X.env) Q E s:=
 Calls.Name_function_global I.ok.kind hg (Calls.loadGlobal_global (by rw[I.ok.glob];exact I.mod.glob.keeps I.bk) hm h) hd
end
structure XHand (K:W.Frag) (C:Addr):Prop where
 ty:W.typeIn K (.ref C)=some (.type "type")
 cls:(W.clsIn K C).isSome=true
 mb:W.mroIn K C (.type "BaseException")=some true
def By (i:Nat) (D:Ends):Ends:={ nx:=λσ H=>D.nx (σ.set i none) H,rt:=D.rt,bk:=λσ H=>D.bk (σ.set i none) H,ct:=λσ H=>D.ct (σ.set i none) H }
def tTry (K:W.Frag) (C:Addr) (i:Nat) (tb:TSx) (ts:TS):TS:=λD σ H=>
 tb D (λσ1 cls _ H1=>∃ Ce,cls=.ref Ce/\W.mroIn K Ce (.ref C)=some true/\∀ ea,H1 ea=none->ts (By i D) (σ1.set i (some (.ref ea))) (upd H1 ea (.ext (oh ea Ce)))) σ H
section
variable {X:Cx}{x n:Str}{C:Addr}{i:Nat}{body suite:List Stmt}{b₀:Stmt}{tb:TSx}{ts:TS}{np hpos pos:Pos}
theorem Hs (T:X.Top) (hN:X.N.Nodup) (hi:X.N[i]?=some n) (hl:X.env.kindOf n=some .local) (hg:Gl X x) (hm:X.mg x=some (.ref C)) (hh:XHand X.K C) (hb:PSsx X body tb) (hs:∀ ea,PSs (ir X ea) (b₀ :: suite) ts)
 (hd:(x == ("__debug__" : Str))=false:=by decide):PS X (.Try body [.ExceptHandler (some (.Name x np)) (some n) (b₀ :: suite) hpos] [] [] pos) (tTry X.K C i tb ts):=by
 intro pins s σ H D I h
 refine wpAny_Try_except (wpAny_mono (hb pins s σ H D _ I h) (λf s1 q=>?_) λe s1 hx=>?_)
 ·cases f with
  | next=>exact wpAny_execs_nil q
  | ret v=>exact q
  | brk=>exact q
  | cont=>exact q
 ·obtain⟨σ1,H1,s0,I1,ea,t,cls,H',B,rfl,os,bare,F,Ce,rfl,hme,q⟩:=hx
  have F1:=F.fl
  rw[T.stk] at F1
  have le:X.A.frames=some (X.env :: X.outer):=by rw[I1.ok.frames,T.stk]
  refine wpAny_looks_onW le T.fr F1 λh4 held4 up4=>?_
  refine wpAny_landsW held4 λh5 fl5 up5=>?_
  have fl5':=fl5
  rw[<- T.stk] at fl5'
  obtain⟨hn5,I5⟩:=tE (g':=s1) T I1 F os bare fl5' (up4.trans up5)
  obtain⟨o5,he5,hc5⟩:=fl5.there
  refine wpAny_handleBy_cons (codeAny_handlers_test (An I5 hg hm ?_ hd)) (by intro q;cases q)
  refine yC I5.kIn he5 hc5 hh.ty hh.cls hh.mb hme ?_
  refine codeAny_handlers_suite_as ?_
  refine lands_againW fl5 λh6 fl6 up6=>?_
  have fl6':=fl6
  rw[<- T.stk] at fl6'
  obtain⟨hn6,I6⟩:=tE (g':=s1) T I1 F os bare fl6' ((up4.trans up5).trans up6)
  refine gu (v:=.ref ea) I6 hN hi (.inl hl) rfl (λs7 I7=>?_) (.inr hl)
  refine wpAny_mono (hs ea pins s7 _ _ (By i D) I7.suite (q ea hn6)) (λf s8 h8=>?_) λ_ _ z=>False.elim z
  have go:∀ {σ8:St}{H8:Hp},Inv (ir X ea) pins σ8 H8 s8->(∀ s9,Inv X pins (σ8.set i none) H8 s9->SP X pins D f s9)->
   wpAny (model X.prog X.w) X.A (do bindName X.env n .none;unbindBehindTheSuite X.env n hpos) (λ_ s9=>SP X pins D f s9) X.xe s8:=λ{σ8 H8} I8' k=>by
   have I8:=I8'.unsuite I.ok
   obtain⟨m,hn,hm⟩:=I8.loc
   exact wpAny_nameGoes_keeps hl hn (by rw[I8.ok.kind];rfl) λh' v hn' hs'=>k _ (I8.unbind hN hi hl hm hn hn' hs')
  cases f with
  | next=>obtain⟨σ8,H8,I8,q8⟩:=h8;exact go I8 λs9 I9=>⟨_,_,I9,q8⟩
  | brk=>obtain⟨σ8,H8,I8,q8⟩:=h8;exact go I8 λs9 I9=>⟨_,_,I9,q8⟩
  | cont=>obtain⟨σ8,H8,I8,q8⟩:=h8;exact go I8 λs9 I9=>⟨_,_,I9,q8⟩
  | ret u=>obtain⟨v,σ8,H8,I8,r8,q8⟩:=h8;exact go I8 λs9 I9=>⟨v,_,_,I9,r8,q8⟩
end
end L2
namespace L2
open PySem PySem.Spec PyProof.Rows
mutual
inductive Rep (K:W.Frag) (H:Hp):V->PyData->Prop where
 | non:Rep K H .non .none
 | bl (b:Bool):Rep K H (.bl b) (.bool b)
 | int (i:Int):Rep K H (.int i) (.int i)
 | str (x:Str):Rep K H (.str x) (.str x)
 | tup {a:Addr}{xs:List V}{ds:List PyData} (h:SqT K H a xs) (r:Reps K H xs ds):Rep K H (.ref a) (.tuple ds)
 | lst {a:Addr}{xs:List V}{ds:List PyData} (h:SqL K H a xs) (r:Reps K H xs ds):Rep K H (.ref a) (.list ds)
inductive Reps (K:W.Frag) (H:Hp):List V->List PyData->Prop where
 | nil:Reps K H [] []
 | cons {x:V}{d:PyData}{xs:List V}{ds:List PyData} (r:Rep K H x d) (rr:Reps K H xs ds):Reps K H (x :: xs) (d :: ds)
end
section
variable {X:Cx}{pins:List (Addr×Obj)}{σ:St}{H H':Hp}{s:Shared}{K:W.Frag}
theorem Rep.reads (I:Inv X pins σ H s) {v:V}{d:PyData}{u:Value} (r:Rep X.K H v d) (q:RelV v u):∃ as,Reads s.heap u d as:=
 Rep.rec (motive_1:=λv d _=>∀ u,RelV v u->∃ as,Reads s.heap u d as) (motive_2:=λvs ds _=>∀ us,Vals vs us->∃ as,ReadsAll s.heap us ds as)
  (λu r=>by cases r;exact⟨_,.none⟩) (λb u r=>by cases r;exact⟨_,.bool b⟩) (λi u r=>by obtain⟨t,rfl⟩:=r;exact⟨_,.int i t⟩) (λx u r=>by obtain⟨t,rfl⟩:=r;exact⟨_,.str x t⟩)
  (λh _ ih u r=>by
   cases r
   obtain⟨its,rv,⟨o,e,c,n,d⟩,_⟩:=I.tuple h
   obtain⟨as,q⟩:=ih _ rv
   exact⟨as,.tuple e c d (by simpa using q)⟩)
  (λh _ ih u r=>by
   cases r
   obtain⟨its,rv,⟨o,n,e,c,_,d⟩,_⟩:=I.list h
   obtain⟨as,q⟩:=ih _ rv
   exact⟨_,.list e c d (by simpa using q)⟩)
  (λus r=>by cases r;exact⟨_,.nil⟩)
  (λ_ _ a b us q=>by
   cases q with
   |
    cons q1 q2=>
    obtain⟨as,h1⟩:=a _ q1
    obtain⟨bs,h2⟩:=b _ q2
    exact⟨_,.cons h1 h2⟩) r u q
end
section
variable {X:Cx}
def vy (K:W.Frag):R2:=λx y H Q=>∃ dx dy,Rep K H x dx/\Rep K H y dy/\SeqAt.shaped dx=true/\SeqAt.shaped dy=true/\Q (.bl (PyData.eqv dx dy)) H
def vb (K:W.Frag):R2:=λx y H Q=>∃ dx dy,Rep K H x dx/\Rep K H y dy/\SeqAt.shaped dx=true/\SeqAt.shaped dy=true/\Q (.bl (!PyData.eqv dx dy)) H
theorem Iu (hu:X.A.units + 64 < cLine):OpR X (compareOp .Eq) (vy X.K):=by
 intro pins s σ H x y v u Q I rx ry h
 obtain⟨dx,dy,r1,r2,h1,h2,q⟩:=h
 obtain⟨as,q1⟩:=r1.reads I rx
 obtain⟨bs,q2⟩:=r2.reads I ry
 exact SeqAt.compareEq_shaped q1 q2 h1 h2 hu (nC I q rfl)
theorem Ir (hu:X.A.units + 64 < cLine):OpR X (compareOp .NotEq) (vb X.K):=by
 intro pins s σ H x y v u Q I rx ry h
 obtain⟨dx,dy,r1,r2,h1,h2,q⟩:=h
 obtain⟨as,q1⟩:=r1.reads I rx
 obtain⟨bs,q2⟩:=r2.reads I ry
 exact SeqAt.compareNe_shaped q1 q2 h1 h2 hu (nC I q rfl)
open PySem.Builtin.Int (intBits)
def CDivB (i j:Int):Prop:=j ≠ 0/\intBits j<=8000
def BE (i j:Int):Prop:=intBits i<=100000/\intBits j<=100000
theorem iN:OpR X (binaryOp .FloorDiv) (rI CDivB λi j=>.int (i.fdiv j)):=opI λi j _ _ _ _ _ hc q=>floordiv_int hc.1 q (.inl (PyProof.noPylong_of_log2 (by
 have h:=hc.2
 have h0:=hc.1
 unfold intBits at h
 have hb:(j == 0)=false:=by simpa using h0
 rw[hb] at h
 simp only[Bool.false_eq_true,if_false] at h
 omega)))
theorem Dv:OpR X (binaryOp .Mult) (rI BE λi j=>.int (i * j)):=opI λi j _ _ _ _ _ hc q=>mul_int q (PySem.IntMulOk.of_le hc.1 hc.2 (by decide))
theorem yo (bs:List Bool):((List.range bs.length).all λi=>bs.getD i false)=bs.all id:=by
 rw[Bool.eq_iff_iff,List.all_eq_true,List.all_eq_true]
 constructor
 ·intro h x hx
  obtain⟨i,hi,rfl⟩:=List.mem_iff_getElem.mp hx
  have:=h i (List.mem_range.mpr hi)
  simpa [List.getD_eq_getElem?_getD,hi] using this
 ·intro h i hi
  have hi':=List.mem_range.mp hi
  have:=h bs[i] (List.getElem_mem hi')
  simpa [List.getD_eq_getElem?_getD,hi'] using this
theorem ze (hc:X.calm=true):CallR X (.builtin "all") (λxs H Q=>∃ (a:Addr) (bs:List Bool),xs=[.ref a]/\SqL X.K H a (bs.map V.bl)/\Q (.bl (bs.all id)) H):=by
 intro pins s σ H xs us Q I r h
 obtain⟨a,bs,rfl,hq,q⟩:=h
 obtain⟨u,rfl,ru⟩:=hE r
 cases ru
 obtain⟨its,rv,p,hz⟩:=I.list hq
 have hl:=rv.length
 rw[List.length_map] at hl
 have hlt:a < s.heap.objs.size:=by obtain⟨o,n,e,_⟩:=p;exact Heap.lt_size e
 refine call_all_walk (wpAny_pyIter_list p.isList ?_)
 refine⟨s.heap.objs.size,_,_,_,_,_,λi=>bs.getD i false,rfl,Walks.list (A:=X.A.in1) (I.ok.hd hc) s.heap.objs.size a (Nat.ne_of_lt hlt) its.toArray,⟨⟨_,Heap.get?_push_size _ rfl,rfl,rfl⟩,(p.keeps λb o e=>Heap.get?_push_of_some _ e).isList⟩,λi v s' Q' E' hP hQ=>?_,λh' tk hk=>?_⟩
 ·have hP':its[i]?=some v:=by simpa using hP
  have hi:i < bs.length:=by rw[hl];exact (List.getElem?_eq_some_iff.mp hP').1
  have hb:(bs.map V.bl)[i]?=some (V.bl bs[i]):=by simp [hi]
  obtain⟨u,hu,ru⟩:=rv.get hb
  rw[hP'] at hu
  cases hu
  cases ru
  refine wpAny_truthy_bool ?_
  have e:bs.getD i false=bs[i]:=by simp [List.getD_eq_getElem?_getD,hi]
  show Q' bs[i] s'
  rw[<- e]
  exact hQ
 ·have e1:its.toArray.size=bs.length:=by rw[List.size_toArray,hl]
  rw[e1,yo]
  have hn:H s.heap.objs.size=none:=I.fresh
  have I1:Inv X pins σ H { s with heap:=s.heap.push { cls:=.type "list_iterator",dict:=none,data:=.fields #[.ref a,rawInt 0] } }:=I.kept (t':=s.toks) λb o e=>Heap.get?_push_of_some _ e
  refine⟨.bl _,H,?_,rfl,q⟩
  refine I.kept (t':=tk) λb o e=>?_
  have hne:b ≠ s.heap.objs.size:=Nat.ne_of_lt (Heap.lt_size e)
  exact hk b o (by simpa using hne) (Heap.get?_push_of_some _ e)
end
end L2
namespace L2
open PySem PySem.Spec PyProof.Rows
structure Def (K:W.Frag) (mg:Str->Option Value) (x:Str) (st:Stmt):Prop where
 ex:∃ f fd,Fun K x x st f fd/\mg x=some (.ref f)
theorem aW {K:W.Frag}{h:Heap}{mg:Str->Option Value}{x:Str}{st:Stmt}{f:Addr}{oc:Value}{od an:Option Addr}{osl:Array (Option Value)}{kV doc pm cdv ct:Value} (X:K.In h) (G:h.Ns mainGlobals mg)
 (a:W.nsIn K mainGlobals x=some (some (.ref f))) (l:K.lookup f=some ⟨oc,od,.func (W.fnOf x x (cK st) (bu st) (av st) .none kV doc pm an cdv ct),osl⟩)
 (c:W.codeIn K cdv x=true) (k:W.keepIn K (.ref f)=true):Def K mg x st:=⟨f,_,EV l c k,W.mg_of X G a⟩
theorem Fun.look {K:W.Frag}{x qual:Str}{st:Stmt}{f:Addr}{fd:FuncData} (F:Fun K x qual st f fd):∃ oc od osl,K.lookup f=some ⟨oc,od,.func fd,osl⟩:=by
 obtain⟨oc,od,kV,doc,pm,an,cdv,ct,osl,rfl,lk,j'⟩:=F.ex
 exact⟨oc,od,osl,lk⟩
structure Callee (P:Program) (w:World) (K:W.Frag) (mg:Str->Option Value) (base:Heap) (x:Str) (k:Nat) (ps:List Str) (sp:Sp):Prop where
 ex:∃ f fd,FnOk P w K mg base (CX1 P w) k f fd ps sp/\mg x=some (.ref f)/\W.keepIn K (.ref f)=true/\Binds K fd ps []/\∃ oc od osl,K.lookup f=some ⟨oc,od,.func fd,osl⟩
section
variable {P:Program}{w:World}{K:W.Frag}{mg:Str->Option Value}{base:Heap}{x:Str}{st:Stmt}{k:Nat}{ps N:List Str}{sp:Sp}
theorem Callee.imp {sp':Sp} (C:Callee P w K mg base x k ps sp) (h:∀ vs H Q E,sp' vs H Q E->sp vs H Q E):Callee P w K mg base x k ps sp':=by
 obtain⟨f,fd,F,r⟩:=C.ex
 exact⟨f,fd,F.imp h,r⟩
theorem Def.okR (D:Def K mg x st) (S:FnScope N ps (av st))
 (hb:∀ (kV doc pm:Value) (an:Option Addr) (cdv ct:Value) (us:List Value),us.length=ps.length->bindArgs (W.fnOf x x (cK st) (bu st) (av st) .none kV doc pm an cdv ct) ⟨us,[]⟩=pure (ps.zip us))
 (len:∀ vs H Q E,sp vs H Q E->vs.length=ps.length)
 (bn:∀ (f:Addr) (cdv:Value) (A:Around) (outer:List Env) (s:Shared) (H:Hp) (vs:List V) (Q:VK) (E:XK),Room k (A.deeper (envOfC x (av st) s.heap.objs.size f cdv))->sp vs H Q E->
  ∃ t,PSs (er (CX1 P w) P w K mg base N x (av st) f cdv A outer s H E) (bu st) t/\t { nx:=λ_ H'=>Q .non H',rt:=Q } (dm N vs) H):Callee P w K mg base x (k + 1) ps sp:=by
 obtain⟨f,fd,F,m⟩:=D.ex
 exact⟨f,fd,F.okR S len (bn f),m,F.kp,F.binds hb,F.look⟩
end
section
variable {X:Cx}{x:Str}{p pos:Pos}{e:Expr}{es:List Expr}{ta:TA}{k:Nat}{ps:List Str}{sp:Sp}{E:XK}
end
section
variable {X:Cx}{K:W.Frag}{tg l:Expr}{tl:TE}
theorem allK (h:X.K=K) (hc:X.calm=true):CallR X (.builtin "all") (λxs H Q=>∃ (a:Addr) (bs:List Bool),xs=[.ref a]/\SqL K H a (bs.map V.bl)/\Q (.bl (bs.all id)) H):=by subst h;exact ze hc
theorem gm (h:X.K=K) (hu:X.A.units + 64 < cLine):OpR X (compareOp .Eq) (vy K):=by subst h;exact Iu hu
theorem vm (h:X.K=K) (hu:X.A.units + 64 < cLine):OpR X (compareOp .NotEq) (vb K):=by subst h;exact Ir hu
theorem inK (h:X.K=K):OpR X (compareOp .In) (rIn K false):=by subst h;exact yi
theorem G4 (h:X.K=K):OpR X (compareOp .NotIn) (rIn K true):=by subst h;exact tM
end
end L2
namespace L2
open PySem PySem.Spec PyProof.Rows
section
variable {X:Cx}
theorem FX {im al tg:Expr}{ifs:List Expr}{scope:Scope}{pos:Pos}{wi:TI}{g:TG}{tc:TT}{te:TE}{N:List Str}{sub:List (Option Nat)}{iT:Nat}{xT:Str}{px spos:Pos}
 (hc:X.calm=true) (hN:X.N.Nodup) (hix:X.N[iT]?=some xT) (hxl:Loc X.env.scope xT) (hi:PI X tg al wi)
 (hk:scope.kind=.function) (hnc:∀ x ∈ scope.names,x.2 ≠ .cell) (bi:∀ x ∈ scope.names,x.2=.local->scope.names.lookup x.1=some .local)
 (le:∀ x ∈ scope.names,x.2=.free->X.env.kindOf x.1=some .cell\/X.env.kindOf x.1=some .free)
 (hsl:sub.length=N.length) (ge:∀ (j i:Nat) (x:Str),sub[j]?=some (some i)->N[j]?=some x->X.N[i]?=some x/\scope.names.lookup x=some .free)
 (hg:∀ cl C s₂ H fp,PG (bc X N scope cl C s₂ H fp) tg g) (ht:∀ cl C s₂ H fp,PTs (bc X N scope cl C s₂ H fp) ifs tc) (he:∀ cl C s₂ H fp,PE (bc X N scope cl C s₂ H fp) im te)
 (hsw:swapsWith (.ListComp im [⟨tg,al,ifs,0⟩] scope pos) (some (.Name xT px)) spos.line X.env=pure true)
 (hs:∀ x,foldedSetIterable al X.env x=pure x:=by intro _;rfl) (hf:X.fn xT=true\/X.env.scope.names.lookup xT=some .local:=by first | exact .inl rfl | exact .inr rfl | assumption):
 PS X (.Assign [.Name xT px] (.ListComp im [⟨tg,al,ifs,0⟩] scope pos) spos) (rX (j0 wi sub g tc te) (nU iT)):=by
 intro pins s σ H D0 I h
 obtain⟨cl,hclos,hcl,hclf⟩:=kS (env:=X.env) (scope:=scope) λx hx hf=>I.ok.has x.1 (le x hx hf)
 rw[exec_Assign_Name_used _ _ _ _ hsw]
 refine wpAny_bind (wpAny_standAt (wpAny_bind ?_))
 show wpAny _ X.A (do let _ <- comprehension (.ListComp im [⟨tg,al,ifs,0⟩] scope pos) scope X.env _ (newList []) false (eval al X.env) (some (assign (.Name xT px) X.env))) _ _ s
 refine wpAny_bind (wpAny_mono (wpAny_comprehension_free (use:=some (assign (.Name xT px) X.env)) (Q:=λ_ s'=>SP X pins D0 .next s') rfl hs hclos hk bi ?_) (λ_ s' hq=>wpAny_pure (wpAny_pure hq)) λ_ _ e=>e)
 show wpAny _ _ (eval al X.env) _ _ _
 refine thn (hi pins s σ H _ I h) λv s1 h1=>thn h1 λitv s2 h2=>?_
 obtain⟨it,fp,tn,J,H2,e,I2,T,st2,f2,W,⟨m0,w0⟩,turn⟩:=h2
 subst e
 refine wpAny_newObj_type (wpAny_newFunctionEnv hnc (by intro y hy;simp at hy) (λh₁ hns₁ hsb₁=>?_) hk)
 dsimp only at hns₁ hsb₁ ⊢
 generalize hH2:s2.heap.push { cls:=.type "list",dict:=none,data:=.seq ([]:List Value).toArray }=G2 at hns₁ hsb₁ ⊢
 have hC:G2.objs.size=s2.heap.objs.size + 1:=by rw[<- hH2,Heap.size_push]
 have hDC:s2.heap.objs.size ≠ G2.objs.size:=by omega
 have below:∀ b,b < s2.heap.objs.size->b ≠ G2.objs.size/\b ≠ s2.heap.objs.size:=λb hb=>⟨by omega,by omega⟩
 have old:∀ b o,s2.heap.get? b=some o->h₁.get? b=some o:=λb o e=>hsb₁.extBut b o (below b (Heap.lt_size e)).1 (Heap.get?_push_of_some _ (hH2 ▸ Heap.get?_push_of_some _ e))
 have hD₁:h₁.get? s2.heap.objs.size=some { cls:=.type "list",dict:=none,data:=.seq ([]:List Value).toArray }:=hsb₁.extBut _ _ hDC (Heap.get?_push_of_some _ (hH2 ▸ Heap.get?_push_size _ rfl))
 have fresh:∀ a,s2.heap.objs.size<=a->s2.heap.get? a=none:=λa ha=>Heap.get?_none_of_le ha
 have cellOld:∀ x c,cl.lookup x=some c->c < s2.heap.objs.size:=λx c e=>by
  obtain⟨v,z⟩:=I2.cell x c (hcl x c e)
  exact z.lt
 have fpOld:∀ b ∈ fp,b < s2.heap.objs.size:=λb hb=>by
  obtain⟨o,e,_⟩:=T.obj _ _ st2 b hb
  exact Heap.lt_size e
 let Y:Cx:=bc X N scope cl G2.objs.size s2 H2 fp
 have okY:Y.Ok
  := by
  refine⟨I2.ok.mod,?_,I2.ok.glob,I2.ok.blt,?_,λx y c e1 e2=>I2.ok.inj x y c (hcl x c e1) (hcl y c e2),λx hx=>?_,λx c hfn _=>absurd hfn Bool.false_ne_true,I2.ok.hd,I2.ok.frames,.inl rfl,
   λb hb=>⟨?_,λx c e z=>?_⟩,I2.bs,Nat.le_trans I2.ok.bsz I2.sz,λb o e hb=>?_,λb hb hf=>?_,I2.stack,I2.stkFree⟩
  ·show (relabel scope X.env).kind=.function
   exact hk
  ·show s2.heap.objs.size<=G2.objs.size
   omega
  ·have hx':(
    relabel scope X.env).names.lookup x=some .cell\/(relabel scope X.env).names.lookup x=some .free:=hx
   have:∃ k,
    (x,k) ∈ scope.names/\k=.free:=by
    have gen:∀ (names:List (Str×NameKind)),(∀ y ∈ names,y.2 ≠ .cell)->∀ kk,(kk=NameKind.cell\/kk=NameKind.free)->(names.map λ(n,k)=>if (k == NameKind.free && X.env.scope.kind == .function && X.env.kindOf n == some .cell) then (n,NameKind.cell) else (n,k)).lookup x=some kk->∃ k,(x,k) ∈ names/\k=.free:=by
     intro names
     induction names with
     | nil=>intro _ kk _ e;simp at e
     |
      cons y r ih=>
      intro hn kk hkk e
      obtain⟨n,k⟩:=y
      rw[List.map_cons,List.lookup_cons] at e
      by_cases hkf:k=.free
      ·subst hkf
       by_cases hxn:x=n
       ·exact⟨.free,by rw[hxn];exact List.mem_cons_self,rfl⟩
       ·have hb:(x == (if (NameKind.free == NameKind.free && X.env.scope.kind == .function && X.env.kindOf n == some .cell)=true then (n,NameKind.cell) else (n,NameKind.free)).1)=false:=by
         split <;> exact beq_eq_false_iff_ne.mpr hxn
        rw[hb] at e
        obtain⟨k',m,q⟩:=ih (λz hz=>hn z (List.mem_cons_of_mem _ hz)) kk hkk e
        exact⟨k',List.mem_cons_of_mem _ m,q⟩
      ·have hb0:(k == NameKind.free && X.env.scope.kind == .function && X.env.kindOf n == some .cell)=false:=by
        have:(k == NameKind.free)=false:=by simpa using hkf
        rw[this];rfl
       rw[hb0] at e
       simp only[Bool.false_eq_true,if_false] at e
       cases q:x == n with
       |
        true=>
        rw[q] at e
        have e':k=kk:=Option.some.inj e
        subst e'
        rcases hkk with z | z
        ·exact absurd z (hn (n,k) List.mem_cons_self)
        ·exact absurd z hkf
       |
        false=>
        rw[q] at e
        obtain⟨k',m,q⟩:=ih (λz hz=>hn z (List.mem_cons_of_mem _ hz)) kk hkk e
        exact⟨k',List.mem_cons_of_mem _ m,q⟩
    rcases hx' with z | z
    ·exact gen scope.names hnc _ (.inl rfl) z
    ·exact gen scope.names hnc _ (.inr rfl) z
   obtain⟨k,m,q⟩:=this
   exact hclf (x,k) m q
  ·show b ≠ G2.objs.size
   exact (below b (fpOld b hb)).1
  ·exact (f2 b hb).2.2.2.2.1 x c (hcl x c e) z
  ·rcases (f2 b hb).2.2.2.1 with z | z
   ·exact I2.ok.noex b o e z
   ·exact absurd (Nat.lt_of_lt_of_le (Heap.lt_size e) (Nat.le_trans I2.ok.bsz z)) (Nat.lt_irrefl _)
  ·have hf':b ∈ frs X.stack:=hf
   rcases List.mem_cons.mp (I2.stkSub b hf') with z | z
   ·exact (f2 b hb).2.1 z
   ·exact (f2 b hb).2.2.1 z
 have startLoc
  : ∃ m,h₁.Ns G2.objs.size m/\∀ (i:Nat) (x:Str) (v:V),N[i]?=some x->(dj sub σ)[i]?=some (some v)->Vis (relabel scope X.env) x->∃ u,RelV v u/\wd Y.env h₁ m x u:=by
  refine⟨_,hns₁,λj x v e1 e2 e3=>?_⟩
  unfold dj at e2
  rw[List.getElem?_map] at e2
  cases q:sub[j]? with
  | none=>rw[q] at e2;cases e2
  |
   some o=>
   rw[q] at e2
   cases o with
   | none=>cases e2
   |
    some i=>
    obtain⟨hNi,hfree⟩:=ge j i x q e1
    have e2':(σ[i]?).bind id=some v:=Option.some.inj e2
    have e2'':σ[i]?=some (some v):=by
     cases z:σ[i]? with
     | none=>rw[z] at e2';cases e2'
     | some y=>rw[z] at e2';rw[show y=some v from e2']
    obtain⟨m2,hn2,hl2⟩:=I2.loc
    have hkx:=le (x,.free) (PySem.mem_of_lookup hfree) rfl
    obtain⟨u,r,l⟩:=hl2 i x v hNi e2'' (by rcases hkx with z | z;exact .inr (.inl z);exact .inr (.inr z))
    refine⟨u,r,.inr ⟨?_,?_⟩⟩
    ·rcases e3
      with z | z | z
     ·exfalso
      have gen:∀ (names:List (Str×NameKind)),names.lookup x=some .free->(names.map λ(n,k)=>if (k == NameKind.free && X.env.scope.kind == .function && X.env.kindOf n == some .cell) then (n,NameKind.cell) else (n,k)).lookup x=some .local->False:=by
       intro names
       induction names with
       | nil=>intro e _;simp at e
       |
        cons y r ih=>
        intro e1 e2
        obtain⟨n,k⟩:=y
        rw[List.lookup_cons] at e1
        rw[List.map_cons,List.lookup_cons] at e2
        by_cases hxn:x=n
        ·have hb1:(x == n)=true:=beq_iff_eq.mpr hxn
         rw[hb1] at e1
         have:k=.free:=Option.some.inj e1
         subst this
         split at e2
         ·rename_i hq
          split at e2 <;> cases e2
         ·rename_i hq
          split at hq <;> (rw[hb1] at hq;cases hq)
        ·have hb1:(x == n)=false:=beq_eq_false_iff_ne.mpr hxn
         rw[hb1] at e1
         refine ih e1 ?_
         split at e2
         ·rename_i hq
          split at hq <;> (rw[hb1] at hq;cases hq)
         ·exact e2
      exact gen scope.names hfree z
     ·exact .inl z
     ·exact .inr z
    ·obtain⟨c,hc'⟩:=hclf (x,.free) (PySem.mem_of_lookup hfree) rfl
     refine⟨c,hc',?_⟩
     rcases l with ⟨k,_⟩ | ⟨_,c2,ec2,z⟩
     ·rcases hkx with z | z <;> (rw[k] at z;cases z)
     ·have:=hcl x c hc'
      rw[ec2] at this
      cases this
      obtain⟨oc,hoc,hd⟩:=z
      exact⟨oc,old _ _ hoc,hd⟩
 have pinD:∀ {σ':St}{H':Hp}{s':Shared}{pl:List (Addr×Obj)}{o:Obj},Inv Y pl σ' H' s'->s'.heap.get? s2.heap.objs.size=some o->(∀ v,o.data ≠ .cell v)->H' s2.heap.objs.size=none->Inv Y [(s2.heap.objs.size,o)] σ' H' s':=λ{σ' H' s' pl o} IY e d n=>
  IY.pins_of λp hp=>by
   have e':p=(s2.heap.objs.size,o):=by simpa using hp
   subst e'
   refine⟨e,n,?_,?_,d⟩
   ·show s2.heap.objs.size ≠ G2.objs.size
    omega
   ·intro hf
    have hf':s2.heap.objs.size ∈ frs X.stack:=hf
    obtain⟨_,o',ho',_⟩:=I2.stack.mem hf'
    exact absurd (Heap.lt_size ho') (Nat.lt_irrefl _)
 have fpY:∀ {H':Hp}{pl:List (Addr×Obj)},(∀ b ∈ fp,H' b=none)->(∀ p ∈ pl,p.1 ∉ fp)->∀ b ∈ fp,lG Y pl H' b:=λ{H' pl} hn hp b hb=>by
  refine⟨hn b hb,?_,?_,.inl hb,λx c e=>?_,λp hp'=>?_⟩
  ·exact (okY.exf b hb).1
  ·exact okY.exfs b hb
  ·exact (okY.exf b hb).2 x c e
  ·intro z
   have hp'':p ∈ pl:=by simpa [Y,bc] using hp'
   exact hp p hp'' (by rw[z];exact hb)
 have hDfp:s2.heap.objs.size ∉ fp:=λz=>Nat.lt_irrefl _ (fpOld _ z)
 have loop
  : ∀ s₃:Shared,s₃={ s2 with heap:=h₁,toks:=s2.toks + ([]:List (Str×Value)).length }->
  codeAny (model X.prog X.w) X.A (.compLoop (.ListComp im [⟨tg,al,ifs,0⟩] scope pos) 0 (.ref it) (.ref s2.heap.objs.size) (compEnvC scope cl G2.objs.size X.env))
   (compPost (model X.prog X.w) X.A X.xe (some (assign (.Name xT px) X.env)) (λ_ s'=>SP X pins D0 .next s') (.ref s2.heap.objs.size) G2.objs.size) s₃:=by
  rintro s₃ rfl
  have IY0:Inv Y [(s2.heap.objs.size,{ cls:=.type "list",dict:=none,data:=.seq ([]:List Value).toArray })] (dj sub σ) H2 { s2 with heap:=h₁,toks:=s2.toks + ([]:List (Str×Value)).length }:=by
   have J0:Inv Y [] (dj sub σ) H2 { s2 with heap:=h₁,toks:=s2.toks + ([]:List (Str×Value)).length }:=by
    refine⟨okY,rfl,I2.bare,Un.kept old,startLoc,λx c e=>?_,I2.hok.fresh (by show s2.heap.objs.size<=G2.objs.size;omega),λx c e=>I2.freeC x c (hcl x c e),λp hp=>absurd (show p ∈ ([]:List (Addr×Obj)) from hp) (by simp),I2.hok.kept old,?_⟩
    ·obtain⟨v,oc,hoc,hd⟩:=I2.cell x c (hcl x c e)
     exact⟨v,oc,old _ _ hoc,hd⟩
    ·show (dj sub σ).length=N.length
     unfold dj
     rw[List.length_map];exact hsl
   exact pinD J0 hD₁ (λv z=>by cases z) I2.fresh
  refine kZ (λn s'=>∃ (i:Nat) (ys:List V) (its:List Value) (k:Nat) (σ':St) (H':Hp),Inv Y [(s2.heap.objs.size,{ cls:=.type "list",dict:=none,data:=.seq its.toArray k })] σ' H' s'/\Vals ys its/\tn i s'.heap/\(∀ b ∈ fp,H' b=none)/\W i n ys σ' H') ?_ m0
   ⟨0,[],[],0,dj sub σ,H2,IY0,.nil,T.keep _ _ _ st2 (λb hb o e=>old b o e),λb hb=>(f2 b hb).1,w0⟩
  rintro n s3 ⟨i,ys,its,k,σ3,H3,I3,rv,st3,fr3,w3⟩
  have npl:∀ (o:Obj),∀ p ∈ [(s2.heap.objs.size,o)],p.1 ∉ fp:=λo p hp=>by
   have e':p=(s2.heap.objs.size,o):=by simpa using hp
   subst e'
   exact hDfp
  rcases turn i n ys σ3 H3 w3 with ⟨stop,hz,qn⟩ | ⟨go,hz,Nx,hNx,step⟩
  ·refine wpAny_mono (T.done Y rfl rfl rfl hc i _ s3 σ3 H3 (λ_ _=>False) I3 (fpY fr3 (npl _)) st3 stop) (λr s4 ⟨hr,I4⟩=>?_) λ_ _ z=>z
   subst hr
   obtain⟨m4,hn4,_⟩:=I4.loc
   have hs':Heap.SameBut G2.objs.size s4.heap s4.heap:=⟨rfl,λ_ _=>rfl⟩
   obtain⟨h',hh'⟩:∃ h',h'=s4.heap:=⟨_,rfl⟩
   rw[<- hh'] at hs'
   rw[hh'] at hs'
   clear hh' h'
   generalize hh':s4.heap=h' at hs'
   have hs':Heap.SameBut G2.objs.size s4.heap h':=by rw[hh'];exact hs'
   have hCfree:H3 G2.objs.size=none:=I4.free
   have hD4:=I4.pin (s2.heap.objs.size,{ cls:=.type "list",dict:=none,data:=.seq its.toArray k }) (List.mem_append_right _ List.mem_cons_self)
   have un4:Un (frs X.stack) fp H2 H3 s2.heap s4.heap:=I4.base
   have up:∀ b o,b ≠ G2.objs.size->s4.heap.get? b=some o->h'.get? b=some o:=λb o hb e=>hs'.extBut b o hb e
   have ne2:∀ b o,s2.heap.get? b=some o->b ≠ G2.objs.size:=λb o e=>(below b (Heap.lt_size e)).1
   have un5:Un (frs X.stack) fp H2 H3 s2.heap h':=by
    refine⟨λb o e n hb hx=>up b o (ne2 b o e) (un4.keep b o e n hb hx),λb o e n hb hx=>?_,un4.free,λb o e hx=>?_,un4.tups,un4.frzs,un4.tbls⟩
    ·obtain⟨sl,q⟩:=un4.slot b o e n hb hx
     exact⟨sl,up b _ (ne2 b o e) q⟩
    ·obtain⟨o',q⟩:=un4.there b o e hx
     exact⟨o',up b _ (ne2 b o e) q⟩
   have hok5:HOk X.prog X.w H3 h':=λb u e=>(I4.hok b u e).stay (λc v hcc q=>up c v (λz=>by
    rcases hcc with zz | zz
    ·rw[zz] at z;rw[z,hCfree] at e;cases e
    ·rw[z,hCfree] at zz;cases zz) q) (λ_ q=>q) λ_ _ q=>q
   have I5:Inv X pins σ H3 { s4 with heap:=h' }:=I2.call' (s':={ s4 with heap:=h' }) (ch:=fp) I4.os un5 hok5 I4.bare λb hb=>by
    obtain⟨_,g1,_,g3,g4,g5⟩:=f2 b hb
    exact⟨g3,g1,g4,g5⟩
   have hDfree:H3 s2.heap.objs.size=none:=hD4.2.1
   have sz0:X.s₀.heap.objs.size<=s2.heap.objs.size:=I2.sz
   have hCold:∀ b,b < s2.heap.objs.size->b ≠ G2.objs.size:=λb hb=>(below b hb).1
   have I6:Inv X pins σ (upd H3 s2.heap.objs.size (.lst ys)) { s4 with heap:=h' }:=by
    refine I5.track (o:=.lst ys) hDfree (Heap.get?_none_of_le sz0) (Nat.ne_of_gt I2.lt) (λx c e z=>?_) (λp hp z=>?_) ?_
    ·obtain⟨v,q⟩:=I2.cell x c e
     exact absurd q.lt (by rw[z];exact Nat.lt_irrefl _)
    ·exact absurd (Heap.lt_size (I2.pin p hp).1) (by rw[z];exact Nat.lt_irrefl _)
    ·exact⟨hz,its,k,rv,up _ _ hDC hD4.1⟩
   have I6':Inv X pins σ (upd H3 s2.heap.objs.size (.lst ys)) s4:=by
    have e4:({ s4 with heap:=h' }:Shared)=s4:=by rw[<- hh']
    rw[e4] at I6;exact I6
   refine wpAny_assign_Name (pY (v:=.ref s2.heap.objs.size) I6' hN hix hxl rfl (λs7 I7 ⟨a7,sb7,ha7⟩=>?_) hf)
   have ha:a7 < s2.heap.objs.size:=by
    rcases ha7 with z | z
    ·rw[z];exact I2.lt
    ·obtain⟨v,q⟩:=I2.cell xT a7 z
     exact q.lt
   refine⟨m4,hn4.sameBut sb7 (Ne.symm (hCold a7 ha)),λh8 hs8=>?_⟩
   have I8:Inv X pins (σ.set iT (some (.ref s2.heap.objs.size))) (upd H3 s2.heap.objs.size (.lst ys)) { s7 with heap:=h8,toks:=s7.toks }:=by
    refine I7.turned (it:=G2.objs.size) (t':=s7.toks) (λb o hb e=>hs8.extBut b o hb e) ?_ ?_ (.inr ?_) (λx c e=>?_) (λp hp=>?_)
    ·rw[aZ (Ne.symm hDC)];exact hCfree
    ·exact Ne.symm (hCold _ I2.lt)
    ·omega
    ·obtain⟨v,q⟩:=I2.cell x c e
     exact hCold _ q.lt
    ·exact hCold _ (Heap.lt_size (I2.pin p hp).1)
   exact⟨_,_,I8,qn _ hDfree⟩
  ·refine wpAny_mono (T.item Y rfl rfl rfl hc i _ s3 σ3 H3 (λ_ _=>False) I3 (fpY fr3 (npl _)) st3 go) (λr s4 ⟨u,hr,h4⟩=>?_) λ_ _ z=>z
   subst hr
   refine wpAny_mono h4 (λ_ s5 ⟨x,H5,I5,r5,y5,st5,fr5⟩=>?_) λ_ _ z=>z
   have I5':=I5.pinned (fpY fr5 (npl _)) (T.obj _ _ st5)
   refine wpAny_mono (hg cl G2.objs.size s2 H2 fp _ s5 σ3 H5 x u _ I5' r5 (step x H5 y5)) (λ_ s6 ⟨σ6,H6,I6,q6⟩=>?_) λ_ _ z=>z
   refine wpAny_mono (ht cl G2.objs.size s2 H2 fp _ s6 σ6 H6 _ I6 q6) (λok s7 ⟨H7,I7,q7⟩=>?_) λ_ _ z=>z
   have back:∀ {σ':St}{H':Hp}{s':Shared},Inv Y ([(s2.heap.objs.size,{ cls:=.type "list",dict:=none,data:=.seq its.toArray k })]++jO fp s5.heap) σ' H' s'->tn (i + 1) s'.heap/\∀ b ∈ fp,H' b=none:=λ{σ' H' s'} IB=>by
    refine⟨T.keep _ _ _ st5 λb hb o e=>(IB.pin (b,o) (List.mem_append_right _ (List.mem_append_right _ (eN hb e)))).1,λb hb=>?_⟩
    obtain⟨o,e,d⟩:=T.obj _ _ st5 b hb
    exact (IB.pin (b,o) (List.mem_append_right _ (List.mem_append_right _ (eN hb e)))).2.1
   cases ok with
   |
    false=>
    rw[if_neg Bool.false_ne_true] at q7
    obtain⟨m',hm,w7⟩:=hNx _ _ _ q7
    rw[if_neg Bool.false_ne_true]
    obtain⟨t7,f7⟩:=back I7
    exact⟨m',hm,i + 1,ys,its,k,σ6,H7,I7.unpinned,rv,t7,f7,w7⟩
   |
    true=>
    rw[if_pos rfl] at q7
    rw[if_pos rfl]
    refine wpAny_mono (he cl G2.objs.size s2 H2 fp _ s7 σ6 H7 _ I7 q7) (λy s8 ⟨yv,H8,I8,r8,q8⟩=>?_) λ_ _ z=>z
    obtain⟨m',hm,w8⟩:=hNx _ _ _ q8
    obtain⟨t8,f8⟩:=back I8
    have I9:=I8.unpinned
    have hD9:=I9.pin (s2.heap.objs.size,{ cls:=.type "list",dict:=none,data:=.seq its.toArray k }) (List.mem_append_right _ List.mem_cons_self)
    have e9:s8.heap.get? s2.heap.objs.size=some { cls:=.type "list",dict:=none,data:=.seq its.toArray k }:=hD9.1
    have be:=rv.length
    refine call_meets F.slot_list_append ⟨_,e9,rfl⟩ F.entry_list_append (F.args_list_append_2 _ _) (PySem.list_append _ its.toArray k y (by rw[List.size_toArray];omega)) ⟨e9,?_⟩
    have q9:=PySem.IsL.update e9 (λxs=>xs.push y)
    have ea:its.toArray.push y=(its++[y]).toArray:=by simp
    rw[ea] at q9
    have k9:∀ b o,b ≠ s2.heap.objs.size->s8.heap.get? b=some o->(s8.heap.update s2.heap.objs.size (Obj.mapSeq λxs=>xs.push y)).get? b=some o:=λb o hb e=>(Heap.get?_update_other _ _ (Ne.symm hb)).trans e
    have I10:Inv Y [] σ6 H8 { s8 with heap:=s8.heap.update s2.heap.objs.size (Obj.mapSeq λxs=>xs.push y) }:=
     (I9.pins_of (pins':=[]) (λp hp=>nomatch hp)).turned (t':=s8.toks) k9 hD9.2.1 hD9.2.2.1 (.inr (Nat.le_refl _)) (λx c e z=>absurd (cellOld x c e) (by rw[z];exact Nat.lt_irrefl _))
      (λp hp=>absurd (show p ∈ ([]:List (Addr×Obj)) from hp) (by simp))
    refine⟨m',hm,i + 1,ys++[yv],its++[y],_,σ6,H8,pinD I10 q9 (λv z=>by cases z) hD9.2.1,rv.append (.cons r8 .nil),?_,f8,w8⟩
    exact T.keep _ _ _ t8 λb hb o e=>k9 b o (λz=>hDfp (by rw[<- z];exact hb)) e
 exact codeAny_compStart_list (loop _ rfl) (T.self _ 0 _ _ _ (T.keep _ _ _ st2 λb hb o e=>old b o e) (loop _ rfl))
theorem KD {im al tg:Expr}{scope:Scope}{pos px spos:Pos}{wi:TI}{g:TG}{te:TE}{iT:Nat}{xT:Str} (M:List Str) (kn:List (Str×NameKind)) (N:List Str) (sub:List (Option Nat))
 (hc:X.calm=true) (hN:X.N.Nodup) (hix:X.N[iT]?=some xT) (hxl:Loc X.env.scope xT) (hi:PI X tg al wi)
 (hg:∀ cl C s₂ H fp,PG (bc X N scope cl C s₂ H fp) tg g) (he:∀ cl C s₂ H fp,PE (bc X N scope cl C s₂ H fp) im te)
 (hsw:swapsWith (.ListComp im [⟨tg,al,[],0⟩] scope pos) (some (.Name xT px)) spos.line X.env=pure true:=by rfl)
 (hM:X.N=M:=by rfl) (hkn:X.env.scope.names=kn:=by rfl) (ge:fF M scope.names sub N=true:=by decide)
 (hk:scope.kind=.function:=by rfl) (hnc:∀ x ∈ scope.names,x.2 ≠ .cell:=by decide) (bi:∀ x ∈ scope.names,x.2=.local->scope.names.lookup x.1=some .local:=by decide)
 (le:iZ kn scope.names=true:=by decide)
 (hsl:sub.length=N.length:=by rfl) (hs:∀ x,foldedSetIterable al X.env x=pure x:=by intro _;rfl) (hf:X.fn xT=true\/X.env.scope.names.lookup xT=some .local:=by first | exact .inl rfl | exact .inr rfl | assumption):
 PS X (.Assign [.Name xT px] (.ListComp im [⟨tg,al,[],0⟩] scope pos) spos) (rX (j0 wi sub g As te) (nU iT)):=
 FX hc hN hix hxl hi hk hnc bi (by subst hkn;exact pA le) hsl (by subst hM;exact mS ge) hg (λcl C s₂ H fp=>uW) he hsw hs hf
end
end L2
namespace L2
open PySem PySem.Spec PyProof.Rows
theorem uw:∀ {ns:List Int}{its:List Value},Vals (ns.map V.int) its->IntsAre its ns
 | [],_,h=>by cases h;exact .nil
 |
  i :: r,_,h=>by
  cases h with
  |
   cons h1 h2=>
   obtain⟨t,rfl⟩:=h1
   exact .cons i t (uw h2)
theorem pQ {X:Cx}{K:W.Frag} (hK:X.K=K) (hc:X.calm=true):CallR X (.builtin "sum") (λxs H Q=>∃ (a:Addr) (ns:List Int),xs=[.ref a]/\SqL K H a (ns.map V.int)/\Q (.int ns.sum) H):=by
 subst hK
 intro pins s σ H xs us Q I r h
 obtain⟨a,ns,rfl,hq,q⟩:=h
 obtain⟨u,rfl,ru⟩:=hE r
 cases ru
 obtain⟨its,rv,p,hz⟩:=I.list hq
 have hi:=uw rv
 obtain⟨ys,hy⟩:=hi.allInts.items
 have hn:numsOf its.toArray.toList=ns:=by rw[show its.toArray.toList=its from rfl,hi.numsOf]
 have pl:=p.isList
 rw[hy] at pl hn
 rw[nums_intItems] at hn
 refine sum_intListG (I.ok.hd hc) pl λh' tk t' hk=>?_
 rw[preSum_eq,List.take_of_length_le (by simp),hn]
 exact⟨.int ns.sum,H,I.kept (t':=tk) hk,⟨_,rfl⟩,q⟩
end L2
namespace Fr
def dv (a b:Int):Int:=if b < 0 then -((Int.gcd a b:Nat):Int) else ((Int.gcd a b:Nat):Int)
def T (a b:Int):Int:=a.fdiv (dv a b)
def B (a b:Int):Int:=b.fdiv (dv a b)
theorem sO {a b:Int} (hb:b ≠ 0):0 < Int.gcd a b:=Int.gcd_pos_of_ne_zero_right a hb
theorem dv_ne {a b:Int} (hb:b ≠ 0):dv a b ≠ 0:=by
 have:=sO (a:=a) hb
 unfold dv
 split <;> omega
theorem zj (a b:Int):dv a b ∣ a:=by
 have h:((Int.gcd a b:Nat):Int) ∣ a:=Int.gcd_dvd_left a b
 unfold dv
 split
 ·exact Int.neg_dvd.mpr h
 ·exact h
theorem Bs (a b:Int):dv a b ∣ b:=by
 have h:((Int.gcd a b:Nat):Int) ∣ b:=Int.gcd_dvd_right a b
 unfold dv
 split
 ·exact Int.neg_dvd.mpr h
 ·exact h
theorem uC {a d q:Int} (hd:d ≠ 0) (h:a=d * q):a.fdiv d=q:=by
 rw[h,Int.mul_comm]
 exact Int.mul_fdiv_cancel q hd
theorem T_mul {a b:Int} (hb:b ≠ 0):T a b * dv a b=a:=by
 obtain⟨q,h⟩:=zj a b
 have:T a b=q:=uC (dv_ne hb) h
 rw[this,Int.mul_comm];exact h.symm
theorem B_mul {a b:Int} (hb:b ≠ 0):B a b * dv a b=b:=by
 obtain⟨q,h⟩:=Bs a b
 have:B a b=q:=uC (dv_ne hb) h
 rw[this,Int.mul_comm];exact h.symm
theorem B_pos {a b:Int} (hb:b ≠ 0):0 < B a b:=by
 have h:=B_mul (a:=a) hb
 have hg:=sO (a:=a) hb
 generalize hx:B a b=x at h ⊢
 unfold dv at h
 split at h
 ·rename_i hneg
  have h2:x * ((Int.gcd a b:Nat):Int)=-b:=by rw[Int.mul_neg] at h;omega
  rcases Int.lt_or_le 0 x with z | z
  ·exact z
  ·have:x * ((Int.gcd a b:Nat):Int)<=0:=Int.mul_nonpos_of_nonpos_of_nonneg z (by omega)
   omega
 ·rename_i hpos
  rcases Int.lt_or_le 0 x with z | z
  ·exact z
  ·have:x * ((Int.gcd a b:Nat):Int)<=0:=Int.mul_nonpos_of_nonpos_of_nonneg z (by omega)
   omega
theorem cross {a b:Int} (hb:b ≠ 0):T a b * b=a * B a b:=by
 have h1:=T_mul (a:=a) hb
 have h2:=B_mul (a:=a) hb
 generalize T a b=x at *
 generalize B a b=y at *
 generalize dv a b=d at *
 rw[<- h2,<- h1]
 rw[<- Int.mul_assoc,Int.mul_right_comm]
theorem dv_abs (a b:Int):(dv a b).natAbs=Int.gcd a b:=by
 unfold dv
 split <;> simp
theorem low {a b:Int} (hb:b ≠ 0):Int.gcd (T a b) (B a b)=1:=by
 have h1:=T_mul (a:=a) hb
 have h2:=B_mul (a:=a) hb
 have hg:=sO (a:=a) hb
 have e1:a.natAbs=(T a b).natAbs * Int.gcd a b:=by rw[<- dv_abs a b,<- Int.natAbs_mul,h1]
 have e2:b.natAbs=(B a b).natAbs * Int.gcd a b:=by rw[<- dv_abs a b,<- Int.natAbs_mul,h2]
 have e3:Int.gcd a b=Nat.gcd ((T a b).natAbs * Int.gcd a b) ((B a b).natAbs * Int.gcd a b):=by rw[<- e1,<- e2];rfl
 rw[Nat.gcd_mul_right] at e3
 show Nat.gcd (T a b).natAbs (B a b).natAbs=1
 generalize Nat.gcd (T a b).natAbs (B a b).natAbs=k at *
 generalize Int.gcd a b=g at *
 have:(1:Nat) * g=k * g:=by omega
 exact (Nat.eq_of_mul_eq_mul_right hg this).symm
theorem uniq {x y x' y':Int} (hy:0 < y) (hy':0 < y') (h:Int.gcd x y=1) (h':Int.gcd x' y'=1) (e:x * y'=x' * y):x=x'/\y=y':=by
 have c1:Nat.Coprime y.natAbs x.natAbs:=by rw[Nat.coprime_comm];exact h
 have c2:Nat.Coprime y'.natAbs x'.natAbs:=by rw[Nat.coprime_comm];exact h'
 have e1:x.natAbs * y'.natAbs=x'.natAbs * y.natAbs:=by rw[<- Int.natAbs_mul,<- Int.natAbs_mul,e]
 have d1:y.natAbs ∣ y'.natAbs:=c1.dvd_of_dvd_mul_left (by rw[e1];exact Nat.dvd_mul_left _ _)
 have d2:y'.natAbs ∣ y.natAbs:=c2.dvd_of_dvd_mul_left (by rw[<- e1];exact Nat.dvd_mul_left _ _)
 have ey:y.natAbs=y'.natAbs:=Nat.dvd_antisymm d1 d2
 have ey':y=y':=by omega
 subst ey'
 exact⟨Int.eq_of_mul_eq_mul_right (by omega) e,rfl⟩
theorem same {a b c d:Int} (hb:b ≠ 0) (hd:d ≠ 0) (e:a * d=c * b):T a b=T c d/\B a b=B c d:=by
 refine uniq (B_pos hb) (B_pos hd) (low hb) (low hd) ?_
 have h1:=cross (a:=a) hb
 have h2:=cross (a:=c) hd
 have hbd:b * d ≠ 0:=Int.mul_ne_zero hb hd
 refine Int.eq_of_mul_eq_mul_right hbd ?_
 calc T a b * B c d * (b * d)=(T a b * b) * (B c d * d):=by rw[Int.mul_assoc,Int.mul_left_comm (B c d) b d,<- Int.mul_assoc]
  _=(a * B a b) * (B c d * d):=by rw[h1]
  _=(a * d) * (B c d * B a b):=by rw[Int.mul_assoc a,Int.mul_assoc a,Int.mul_left_comm (B a b),Int.mul_left_comm d,Int.mul_comm (B a b) d]
  _=(c * b) * (B c d * B a b):=by rw[e]
  _=(c * B c d) * (B a b * b):=by rw[Int.mul_assoc c,Int.mul_assoc c,Int.mul_left_comm b,Int.mul_comm b (B a b)]
  _=(T c d * d) * (B a b * b):=by rw[<- h2]
  _=T c d * B a b * (b * d):=by rw[Int.mul_assoc,Int.mul_assoc,Int.mul_left_comm d,Int.mul_comm d b]
theorem self {a b:Int} (hb:0 < b) (h:Int.gcd a b=1):T a b=a/\B a b=b:=
 uniq (B_pos (by omega)) hb (low (by omega)) h (cross (by omega))
theorem euc (m n:Nat):Nat.gcd n (m % n)=Nat.gcd m n:=by
 rw[Nat.gcd_comm,<- Nat.gcd_rec,Nat.gcd_comm]
end Fr
set_option maxHeartbeats 1000000
namespace L2
open PySem PySem.Spec PyProof.Rows
def SqB (K:W.Frag) (b:Bool) (H:Hp) (a:Addr) (xs:List V):Prop:=match b with
 | true=>SqL K H a xs
 | false=>SqT K H a xs
def IteE (K:W.Frag) (b:Bool) (a:Addr):It:=
 ⟨λi H=>∃ xs x,SqB K b H a xs/\xs[i]?=some x,λi H x H'=>∃ p u,x=.ref p/\H p=none/\H'=upd H p (.tup [.int (i:Nat),u])/\∀ xs,SqB K b H a xs->xs[i]?=some u,λi H=>∃ xs,SqB K b H a xs/\xs.length=i⟩
section
variable {prog:Program}{w:World}{A:Around}{E:Value->Shared->Prop}{s:Shared}{b1 b2:Bool}{z p q j1 j2 a1 a2:Addr}{n:Nat}{xs ys:Array Value}{x y u v:Value}
end
end L2
namespace L2
open PySem PySem.Spec PyProof.Rows
def ItZ (K:W.Frag) (b c:Bool) (a d:Addr):It:=
 ⟨λi H=>∃ xs ys x y,SqB K b H a xs/\SqB K c H d ys/\xs[i]?=some x/\ys[i]?=some y,
  λi H x H'=>∃ p u v,x=.ref p/\H p=none/\H'=upd H p (.tup [u,v])/\(∀ xs,SqB K b H a xs->xs[i]?=some u)/\∀ ys,SqB K c H d ys->ys[i]?=some v,
  λi H=>∃ xs ys,SqB K b H a xs/\SqB K c H d ys/\(xs[i]?=none\/ys[i]?=none)⟩
end L2
namespace L2
open PySem PySem.Spec PyProof.Rows
inductive D where
 | non | bl (b:Bool) | int (i:Int) | str (x:Str) | ty (n:String) | glb (x:Str) | exc (x:Str) | tup (xs:List D) | ref (n:Nat) | kl (xs:List D)
 deriving Inhabited
inductive Ob where
 | lst (xs:List D) | fz (xs:List D) | set (xs:List Int) | dct (kvs:List (Key×D)) | any
 deriving Inhabited
abbrev AH:=List Ob
abbrev AE:=List (Option D)
inductive R (α:Type) where
 | ok (a:α) (h:AH) | exc (c:Str) (h:AH) | stuck
inductive SR where
 | nx (ae:AE) (h:AH) | rt (d:D) (h:AH) | bk (ae:AE) (h:AH) | ct (ae:AE) (h:AH) | exc (c:Str) (ae:AE) (h:AH) | stuck
abbrev ME:=AE->AH->R D
abbrev MT:=AE->AH->R Bool
abbrev MA:=AE->AH->R (List D)
abbrev MS:=AE->AH->SR
abbrev Fn:=List D->AH->R D
def R.bind {α β:Type} (r:R α) (f:α->AH->R β):R β:=match r with
 | .ok a h=>f a h
 | .exc c h=>.exc c h
 | .stuck=>.stuck
section
variable (K:W.Frag) (mg:Str->Option Value)
mutual
inductive RelD (ρ:List Addr) (H:Hp):D->V->Prop where
 | non:RelD ρ H .non .non
 | bl (b:Bool):RelD ρ H (.bl b) (.bl b)
 | int (i:Int):RelD ρ H (.int i) (.int i)
 | str (x:Str):RelD ρ H (.str x) (.str x)
 | ty (n:String):RelD ρ H (.ty n) (.ty n)
 | glb {x:Str}{a:Addr} (m:mg x=some (.ref a)):RelD ρ H (.glb x) (.ref a)
 | exc {x:Str}{a C:Addr} (m:mg x=some (.ref C)) (e:H a=some (.ext (oh a C))):RelD ρ H (.exc x) (.ref a)
 | tup {p:Addr}{vs:List V}{ds:List D} (h:SqT K H p vs) (r:RelDs ρ H ds vs):RelD ρ H (.tup ds) (.ref p)
 | ref {n:Nat}{a:Addr} (e:ρ[n]?=some a):RelD ρ H (.ref n) (.ref a)
 | kl {a:Addr}{vs:List V}{ds:List D} (h:∃ (o:Obj) (its:Array Value) (n:Nat),K.lookup a=some o/\o.cls=.type "list" /\ o.dict=none/\o.data=.seq its n/\its.size<=sizeLine/\Vals vs its.toList) (r:RelDs ρ H ds vs):RelD ρ H (.kl ds) (.ref a)
inductive RelDs (ρ:List Addr) (H:Hp):List D->List V->Prop where
 | nil:RelDs ρ H [] []
 | cons {d:D}{v:V}{ds:List D}{vs:List V} (r:RelD ρ H d v) (rr:RelDs ρ H ds vs):RelDs ρ H (d :: ds) (v :: vs)
end
structure Le (ρ:List Addr) (H:Hp) (ρ':List Addr) (H':Hp):Prop where
 pre:∀ (n:Nat) (a:Addr),ρ[n]?=some a->ρ'[n]?=some a
 tup:∀ b xs,H b=some (.tup xs)->H' b=some (.tup xs)
 frz:∀ b o u,H b=some (.frz o u)->H' b=some (.frz o u)
 ext:∀ b φ,H b=some (.ext φ)->H' b=some (.ext φ)
def ObR (ρ:List Addr) (H:Hp) (a:Addr):Ob->Prop
 | .lst ds=>∃ vs,H a=some (.lst vs)/\RelDs K mg ρ H ds vs
 | .fz ds=>∃ o vs,H a=some (.frz o (.lst vs))/\RelDs K mg ρ H ds vs
 | .set xs=>xs.Nodup/\H a=some (.set (λi=>decide (i ∈ xs)) xs.length)
 | .dct kvs=>∃ ws,H a=some (.dK ws)/\ws.map (·.1)=kvs.map (·.1)/\RelDs K mg ρ H (kvs.map (·.2)) (ws.map (·.2))
 | .any=>∃ o,H a=some o
structure Wd (ρ:List Addr) (h:AH) (H:Hp):Prop where
 len:ρ.length=h.length
 nd:ρ.Nodup
 ob:∀ (n:Nat) (a:Addr) (o:Ob),ρ[n]?=some a->h[n]?=some o->ObR K mg ρ H a o
structure RelE (ρ:List Addr) (H:Hp) (ae:AE) (σ:St):Prop where
 len:ae.length=σ.length
 at_:∀ (i:Nat) (d:D),ae[i]?=some (some d)->∃ v,σ[i]?=some (some v)/\RelD K mg ρ H d v
def PostG {α:Type} (ρ:List Addr) (H:Hp) (E:XK) (k:α->AH->List Addr->Hp->Prop):R α->Prop
 | .ok a h=>∀ ρ' H',Le ρ H ρ' H'->Wd K mg ρ' h H'->k a h ρ' H'
 | .exc c h=>∀ ρ' H' C,Le ρ H ρ' H'->Wd K mg ρ' h H'->mg c=some (.ref C)->E (.ref C) none H'
 | .stuck=>False
abbrev eg (ρ:List Addr) (H:Hp) (Q:VK) (E:XK) (r:R D):Prop:=PostG K mg ρ H E (λd _ ρ' H'=>∀ v,RelD K mg ρ' H' d v->Q v H') r
abbrev BC (ρ:List Addr) (H:Hp) (Q:Bool->Hp->Prop) (E:XK) (r:R Bool):Prop:=PostG K mg ρ H E (λb _ ρ' H'=>Q b H') r
abbrev BJ (ρ:List Addr) (H:Hp) (Q:List V->Hp->Prop) (E:XK) (r:R (List D)):Prop:=PostG K mg ρ H E (λd _ ρ' H'=>∀ vs,RelDs K mg ρ' H' d vs->Q vs H') r
def PostS (ρ:List Addr) (H:Hp) (D:Ends) (ES:St->XK):SR->Prop
 | .nx ae h=>∀ ρ' H' σ',Le ρ H ρ' H'->Wd K mg ρ' h H'->RelE K mg ρ' H' ae σ'->D.nx σ' H'
 | .bk ae h=>∀ ρ' H' σ',Le ρ H ρ' H'->Wd K mg ρ' h H'->RelE K mg ρ' H' ae σ'->D.bk σ' H'
 | .ct ae h=>∀ ρ' H' σ',Le ρ H ρ' H'->Wd K mg ρ' h H'->RelE K mg ρ' H' ae σ'->D.ct σ' H'
 | .rt d h=>∀ ρ' H' v,Le ρ H ρ' H'->Wd K mg ρ' h H'->RelD K mg ρ' H' d v->D.rt v H'
 | .exc c ae h=>∀ ρ' H' σ' C,Le ρ H ρ' H'->Wd K mg ρ' h H'->RelE K mg ρ' H' ae σ'->mg c=some (.ref C)->ES σ' (.ref C) none H'
 | .stuck=>False
def rdE (ES:St->XK) (F:ME):TE:=λσ H Q=>∃ ρ h ae,Wd K mg ρ h H/\RelE K mg ρ H ae σ/\eg K mg ρ H Q (ES σ) (F ae h)
def rdT (ES:St->XK) (F:MT):TT:=λσ H Q=>∃ ρ h ae,Wd K mg ρ h H/\RelE K mg ρ H ae σ/\BC K mg ρ H Q (ES σ) (F ae h)
def rdA (ES:St->XK) (F:MA):TA:=λσ H Q=>∃ ρ h ae,Wd K mg ρ h H/\RelE K mg ρ H ae σ/\BJ K mg ρ H Q (ES σ) (F ae h)
def rdS (ES:St->XK) (F:MS):TS:=λD σ H=>∃ ρ h ae,Wd K mg ρ h H/\RelE K mg ρ H ae σ/\PostS K mg ρ H D ES (F ae h)
def spD (n:Nat) (S:Fn):Sp:=λvs H Q E=>∃ ρ h ds,Wd K mg ρ h H/\RelDs K mg ρ H ds vs/\ds.length=n/\eg K mg ρ H Q E (S ds h)
end
theorem rdE.el {K:W.Frag}{mg:Str->Option Value}{ES:St->XK}{F:ME}{σ:St}{H:Hp}{Q:VK}{C:Prop} (q:rdE K mg ES F σ H Q) (k:∀ ρ h ae,Wd K mg ρ h H->RelE K mg ρ H ae σ->eg K mg ρ H Q (ES σ) (F ae h)->C):C:=by
 obtain⟨ρ,h,ae,w,re,p⟩:=q
 exact k ρ h ae w re p
theorem rdT.el {K:W.Frag}{mg:Str->Option Value}{ES:St->XK}{F:MT}{σ:St}{H:Hp}{Q:Bool->Hp->Prop}{C:Prop} (q:rdT K mg ES F σ H Q) (k:∀ ρ h ae,Wd K mg ρ h H->RelE K mg ρ H ae σ->BC K mg ρ H Q (ES σ) (F ae h)->C):C:=by
 obtain⟨ρ,h,ae,w,re,p⟩:=q
 exact k ρ h ae w re p
theorem rdA.el {K:W.Frag}{mg:Str->Option Value}{ES:St->XK}{F:MA}{σ:St}{H:Hp}{Q:List V->Hp->Prop}{C:Prop} (q:rdA K mg ES F σ H Q) (k:∀ ρ h ae,Wd K mg ρ h H->RelE K mg ρ H ae σ->BJ K mg ρ H Q (ES σ) (F ae h)->C):C:=by
 obtain⟨ρ,h,ae,w,re,p⟩:=q
 exact k ρ h ae w re p
theorem rdS.el {K:W.Frag}{mg:Str->Option Value}{ES:St->XK}{F:MS}{σ:St}{H:Hp}{De:Ends}{C:Prop} (q:rdS K mg ES F De σ H) (k:∀ ρ h ae,Wd K mg ρ h H->RelE K mg ρ H ae σ->PostS K mg ρ H De ES (F ae h)->C):C:=by
 obtain⟨ρ,h,ae,w,re,p⟩:=q
 exact k ρ h ae w re p
section
variable {K:W.Frag}{mg:Str->Option Value}{ρ ρ' ρ1:List Addr}{H H' H1:Hp}{h h':AH}{ae:AE}{σ:St}
theorem Le.refl:Le ρ H ρ H:=⟨λ_ _ e=>e,λ_ _ e=>e,λ_ _ _ e=>e,λ_ _ e=>e⟩
theorem Le.trans (a:Le ρ H ρ1 H1) (b:Le ρ1 H1 ρ' H'):Le ρ H ρ' H':=
 ⟨λn x e=>b.pre n x (a.pre n x e),λx y e=>b.tup x y (a.tup x y e),λx y z e=>b.frz x y z (a.frz x y z e),λx y e=>b.ext x y (a.ext x y e)⟩
theorem Le.sqT {a:Addr}{xs:List V} (l:Le ρ H ρ' H') (q:SqT K H a xs):SqT K H' a xs:=by
 rcases q with (q | ⟨o,q⟩) | q
 ·exact .inl (.inl (l.tup _ _ q))
 ·exact .inl (.inr ⟨o,l.frz _ _ _ q⟩)
 ·exact .inr q
theorem RelD.mono (l:Le ρ H ρ' H') {d:D}{v:V} (r:RelD K mg ρ H d v):RelD K mg ρ' H' d v:=
 RelD.rec (motive_1:=λd v _=>RelD K mg ρ' H' d v) (motive_2:=λds vs _=>RelDs K mg ρ' H' ds vs) .non (λb=>.bl b) (λi=>.int i) (λx=>.str x) (λn=>.ty n) (λm=>.glb m) (λm e=>.exc m (l.ext _ _ e)) (λh _ ih=>.tup (l.sqT h) ih) (λe=>.ref (l.pre _ _ e)) (λh _ ih=>.kl h ih) .nil (λ_ _ a b=>.cons a b) r
theorem RelDs.ind {M:List D->List V->Prop} (h0:M [] []) (h1:∀ {d v ds vs},RelD K mg ρ H d v->RelDs K mg ρ H ds vs->M ds vs->M (d :: ds) (v :: vs)) {ds:List D}{vs:List V} (r:RelDs K mg ρ H ds vs):M ds vs:=by
 induction ds generalizing vs with
 | nil=>cases r;exact h0
 |
  cons d ds ih=>
  cases r with
  | cons r rr=>exact h1 r rr (ih rr)
theorem RelDs.mono (l:Le ρ H ρ' H') {ds:List D}{vs:List V} (r:RelDs K mg ρ H ds vs):RelDs K mg ρ' H' ds vs:=r.ind .nil λr _ ih=>.cons (r.mono l) ih
theorem RelDs.len {ds:List D}{vs:List V} (r:RelDs K mg ρ H ds vs):ds.length=vs.length:=r.ind (M:=λds vs=>ds.length=vs.length) rfl λ_ _ ih=>congrArg (· + 1) ih
theorem RelDs.getD {ds:List D}{vs:List V}{i:Nat}{d:D} (r:RelDs K mg ρ H ds vs) (e:ds[i]?=some d):∃ v,vs[i]?=some v/\RelD K mg ρ H d v:=
 r.ind (M:=λds vs=>∀ i,ds[i]?=some d->∃ v,vs[i]?=some v/\RelD K mg ρ H d v) (λ_ e=>by rw[List.getElem?_nil] at e;cases e) (λr _ ih i e=>match i,e with
  | 0,e=>by cases e;exact⟨_,rfl,r⟩
  | i + 1,e=>ih i e) i e
theorem RelDs.append {ds es:List D}{vs ws:List V} (r:RelDs K mg ρ H ds vs) (q:RelDs K mg ρ H es ws):RelDs K mg ρ H (ds++es) (vs++ws):=r.ind (M:=λds vs=>RelDs K mg ρ H (ds++es) (vs++ws)) q λr _ ih=>.cons r ih
theorem RelDs.take {ds:List D}{vs:List V} (n:Nat) (r:RelDs K mg ρ H ds vs):RelDs K mg ρ H (ds.take n) (vs.take n):=
 r.ind (M:=λds vs=>∀ n:Nat,RelDs K mg ρ H (ds.take n) (vs.take n)) (λn=>by rw[List.take_nil,List.take_nil];exact .nil) (λr _ ih n=>by cases n with | zero=>exact .nil | succ n=>exact .cons r (ih n)) n
theorem RelDs.drop {ds:List D}{vs:List V} (n:Nat) (r:RelDs K mg ρ H ds vs):RelDs K mg ρ H (ds.drop n) (vs.drop n):=
 r.ind (M:=λds vs=>∀ n:Nat,RelDs K mg ρ H (ds.drop n) (vs.drop n)) (λn=>by rw[List.drop_nil,List.drop_nil];exact .nil) (λr rr ih n=>by cases n with | zero=>exact .cons r rr | succ n=>exact ih n) n
theorem RelDs.set {d:D}{v:V} (r:RelD K mg ρ H d v) {ds:List D}{vs:List V} (i:Nat) (q:RelDs K mg ρ H ds vs):RelDs K mg ρ H (ds.set i d) (vs.set i v):=
 q.ind (M:=λds vs=>∀ i:Nat,RelDs K mg ρ H (ds.set i d) (vs.set i v)) (λ_=>.nil) (λq qq ih i=>by cases i with | zero=>exact .cons r qq | succ i=>exact .cons q (ih i)) i
theorem RelDs.ints:∀ {ns:List Int}{vs:List V},RelDs K mg ρ H (ns.map D.int) vs->vs=ns.map V.int:=by
 intro ns
 induction ns with
 | nil=>intro vs r;cases r;rfl
 |
  cons n ns ih=>
  intro vs r
  cases r with
  | cons r rr=>cases r;rw[ih rr];rfl
theorem RelDs.bls:∀ {ns:List Bool}{vs:List V},RelDs K mg ρ H (ns.map D.bl) vs->vs=ns.map V.bl:=by
 intro ns
 induction ns with
 | nil=>intro vs r;cases r;rfl
 |
  cons n ns ih=>
  intro vs r
  cases r with
  | cons r rr=>cases r;rw[ih rr];rfl
theorem RelE.mono (l:Le ρ H ρ' H') (r:RelE K mg ρ H ae σ):RelE K mg ρ' H' ae σ:=⟨r.len,λi d e=>by
 obtain⟨v,h1,h2⟩:=r.at_ i d e
 exact⟨v,h1,h2.mono l⟩⟩
theorem RelE.set {d:D}{v:V} (i:Nat) (r:RelE K mg ρ H ae σ) (q:RelD K mg ρ H d v):RelE K mg ρ H (ae.set i (some d)) (σ.set i (some v)):=⟨by rw[List.length_set,List.length_set];exact r.len,λj d' e=>by
 rw[List.getElem?_set] at e ⊢
 by_cases hij:i=j
 ·rw[if_pos hij] at e ⊢
  by_cases hi:i < ae.length
  ·rw[if_pos hi] at e
   cases e
   rw[if_pos (by rw[<- r.len];exact hi)]
   exact⟨v,rfl,q⟩
  ·rw[if_neg hi] at e;cases e
 ·rw[if_neg hij] at e ⊢
  exact r.at_ j d' e⟩
theorem RelE.unset {v:Option V} (i:Nat) (r:RelE K mg ρ H ae σ):RelE K mg ρ H (ae.set i none) (σ.set i v):=⟨by rw[List.length_set,List.length_set];exact r.len,λj d' e=>by
 rw[List.getElem?_set] at e ⊢
 by_cases hij:i=j
 ·rw[if_pos hij] at e
  by_cases hi:i < ae.length
  ·rw[if_pos hi] at e;cases e
  ·rw[if_neg hi] at e;cases e
 ·rw[if_neg hij] at e ⊢
  exact r.at_ j d' e⟩
theorem ObR.mono {a:Addr}{o:Ob} (l:Le ρ H ρ' H') (e:H' a=H a) (q:ObR K mg ρ H a o):ObR K mg ρ' H' a o:=by
 cases o with
 | lst ds=>obtain⟨vs,h1,h2⟩:=q;exact⟨vs,e.trans h1,h2.mono l⟩
 | fz ds=>obtain⟨o,vs,h1,h2⟩:=q;exact⟨o,vs,e.trans h1,h2.mono l⟩
 | set xs=>exact⟨q.1,e.trans q.2⟩
 | dct kvs=>obtain⟨ws,h1,h2,h3⟩:=q;exact⟨ws,e.trans h1,h2,h3.mono l⟩
 | any=>obtain⟨o,h1⟩:=q;exact⟨o,e.trans h1⟩
theorem ObR.there {a:Addr}{o:Ob} (q:ObR K mg ρ H a o):∃ u,H a=some u:=by
 cases o with
 | lst ds=>obtain⟨vs,h1,_⟩:=q;exact⟨_,h1⟩
 | fz ds=>obtain⟨o,vs,h1,_⟩:=q;exact⟨_,h1⟩
 | set xs=>exact⟨_,q.2⟩
 | dct kvs=>obtain⟨ws,h1,_⟩:=q;exact⟨_,h1⟩
 | any=>exact q
theorem Wd.fresh (w:Wd K mg ρ h H) {p:Addr} (hp:H p=none):p ∉ ρ:=λhm=>by
 obtain⟨n,hn⟩:=List.getElem?_of_mem hm
 have hl:n < h.length:=by rw[<- w.len];exact (List.getElem?_eq_some_iff.mp hn).1
 obtain⟨u,hu⟩:=(w.ob n p h[n] hn (List.getElem?_eq_getElem hl)).there
 rw[hp] at hu;cases hu
theorem dg {p:Addr}{o:HO} (hp:H p=none):Le ρ H ρ (upd H p o):=
 ⟨λ_ _ e=>e,λb xs e=>by rw[aZ (cC e hp)];exact e,λb xs u e=>by rw[aZ (cC e hp)];exact e,λb xs e=>by rw[aZ (cC e hp)];exact e⟩
theorem lV {m:List Addr}:Le ρ H (ρ++m) H:=
 ⟨λn a e=>by rw[List.getElem?_append_left (List.getElem?_eq_some_iff.mp e).1];exact e,λ_ _ e=>e,λ_ _ _ e=>e,λ_ _ e=>e⟩
theorem Wd.alloc {p:Addr}{u:HO}{o:Ob} (w:Wd K mg ρ h H) (hp:H p=none) (hn:ObR K mg (ρ++[p]) (upd H p u) p o):Wd K mg (ρ++[p]) (h++[o]) (upd H p u):=by
 refine⟨by rw[List.length_append,List.length_append,w.len];rfl,?_,λn a ob e1 e2=>?_⟩
 ·rw[List.nodup_append]
  exact⟨w.nd,by simp,λa ha b hb=>by rw[List.mem_singleton] at hb;subst hb;intro z;subst z;exact w.fresh hp ha⟩
 ·by_cases hl:n < ρ.length
  ·rw[List.getElem?_append_left hl] at e1
   rw[List.getElem?_append_left (by rw[<- w.len];exact hl)] at e2
   have q:=w.ob n a ob e1 e2
   obtain⟨v,hv⟩:=q.there
   exact q.mono ((dg hp).trans lV) (aZ (cC hv hp))
  ·have h1:n=ρ.length:=by
    have:=(List.getElem?_eq_some_iff.mp e1).1
    rw[List.length_append] at this
    simp at this
    omega
   subst h1
   rw[List.getElem?_append_right (Nat.le_refl _),Nat.sub_self] at e1
   rw[w.len,List.getElem?_append_right (Nat.le_refl _),Nat.sub_self] at e2
   simp at e1 e2
   subst e1 e2
   exact hn
theorem Wd.tuple {p:Addr}{u:HO} (w:Wd K mg ρ h H) (hp:H p=none):Wd K mg ρ h (upd H p u):=
 ⟨w.len,w.nd,λn a ob e1 e2=>by
  have q:=w.ob n a ob e1 e2
  obtain⟨v,hv⟩:=q.there
  exact q.mono (dg hp) (aZ (cC hv hp))⟩
theorem nz {a:Addr}{o u:HO} (e:H a=some u) (hu:(∀ xs,u ≠ .tup xs)/\(∀ x y,u ≠ .frz x y)/\∀ φ,u ≠ .ext φ):Le ρ H ρ (upd H a o):=by
 refine⟨λ_ _ e=>e,λb xs q=>?_,λb x y q=>?_,λb φ q=>?_⟩ <;> rw[aZ] <;> (try exact q) <;> (intro z;subst z;rw[e] at q;have:=Option.some.inj q;first | exact hu.1 _ this | exact hu.2.1 _ _ this | exact hu.2.2 _ this)
theorem Wd.write {n:Nat}{a:Addr}{o u:HO}{ob:Ob} (w:Wd K mg ρ h H) (ea:ρ[n]?=some a) (e:H a=some u) (hu:(∀ xs,u ≠ .tup xs)/\(∀ x y,u ≠ .frz x y)/\∀ φ,u ≠ .ext φ)
 (hn:ObR K mg ρ (upd H a o) a ob):Wd K mg ρ (h.set n ob) (upd H a o):=by
 refine⟨by rw[List.length_set];exact w.len,w.nd,λm b ob' e1 e2=>?_⟩
 rw[List.getElem?_set] at e2
 by_cases hm:n=m
 ·subst hm
  rw[ea] at e1;cases e1
  rw[if_pos rfl] at e2
  split at e2
  ·cases e2;exact hn
  ·cases e2
 ·rw[if_neg hm] at e2
  have q:=w.ob m b ob' e1 e2
  refine q.mono (nz e hu) (aZ λz=>hm ?_)
  subst z
  have h1:=(List.getElem?_eq_some_iff.mp e1)
  have h2:=(List.getElem?_eq_some_iff.mp ea)
  exact (List.getElem_inj (h₀:=h2.1) (h₁:=h1.1) w.nd).mp (h2.2.trans h1.2.symm)
theorem qC {vs:List V}:(∀ xs,HO.lst vs ≠ .tup xs)/\(∀ x y,HO.lst vs ≠ .frz x y)/\∀ φ,HO.lst vs ≠ .ext φ:=⟨λ_ z=>(nomatch z),λ_ _ z=>(nomatch z),λ_ z=>(nomatch z)⟩
theorem wa {ws:List (Key×V)}:(∀ xs,HO.dK ws ≠ .tup xs)/\(∀ x y,HO.dK ws ≠ .frz x y)/\∀ φ,HO.dK ws ≠ .ext φ:=⟨λ_ z=>(nomatch z),λ_ _ z=>(nomatch z),λ_ z=>(nomatch z)⟩
theorem PostG.mono {α:Type}{E:XK}{k:α->AH->List Addr->Hp->Prop}{r:R α} (l:Le ρ H ρ' H') (p:PostG K mg ρ H E k r):PostG K mg ρ' H' E k r:=by
 cases r with
 | ok d h=>exact λρ2 H2 l2=>p ρ2 H2 (l.trans l2)
 | exc c h=>exact λρ2 H2 C l2=>p ρ2 H2 C (l.trans l2)
 | stuck=>exact p
theorem PostG.imp {α:Type}{E:XK}{k k':α->AH->List Addr->Hp->Prop}{r:R α} (p:PostG K mg ρ H E k r) (i:∀ a h1 ρ' H',Le ρ H ρ' H'->Wd K mg ρ' h1 H'->k a h1 ρ' H'->k' a h1 ρ' H'):PostG K mg ρ H E k' r:=by
 cases r with
 | ok d h=>exact λρ2 H2 l2 w2=>i _ _ _ _ l2 w2 (p ρ2 H2 l2 w2)
 | exc c h=>exact p
 | stuck=>exact p
theorem PostG.bind {α β:Type}{E:XK}{k:β->AH->List Addr->Hp->Prop}{r:R α}{f:α->AH->R β} (p:PostG K mg ρ H E k (r.bind f)):PostG K mg ρ H E (λa h1 ρ' H'=>PostG K mg ρ' H' E k (f a h1)) r:=by
 cases r with
 | ok d h=>exact λρ2 H2 l2 w2=>PostG.mono l2 p
 | exc c h=>exact p
 | stuck=>exact p
theorem PostS.mono {De:Ends}{ES:St->XK}{r:SR} (l:Le ρ H ρ' H') (p:PostS K mg ρ H De ES r):PostS K mg ρ' H' De ES r:=by
 cases r with
 | nx ae h=>exact λρ2 H2 σ l2=>p ρ2 H2 σ (l.trans l2)
 | bk ae h=>exact λρ2 H2 σ l2=>p ρ2 H2 σ (l.trans l2)
 | ct ae h=>exact λρ2 H2 σ l2=>p ρ2 H2 σ (l.trans l2)
 | rt d h=>exact λρ2 H2 v l2=>p ρ2 H2 v (l.trans l2)
 | exc c ae h=>exact λρ2 H2 σ C l2=>p ρ2 H2 σ C (l.trans l2)
 | stuck=>exact p
end
end L2
namespace L2
open PySem PySem.Spec PyProof.Rows
section
variable {X:Cx}{e:Expr}{es:List Expr}{st:Stmt}{sts:List Stmt}
theorem PE.imp {t t':TE} (h:PE X e t) (k:∀ σ H Q,t' σ H Q->t σ H Q):PE X e t':=λpins s σ H Q I w=>h pins s σ H Q I (k σ H Q w)
theorem PT.imp {t t':TT} (h:PT X e t) (k:∀ σ H Q,t' σ H Q->t σ H Q):PT X e t':=λpins s σ H Q I w=>h pins s σ H Q I (k σ H Q w)
theorem PW.imp {t t':TT} (h:PW X e t) (k:∀ σ H Q,t' σ H Q->t σ H Q):PW X e t':=λwh pins s σ H Q I w=>h wh pins s σ H Q I (k σ H Q w)
theorem PA.imp {t t':TA} (h:PA X es t) (k:∀ σ H Q,t' σ H Q->t σ H Q):PA X es t':=λpos pins s σ H Q I w=>h pos pins s σ H Q I (k σ H Q w)
theorem PS.imp {t t':TS} (h:PS X st t) (k:∀ D σ H,t' D σ H->t D σ H):PS X st t':=λpins s σ H D I w=>h pins s σ H D I (k D σ H w)
theorem PSs.imp {t t':TS} (h:PSs X sts t) (k:∀ D σ H,t' D σ H->t D σ H):PSs X sts t':=λpins s σ H D I w=>h pins s σ H D I (k D σ H w)
theorem PG.imp {t t':TG} (h:PG X e t) (k:∀ v σ H Q,t' v σ H Q->t v σ H Q):PG X e t':=λpins s σ H v u Q I r w=>h pins s σ H v u Q I r (k v σ H Q w)
theorem PGs.imp {t t':TGs} (h:PGs X es t) (k:∀ v σ H Q,t' v σ H Q->t v σ H Q):PGs X es t':=λpins s σ H v u Q I r w=>h pins s σ H v u Q I r (k v σ H Q w)
theorem PO.imp {o:Option Expr}{t t':TO} (h:PO X o t) (k:∀ σ H Q,t' σ H Q->t σ H Q):PO X o t':=λpins s σ H Q I w=>h pins s σ H Q I (k σ H Q w)
end
section
variable (K:W.Frag) (mg:Str->Option Value) (X:Cx) (ES:St->XK)
def DE (e:Expr) (F:ME):Prop:=PE X e (rdE K mg ES F)
def DT (e:Expr) (F:MT):Prop:=PT X e (rdT K mg ES F)
def DW (e:Expr) (F:MT):Prop:=PW X e (rdT K mg ES F)
def DA (es:List Expr) (F:MA):Prop:=PA X es (rdA K mg ES F)
def DS (st:Stmt) (F:MS):Prop:=PS X st (rdS K mg ES F)
def DSs (st:List Stmt) (F:MS):Prop:=PSs X st (rdS K mg ES F)
end
def OpD (K:W.Frag) (mg:Str->Option Value) (r:R2) (g:D->D->AH->R D):Prop:=∀ ρ h H dx dy x y Q E,Wd K mg ρ h H->RelD K mg ρ H dx x->RelD K mg ρ H dy y->eg K mg ρ H Q E (g dx dy h)->r x y H Q
def UnD (K:W.Frag) (mg:Str->Option Value) (r:V->Hp->VK->Prop) (g:D->AH->R D):Prop:=∀ ρ h H dx x Q E,Wd K mg ρ h H->RelD K mg ρ H dx x->eg K mg ρ H Q E (g dx h)->r x H Q
def bT (K:W.Frag) (mg:Str->Option Value) (r:List V->Hp->VK->Prop) (g:Fn):Prop:=∀ ρ h H ds vs Q E,Wd K mg ρ h H->RelDs K mg ρ H ds vs->eg K mg ρ H Q E (g ds h)->r vs H Q
def eE (i:Nat):ME:=λae h=>match ae[i]? with
 | some (some d)=>.ok d h
 | _=>.stuck
def eC (d:D):ME:=λ_ h=>.ok d h
def eOp (g:D->D->AH->R D) (F G:ME):ME:=λae h=>(F ae h).bind λx h1=>(G ae h1).bind λy h2=>g x y h2
def eUn (g:D->AH->R D) (F:ME):ME:=λae h=>(F ae h).bind g
def nr:MA:=λ_ h=>.ok [] h
def jV (F:ME) (G:MA):MA:=λae h=>(F ae h).bind λx h1=>(G ae h1).bind λxs h2=>.ok (x :: xs) h2
def eFn (g:Fn) (A:MA):ME:=λae h=>(A ae h).bind g
def nM (ds:List D) (h:AH):R D:=if ds.length<=16777216 then .ok (.tup ds) h else .stuck
def dD (ds:List D) (h:AH):R D:=if ds.length<=16777216 then .ok (.ref h.length) (h++[.lst ds]) else .stuck
def asB (d:D) (h:AH):R Bool:=match d with
 | .bl b=>.ok b h
 | _=>.stuck
def zg (F G:ME):ME:=λae h=>(F ae h).bind λx h1=>(asB x h1).bind λb h2=>if b=true then G ae h2 else .ok (.bl false) h2
def zf (F:ME):ME:=λae h=>(F ae h).bind λx h1=>(asB x h1).bind λb h2=>.ok (.bl (!b)) h2
def tOf (F:ME):MT:=λae h=>(F ae h).bind asB
def tAn (c d:MT):MT:=λae h=>(c ae h).bind λb h1=>if b=true then d ae h1 else .ok false h1
def tO (c d:MT):MT:=λae h=>(c ae h).bind λb h1=>if b=true then .ok true h1 else d ae h1
def tNo (c:MT):MT:=λae h=>(c ae h).bind λb h1=>.ok (!b) h1
section
variable {K:W.Frag}{mg:Str->Option Value}{ρ:List Addr}{H:Hp}{h:AH}
theorem eD {Q:VK}{E:XK}{ds:List D}{vs:List V}{p:Addr} (w:Wd K mg ρ h H) (rs:RelDs K mg ρ H ds vs) (hp:H p=none) (q:eg K mg ρ H Q E (.ok (.ref h.length) (h++[.lst ds]))):Q (.ref p) (upd H p (.lst vs)):=by
 have l:Le ρ H (ρ++[p]) (upd H p (.lst vs)):=(dg hp).trans lV
 refine q (ρ++[p]) _ l (w.alloc hp ⟨vs,bY,rs.mono l⟩) _ (.ref ?_)
 rw[<- w.len,List.getElem?_append_right (Nat.le_refl _),Nat.sub_self]
 rfl
theorem kz {Q:VK}{E:XK}{ds:List D}{vs:List V}{p:Addr} (w:Wd K mg ρ h H) (rs:RelDs K mg ρ H ds vs) (hp:H p=none) (q:eg K mg ρ H Q E (.ok (.tup ds) h)):Q (.ref p) (upd H p (.tup vs)):=
 q ρ _ (dg hp) (w.tuple hp) _ (.tup (SqT.of bY) (rs.mono (dg hp)))
theorem aO {Q:VK}{E:XK}{d:D}{v:V} (w:Wd K mg ρ h H) (r:RelD K mg ρ H d v) (q:eg K mg ρ H Q E (.ok d h)):Q v H:=q ρ H Le.refl w v r
end
section
variable {K:W.Frag}{mg:Str->Option Value}{X:Cx}{ES:St->XK}{e a b c:Expr}{es:List Expr}{F G:ME}{A:MA}{cf cg:MT}{pos:Pos}
theorem EZ (i:Nat) {x:Str} (hN:X.N[i]?=some x:=by rfl) (hv:Vis X.env.scope x:=by first | exact Or.inl rfl | exact Or.inr (Or.inl rfl) | exact Or.inr (Or.inr rfl)) (hd:(x == ("__debug__" : Str))=false:=by decide)
 (j':(x == ("__classdict__" : Str))=false:=by decide):DE K mg X ES (.Name x pos) (eE i):=PE.imp (Ft hN hv hd j') λσ H Q q_=>q_.el λρ h ae w re p=>by
 unfold eE at p
 split at p
 ·rename_i d ed
  obtain⟨v,e1,r⟩:=re.at_ i d ed
  exact⟨v,e1,aO w r p⟩
 ·exact p.elim
theorem mV {v:V}{d:D} (hp:PE X e (tC v)) (r:∀ ρ H,RelD K mg ρ H d v):DE K mg X ES e (eC d):=PE.imp hp λσ H Q q_=>q_.el λρ h ae w re p=>aO w (r ρ H) p
theorem FI {i:Int}{j:Nat}:DE K mg X ES (.Constant (.int i) j pos) (eC (.int i)):=mV Fx λ_ _=>.int i
theorem IJ {i:Bool}{j:Nat}:DE K mg X ES (.Constant (.bool i) j pos) (eC (.bl i)):=mV K8 λ_ _=>.bl i
theorem FL {j:Nat}:DE K mg X ES (.Constant .none j pos) (eC .non):=mV EX λ_ _=>.non
theorem EM {x:Str}{j:Nat}:DE K mg X ES (.Constant (.str x) j pos) (eC (.str x)):=mV xx λ_ _=>.str x
theorem Gd {x:Str} (hg:Gl X x) (ha:∃ a,mg x=some (.ref a)) (hm:X.mg=mg:=by rfl) (hd:(x == ("__debug__" : Str))=false:=by decide):DE K mg X ES (.Name x pos) (eC (.glb x)):=by
 subst hm
 obtain⟨a,ha⟩:=ha
 exact mV (u5 hg ha (v:=.ref a) rfl hd) λ_ _=>.glb ha
structure GC (K:W.Frag) (mg:Str->Option Value) (x:Str) (d:D):Prop where
 ex:∃ u v,mg x=some u/\RelV v u/\∀ ρ H,RelD K mg ρ H d v
theorem IF {x:Str}{d:D} (hg:Gl X x) (ha:GC K mg x d) (hm:X.mg=mg:=by rfl) (hd:(x == ("__debug__" : Str))=false:=by decide):DE K mg X ES (.Name x pos) (eC d):=by
 subst hm
 obtain⟨u,v,h1,h2,h3⟩:=ha.ex
 exact mV (u5 hg h1 h2 hd) h3
theorem JD {x:Str}{n:String} (hg:Gl X x) (hm:mg x=none) (hv:bootBuiltins x=some (.type n)) (he:X.mg=mg:=by rfl) (hn:x ≠ "__name__":=by decide) (hd:(x == ("__debug__" : Str))=false:=by decide):DE K mg X ES (.Name x pos) (eC (.ty n)):=by
 subst he
 exact mV (D7 hg hm hv (v:=.ty n) rfl hn hd) λ_ _=>.ty n
theorem qR {r:R2}{g:D->D->AH->R D} (hd:OpD K mg r g) (σ:St) (H:Hp) (Q:VK) (q:rdE K mg ES (eOp g F G) σ H Q):tOp r (rdE K mg ES F) (rdE K mg ES G) σ H Q:=by
 obtain⟨ρ,h,ae,w,re,p⟩:=q
 exact⟨ρ,h,ae,w,re,p.bind.imp λdx h1 ρ1 H1 l1 w1 p1 x rx=>⟨ρ1,h1,ae,w1,re.mono l1,p1.bind.imp λdy h2 ρ2 H2 l2 w2 p2 y ry=>hd ρ2 h2 H2 dx dy x y Q _ w2 (rx.mono l2) ry p2⟩⟩
theorem Kx {op:Operator}{r:R2}{g:D->D->AH->R D} (ho:OpR X (binaryOp op) r) (hd:OpD K mg r g) (ha:DE K mg X ES a F) (hb:DE K mg X ES b G):DE K mg X ES (.BinOp a op b pos) (eOp g F G):=PE.imp (J7 ho ha hb) (qR hd)
theorem J5 {r:R2}{g:D->D->AH->R D} (hr:IxR X r) (hd:OpD K mg r g) (ha:DE K mg X ES a F) (hb:DE K mg X ES b G) (hs:oY b):DE K mg X ES (.Subscript a b pos) (eOp g F G):=PE.imp (JG hr ha hb hs) (qR hd)
theorem G9 {op:CmpOp}{r:R2}{g:D->D->AH->R D} (ho:OpR X (compareOp op) r) (hd:OpD K mg r g) (ha:DE K mg X ES a F) (hb:DE K mg X ES b G) (hm:behindInMarks op b=false):DE K mg X ES (.Compare a [op] [b] pos) (eOp g F G):=PE.imp (DL ho ha hb hm) (qR hd)
theorem uU (σ:St) (H:Hp) (Q:Bool->Hp->Prop) (q:rdT K mg ES (tOf F) σ H Q):rdE K mg ES F σ H λx H'=>∃ k,x=.bl k/\Q k H':=by
 obtain⟨ρ,h,ae,w,re,p⟩:=q
 refine⟨ρ,h,ae,w,re,p.bind.imp λd h1 ρ1 H1 l1 w1 p1 x rx=>?_⟩
 unfold asB at p1
 split at p1
 ·cases rx;exact⟨_,rfl,p1 ρ1 H1 Le.refl w1⟩
 ·exact p1.elim
theorem Gy {op:CmpOp}{r:R2}{g:D->D->AH->R D} (ho:OpR X (compareOp op) r) (hd:OpD K mg r g) (ha:DE K mg X ES a F) (hb:DE K mg X ES b G) (hm:behindInMarks op b=false):DT K mg X ES (.Compare a [op] [b] pos) (tOf (eOp g F G)):=
 PT.imp (DV ho ha hb hm) λσ H Q q=>qR hd σ H _ (uU σ H Q q)
theorem EB (ha:DE K mg X ES a F) (he:∀ ci,isTrue a X.env ci=(do let v <- ci;standAt a.pos;holding [v] (truthy v)):=by intro _;rfl):DT K mg X ES a (tOf F):=
 PT.imp (HL ha he) λσ H Q q=>uU σ H Q q
theorem GL (ha:DT K mg X ES a cf):DT K mg X ES (.UnaryOp .Not a pos) (tNo cf):=PT.imp (G6 ha) λσ H Q q_=>q_.el λρ h ae w re p=>
 ⟨ρ,h,ae,w,re,p.bind.imp λb h1 ρ1 H1 l1 w1 p1=>p1 ρ1 H1 Le.refl w1⟩
theorem Cz (ha:DT K mg X ES a cf):DW K mg X ES (.BoolOp .And [a] pos) cf:=Cg ha
theorem Fq (ha:DT K mg X ES a cf):DW K mg X ES (.BoolOp .Or [a] pos) cf:=G5 ha
theorem Fm (ha:DT K mg X ES a cf) (hb:DW K mg X ES (.BoolOp .And (b :: es) pos) cg):DW K mg X ES (.BoolOp .And (a :: b :: es) pos) (tAn cf cg):=PW.imp (Fs ha hb) λσ H Q q_=>q_.el λρ h ae w re p=>
 ⟨ρ,h,ae,w,re,p.bind.imp λb h1 ρ1 H1 l1 w1 p1=>by
  cases b with
  | true=>exact⟨ρ1,h1,ae,w1,re.mono l1,p1⟩
  | false=>exact p1 ρ1 H1 Le.refl w1⟩
theorem JF (ha:DT K mg X ES a cf) (hb:DW K mg X ES (.BoolOp .Or (b :: es) pos) cg):DW K mg X ES (.BoolOp .Or (a :: b :: es) pos) (tO cf cg):=PW.imp (Kw ha hb) λσ H Q q_=>q_.el λρ h ae w re p=>
 ⟨ρ,h,ae,w,re,p.bind.imp λb h1 ρ1 H1 l1 w1 p1=>by
  cases b with
  | true=>exact p1 ρ1 H1 Le.refl w1
  | false=>exact⟨ρ1,h1,ae,w1,re.mono l1,p1⟩⟩
theorem DW.dt (h:DW K mg X ES a cf):DT K mg X ES a cf:=PW.pt h
theorem EN {op} (h:DE K mg X ES a F):DE K mg X ES (.BoolOp op [a] pos) F:=Ge h
theorem FV (ha:DE K mg X ES a F) (hb:DE K mg X ES (.BoolOp .And (b :: es) pos) G):DE K mg X ES (.BoolOp .And (a :: b :: es) pos) (zg F G):=PE.imp (Hg ha hb) λσ H Q q_=>q_.el λρ h ae w re p=>by
 refine⟨ρ,h,ae,w,re,p.bind.imp λd h1 ρ1 H1 l1 w1 p1 x rx=>?_⟩
 unfold asB at p1
 split at p1
 ·rename_i b'
  cases rx
  refine⟨b',rfl,?_⟩
  cases b' with
  | true=>exact⟨ρ1,h1,ae,w1,re.mono l1,p1⟩
  | false=>exact p1 ρ1 H1 Le.refl w1 _ (.bl false)
 ·exact p1.elim
theorem FZ (ha:DE K mg X ES a F):DE K mg X ES (.UnaryOp .Not a pos) (zf F):=PE.imp (En ha) λσ H Q q_=>q_.el λρ h ae w re p=>by
 refine⟨ρ,h,ae,w,re,p.bind.imp λd h1 ρ1 H1 l1 w1 p1 x rx=>?_⟩
 unfold asB at p1
 split at p1
 ·cases rx
  exact⟨_,rfl,p1 ρ1 H1 Le.refl w1 _ (.bl _)⟩
 ·exact p1.elim
theorem K6 {op:UnaryOp}{r:V->Hp->VK->Prop}{g:D->AH->R D} (ho:UnR X (unaryOp op) r) (hd:UnD K mg r g) (ha:DE K mg X ES a F):DE K mg X ES (.UnaryOp op a pos) (eUn g F):=PE.imp (Jf ho ha) λσ H Q q_=>q_.el λρ h ae w re p=>
 ⟨ρ,h,ae,w,re,p.bind.imp λd h1 ρ1 H1 l1 w1 p1 x rx=>hd ρ1 h1 H1 d x Q _ w1 rx p1⟩
theorem Gf:DA K mg X ES [] nr:=PA.imp H0 λσ H Q q_=>q_.el λρ h ae w re p=>p ρ H Le.refl w _ .nil
theorem DM (ha:DE K mg X ES e F) (hr:DA K mg X ES es A) (hs:starEach (e :: es) X.env=(false,eval e X.env) :: starEach es X.env:=by rfl):DA K mg X ES (e :: es) (jV F A):=PA.imp (DH ha hr hs) λσ H Q q_=>q_.el λρ h ae w re p=>
 ⟨ρ,h,ae,w,re,p.bind.imp λd h1 ρ1 H1 l1 w1 p1 x rx=>⟨ρ1,h1,ae,w1,re.mono l1,p1.bind.imp λds h2 ρ2 H2 l2 w2 p2 vs rs=>p2 ρ2 H2 Le.refl w2 _ (.cons (rx.mono l2) rs)⟩⟩
theorem Hw {x1} (h:DA K mg X ES es A):DE K mg X ES (.Tuple es x1 pos) (eFn nM A):=PE.imp (Ip h) λσ H Q q_=>q_.el λρ h ae w re p=>
 ⟨ρ,
  h,ae,w,re,p.bind.imp λds h1 ρ1 H1 l1 w1 p1 vs rs=>by
  unfold nM at p1
  split at p1
  ·rename_i hl
   exact⟨by rw[<- rs.len];exact hl,λq hq=>kz w1 rs hq p1⟩
  ·exact p1.elim⟩
theorem Hn (h:DA K mg X ES es A):DE K mg X ES (.List es pos) (eFn dD A):=PE.imp (FT h) λσ H Q q_=>q_.el λρ h ae w re p=>
 ⟨ρ,
  h,ae,w,re,p.bind.imp λds h1 ρ1 H1 l1 w1 p1 vs rs=>by
  unfold dD at p1
  split at p1
  ·rename_i hl
   exact⟨by rw[<- rs.len];exact hl,λq hq=>eD w1 rs hq p1⟩
  ·exact p1.elim⟩
theorem vQ {r:List V->Hp->VK->Prop}{g:Fn} (hd:bT K mg r g) (σ:St) (H:Hp) (Q:VK) (q:rdE K mg ES (eFn g A) σ H Q):tCB r (rdA K mg ES A) σ H Q:=by
 obtain⟨ρ,h,ae,w,re,p⟩:=q
 exact⟨ρ,h,ae,w,re,p.bind.imp λds h1 ρ1 H1 l1 w1 p1 vs rs=>hd ρ1 h1 H1 ds vs Q _ w1 rs p1⟩
theorem zd {id:String}{r:List V->Hp->VK->Prop}{g:Fn}{x:Str}{p:Pos} (hc:CallR X (.builtin id) r) (hd:bT K mg r g) (hg:Gl X x) (hm:mg x=none) (hv:bootBuiltins x=some (.builtin id)) (ha:DA K mg X ES (e :: es) A) (hk:X.mg=mg:=by rfl) (hn:x ≠ "__name__":=by decide) (hdb:(x == ("__debug__" : Str))=false:=by decide)
 (he:starEach (e :: es) X.env=(false,eval e X.env) :: starEach es X.env:=by rfl) (hpl:(backTo pos (starEach es X.env)).any (·.1)=false:=by rfl):DE K mg X ES (.Call (.Name x p) (e :: es) [] pos) (eFn g A):=by
 subst hk
 exact PE.imp (y8 hc hg hm hv ha hn hdb he hpl) (vQ hd)
theorem yE {T:String}{r:List V->Hp->VK->Prop}{g:Fn}{x:Str}{p:Pos} (hc:CallR X (.type T) r) (hd:bT K mg r g) (hg:Gl X x) (hm:mg x=none) (hv:bootBuiltins x=some (.type T)) (ha:DA K mg X ES (e :: es) A) (hk:X.mg=mg:=by rfl) (hn:x ≠ "__name__":=by decide) (hdb:(x == ("__debug__" : Str))=false:=by decide)
 (he:starEach (e :: es) X.env=(false,eval e X.env) :: starEach es X.env:=by rfl) (hpl:(backTo pos (starEach es X.env)).any (·.1)=false:=by rfl):DE K mg X ES (.Call (.Name x p) (e :: es) [] pos) (eFn g A):=by
 subst hk
 exact PE.imp (yf hc hg hm hv ha hn hdb he hpl) (vQ hd)
end
end L2
namespace L2
open PySem PySem.Spec PyProof.Rows
def SR.then (r:SR) (f:AE->AH->SR):SR:=match r with
 | .nx ae h=>f ae h
 | .rt d h=>.rt d h
 | .bk ae h=>.bk ae h
 | .ct ae h=>.ct ae h
 | .exc c ae h=>.exc c ae h
 | .stuck=>.stuck
def R.toS {α:Type} (r:R α) (ae:AE) (f:α->AH->SR):SR:=match r with
 | .ok a h=>f a h
 | .exc c h=>.exc c ae h
 | .stuck=>.stuck
def sNx:MS:=λae h=>.nx ae h
def sCt:MS:=λae h=>.ct ae h
def Aq (F G:MS):MS:=λae h=>(F ae h).then G
def Au (F:ME):MS:=λae h=>(F ae h).toS ae λd h1=>.rt d h1
def wH (F:ME):MS:=λae h=>(F ae h).toS ae λ_ h1=>.nx ae h1
def sIf (c:MT) (F G:MS):MS:=λae h=>(c ae h).toS ae λb h1=>if b=true then F ae h1 else G ae h1
abbrev MG:=D->AE->AH->R AE
abbrev MGs:=List D->AE->AH->R AE
def gp (F:ME) (g:MG):MS:=λae h=>(F ae h).toS ae λd h1=>(g d ae h1).toS ae λam h2=>.nx am h2
def gN (i:Nat):MG:=λd ae h=>.ok (ae.set i (some d)) h
def gsN:MGs:=λds ae h=>match ds with
 | []=>.ok ae h
 | _=>.stuck
def gsC (g:MG) (u:MGs):MGs:=λds ae h=>match ds with
 | d :: r=>(g d ae h).bind λam h'=>u r am h'
 | []=>.stuck
def gT (u:MGs):MG:=λd ae h=>match d with
 | .tup ds=>u ds ae h
 | _=>.stuck
def gS (F G:ME) (w:D->D->D->AH->R Unit):MG:=λv ae h=>(F ae h).bind λo h1=>(G ae h1).bind λi h2=>(w o i v h2).bind λ_ h3=>.ok ae h3
def tw (i j:Nat) (A:MA):MS:=λae h=>(A ae h).toS ae λds h1=>match ds with
 | [d,e]=>.nx ((ae.set i (some d)).set j (some e)) h1
 | _=>.stuck
def rL (i:Nat) (g:D->D->AH->R D) (F:ME):MS:=λae h=>match ae[i]? with
 | some (some x)=>(F ae h).toS ae λy h1=>(g x y h1).toS ae λz h2=>.nx (ae.set i (some z)) h2
 | _=>.stuck
def rB (c:Str) (A:MA):MS:=λae h=>(A ae h).toS ae λds h1=>if ds.length<=16777216 then .exc c ae h1 else .stuck
section
variable (K:W.Frag) (mg:Str->Option Value)
def rdG (ES:St->XK) (g:MG):TG:=λv σ H Q=>∃ ρ h ae d,Wd K mg ρ h H/\RelE K mg ρ H ae σ/\RelD K mg ρ H d v/\PostG K mg ρ H (ES σ) (λam _ ρ' H'=>∀ σ',RelE K mg ρ' H' am σ'->Q σ' H') (g d ae h)
def rdGs (ES:St->XK) (g:MGs):TGs:=λvs σ H Q=>∃ ρ h ae ds,Wd K mg ρ h H/\RelE K mg ρ H ae σ/\RelDs K mg ρ H ds vs/\PostG K mg ρ H (ES σ) (λam _ ρ' H'=>∀ σ',RelE K mg ρ' H' am σ'->Q σ' H') (g ds ae h)
def DG (X:Cx) (ES:St->XK) (e:Expr) (g:MG):Prop:=PG X e (rdG K mg ES g)
def DGs (X:Cx) (ES:St->XK) (es:List Expr) (g:MGs):Prop:=PGs X es (rdGs K mg ES g)
def fG (X:Cx) (ES:St->XK):Prop:=∀ (pins:List (Addr×Obj)) (σ:St) (H:Hp) (s:Shared) (e:Value) (s':Shared),Inv X pins σ H s->CX1 X.prog X.w X.stack H s (ES σ) e s'->X.xe e s'
end
theorem rdG.el {K:W.Frag}{mg:Str->Option Value}{ES:St->XK}{g:MG}{v:V}{σ:St}{H:Hp}{Q:St->Hp->Prop}{C:Prop} (q:rdG K mg ES g v σ H Q) (k:∀ ρ h ae d,Wd K mg ρ h H->RelE K mg ρ H ae σ->RelD K mg ρ H d v->PostG K mg ρ H (ES σ) (λam _ ρ' H'=>∀ σ',RelE K mg ρ' H' am σ'->Q σ' H') (g d ae h)->C):C:=by
 obtain⟨ρ,h,ae,d,w,re,rd,p⟩:=q
 exact k ρ h ae d w re rd p
theorem rdGs.el {K:W.Frag}{mg:Str->Option Value}{ES:St->XK}{g:MGs}{v:List V}{σ:St}{H:Hp}{Q:St->Hp->Prop}{C:Prop} (q:rdGs K mg ES g v σ H Q) (k:∀ ρ h ae d,Wd K mg ρ h H->RelE K mg ρ H ae σ->RelDs K mg ρ H d v->PostG K mg ρ H (ES σ) (λam _ ρ' H'=>∀ σ',RelE K mg ρ' H' am σ'->Q σ' H') (g d ae h)->C):C:=by
 obtain⟨ρ,h,ae,d,w,re,rd,p⟩:=q
 exact k ρ h ae d w re rd p
section
variable {K:W.Frag}{mg:Str->Option Value}{X:Cx}{ES:St->XK}{ρ:List Addr}{H:Hp}{h:AH}{ae:AE}{σ:St}{De:Ends}
theorem cI {α:Type}{r:R α}{f:α->AH->SR}{k:α->AH->List Addr->Hp->Prop} (p:PostS K mg ρ H De ES (r.toS ae f)) (re:RelE K mg ρ H ae σ)
 (i:∀ a h1 ρ1 H1,Le ρ H ρ1 H1->Wd K mg ρ1 h1 H1->RelE K mg ρ1 H1 ae σ->PostS K mg ρ1 H1 De ES (f a h1)->k a h1 ρ1 H1):PostG K mg ρ H (ES σ) k r:=by
 cases r with
 | ok a h1=>exact λρ1 H1 l1 w1=>i a h1 ρ1 H1 l1 w1 (re.mono l1) (PostS.mono l1 p)
 | exc c h1=>exact λρ1 H1 C l1 w1 m=>p ρ1 H1 σ C l1 w1 (re.mono l1) m
 | stuck=>exact p
theorem ik {am:AE} (p:PostS K mg ρ H De ES (.nx am h)) (w:Wd K mg ρ h H) (re:RelE K mg ρ H am σ):De.nx σ H:=p ρ H σ Le.refl w re
theorem Ay {r:SR}{f:AE->AH->SR}{N:St->Hp->Prop} (p:PostS K mg ρ H De ES (r.then f)) (i:∀ ae1 h1 ρ1 H1 σ1,Le ρ H ρ1 H1->Wd K mg ρ1 h1 H1->RelE K mg ρ1 H1 ae1 σ1->PostS K mg ρ1 H1 De ES (f ae1 h1)->N σ1 H1):PostS K mg ρ H { De with nx:=N } ES r:=by
 cases r with
 | nx ae1 h1=>exact λρ1 H1 σ1 l1 w1 re1=>i ae1 h1 ρ1 H1 σ1 l1 w1 re1 (PostS.mono l1 p)
 | rt d h1=>exact p
 | bk ae1 h1=>exact p
 | ct ae1 h1=>exact p
 | exc c ae1 h1=>exact p
 | stuck=>exact p
end
section
variable {K:W.Frag}{mg:Str->Option Value}{X:Cx}{ES:St->XK}{e a b c o i:Expr}{es:List Expr}{st:Stmt}{sts sts':List Stmt}{F G:ME}{A:MA}{cf:MT}{U V':MS}{g:MG}{gs:MGs}{pos:Pos}
theorem CY:DSs K mg X ES [] sNx:=PSs.imp Ck λD σ H q_=>q_.el λρ h ae w re p=>ik p w re
theorem DU (h1:DS K mg X ES st U):DSs K mg X ES [st] U:=CL h1
theorem A5 (h1:DS K mg X ES st U) (h2:DSs K mg X ES sts V'):DSs K mg X ES (st :: sts) (Aq U V'):=PSs.imp (A0 h1 h2) λD σ H q_=>q_.el λρ h ae w re p=>
 ⟨ρ,h,ae,w,re,Ay p λae1 h1 ρ1 H1 σ1 l1 w1 re1 p1=>⟨ρ1,h1,ae1,w1,re1,p1⟩⟩
theorem ui:DS K mg X ES (.Continue pos) sCt:=PS.imp ud λD σ H q_=>q_.el λρ h ae w re p=>p ρ H σ Le.refl w re
theorem Gn (he:DE K mg X ES e F):DS K mg X ES (.Return (some e) pos) (Au F):=PS.imp (F9 he) λD σ H q_=>q_.el λρ h ae w re p=>
 ⟨ρ,h,ae,w,re,cI p re λd h1 ρ1 H1 l1 w1 re1 p1 v rv=>p1 ρ1 H1 v Le.refl w1 rv⟩
theorem Cy (he:DE K mg X ES e F) (hs:swapsWith e none pos.line X.env=pure false:=by rfl):DS K mg X ES (.Expr e pos) (wH F):=PS.imp (Cn he hs) λD σ H q_=>q_.el λρ h ae w re p=>
 ⟨ρ,h,ae,w,re,cI p re λd h1 ρ1 H1 l1 w1 re1 p1 v rv=>ik p1 w1 re1⟩
theorem Ke (hc:DT K mg X ES c cf) (ha:DSs K mg X ES sts U) (hb:DSs K mg X ES sts' V'):DS K mg X ES (.If c sts sts' pos) (sIf cf U V'):=PS.imp (IZ hc ha hb) λD σ H q_=>q_.el λρ h ae w re p=>
 ⟨ρ,h,ae,w,re,cI p re λb h1 ρ1 H1 l1 w1 re1 p1=>by
  cases b with
  | true=>exact⟨ρ1,h1,ae,w1,re1,p1⟩
  | false=>exact⟨ρ1,h1,ae,w1,re1,p1⟩⟩
theorem Co {i:Nat}{x:Str} (hN:X.N.Nodup) (hi:X.N[i]?=some x) (hx:Loc X.env.scope x) (hf:X.fn x=true\/X.env.scope.names.lookup x=some .local:=by first | exact .inl rfl | exact .inr rfl | assumption):DG K mg X ES (.Name x pos) (gN i):=
 PG.imp (D9 hN hi hx hf) λv σ H Q q_=>q_.el λρ h ae d w re rd p=>p ρ H Le.refl w _ (re.set i rd)
theorem Cs:DGs K mg X ES [] gsN:=PGs.imp Cq λvs σ H Q q_=>q_.el λρ h ae ds w re rd p=>by
 cases rd with
 | nil=>exact⟨rfl,p ρ H Le.refl w _ re⟩
 | cons r rr=>exact p.elim
theorem zi (h1:DG K mg X (λ_=>E0) e g) (h2:DGs K mg X (λ_=>E0) es gs)
 (hs:(assignEach (e :: es) X.env).map (·.2)=assign e X.env :: (assignEach es X.env).map (·.2):=by rfl):DGs K mg X (λ_=>E0) (e :: es) (gsC g gs):=PGs.imp (zN h1 h2 hs) λvs σ H Q q_=>q_.el λρ h ae ds w re rd p=>by
 cases rd with
 | nil=>exact p.elim
 | cons r rr=>exact⟨_,_,rfl,ρ,h,ae,_,w,re,r,p.bind.imp λae1 h1 ρ1 H1 l1 w1 p1 σ1 re1=>⟨ρ1,h1,ae1,_,w1,re1,rr.mono l1,p1⟩⟩
theorem Fo {k n:Nat} (hK:X.K=K) (hc:X.calm=true) (h:DGs K mg X (λ_=>E0) es gs)
 (hn:(assignEach es X.env).length=n:=by rfl) (hst:(assignEach es X.env).findIdx? (·.1)=none:=by rfl):DG K mg X (λ_=>E0) (.Tuple es k pos) (gT λds ae h=>if ds.length=n then gs ds ae h else .stuck):=by
 subst hK
 refine PG.imp (yV hc h hn hst) λv σ H Q q_=>q_.el λρ h ae d w re rd p=>?_
 unfold gT at p
 cases rd with
 |
  tup q rs=>
  dsimp only at p
  split at p
  ·rename_i hl
   exact⟨_,_,rfl,q,by rw[<- rs.len];exact hl,ρ,h,ae,_,w,re,rs,p⟩
  ·exact p.elim
 | _=>exact p.elim
def noX {α:Type} (r:R α):R α:=match r with
 | .exc _ _=>.stuck
 | .ok a h=>.ok a h
 | .stuck=>.stuck
theorem DG.weak (hg:DG K mg X (λ_=>E0) e g):DG K mg X ES e (λd ae h=>noX (g d ae h)):=PG.imp hg λv σ H Q q_=>q_.el λρ h ae d w re rd p=>by
 refine⟨ρ,h,ae,d,w,re,rd,?_⟩
 try dsimp only at p
 cases q:g d ae h with
 | ok a h1=>rw[q] at p;exact p
 | exc c h1=>rw[q] at p;exact p.elim
 | stuck=>rw[q] at p;exact p.elim
def sW (K:W.Frag) (mg:Str->Option Value) (r:m9) (f:D->D->D->AH->R Unit):Prop:=∀ ρ h H do_ di dv o i v (Q:Hp->Prop) E,Wd K mg ρ h H->RelD K mg ρ H do_ o->RelD K mg ρ H di i->RelD K mg ρ H dv v->PostG K mg ρ H E (λ_ _ _ H'=>Q H') (f do_ di dv h)->r o i v H Q
theorem xS (he:DE K mg X ES e F) (hg:DG K mg X ES a g) (hs:swapsWithSole [a] e pos.line X.env=pure false:=by rfl) (hw:swappedStores [a] e X.env=pure none:=by rfl)
 (h1:(assignEach [a] X.env).map (·.2)=[assign a X.env]:=by rfl):DS K mg X ES (.Assign [a] e pos) (gp F g):=PS.imp (Ha he hg hs hw h1) λD σ H q_=>q_.el λρ h ae w re p=>
 ⟨ρ,h,ae,w,re,cI p re λd h1 ρ1 H1 l1 w1 re1 p1 v rv=>⟨ρ1,h1,ae,d,w1,re1,rv,cI p1 re1 λae2 h2 ρ2 H2 l2 w2 re2 p2 σ' re'=>ik p2 w2 re'⟩⟩
theorem FJ {i:Nat}{x:Str}{jp:Pos} (hN:X.N.Nodup) (hi:X.N[i]?=some x) (hx:Loc X.env.scope x) (he:DE K mg X ES e F) (hs:swapsWith e (some (.Name x jp)) pos.line X.env=pure false:=by rfl) (hf:X.fn x=true\/X.env.scope.names.lookup x=some .local:=by first | exact .inl rfl | exact .inr rfl | assumption):
 DS K mg X ES (.Assign [.Name x jp] e pos) (gp F (gN i)):=PS.imp (FP hN hi hx he hs hf) λD σ H q_=>q_.el λρ h ae w re p=>
 ⟨ρ,h,ae,w,re,cI p re λd h1 ρ1 H1 l1 w1 re1 p1 v rv=>ik p1 w1 (re1.set i rv)⟩
theorem GW {i j:Nat}{x y:Str}{px py pt:Pos}{kt k2 pt2} (hc:X.calm=true) (hN:X.N.Nodup) (hi:X.N[i]?=some x) (hj:X.N[j]?=some y) (hij:i ≠ j)
 (hx:X.env.scope.names.lookup x=some .local) (hy:X.env.scope.names.lookup y=some .local) (ha:DA K mg X ES [a,b] A)
 (hw:swappedStores [.Tuple [.Name x px,.Name y py] kt pt] (.Tuple [a,b] k2 pt2) X.env=pure (some [x,y]))
 (hs:swapsWithSole [.Tuple [.Name x px,.Name y py] kt pt] (.Tuple [a,b] k2 pt2) pos.line X.env=pure false:=by rfl):
 DS K mg X ES (.Assign [.Tuple [.Name x px,.Name y py] kt pt] (.Tuple [a,b] k2 pt2) pos) (tw i j A):=PS.imp (HQ hc hN hi hj hij hx hy ha hw hs) λD σ H q_=>q_.el λρ h ae w re p=>
 ⟨ρ,h,ae,w,re,cI p re λds h1 ρ1 H1 l1 w1 re1 p1 vs rs=>by
  split at p1
  ·cases rs with
   |
    cons r1 rs=>
    cases rs with
    |
     cons r2 rs=>
     cases rs
     exact⟨_,_,rfl,ik p1 w1 ((re1.set i r1).set j r2)⟩
  ·exact p1.elim⟩
def IpD (K:W.Frag) (mg:Str->Option Value) (r:TIp) (g:D->D->AH->R D):Prop:=∀ ρ h H dx dy x y Q E,Wd K mg ρ h H->RelD K mg ρ H dx x->RelD K mg ρ H dy y->eg K mg ρ H Q E (g dx dy h)->r x y H Q
theorem Ik {i:Nat}{x:Str}{op:Operator}{ti:TIp}{jp:Pos}{gg:D->D->AH->R D} (hN:X.N.Nodup) (hi:X.N[i]?=some x) (hx:Loc X.env.scope x) (he:DE K mg X ES e F) (ho:PIp X op ti) (hd:IpD K mg ti gg) (hf:X.fn x=true\/X.env.scope.names.lookup x=some .local:=by first | exact .inl rfl | exact .inr rfl | assumption):
 DS K mg X ES (.AugAssign (.Name x jp) op e pos) (rL i gg F):=PS.imp (FY hN hi hx he ho hf) λD σ H q_=>q_.el λρ h ae w re p=>by
 unfold rL at p
 split at p
 ·rename_i d ed
  obtain⟨v,e1,r⟩:=re.at_ i d ed
  exact⟨v,e1,ρ,h,ae,w,re,cI p re λdy h1 ρ1 H1 l1 w1 re1 p1 y ry=>hd ρ1 h1 H1 d dy v y _ _ w1 (r.mono l1) ry (cI p1 re1 λdz h2 ρ2 H2 l2 w2 re2 p2 z rz=>ik p2 w2 (re2.set i rz))⟩
 ·exact p.elim
theorem zZ {x:Str}{C:Addr}{E:XK}{np cpos:Pos} (hc:X.calm=true) (hR:Rz X E) (hg:Gl X x) (hm:mg x=some (.ref C)) (hq:W.excIn X.K C eJ "ValueError.__new__"=true) (ha:DA K mg X (λ_=>E) (e :: es) A) (hk:X.mg=mg:=by rfl)
 (he:starEach (e :: es) X.env=(false,eval e X.env) :: starEach es X.env:=by rfl) (db:(backTo cpos (starEach es X.env)).any (·.1)=false:=by rfl) (hd:(x == ("__debug__" : Str))=false:=by decide):
 DS K mg X (λ_=>E) (.Raise (some (.Call (.Name x np) (e :: es) [] cpos)) none pos) (rB x A):=by
 subst hk
 exact
  PS.imp (A1 hc hR hg hm hq ha he db hd) λD σ H q_=>q_.el λρ h ae w re p=>
  ⟨ρ,
   h,ae,w,re,cI p re λds h1 ρ1 H1 l1 w1 re1 p1 vs rs=>by
   split at p1
   ·rename_i hl
    exact⟨by rw[<- rs.len];exact hl,p1 ρ1 H1 σ C Le.refl w1 re1 hm⟩
   ·exact p1.elim⟩
theorem Ee {x:Str}{p:Pos}{k n:Nat}{ps:List Str}{S:Fn} (C:Callee X.prog X.w X.K X.mg X.base x k ps (spD K mg n S)) (hr:Room k X.A) (hg:Gl X x) (hx:fG X ES) (ha:DA K mg X ES (e :: es) A)
 (hdb:(x == ("__debug__" : Str))=false:=by decide) (he:starEach (e :: es) X.env=(false,eval e X.env) :: starEach es X.env:=by rfl) (hpl:(backTo pos (starEach es X.env)).any (·.1)=false:=by rfl):
 DE K mg X ES (.Call (.Name x p) (e :: es) [] pos) (eFn (λds h=>if ds.length=n then S ds h else .stuck) A):=by
 obtain⟨f,fd,F',m,kp,bb,_⟩:=C.ex
 intro pins s σ H Q I hh
 refine wpAny_Call_Name_kw (mr I hg m ?_ hdb)
 have rd:rdA K mg ES A σ H (λvs H1=>spD K mg n S vs H1 Q (ES σ)):=by
  obtain⟨ρ,h,ae,w,re,p⟩:=hh
  refine⟨ρ,h,ae,w,re,p.bind.imp λds h1 ρ1 H1 l1 w1 p1 vs rs=>?_⟩
  split at p1
  ·rename_i hl
   exact⟨ρ1,h1,ds,w1,rs,hl,p1⟩
  ·exact p1.elim
 refine W.callWith_K (h₀:=X.base) I.ok.mod.kin kp (wpAny_mono (ha pos pins s σ H _ I rd) (λus s1 ⟨vs,H1,I1,r,q⟩=>⟨I1.kIn,?_⟩) λ_ _ z=>z) he hpl
 have hl:(us++[]).length=ps.length:=by rw[List.append_nil,<- r.length];exact F'.len _ _ _ _ q
 refine wpAny_call (codeAny_mono (F'.run X.A X.stack s1 H1 ⟨us,[]⟩ us vs Q (ES σ) hr I1.env0 (by simpa using bb s1 us I1.kIn hl) r q) λr s' hq=>?_)
 cases r with
 | error ex=>exact hx pins σ H1 s1 ex s' I1 hq
 |
  ok fl=>
  cases fl with
  | ret u=>exact I1.after hq
  | next=>exact False.elim hq
  | brk=>exact False.elim hq
  | cont=>exact False.elim hq
def fnD (n:Nat) (F:MS):Fn:=λds h=>match F (ds.map some++List.replicate (n - ds.length) none) h with
 | .nx _ h'=>.ok .non h'
 | .rt d h'=>.ok d h'
 | .exc c _ h'=>.exc c h'
 | _=>.stuck
theorem au {E:XK} (hp:rl (CX1 X.prog X.w) X E):fG X (λ_=>E):=λpins σ H s e s' I h=>hp pins σ H s e s' I h
theorem jW:fG X (λ_=>E0):=λpins σ H s e s' I h=>KC pins σ H s e s' I h
end
section
variable {P:Program}{w:World}{K:W.Frag}{mg:Str->Option Value}{base:Heap}{x:Str}{st:Stmt}{k:Nat}{ps N:List Str}{F:MS}
theorem nS {ρ:List Addr}{H:Hp}{ds:List D}{vs:List V} (rs:RelDs K mg ρ H ds vs):RelE K mg ρ H (ds.map some++List.replicate (N.length - ds.length) none) (dm N vs):=by
 unfold dm
 refine⟨by rw[List.length_append,List.length_append,List.length_map,List.length_map,List.length_replicate,List.length_replicate,rs.len],λi d e=>?_⟩
 by_cases hi:i < ds.length
 ·rw[List.getElem?_append_left (by rw[List.length_map];exact hi),List.getElem?_map] at e
  have e':ds[i]?=some d:=by
   cases q:ds[i]? with
   | none=>rw[q] at e;cases e
   | some z=>rw[q] at e;cases e;rfl
  obtain⟨v,h1,h2⟩:=rs.getD e'
  refine⟨v,?_,h2⟩
  rw[List.getElem?_append_left (by rw[List.length_map,<- rs.len];exact hi),List.getElem?_map,h1];rfl
 ·rw[List.getElem?_append_right (by rw[List.length_map];omega),List.getElem?_replicate] at e
  split at e <;> cases e
theorem Def.okD (D:Def K mg x st) (S:FnScope N ps (av st))
 (hb:∀ (kV doc pm:Value) (an:Option Addr) (cdv ct:Value) (us:List Value),us.length=ps.length->bindArgs (W.fnOf x x (cK st) (bu st) (av st) .none kV doc pm an cdv ct) ⟨us,[]⟩=pure (ps.zip us))
 (bn:∀ (f:Addr) (cdv:Value) (A:Around) (outer:List Env) (s:Shared) (H:Hp) (E:XK),Room k (A.deeper (envOfC x (av st) s.heap.objs.size f cdv))->
  DSs K mg (er (CX1 P w) P w K mg base N x (av st) f cdv A outer s H E) (λ_=>E) (bu st) F):Callee P w K mg base x (k + 1) ps (spD K mg ps.length (fnD N.length F)):=by
 refine D.okR S hb (λvs H Q E ⟨ρ,h,ds,w,rs,hl,p⟩=>by rw[<- rs.len];exact hl) λf cdv A outer s H vs Q E hr ⟨ρ,h,ds,w',rs,hl,p⟩=>?_
 refine⟨_,bn f cdv A outer s H E hr,ρ,h,_,w',nS rs,?_⟩
 unfold fnD at p
 split at p
 ·rename_i e;rw[e];exact λρ1 H1 σ1 l1 w1 re1=>p ρ1 H1 l1 w1 _ .non
 ·rename_i e;rw[e];exact λρ1 H1 v l1 w1 rv=>p ρ1 H1 l1 w1 v rv
 ·rename_i e;rw[e];exact λρ1 H1 σ1 C l1 w1 re1 m=>p ρ1 H1 C l1 w1 m
 ·exact p.elim
end
end L2
namespace L2
open PySem PySem.Spec PyProof.Rows
def bD (h:AH) (n:Nat):Option (List D):=match h[n]? with
 | some (.lst xs)=>some xs
 | some (.fz xs)=>some xs
 | _=>none
def dN (h:AH):D->Option (List D)
 | .tup xs=>some xs
 | .ref n=>bD h n
 | .kl xs=>some xs
 | _=>none
section
variable {K:W.Frag}{mg:Str->Option Value}{ρ:List Addr}{H:Hp}{h:AH}
theorem cm (w:Wd K mg ρ h H) {n:Nat}{a:Addr}{xs:List D} (ea:ρ[n]?=some a) (e:bD h n=some xs):∃ vs,SqL K H a vs/\RelDs K mg ρ H xs vs:=by
 unfold bD at e
 split at e
 ·rename_i ys eo
  cases e
  obtain⟨vs,h1,h2⟩:=w.ob n a _ ea eo
  exact⟨vs,SqL.of h1,h2⟩
 ·rename_i ys eo
  cases e
  obtain⟨o,vs,h1,h2⟩:=w.ob n a _ ea eo
  exact⟨vs,.inl (.inr ⟨o,h1⟩),h2⟩
 ·cases e
theorem dY (w:Wd K mg ρ h H) {d:D}{v:V}{xs:List D} (r:RelD K mg ρ H d v) (e:dN h d=some xs):∃ p vs,v=.ref p/\(SqL K H p vs\/SqT K H p vs)/\RelDs K mg ρ H xs vs:=by
 cases r with
 |
  tup q rs=>
  have e':some _=some xs:=e
  cases e'
  exact⟨_,_,rfl,.inr q,rs⟩
 |
  ref ea=>
  obtain⟨vs,h1,h2⟩:=cm w ea e
  exact⟨_,vs,rfl,.inl h1,h2⟩
 |
  kl q rs=>
  have e':some _=some xs:=e
  cases e'
  exact⟨_,_,rfl,.inl (.inr q),rs⟩
 | _=>cases e
end
def g2 (f:Int->Int->R D) (x y:D):R D:=match x,y with
 | .int i,.int j=>f i j
 | _,_=>.stuck
def gI (f:Int->Int->D):D->D->AH->R D:=λx y h=>match x,y with
 | .int i,.int j=>.ok (f i j) h
 | _,_=>.stuck
open Classical in
def gIc (C:Int->Int->Prop) (f:Int->Int->D):D->D->AH->R D:=λx y h=>match x,y with
 | .int i,.int j=>if C i j then .ok (f i j) h else .stuck
 | _,_=>.stuck
section
variable {K:W.Frag}{mg:Str->Option Value}{X:Cx}
theorem n5 {f:Int->Int->V}{g:Int->Int->D} (hr:∀ i j ρ H,RelD K mg ρ H (g i j) (f i j)):OpD K mg (rI0 f) (gI g):=λρ h H dx dy x y Q E w rx ry p=>by
 unfold gI at p
 split at p
 ·cases rx;cases ry;exact⟨_,_,rfl,rfl,aO w (hr _ _ ρ H) p⟩
 ·exact p.elim
theorem qB {C:Int->Int->Prop}{f:Int->Int->V}{g:Int->Int->D} (hr:∀ i j ρ H,RelD K mg ρ H (g i j) (f i j)):OpD K mg (rI C f) (gIc C g):=λρ h H dx dy x y Q E w rx ry p=>by
 unfold gIc at p
 split at p
 ·cases rx;cases ry
  split at p
  ·rename_i hc;exact⟨_,_,rfl,rfl,hc,aO w (hr _ _ ρ H) p⟩
  ·exact p.elim
 ·exact p.elim
def gOr (g g':D->D->AH->R D):D->D->AH->R D:=λx y h=>match g x y h with
 | .stuck=>g' x y h
 | r=>r
theorem OpD.or {r r':R2}{g g':D->D->AH->R D} (a:OpD K mg r g) (b:OpD K mg r' g'):OpD K mg (λx y H Q=>r x y H Q\/r' x y H Q) (gOr g g'):=λρ h H dx dy x y Q E w rx ry p=>by
 unfold gOr at p
 split at p
 ·exact .inr (b ρ h H dx dy x y Q E w rx ry p)
 ·exact .inl (a ρ h H dx dy x y Q E w rx ry p)
end
def mM:D->D->AH->R D:=λx y h=>match x,y with
 | .ref n,.ref m=>match h[n]?,h[m]? with
  | some (.lst xs),some (.lst ys)=>if xs.length + ys.length<=16777216 then .ok (.ref h.length) (h++[.lst (xs++ys)]) else .stuck
  | _,_=>.stuck
 | .tup xs,.tup ys=>if xs.length + ys.length<=16777216 then .ok (.tup (xs++ys)) h else .stuck
 | _,_=>.stuck
def tf:D->D->AH->R D:=λx y h=>match x,y with
 | .ref n,.int k=>match h[n]? with
  | some (.lst xs)=>if -(2 ^ 63)<=k/\k < 2 ^ 63/\xs.length * k.toNat<=16777216 then .ok (.ref h.length) (h++[.lst (List.replicate k.toNat xs).flatten]) else .stuck
  | _=>.stuck
 | _,_=>.stuck
def gIx:D->D->AH->R D:=λx y h=>match dN h x,y with
 | some xs,.int i=>match atI xs i with
  | some d=>.ok d h
  | none=>.stuck
 | _,_=>.stuck
section
variable {K:W.Frag}{mg:Str->Option Value}{X:Cx}
def mi (K:W.Frag):R2:=λx y H Q=>∃ a b ys,x=.ref a/\y=.ref b/\SqT K H a []/\SqT K H b ys/\Q (.ref b) H
theorem C6:OpR X (binaryOp .Add) (mi X.K):=by
 intro pins s σ H x y v u Q I rx ry h
 obtain⟨a,b,ys,rfl,rfl,ha,hb,q⟩:=h
 cases rx
 cases ry
 obtain⟨its,r1,p1,_⟩:=I.tuple ha
 obtain⟨its2,r2,p2,_⟩:=I.tuple hb
 have e:its=[]:=r1.nil_iff.mpr rfl
 subst e
 obtain⟨⟨cls,dd,data,sl⟩,ho,hc,n,hd⟩:=id p1
 obtain⟨⟨cls2,dd2,data2,sl2⟩,ho2,hc2,n2,hd2⟩:=id p2
 simp only at hc hd hc2 hd2
 subst hc hd hc2 hd2
 exact concat_meets ⟨_,ho,rfl⟩ ⟨_,ho2,rfl⟩ noFill_tuple_add seq_tuple_add PySem.F.slot_tuple_add PySem.F.entry_tuple_add (PySem.F.args_tuple_add_2 _ _)
  (tuple_addW0 _ _ _ _ n n2 dd dd2 sl sl2 rfl) ⟨ho,ho2,⟨.ref b,H,I,rfl,q⟩⟩
theorem B5:OpD K mg (λx y H Q=>oP x y H Q\/(mB K x y H Q\/mi K x y H Q)) mM:=λρ h H dx dy x y Q E w rx ry p=>by
 unfold mM at p
 split at p
 ·cases
   rx with
  |
   ref ea=>
   cases ry with
   |
    ref eb=>
    split at p
    ·rename_i xs ys e1 e2
     split at p
     ·rename_i hl
      obtain⟨vs,q1,r1⟩:=w.ob _ _ _ ea e1
      obtain⟨ws,q2,r2⟩:=w.ob _ _ _ eb e2
      exact .inl ⟨_,_,vs,ws,rfl,rfl,q1,q2,by rw[<- r1.len,<- r2.len];exact hl,λp' hp=>eD w (r1.append r2) hp p⟩
     ·exact p.elim
    ·exact p.elim
 ·cases
   rx with
  |
   tup q1 r1=>
   cases ry with
   |
    tup q2 r2=>
    split at p
    ·rename_i hl
     cases r1 with
     | nil=>exact .inr (.inr ⟨_,_,_,rfl,rfl,q1,q2,aO w (.tup q2 r2) p⟩)
     |
      cons r0 r1=>
      refine .inr (.inl ⟨_,_,_,_,rfl,rfl,q1,q2,(λz=>nomatch z),by rw[<- (RelDs.cons r0 r1).len,<- r2.len];exact hl,λz=>?_,λ_ p' hp=>kz w ((RelDs.cons r0 r1).append r2) hp p⟩)
      subst z
      cases r2
      rw[List.append_nil] at p
      exact aO w (.tup q1 (.cons r0 r1)) p
    ·exact p.elim
 ·exact p.elim
theorem Ea {ρ:List Addr}{H:Hp}{xs:List D}{vs:List V} (r:RelDs K mg ρ H xs vs) {i:Int}{d:D} (e:atI xs i=some d):∃ v,atI vs i=some v/\RelD K mg ρ H d v:=by
 unfold atI at e ⊢
 rw[<- r.len]
 cases q:ixN xs.length i with
 | none=>rw[q] at e;cases e
 | some j=>rw[q] at e;exact r.getD e
theorem F6:OpD K mg (λx y H Q=>wu K x y H Q\/wU K x y H Q) gIx:=λρ h H dx dy x y Q E w rx ry p=>by
 unfold gIx at p
 split at p
 ·rename_i xs i e1
  split at p
  ·rename_i d e2
   cases ry
   obtain⟨pa,vs,rfl,hq,rs⟩:=dY w rx e1
   obtain⟨v,e3,rv⟩:=Ea rs e2
   rcases hq with hq | hq
   ·exact .inl ⟨_,_,_,_,rfl,rfl,hq,e3,aO w rv p⟩
   ·exact .inr ⟨_,_,_,_,rfl,rfl,hq,e3,aO w rv p⟩
  ·exact p.elim
 ·exact p.elim
theorem ixK (h:X.K=K):IxR X (λx y H Q=>wu K x y H Q\/wU K x y H Q):=by subst h;exact Du.or FW
theorem catK (h:X.K=K):OpR X (binaryOp .Add) (λx y H Q=>oP x y H Q\/(mB K x y H Q\/mi K x y H Q)):=by subst h;exact GK.or (DQ.or C6)
end
def dc:Nat->AH->D->Option PyData
 | 0,_,_=>none
 | _ + 1,_,.non=>some .none
 | _ + 1,_,.bl b=>some (.bool b)
 | _ + 1,_,.int i=>some (.int i)
 | _ + 1,_,.str x=>some (.str x)
 | k + 1,h,.tup xs=>(xs.mapM (dc k h)).map .tuple
 | k + 1,h,.ref n=>match bD h n with
  | some xs=>(xs.mapM (dc k h)).map .list
  | none=>none
 | _ + 1,_,_=>none
theorem qb {K:W.Frag}{mg:Str->Option Value}{ρ:List Addr}{H:Hp}{f:D->Option PyData} (hf:∀ d v pd,RelD K mg ρ H d v->f d=some pd->Rep K H v pd):∀ {xs:List D}{vs:List V}{ps:List PyData},RelDs K mg ρ H xs vs->xs.mapM f=some ps->Reps K H vs ps:=by
 intro xs
 induction xs with
 |
  nil=>
  intro vs ps r e
  cases r
  have e':some []=some _:=e
  cases e';exact .nil
 |
  cons x xs ih=>
  intro vs ps r e
  cases r with
  |
   cons r rr=>
   rw[List.mapM_cons] at e
   cases q:f x with
   | none=>rw[q] at e;cases e
   |
    some pd=>
    rw[q] at e
    cases q2:xs.mapM f with
    | none=>rw[q2] at e;cases e
    |
     some pds=>
     rw[q2] at e
     have e':some (pd :: pds)=some ps:=e
     cases e'
     exact .cons (hf _ _ _ r q) (ih rr q2)
theorem fu {K:W.Frag}{mg:Str->Option Value}{ρ:List Addr}{H:Hp}{h:AH} (w:Wd K mg ρ h H):∀ (k:Nat) {d:D}{v:V}{pd:PyData},RelD K mg ρ H d v->dc k h d=some pd->Rep K H v pd
 | 0,_,_,_,_,e=>by cases e
 |
  k + 1,d,v,pd,r,e=>by
  cases r with
  | non=>have e':some _=some pd:=e;cases e';exact .non
  | bl b=>have e':some _=some pd:=e;cases e';exact .bl b
  | int b=>have e':some _=some pd:=e;cases e';exact .int b
  | str b=>have e':some _=some pd:=e;cases e';exact .str b
  |
   tup q rs=>
   rename_i ds
   have e':(ds.mapM (dc k h)).map PyData.tuple=some pd:=e
   cases q2:ds.mapM (dc k h) with
   | none=>rw[q2] at e';cases e'
   |
    some ps=>
    rw[q2] at e'
    cases e'
    exact .tup q (qb (λd v pd r e=>fu w k r e) rs q2)
  |
   ref ea=>
   rename_i n a
   unfold dc at e
   split at e
   ·rename_i xs e1
    obtain⟨vs,h1,h2⟩:=cm w ea e1
    cases q2:xs.mapM (dc k h) with
    | none=>rw[q2] at e;cases e
    |
     some ps=>
     rw[q2] at e
     cases e
     exact .lst h1 (qb (λd v pd r e=>fu w k r e) h2 q2)
   ·cases e
  | _=>cases e
def kY (h:AH) (x y:D):Option Bool:=match dc 64 h x,dc 64 h y with
 | some a,some b=>if SeqAt.shaped a=true/\SeqAt.shaped b=true then some (PyData.eqv a b) else none
 | _,_=>none
def gEq (ii:Bool):D->D->AH->R D:=λx y h=>match kY h x y with
 | some b=>.ok (.bl (if ii then !b else b)) h
 | none=>.stuck
section
variable {K:W.Frag}{mg:Str->Option Value}{X:Cx}
theorem ur {ρ:List Addr}{H:Hp}{h:AH}{dx dy:D}{x y:V}{b:Bool} (w:Wd K mg ρ h H) (rx:RelD K mg ρ H dx x) (ry:RelD K mg ρ H dy y) (e:kY h dx dy=some b):
 ∃ a c,Rep K H x a/\Rep K H y c/\SeqAt.shaped a=true/\SeqAt.shaped c=true/\PyData.eqv a c=b:=by
 unfold kY at e
 split at e
 ·rename_i a c e1 e2
  split at e
  ·rename_i hs
   cases e
   exact⟨a,c,fu w 64 rx e1,fu w 64 ry e2,hs.1,hs.2,rfl⟩
  ·cases e
 ·cases e
theorem Fz:OpD K mg (vy K) (gEq false):=λρ h H dx dy x y Q E w rx ry p=>by
 unfold gEq at p
 split at p
 ·rename_i b e
  obtain⟨a,c,h1,h2,h3,h4,rfl⟩:=ur w rx ry e
  exact⟨a,c,h1,h2,h3,h4,aO w (.bl _) p⟩
 ·exact p.elim
theorem HC:OpD K mg (vb K) (gEq true):=λρ h H dx dy x y Q E w rx ry p=>by
 unfold gEq at p
 split at p
 ·rename_i b e
  obtain⟨a,c,h1,h2,h3,h4,rfl⟩:=ur w rx ry e
  exact⟨a,c,h1,h2,h3,h4,aO w (.bl _) p⟩
 ·exact p.elim
end
def mj:D->Bool
 | .non=>true
 | .bl _=>true
 | .int _=>true
 | .str _=>true
 | _=>false
def toV:D->V
 | .bl b=>.bl b
 | .int i=>.int i
 | .str x=>.str x
 | _=>.non
def eqF (x y:D):Bool:=eqV (toV x) (toV y)
def gIn (ii:Bool):D->D->AH->R D:=λx y h=>match dN h y with
 | some xs=>if mj x=true/\xs.all mj=true then .ok (.bl (if ii then !(xs.any λd=>eqF d x) else xs.any λd=>eqF d x)) h else .stuck
 | none=>.stuck
section
variable {K:W.Frag}{mg:Str->Option Value}{X:Cx}{ρ:List Addr}{H:Hp}
theorem tF {d:D}{v:V} (r:RelD K mg ρ H d v) (f:mj d=true):v=toV d/\flatV v=true:=by
 cases r with
 | non=>exact⟨rfl,rfl⟩
 | bl=>exact⟨rfl,rfl⟩
 | int=>exact⟨rfl,rfl⟩
 | str=>exact⟨rfl,rfl⟩
 | _=>cases f
theorem xK:∀ {ds:List D}{vs:List V},RelDs K mg ρ H ds vs->ds.all mj=true->vs=ds.map toV/\vs.all flatV=true:=by
 intro ds
 induction ds with
 |
  nil=>
  intro vs r f
  cases r
  exact⟨rfl,rfl⟩
 |
  cons d0 ds ih=>
  intro vs r f
  cases r with
  |
   cons r rr=>
   rw[List.all_cons,Bool.and_eq_true] at f
   obtain⟨rfl,h1⟩:=tF r f.1
   obtain⟨rfl,h2⟩:=ih rr f.2
   exact⟨rfl,by rw[List.all_cons,h1,h2];rfl⟩
theorem yT (ii:Bool):OpD K mg (rIn K ii) (gIn ii):=λρ h H dx dy x y Q E w rx ry p=>by
 unfold gIn at p
 split at p
 ·rename_i xs e
  split at p
  ·rename_i hf
   obtain⟨pa,vs,rfl,hq,rs⟩:=dY w ry e
   obtain⟨rfl,f1⟩:=tF rx hf.1
   obtain⟨rfl,f2⟩:=xK rs hf.2
   refine⟨pa,_,rfl,hq,f1,f2,?_⟩
   have e2:inV (toV dx) (xs.map toV)=xs.any λd=>eqF d dx:=by
    unfold inV eqF
    rw[List.any_map];rfl
   rw[e2]
   exact aO w (.bl _) p
  ·exact p.elim
 ·exact p.elim
def lu (ii:Bool):D->D->AH->R D:=λx y h=>match x,y with
 | .non,.non=>.ok (.bl (!ii)) h
 | _,.non=>.ok (.bl ii) h
 | _,_=>.stuck
theorem B6:OpD K mg (λx y H Q=>y=.non/\Q (.bl (decide (x=.non))) H) (lu false):=λρ h H dx dy x y Q E w rx ry p=>by
 unfold lu at p
 split at p
 ·cases rx;cases ry;exact⟨rfl,aO w (.bl _) p⟩
 ·rename_i hne
  cases ry
  refine⟨rfl,?_⟩
  have e:decide (x=V.non)=false:=by
   rw[decide_eq_false_iff_not]
   rintro rfl
   cases rx
   exact hne rfl
  rw[e]
  exact aO w (.bl _) p
 ·exact p.elim
theorem Be:OpD K mg (λx y H Q=>y=.non/\Q (.bl (!decide (x=.non))) H) (lu true):=λρ h H dx dy x y Q E w rx ry p=>by
 unfold lu at p
 split at p
 ·cases rx;cases ry;exact⟨rfl,aO w (.bl _) p⟩
 ·rename_i hne
  cases ry
  refine⟨rfl,?_⟩
  have e:decide (x=V.non)=false:=by
   rw[decide_eq_false_iff_not]
   rintro rfl
   cases rx
   exact hne rfl
  rw[e]
  exact aO w (.bl _) p
 ·exact p.elim
end
end L2
namespace L2
open PySem PySem.Spec PyProof.Rows
inductive AIt where
 | lst (n:Nat) (xs:List D) | tup (xs:List D) | rng (lo:Int) (k:Nat) | enm (s:AIt) | zip (s t:AIt)
def jB:Nat->List D->List D
 | _,[]=>[]
 | i,d :: ds=>.tup [.int (i:Nat),d] :: jB (i + 1) ds
def AIt.items:AIt->List D
 | .lst _ xs=>xs
 | .tup xs=>xs
 | .rng lo k=>(List.range k).map λi=>D.int (lo + (i:Nat))
 | .enm s=>jB 0 s.items
 | .zip s t=>List.zipWith (λx y=>.tup [x,y]) s.items t.items
def AIt.guard:AIt->AH->Prop
 | .lst n xs,h=>bD h n=some xs
 | .enm s,h=>s.guard h
 | .zip s t,h=>s.guard h/\t.guard h
 | _,_=>True
def SrcR (K:W.Frag) (mg:Str->Option Value) (ρ:List Addr) (H:Hp):AIt->Bool->Addr->Prop
 | .lst n _,true,a=>ρ[n]?=some a
 | .tup xs,false,p=>∃ vs,SqT K H p vs/\RelDs K mg ρ H xs vs
 | _,_,_=>False
def ItR (K:W.Frag) (mg:Str->Option Value) (ρ:List Addr) (H:Hp):AIt->It->Prop
 | .lst n _,J=>∃ a,ρ[n]?=some a/\J=Itl K a
 | .tup xs,J=>∃ p vs,SqT K H p vs/\RelDs K mg ρ H xs vs/\J=Itt K p
 | .rng lo k,J=>J=Itr lo k
 | .enm s,J=>∃ b a,SrcR K mg ρ H s b a/\J=IteE K b a
 | .zip s t,J=>∃ b c a d,SrcR K mg ρ H s b a/\SrcR K mg ρ H t c d/\J=ItZ K b c a d
theorem rn:∀ {ds:List D}{k i:Nat}{e:D},(jB k ds)[i]?=some e->∃ d,ds[i]?=some d/\e=.tup [.int ((k + i:Nat):Int),d]
 | [],_,_,_,q=>by simp [jB] at q
 | d :: ds,k,0,e,q=>⟨d,rfl,by simpa [jB] using q.symm⟩
 |
  d :: ds,k,i + 1,e,q=>by
  obtain⟨d',q1,q2⟩:=rn (ds:=ds) (k:=k + 1) (i:=i) (e:=e) (by simpa [jB] using q)
  refine⟨d',by simpa using q1,?_⟩
  rw[q2]
  congr 4
  omega
theorem tH:∀ (ds:List D) (k:Nat),(jB k ds).length=ds.length
 | [],_=>rfl
 | _ :: ds,k=>by show (jB (k + 1) ds).length + 1=ds.length + 1;rw[tH ds]
section
variable {K:W.Frag}{mg:Str->Option Value}{ρ ρ1:List Addr}{H H1:Hp}{h h1:AH}
theorem SrcR.at_ {s:AIt}{b:Bool}{a:Addr} (r:SrcR K mg ρ H s b a) (l:Le ρ H ρ1 H1) (w:Wd K mg ρ1 h1 H1) (g:s.guard h1):∃ vs,SqB K b H1 a vs/\RelDs K mg ρ1 H1 s.items vs:=by
 cases s with
 |
  lst n xs=>
  cases b with
  | true=>exact cm w (l.pre _ _ r) g
  | false=>exact r.elim
 |
  tup xs=>
  cases b with
  | true=>exact r.elim
  | false=>obtain⟨vs,q,rs⟩:=r;exact⟨vs,l.sqT q,rs.mono l⟩
 | rng _ _=>cases b <;> exact r.elim
 | enm _=>cases b <;> exact r.elim
 | zip _ _=>cases b <;> exact r.elim
theorem ItR.step {it:AIt}{J:It} (hJ:ItR K mg ρ H it J) (l:Le ρ H ρ1 H1) (w:Wd K mg ρ1 h1 H1) (g:it.guard h1):
 (∀ (i:Nat) (d:D),it.items[i]?=some d->J.go i H1/\∀ x H',J.yld i H1 x H'->Le ρ1 H1 ρ1 H'/\Wd K mg ρ1 h1 H'/\RelD K mg ρ1 H' d x)/\J.stop it.items.length H1:=by
 cases it with
 |
  lst n xs=>
  obtain⟨a,ea,rfl⟩:=hJ
  obtain⟨vs,q,rs⟩:=cm w (l.pre _ _ ea) g
  refine⟨λi d e=>?_,vs,q,by rw[<- rs.len];exact Nat.le_refl _⟩
  obtain⟨v,ev,rv⟩:=rs.getD e
  refine⟨⟨vs,v,q,ev⟩,λx H' ⟨e1,y⟩=>?_⟩
  subst e1
  have:=(y vs q).symm.trans ev
  cases this
  exact⟨Le.refl,w,rv⟩
 |
  tup xs=>
  obtain⟨p,vs,q,rs,rfl⟩:=hJ
  have q1:=l.sqT q
  have rs1:=rs.mono l
  refine⟨λi d e=>?_,vs,q1,by rw[<- rs1.len];exact Nat.le_refl _⟩
  obtain⟨v,ev,rv⟩:=rs1.getD e
  refine⟨⟨vs,v,q1,ev⟩,λx H' ⟨e1,y⟩=>?_⟩
  subst e1
  have:=(y vs q1).symm.trans ev
  cases this
  exact⟨Le.refl,w,rv⟩
 |
  rng lo k=>
  cases hJ
  refine⟨λi d e=>?_,?_⟩
  ·have e':((List.range k).map λi=>D.int (lo + (i:Nat)))[i]?=some d:=e
   rw[List.getElem?_map] at e'
   cases q:(List.range k)[i]? with
   | none=>rw[q] at e';cases e'
   |
    some j=>
    rw[q] at e'
    have hj:=List.getElem?_eq_some_iff.mp q
    have e2:=hj.2
    rw[List.getElem_range] at e2
    subst e2
    cases e'
    refine⟨show i < k by simpa using hj.1,λx H' ⟨e1,e2⟩=>?_⟩
    subst e1 e2
    exact⟨Le.refl,w,.int _⟩
  ·show k<=((List.range k).map λi=>D.int (lo + (i:Nat))).length
   simp
 |
  enm s=>
  obtain⟨b,a,r,rfl⟩:=hJ
  obtain⟨vs,q,rs⟩:=r.at_ l w g
  refine⟨λi d e=>?_,vs,q,by show vs.length=(jB 0 s.items).length;rw[tH,rs.len]⟩
  obtain⟨d',q1,rfl⟩:=rn (show (jB 0 s.items)[i]?=some d from e)
  obtain⟨v,ev,rv⟩:=rs.getD q1
  refine⟨⟨vs,v,q,ev⟩,λx H' ⟨p,u,e1,hp,e2,hu⟩=>?_⟩
  subst e1 e2
  have:=(hu vs q).symm.trans ev
  cases this
  rw[Nat.zero_add]
  exact⟨dg hp,w.tuple hp,.tup (SqT.of bY) (.cons (.int _) (.cons (rv.mono (dg hp)) .nil))⟩
 |
  zip s t=>
  obtain⟨b,c,a,d,r1,r2,rfl⟩:=hJ
  obtain⟨vs,q,rs⟩:=r1.at_ l w g.1
  obtain⟨us,q',rs'⟩:=r2.at_ l w g.2
  refine⟨λi e ei=>?_,vs,us,q,q',?_⟩
  ·have ei':(List.zipWith (λx y=>D.tup [x,y]) s.items t.items)[i]?=some e:=ei
   rw[List.getElem?_zipWith] at ei'
   cases k1:s.items[i]? with
   | none=>rw[k1] at ei';cases ei'
   |
    some d1=>
    cases k2:t.items[i]? with
    | none=>rw[k1,k2] at ei';cases ei'
    |
     some d2=>
     rw[k1,k2] at ei'
     cases ei'
     obtain⟨v,ev,rv⟩:=rs.getD k1
     obtain⟨v',ev',rv'⟩:=rs'.getD k2
     refine⟨⟨vs,us,v,v',q,q',ev,ev'⟩,λx H' ⟨p,u,u',e1,hp,e2,hu,hu'⟩=>?_⟩
     subst e1 e2
     have:=(hu vs q).symm.trans ev
     cases this
     have:=(hu' us q').symm.trans ev'
     cases this
     exact⟨dg hp,w.tuple hp,.tup (SqT.of bY) (.cons (rv.mono (dg hp)) (.cons (rv'.mono (dg hp)) .nil))⟩
  ·have hl:(AIt.zip s t).items.length=min s.items.length t.items.length:=List.length_zipWith ..
   rw[hl,rs.len,rs'.len]
   rcases Nat.le_total vs.length us.length with z | z
   ·left;rw[Nat.min_eq_left z];exact List.getElem?_eq_none (Nat.le_refl _)
   ·right;rw[Nat.min_eq_right z];exact List.getElem?_eq_none (Nat.le_refl _)
end
def SR.loop (r:SR) (f:AE->AH->SR):SR:=match r with
 | .nx ae h=>f ae h
 | .ct ae h=>f ae h
 | .bk ae h=>.nx ae h
 | .rt d h=>.rt d h
 | .exc c ae h=>.exc c ae h
 | .stuck=>.stuck
open Classical in
def kE (G:AH->Prop) (g:MG) (B:MS):List D->MS
 | [],ae,h=>if G h then .nx ae h else .stuck
 | d :: ds,ae,h=>if G h then (g d ae h).toS ae λae1 h1=>(B ae1 h1).loop (kE G g B ds) else .stuck
abbrev MI:=AE->AH->R AIt
def AA (I:MI) (g:MG) (B:MS):MS:=λae h=>(I ae h).toS ae λit h1=>kE it.guard g B it.items ae h1
open Classical in
def lcL (G:AH->Prop) (g:MG) (c:MT) (F:ME):List D->List D->AE->AH->R (List D)
 | [],acc,_,h=>if G h then .ok acc h else .stuck
 | d :: ds,acc,ae,h=>if G h/\acc.length < 16777216 then (g d ae h).bind λae1 h1=>(c ae1 h1).bind λb h2=>if b=true then (F ae1 h2).bind λy h3=>lcL G g c F ds (acc++[y]) ae1 h3 else lcL G g c F ds acc ae1 h2 else .stuck
def jT (sub:List (Option Nat)) (ae:AE):AE:=sub.map λo=>o.bind λi=>(ae[i]?).bind id
def eLC (I:MI) (sub:List (Option Nat)) (g:MG) (c:MT) (F:ME):ME:=λae h=>(I ae h).bind λit h1=>(noX (lcL it.guard g c F it.items [] (jT sub ae) h1)).bind dD
def tY:MT:=λ_ h=>.ok true h
section
variable (K:W.Frag) (mg:Str->Option Value)
def rdI (ES:St->XK) (F:MI):TI:=λσ H R'=>∃ ρ h ae,Wd K mg ρ h H/\RelE K mg ρ H ae σ/\PostG K mg ρ H (ES σ) (λit _ ρ' H'=>∀ J,ItR K mg ρ' H' it J->R' J H') (F ae h)
def DI (X:Cx) (ES:St->XK) (tg al:Expr) (F:MI):Prop:=PI X tg al (rdI K mg ES F)
end
def zD (F:ME):MI:=λae h=>(F ae h).bind λd h1=>match d with
 | .tup xs=>.ok (.tup xs) h1
 | .ref n=>match bD h1 n with
  | some xs=>.ok (.lst n xs) h1
  | none=>.stuck
 | _=>.stuck
def AY (A:MA):MI:=λae h=>(A ae h).bind λds h1=>match ds with
 | [.int j]=>if -(2 ^ 62)<=j/\j < 2 ^ 62 then .ok (.rng 0 j.toNat) h1 else .stuck
 | _=>.stuck
def AI (A:MA):MI:=λae h=>(A ae h).bind λds h1=>match ds with
 | [.int i,.int j]=>if -(2 ^ 62)<=i/\i < 2 ^ 62/\-(2 ^ 62)<=j/\j < 2 ^ 62 then .ok (.rng i (j - i).toNat) h1 else .stuck
 | _=>.stuck
def me (d:D) (h:AH):Option AIt:=match d with
 | .tup xs=>some (.tup xs)
 | .ref n=>(bD h n).map (.lst n)
 | _=>none
section
variable {K:W.Frag}{mg:Str->Option Value}{X:Cx}{ES:St->XK}{tg al e a b c im:Expr}{F:ME}{A:MA}{I:MI}{g:MG}{cf:MT}{U:MS}{sts:List Stmt}{pos:Pos}
theorem PI.imp {t t':TI} (h:PI X tg al t) (k:∀ σ H Q,t' σ H Q->t σ H Q):PI X tg al t':=λpins s σ H Q I w=>h pins s σ H Q I (k σ H Q w)
theorem Er {l:Expr}{tl:TE} (hl:PE X l tl):PI X tg l (λσ H R=>tl σ H λx H1=>(∃ a,x=.ref a/\(∃ xs,SqL X.K H1 a xs)/\R (Itl X.K a) H1)\/(∃ a,x=.ref a/\(∃ xs,SqT X.K H1 a xs)/\R (Itt X.K a) H1)):=by
 intro pins s σ H R I h
 refine thn (hl pins s σ H _ I h) λv s1 ⟨x,H1,I1,r1,q1⟩=>?_
 rcases q1 with ⟨a,e,⟨xs,hq⟩,q⟩ | ⟨a,e,⟨xs,hq⟩,q⟩
 ·subst e
  cases r1
  obtain⟨its,rv,p,hz⟩:=I1.list hq
  refine wpAny_pyIter_list p.isList ?_
  refine⟨s1.heap.objs.size,[s1.heap.objs.size],_,_,H1,rfl,I1.kept (t':=s1.toks) λb o e=>Heap.get?_push_of_some _ e,xA a _,⟨_,Heap.get?_push_size _ rfl,rfl,rfl⟩,λb hb=>?_,q⟩
  have e:b=s1.heap.objs.size:=by simpa using hb
  subst e
  exact I1.fpOk (Nat.le_refl _) (I1.hok.fresh (Nat.le_refl _))
 ·subst e
  cases r1
  obtain⟨its,rv,p,hz⟩:=I1.tuple hq
  refine wpAny_pyIter_tuple (show s1.heap.IsTuple a its.toArray from p) ?_
  refine⟨s1.heap.objs.size,[s1.heap.objs.size],_,_,H1,rfl,I1.kept (t':=s1.toks) λb o e=>Heap.get?_push_of_some _ e,vc a _,⟨_,Heap.get?_push_size _ rfl,rfl,rfl⟩,λb hb=>?_,q⟩
  have e:b=s1.heap.objs.size:=by simpa using hb
  subst e
  exact I1.fpOk (Nat.le_refl _) (I1.hok.fresh (Nat.le_refl _))
theorem GQ (hK:X.K=K) (he:DE K mg X ES e F):DI K mg X ES tg e (zD F):=by
 subst hK
 refine PI.imp (Er he) λσ H R ⟨ρ,h,ae,w,re,p⟩=>⟨ρ,h,ae,w,re,p.bind.imp λd h1 ρ1 H1 l1 w1 p1 v rv=>?_⟩
 cases rv with
 | tup q rs=>exact .inr ⟨_,rfl,⟨_,q⟩,p1 ρ1 H1 Le.refl w1 _ ⟨_,_,q,rs,rfl⟩⟩
 |
  ref ea=>
  dsimp only at p1
  split at p1
  ·rename_i xs e1
   obtain⟨vs,q,rs⟩:=cm w1 ea e1
   exact .inl ⟨_,rfl,⟨_,q⟩,p1 ρ1 H1 Le.refl w1 _ ⟨_,ea,rfl⟩⟩
  ·exact p1.elim
 | _=>exact p1.elim
theorem yG {p:Pos} (hg:Gl X "range") (hm:mg "range"=none) (ha:DA K mg X ES [a] A) (hk:X.mg=mg:=by rfl) (hs:starEach [a] X.env=[(false,eval a X.env)]:=by rfl):DI K mg X ES tg (.Call (.Name "range" p) [a] [] pos) (AY A):=by
 subst hk
 refine PI.imp (yB hg hm ha hs) λσ H R ⟨ρ,h,ae,w,re,p⟩=>⟨ρ,h,ae,w,re,p.bind.imp λds h1 ρ1 H1 l1 w1 p1 vs rs=>?_⟩
 split at p1
 ·cases rs with
  |
   cons r rs=>
   cases r;cases rs
   split at p1
   ·rename_i hb
    exact⟨_,rfl,hb.1,hb.2,p1 ρ1 H1 Le.refl w1 _ rfl⟩
   ·exact p1.elim
 ·exact p1.elim
theorem ye {p:Pos} (hg:Gl X "range") (hm:mg "range"=none) (ha:DA K mg X ES [a,b] A) (hk:X.mg=mg:=by rfl) (hs:starEach [a,b] X.env=[(false,eval a X.env),(false,eval b X.env)]:=by rfl) (hs2:starEach [b] X.env=[(false,eval b X.env)]:=by rfl):DI K mg X ES tg (.Call (.Name "range" p) [a,b] [] pos) (AI A):=by
 subst hk
 refine PI.imp (xU hg hm ha hs hs2) λσ H R ⟨ρ,h,ae,w,re,p⟩=>⟨ρ,h,ae,w,re,p.bind.imp λds h1 ρ1 H1 l1 w1 p1 vs rs=>?_⟩
 split at p1
 ·cases
   rs with
  |
   cons r rs=>
   cases rs with
   |
    cons r2 rs=>
    cases r;cases r2;cases rs
    split at p1
    ·rename_i hb
     exact⟨_,_,rfl,hb,p1 ρ1 H1 Le.refl w1 _ rfl⟩
    ·exact p1.elim
 ·exact p1.elim
theorem rN {ρ:List Addr}{H:Hp}{De:Ends}{r:SR}{f:AE->AH->SR}{N:St->Hp->Prop} (p:PostS K mg ρ H De ES (r.loop f)) (i:∀ ae1 h1 ρ1 H1 σ1,Le ρ H ρ1 H1->Wd K mg ρ1 h1 H1->RelE K mg ρ1 H1 ae1 σ1->PostS K mg ρ1 H1 De ES (f ae1 h1)->N σ1 H1):
 PostS K mg ρ H { De with nx:=N,ct:=N,bk:=De.nx } ES r:=by
 cases r with
 | nx ae1 h1=>exact λρ1 H1 σ1 l1 w1 re1=>i ae1 h1 ρ1 H1 σ1 l1 w1 re1 (PostS.mono l1 p)
 | rt d h1=>exact p
 | bk ae1 h1=>exact p
 | ct ae1 h1=>exact λρ1 H1 σ1 l1 w1 re1=>i ae1 h1 ρ1 H1 σ1 l1 w1 re1 (PostS.mono l1 p)
 | exc c ae1 h1=>exact p
 | stuck=>exact p
theorem EU (hp:PassesOwn (model X.prog X.w) X.A X.env X.xe) (hc:X.calm=true) (hi:DI K mg X ES tg al I) (hg:DG K mg X ES tg g) (hb:DSs K mg X ES sts U)
 (hs:∀ x,foldedSetIterable al X.env x=pure x:=by intro _;rfl):DS K mg X ES (.For tg al sts [] pos) (AA I g U):=by
 refine PS.imp (HP hp hc hi hg hb hs) λDe σ H q_=>q_.el λρ h ae w re p=>⟨ρ,h,ae,w,re,cI p re λit h1 ρ1 H1 l1 w1 re1 p1 J hJ=>?_⟩
 refine⟨λi m σ2 H2=>m=it.items.length - i/\i<=it.items.length/\∃ ρ2 h2 ae2,Le ρ1 H1 ρ2 H2/\Wd K mg ρ2 h2 H2/\RelE K mg ρ2 H2 ae2 σ2/\PostS K mg ρ2 H2 De ES (kE it.guard g U (it.items.drop i) ae2 h2),⟨_,rfl,Nat.zero_le _,ρ1,h1,ae,Le.refl,w1,re1,p1⟩,?_⟩
 rintro i m σ2 H2 ⟨rfl,hi',ρ2,h2,ae2,l2,w2,re2,p2⟩
 by_cases hlt:i < it.items.length
 ·have hd:it.items.drop i=it.items[i] :: it.items.drop (i + 1):=List.drop_eq_getElem_cons hlt
  rw[hd] at p2
  unfold kE at p2
  split at p2
  ·rename_i hG
   obtain⟨st,_⟩:=hJ.step l2 w2 hG
   obtain⟨go,yl⟩:=st i it.items[i] (List.getElem?_eq_getElem hlt)
   refine .inr ⟨go,λσ' H'=>∃ ρ3 h3 ae3,Le ρ1 H1 ρ3 H'/\Wd K mg ρ3 h3 H'/\RelE K mg ρ3 H' ae3 σ'/\PostS K mg ρ3 H' De ES (kE it.guard g U (it.items.drop (i + 1)) ae3 h3),
    λσ' H' ⟨ρ3,h3,ae3,q⟩=>⟨_,by omega,rfl,hlt,ρ3,h3,ae3,q⟩,λx H' hy=>?_⟩
   obtain⟨ly,wy,rx⟩:=yl x H' hy
   refine⟨ρ2,h2,ae2,_,wy,re2.mono ly,rx,cI (PostS.mono ly p2) (re2.mono ly) λae3 h3 ρ3 H3 l3 w3 re3 p3 σ' re'=>⟨ρ3,h3,ae3,w3,re',rN p3 λae4 h4 ρ4 H4 σ4 l4 w4 re4 p4=>⟨ρ4,h4,ae4,((l2.trans ly).trans l3).trans l4,w4,re4,p4⟩⟩⟩
  ·exact p2.elim
 ·have hi2:i=it.items.length:=by omega
  subst hi2
  rw[List.drop_length] at p2
  unfold kE at p2
  split at p2
  ·rename_i hG
   exact .inl ⟨(hJ.step l2 w2 hG).2,ik p2 w2 re2⟩
  ·exact p2.elim
theorem Ab {ρ:List Addr}{H:Hp}{ae:AE}{σ:St} (re:RelE K mg ρ H ae σ) (sub:List (Option Nat)):RelE K mg ρ H (jT sub ae) (dj sub σ):=by
 unfold jT dj
 refine⟨by rw[List.length_map,List.length_map],λj d e=>?_⟩
 rw[List.getElem?_map] at e ⊢
 cases q:sub[j]? with
 | none=>rw[q] at e;cases e
 |
  some o=>
  rw[q] at e
  cases o with
  | none=>cases e
  |
   some i=>
   have e':(ae[i]?).bind id=some d:=Option.some.inj e
   cases q2:ae[i]? with
   | none=>rw[q2] at e';cases e'
   |
    some z=>
    rw[q2] at e'
    have e3:z=some d:=e'
    subst e3
    obtain⟨v,h1,h2⟩:=re.at_ i d q2
    refine⟨v,?_,h2⟩
    show some ((σ[i]?).bind id)=some (some v)
    rw[h1];rfl
theorem mZ {α:Type}{ρ:List Addr}{H:Hp}{E:XK}{r:R α}{f:α->AH->R (List D)}{m:List D->AH->R D}{k:D->AH->List Addr->Hp->Prop} (p:PostG K mg ρ H E k ((noX (r.bind f)).bind m)):
 PostG K mg ρ H E0 (λa h1 ρ' H'=>PostG K mg ρ' H' E k ((noX (f a h1)).bind m)) r:=by
 cases r with
 | ok a h1=>exact λρ1 H1 l1 w1=>PostG.mono l1 p
 | exc c h1=>exact p.elim
 | stuck=>exact p.elim
theorem vX {sub:List (Option Nat)} (σ:St) (H:Hp) (Q:VK) (q:rdE K mg ES (eLC I sub g cf F) σ H Q):j0 (rdI K mg ES I) sub (rdG K mg (λ_=>E0) g) (rdT K mg (λ_=>E0) cf) (rdE K mg (λ_=>E0) F) σ H Q:=by
 obtain⟨ρ,h,ae,w,re,p⟩:=q
 refine⟨ρ,h,ae,w,re,p.bind.imp λit h1 ρ1 H1 l1 w1 p1 J hJ=>?_⟩
 have re1:=Ab (re.mono l1) sub
 refine⟨λi m ys σ2 H2=>m=it.items.length - i/\i<=it.items.length/\∃ ρ2 h2 ae2 acc,Le ρ1 H1 ρ2 H2/\Wd K mg ρ2 h2 H2/\RelE K mg ρ2 H2 ae2 σ2/\RelDs K mg ρ2 H2 acc ys/\
  PostG K mg ρ2 H2 (ES σ) (λd _ ρ' H'=>∀ v,RelD K mg ρ' H' d v->Q v H') ((noX (lcL it.guard g cf F (it.items.drop i) acc ae2 h2)).bind dD),
  ⟨_,rfl,Nat.zero_le _,ρ1,h1,jT sub ae,[],Le.refl,w1,re1,.nil,p1⟩,?_⟩
 rintro i m ys σ2 H2 ⟨rfl,hi',ρ2,h2,ae2,acc,l2,w2,re2,rs,p2⟩
 by_cases hlt:i < it.items.length
 ·have hd:it.items.drop i=it.items[i] :: it.items.drop (i + 1):=List.drop_eq_getElem_cons hlt
  rw[hd] at p2
  unfold lcL at p2
  split at p2
  ·rename_i hG
   obtain⟨st,_⟩:=hJ.step l2 w2 hG.1
   obtain⟨go,yl⟩:=st i it.items[i] (List.getElem?_eq_getElem hlt)
   refine .inr ⟨go,by rw[<- rs.len];exact hG.2,λys' σ' H'=>∃ ρ3 h3 ae3 acc3,Le ρ1 H1 ρ3 H'/\Wd K mg ρ3 h3 H'/\RelE K mg ρ3 H' ae3 σ'/\RelDs K mg ρ3 H' acc3 ys'/\
    PostG K mg ρ3 H' (ES σ) (λd _ ρ' H'=>∀ v,RelD K mg ρ' H' d v->Q v H') ((noX (lcL it.guard g cf F (it.items.drop (i + 1)) acc3 ae3 h3)).bind dD),
    λys' σ' H' ⟨ρ3,h3,ae3,acc3,q⟩=>⟨_,by omega,rfl,hlt,ρ3,h3,ae3,acc3,q⟩,λx H' hy=>?_⟩
   obtain⟨ly,wy,rx⟩:=yl x H' hy
   refine⟨ρ2,h2,ae2,_,wy,re2.mono ly,rx,(mZ (PostG.mono ly p2)).imp λae3 h3 ρ3 H3 l3 w3 p3 σ3 re3=>⟨ρ3,h3,ae3,w3,re3,(mZ p3).imp λb h4 ρ4 H4 l4 w4 p4=>?_⟩⟩
   cases b with
   | true=>exact⟨ρ4,h4,ae3,w4,re3.mono l4,(mZ p4).imp λy h5 ρ5 H5 l5 w5 p5 v rv=>⟨ρ5,h5,ae3,acc++[y],(((l2.trans ly).trans l3).trans l4).trans l5,w5,(re3.mono l4).mono l5,((((rs.mono ly).mono l3).mono l4).mono l5).append (.cons rv .nil),p5⟩⟩
   | false=>exact⟨ρ4,h4,ae3,acc,((l2.trans ly).trans l3).trans l4,w4,re3.mono l4,((rs.mono ly).mono l3).mono l4,p4⟩
  ·exact p2.elim
 ·have hi2:i=it.items.length:=by omega
  subst hi2
  rw[List.drop_length] at p2
  unfold lcL at p2
  split at p2
  ·rename_i hG
   refine .inl ⟨(hJ.step l2 w2 hG).2,?_⟩
   have p3:PostG K mg ρ2 H2 (ES σ) (λd _ ρ' H'=>∀ v,RelD K mg ρ' H' d v->Q v H') (dD acc h2):=p2
   unfold dD at p3
   split at p3
   ·rename_i hl
    exact⟨by rw[<- rs.len];exact hl,λq hq=>eD w2 rs hq p3⟩
   ·exact p3.elim
  ·exact p2.elim
theorem KU {scope:Scope} (M:List Str) (kn:List (Str×NameKind)) (N:List Str) (sub:List (Option Nat))
 (hc:X.calm=true) (hi:DI K mg X ES tg al I)
 (hg:∀ cl C s₂ H fp,DG K mg (bc X N scope cl C s₂ H fp) (λ_=>E0) tg g) (he:∀ cl C s₂ H fp,DE K mg (bc X N scope cl C s₂ H fp) (λ_=>E0) im F)
 (hM:X.N=M:=by rfl) (hkn:X.env.scope.names=kn:=by rfl) (ge:fF M scope.names sub N=true:=by decide)
 (hk:scope.kind=.function:=by rfl) (hnc:∀ x ∈ scope.names,x.2 ≠ .cell:=by decide) (bi:∀ x ∈ scope.names,x.2=.local->scope.names.lookup x.1=some .local:=by decide)
 (le:iZ kn scope.names=true:=by decide)
 (hsl:sub.length=N.length:=by rfl) (hs:∀ x,foldedSetIterable al X.env x=pure x:=by intro _;rfl):
 DE K mg X ES (.ListComp im [⟨tg,al,[],0⟩] scope pos) (eLC I sub g tY F):=
 PE.imp (Ky M kn N sub hc hi hg he hM hkn ge hk hnc bi le hsl hs) λσ H Q q=>by
  have:=vX (cf:=tY) σ H Q q
  obtain⟨ρ,h,ae,w,re,p⟩:=this
  refine⟨ρ,h,ae,w,re,p.imp λit h1 ρ1 H1 l1 w1 k J hJ=>?_⟩
  obtain⟨W,w0,tn⟩:=k J hJ
  refine⟨W,w0,λi m ys σ2 H2 hW=>?_⟩
  rcases tn i m ys σ2 H2 hW with z | ⟨go,hl,Nx,hN,st⟩
  ·exact .inl z
  ·refine .inr ⟨go,hl,Nx,hN,λx H' hy=>?_⟩
   obtain⟨ρ3,h3,ae3,d3,w3,re3,rd3,p3⟩:=st x H' hy
   refine⟨ρ3,h3,ae3,d3,w3,re3,rd3,p3.imp λae4 h4 ρ4 H4 l4 w4 k4 σ4 re4=>?_⟩
   obtain⟨ρ5,h5,ae5,w5,re5,p5⟩:=k4 σ4 re4
   exact p5 ρ5 _ Le.refl w5
theorem DN {scope:Scope} (M:List Str) (kn:List (Str×NameKind)) (N:List Str) (sub:List (Option Nat))
 (hc:X.calm=true) (hi:DI K mg X ES tg al I)
 (hg:∀ cl C s₂ H fp,DG K mg (bc X N scope cl C s₂ H fp) (λ_=>E0) tg g) (ht:∀ cl C s₂ H fp,DT K mg (bc X N scope cl C s₂ H fp) (λ_=>E0) c cf) (he:∀ cl C s₂ H fp,DE K mg (bc X N scope cl C s₂ H fp) (λ_=>E0) im F)
 (hM:X.N=M:=by rfl) (hkn:X.env.scope.names=kn:=by rfl) (ge:fF M scope.names sub N=true:=by decide)
 (hk:scope.kind=.function:=by rfl) (hnc:∀ x ∈ scope.names,x.2 ≠ .cell:=by decide) (bi:∀ x ∈ scope.names,x.2=.local->scope.names.lookup x.1=some .local:=by decide)
 (le:iZ kn scope.names=true:=by decide)
 (hsl:sub.length=N.length:=by rfl) (hs:∀ x,foldedSetIterable al X.env x=pure x:=by intro _;rfl):
 DE K mg X ES (.ListComp im [⟨tg,al,[c],0⟩] scope pos) (eLC I sub g cf F):=
 PE.imp (Eb M kn N sub hc hi hg ht he hM hkn ge hk hnc bi le hsl hs) λσ H Q q=>vX σ H Q q
theorem GV {sub:List (Option Nat)} (σ:St) (H:Hp) (Q:VK) (q:rdE K mg ES (eLC I sub g tY F) σ H Q):j0 (rdI K mg ES I) sub (rdG K mg (λ_=>E0) g) As (rdE K mg (λ_=>E0) F) σ H Q:=by
 have:=vX (cf:=tY) σ H Q q
 obtain⟨ρ,h,ae,w,re,p⟩:=this
 refine⟨ρ,h,ae,w,re,p.imp λit h1 ρ1 H1 l1 w1 k J hJ=>?_⟩
 obtain⟨W,w0,tn⟩:=k J hJ
 refine⟨W,w0,λi m ys σ2 H2 hW=>?_⟩
 rcases tn i m ys σ2 H2 hW with z | ⟨go,hl,Nx,hN,st⟩
 ·exact .inl z
 ·refine .inr ⟨go,hl,Nx,hN,λx H' hy=>?_⟩
  obtain⟨ρ3,h3,ae3,d3,w3,re3,rd3,p3⟩:=st x H' hy
  refine⟨ρ3,h3,ae3,d3,w3,re3,rd3,p3.imp λae4 h4 ρ4 H4 l4 w4 k4 σ4 re4=>?_⟩
  obtain⟨ρ5,h5,ae5,w5,re5,p5⟩:=k4 σ4 re4
  exact p5 ρ5 _ Le.refl w5
theorem BZ {t:TE}{i:Nat} (ht:∀ σ H Q,rdE K mg ES F σ H Q->t σ H Q) (De:Ends) (σ:St) (H:Hp) (q:rdS K mg ES (gp F (gN i)) De σ H):rX t (nU i) De σ H:=by
 obtain⟨ρ,h,ae,w,re,p⟩:=q
 exact ht σ H _ ⟨ρ,h,ae,w,re,cI p re λd h1 ρ1 H1 l1 w1 re1 p1 v rv=>ik p1 w1 (re1.set i rv)⟩
theorem K4 {scope:Scope}{px spos:Pos}{iT:Nat}{xT:Str} (M:List Str) (kn:List (Str×NameKind)) (N:List Str) (sub:List (Option Nat))
 (hc:X.calm=true) (hN:X.N.Nodup) (hix:X.N[iT]?=some xT) (hxl:Loc X.env.scope xT) (hi:DI K mg X ES tg al I)
 (hg:∀ cl C s₂ H fp,DG K mg (bc X N scope cl C s₂ H fp) (λ_=>E0) tg g) (he:∀ cl C s₂ H fp,DE K mg (bc X N scope cl C s₂ H fp) (λ_=>E0) im F)
 (hsw:swapsWith (.ListComp im [⟨tg,al,[],0⟩] scope pos) (some (.Name xT px)) spos.line X.env=pure true:=by rfl)
 (hM:X.N=M:=by rfl) (hkn:X.env.scope.names=kn:=by rfl) (ge:fF M scope.names sub N=true:=by decide)
 (hk:scope.kind=.function:=by rfl) (hnc:∀ x ∈ scope.names,x.2 ≠ .cell:=by decide) (bi:∀ x ∈ scope.names,x.2=.local->scope.names.lookup x.1=some .local:=by decide)
 (le:iZ kn scope.names=true:=by decide)
 (hsl:sub.length=N.length:=by rfl) (hs:∀ x,foldedSetIterable al X.env x=pure x:=by intro _;rfl) (hf:X.fn xT=true\/X.env.scope.names.lookup xT=some .local:=by first | exact .inl rfl | exact .inr rfl | assumption):
 DS K mg X ES (.Assign [.Name xT px] (.ListComp im [⟨tg,al,[],0⟩] scope pos) spos) (gp (eLC I sub g tY F) (gN iT)):=
 PS.imp (KD M kn N sub hc hN hix hxl hi hg he hsw hM hkn ge hk hnc bi le hsl hs hf) (BZ GV)
end
def whN (c:MT) (B:MS):Nat->MS
 | 0,_,_=>.stuck
 | k + 1,ae,h=>(c ae h).toS ae λb h1=>if b=true then (B ae h1).loop (whN c B k) else .nx ae h1
open Classical in
def sWh (c:MT) (B:MS):MS:=λae h=>if q:∃ k,whN c B k ae h ≠ .stuck then whN c B q.choose ae h else .stuck
theorem mK {c:MT}{B:MS}:∀ {k:Nat}{ae:AE}{h:AH},whN c B k ae h ≠ .stuck->whN c B (k + 1) ae h=whN c B k ae h
 | 0,_,_,q=>absurd rfl q
 |
  k + 1,ae,h,q=>by
  have e1:whN c B (k + 2) ae h=(c ae h).toS ae λb h1=>if b=true then (B ae h1).loop (whN c B (k + 1)) else .nx ae h1:=rfl
  have e2:whN c B (k + 1) ae h=(c ae h).toS ae λb h1=>if b=true then (B ae h1).loop (whN c B k) else .nx ae h1:=rfl
  rw[e2] at q
  rw[e1,e2]
  cases r:c ae h with
  | exc _ _=>rfl
  | stuck=>rfl
  |
   ok b h1=>
   rw[r] at q
   cases b with
   | false=>rfl
   |
    true=>
    have q':(B ae h1).loop (whN c B k) ≠ .stuck:=q
    show (B ae h1).loop (whN c B (k + 1))=(B ae h1).loop (whN c B k)
    cases s:B ae h1 with
    | nx a2 h2=>rw[s] at q';exact mK q'
    | ct a2 h2=>rw[s] at q';exact mK q'
    | _=>rfl
theorem yh {c:MT}{B:MS}{k j:Nat}{ae:AE}{h:AH} (q:whN c B k ae h ≠ .stuck) (hj:k<=j):whN c B j ae h=whN c B k ae h:=by
 induction hj with
 | refl=>rfl
 | step _ ih=>rw[mK (by rw[ih];exact q),ih]
theorem yc {c:MT}{B:MS}{k:Nat}{ae:AE}{h:AH} (q:whN c B k ae h ≠ .stuck):sWh c B ae h=whN c B k ae h:=by
 have hq:∃ k,whN c B k ae h ≠ .stuck:=⟨k,q⟩
 unfold sWh
 rw[dif_pos hq]
 rcases Nat.le_total hq.choose k with z | z
 ·exact (yh hq.choose_spec z).symm
 ·exact yh q z
section
variable {K:W.Frag}{mg:Str->Option Value}{X:Cx}{ES:St->XK}{c:Expr}{cf:MT}{U:MS}{sts:List Stmt}{pos:Pos}
theorem A8 (hp:PassesOwn (model X.prog X.w) X.A X.env X.xe) (hc:DT K mg X ES c cf) (hb:DSs K mg X ES sts U):DS K mg X ES (.While c sts [] pos) (sWh cf U):=by
 refine PS.imp (zb hp hc hb) λDe σ H q_=>q_.el λρ h ae w re p=>?_
 have hx:∃ k,whN cf U k ae h ≠ .stuck:=Classical.byContradiction λz=>by
  unfold sWh at p
  rw[dif_neg z] at p
  exact p.elim
 obtain⟨k,hk⟩:=hx
 rw[yc hk] at p
 refine⟨λm σ2 H2=>∃ ρ2 h2 ae2,Wd K mg ρ2 h2 H2/\RelE K mg ρ2 H2 ae2 σ2/\PostS K mg ρ2 H2 De ES (whN cf U m ae2 h2),⟨k,ρ,h,ae,w,re,p⟩,?_⟩
 rintro m σ2 H2 ⟨ρ2,h2,ae2,w2,re2,p2⟩
 cases m with
 | zero=>exact p2.elim
 |
  succ m=>
  refine⟨ρ2,h2,ae2,w2,re2,cI p2 re2 λb h3 ρ3 H3 l3 w3 re3 p3=>?_⟩
  cases b with
  | true=>exact⟨λσ' H'=>∃ ρ4 h4 ae4,Wd K mg ρ4 h4 H'/\RelE K mg ρ4 H' ae4 σ'/\PostS K mg ρ4 H' De ES (whN cf U m ae4 h4),λσ' H' q=>⟨m,Nat.lt_succ_self _,q⟩,ρ3,h3,ae2,w3,re3,rN p3 λae4 h4 ρ4 H4 σ4 l4 w4 re4 p4=>⟨ρ4,h4,ae4,w4,re4,p4⟩⟩
  | false=>exact ik p3 w3 re3
end
end L2
namespace L2
open PySem PySem.Spec PyProof.Rows
def rO:Fn:=λds h=>match ds with
 | [d]=>match dN h d with
  | some xs=>.ok (.int xs.length) h
  | none=>match d with
   | .str z=>if z.length<=16777216 then .ok (.int z.length) h else .stuck
   | _=>.stuck
 | _=>.stuck
def wN:Fn:=λds h=>match ds with
 | [.int i]=>.ok (.int (if i < 0 then -i else i)) h
 | _=>.stuck
def qA:Fn:=λds h=>match ds with
 | [.int i,.int j]=>.ok (.int (if j < i then j else i)) h
 | _=>.stuck
def jm:List D->Option (List Bool)
 | []=>some []
 | .bl b :: r=>(jm r).map (b :: ·)
 | _=>none
def gJ:List D->Option (List Int)
 | []=>some []
 | .int b :: r=>(gJ r).map (b :: ·)
 | _=>none
theorem sU:∀ {ds:List D}{bs:List Bool},jm ds=some bs->ds=bs.map D.bl
 | [],bs,e=>by cases e;rfl
 |
  .bl b :: r,bs,e=>by
  have e':(jm r).map (b :: ·)=some bs:=e
  cases q:jm r with
  | none=>rw[q] at e';cases e'
  | some z=>rw[q] at e';cases e';rw[sU q];rfl
theorem pG:∀ {ds:List D}{bs:List Int},gJ ds=some bs->ds=bs.map D.int
 | [],bs,e=>by cases e;rfl
 |
  .int b :: r,bs,e=>by
  have e':(gJ r).map (b :: ·)=some bs:=e
  cases q:gJ r with
  | none=>rw[q] at e';cases e'
  | some z=>rw[q] at e';cases e';rw[pG q];rfl
def rR:Fn:=λds h=>match ds with
 | [.ref n]=>match (bD h n).bind jm with
  | some bs=>.ok (.bl (bs.all id)) h
  | none=>.stuck
 | _=>.stuck
def sM:Fn:=λds h=>match ds with
 | [.ref n]=>match (bD h n).bind gJ with
  | some ns=>.ok (.int ns.sum) h
  | none=>.stuck
 | _=>.stuck
def nF:Fn:=λds h=>match ds with
 | [d]=>match dN h d with
  | some xs=>.ok (.ref h.length) (h++[.lst xs])
  | none=>.stuck
 | _=>.stuck
def lH:Fn:=λds h=>match ds with
 | [d]=>match dN h d with
  | some xs=>.ok (.tup xs) h
  | none=>.stuck
 | _=>.stuck
def vV:Fn:=λds h=>match ds with
 | [.int i]=>.ok (.int i) h
 | [.bl b]=>.ok (.int (if b then 1 else 0)) h
 | _=>.stuck
section
variable {K:W.Frag}{mg:Str->Option Value}{X:Cx}
theorem HH:bT K mg (λxs H Q=>(∃ p ys,xs=[.ref p]/\(SqL K H p ys\/SqT K H p ys)/\Q (.int ys.length) H)\/(∃ z,xs=[.str z]/\z.length<=sizeLine/\Q (.int z.length) H)) rO:=λρ h H ds vs Q E w rs p=>by
 unfold rO at p
 split at p
 ·cases
   rs with
  |
   cons r rs=>
   cases rs
   split at p
   ·rename_i xs e
    obtain⟨pa,vs,rfl,hq,rs⟩:=dY w r e
    exact .inl ⟨_,_,rfl,hq,by rw[<- rs.len];exact aO w (.int _) p⟩
   ·split at p
    ·cases r
     split at p
     ·rename_i hl;exact .inr ⟨_,rfl,hl,aO w (.int _) p⟩
     ·exact p.elim
    ·exact p.elim
 ·exact p.elim
theorem eh (h:X.K=K):CallR X (.builtin "len") (λxs H Q=>(∃ p ys,xs=[.ref p]/\(SqL K H p ys\/SqT K H p ys)/\Q (.int ys.length) H)\/(∃ z,xs=[.str z]/\z.length<=sizeLine/\Q (.int z.length) H)):=by subst h;exact rE.or rT
theorem GJ:bT K mg (λxs H Q=>∃ i,xs=[.int i]/\Q (.int (if i < 0 then -i else i)) H) wN:=λρ h H ds vs Q E w rs p=>by
 unfold wN at p
 split at p
 ·cases rs with
  | cons r rs=>cases r;cases rs;exact⟨_,rfl,aO w (.int _) p⟩
 ·exact p.elim
theorem D8:bT K mg (λxs H Q=>∃ i j,xs=[.int i,.int j]/\Q (.int (if j < i then j else i)) H) qA:=λρ h H ds vs Q E w rs p=>by
 unfold qA at p
 split at p
 ·cases rs with
  | cons r rs=>cases rs with | cons r2 rs=>cases r;cases r2;cases rs;exact⟨_,_,rfl,aO w (.int _) p⟩
 ·exact p.elim
theorem Iq:bT K mg (λxs H Q=>∃ (a:Addr) (bs:List Bool),xs=[.ref a]/\SqL K H a (bs.map V.bl)/\Q (.bl (bs.all id)) H) rR:=λρ h H ds vs Q E w rs p=>by
 unfold rR at p
 split at p
 ·cases
   rs with
  |
   cons r rs=>
   cases r with
   |
    ref ea=>
    cases rs
    split at p
    ·rename_i bs e
     obtain⟨xs,q,e2⟩:=Option.bind_eq_some_iff.mp e
     ·obtain⟨vs,h1,h2⟩:=cm w ea q
      rw[sU e2] at h2
      rw[h2.bls] at h1
      exact⟨_,bs,rfl,h1,aO w (.bl _) p⟩
    ·exact p.elim
 ·exact p.elim
theorem EF:bT K mg (λxs H Q=>∃ (a:Addr) (ns:List Int),xs=[.ref a]/\SqL K H a (ns.map V.int)/\Q (.int ns.sum) H) sM:=λρ h H ds vs Q E w rs p=>by
 unfold sM at p
 split at p
 ·cases
   rs with
  |
   cons r rs=>
   cases r with
   |
    ref ea=>
    cases rs
    split at p
    ·rename_i bs e
     obtain⟨xs,q,e2⟩:=Option.bind_eq_some_iff.mp e
     ·obtain⟨vs,h1,h2⟩:=cm w ea q
      rw[pG e2] at h2
      rw[h2.ints] at h1
      exact⟨_,bs,rfl,h1,aO w (.int _) p⟩
    ·exact p.elim
 ·exact p.elim
theorem Cj:bT K mg (λxs H Q=>∃ p ys,xs=[.ref p]/\(SqL K H p ys\/SqT K H p ys)/\∀ l,H l=none->Q (.ref l) (upd H l (.lst ys))) nF:=λρ h H ds vs Q E w rs p=>by
 unfold nF at p
 split at p
 ·cases rs with
  |
   cons r rs=>
   cases rs
   split at p
   ·rename_i xs e
    obtain⟨pa,vs,rfl,hq,rs⟩:=dY w r e
    exact⟨_,_,rfl,hq,λl hl=>eD w rs hl p⟩
   ·exact p.elim
 ·exact p.elim
theorem AV:bT K mg (λxs H Q=>∃ p ys,xs=[.ref p]/\((SqL K H p ys/\∀ l,H l=none->Q (.ref l) (upd H l (.tup ys)))\/(SqT K H p ys/\Q (.ref p) H))) lH:=λρ h H ds vs Q E w rs p=>by
 unfold lH at p
 split at p
 ·cases rs with
  |
   cons r rs=>
   cases rs
   split at p
   ·rename_i xs e
    obtain⟨pa,vs,rfl,hq,rs⟩:=dY w r e
    rcases hq with hq | hq
    ·exact⟨_,_,rfl,.inl ⟨hq,λl hl=>kz w rs hl p⟩⟩
    ·exact⟨_,_,rfl,.inr ⟨hq,aO w (.tup hq rs) p⟩⟩
   ·exact p.elim
 ·exact p.elim
theorem Hc:bT K mg (λxs H Q=>(∃ i,xs=[.int i]/\Q (.int i) H)\/∃ k,xs=[.bl k]/\Q (.int (if k then 1 else 0)) H) vV:=λρ h H ds vs Q E w rs p=>by
 unfold vV at p
 split at p
 ·cases rs with
  | cons r rs=>cases r;cases rs;exact .inl ⟨_,rfl,aO w (.int _) p⟩
 ·cases rs with
  | cons r rs=>cases r;cases rs;exact .inr ⟨_,rfl,aO w (.int _) p⟩
 ·exact p.elim
theorem sE (h:X.K=K):CallR X (.type "list") (λxs H Q=>∃ p ys,xs=[.ref p]/\(SqL K H p ys\/SqT K H p ys)/\∀ l,H l=none->Q (.ref l) (upd H l (.lst ys))):=by subst h;exact tI
theorem jP (h:X.K=K):CallR X (.type "tuple") (λxs H Q=>∃ p ys,xs=[.ref p]/\((SqL K H p ys/\∀ l,H l=none->Q (.ref l) (upd H l (.tup ys)))\/(SqT K H p ys/\Q (.ref p) H))):=by subst h;exact qu
end
inductive Cl where
 | b (n:String) | o (x:Str)
 deriving DecidableEq
def tyD (h:AH):D->Option Cl
 | .non=>some (.b "NoneType")
 | .bl _=>some (.b "bool")
 | .int _=>some (.b "int")
 | .str _=>some (.b "str")
 | .tup _=>some (.b "tuple")
 | .exc x=>some (.o x)
 | .ref n=>match h[n]? with
  | some (.lst _)=>some (.b "list")
  | some (.fz _)=>some (.b "list")
  | some (.dct _)=>some (.b "dict")
  | _=>none
 | _=>none
def clD:D->Option Cl
 | .ty n=>some (.b n)
 | .glb x=>some (.o x)
 | _=>none
def ClV (mg:Str->Option Value):Cl->Value->Prop
 | .b n,v=>v=.type n
 | .o x,v=>∃ a,v=.ref a/\mg x=some (.ref a)
abbrev fE:=List (Cl×Cl×Bool)
structure KitsOk (K:W.Frag) (mg:Str->Option Value) (kt:fE):Prop where
 one:∀ p ∈ kt,∀ t v,ClV mg p.1 t->ClV mg p.2.1 v->W.kitOne K t v=some p.2.2
 xc:∀ p ∈ kt,∀ x C,p.1=.o x->mg x=some (.ref C)->XCls K C
def kit (kt:fE) (t c:Cl):Option Bool:=(kt.find? λp=>decide (p.1=t) && decide (p.2.1=c)).map (·.2.2)
def fU (kt:fE) (t:Cl):List Cl->Option Bool
 | []=>some false
 | c :: r=>match kit kt t c with
  | some true=>some true
  | some false=>fU kt t r
  | none=>none
def sQ (kt:fE):Fn:=λds h=>match ds with
 | [d,c]=>match tyD h d with
  | some t=>match c with
   | .tup cs=>match cs.mapM clD with
    | some (c0 :: cr)=>match fU kt t (c0 :: cr),kit kt t c0 with
     | some b,some _=>.ok (.bl b) h
     | _,_=>.stuck
    | _=>.stuck
   | c=>match clD c with
    | some cl=>match kit kt t cl with
     | some b=>.ok (.bl b) h
     | none=>.stuck
    | none=>.stuck
  | none=>.stuck
 | _=>.stuck
theorem ou {kt:fE}{t c:Cl}{b:Bool} (e:kit kt t c=some b):(t,c,b) ∈ kt:=by
 unfold kit at e
 cases q:kt.find? (λp=>decide (p.1=t) && decide (p.2.1=c)) with
 | none=>rw[q] at e;cases e
 |
  some p=>
  rw[q] at e
  have h1:=List.find?_some q
  have h2:=List.mem_of_find?_eq_some q
  simp only[Bool.and_eq_true,decide_eq_true_eq] at h1
  obtain⟨p1,p2,p3⟩:=p
  have e3:p3=b:=Option.some.inj e
  obtain⟨rfl,rfl⟩:=h1
  subst e3
  exact h2
section
variable {K:W.Frag}{mg:Str->Option Value}{X:Cx}{ρ:List Addr}{H:Hp}{h:AH}
theorem uz {kt:fE} (ok:KitsOk K mg kt) (w:Wd K mg ρ h H) {d:D}{v:V}{t c:Cl}{b:Bool} (r:RelD K mg ρ H d v) (e:tyD h d=some t) (k:kit kt t c=some b):∃ tv,TyX K H v tv/\ClV mg t tv:=by
 cases r with
 | non=>cases e;exact⟨_,.of .non,rfl⟩
 | bl=>cases e;exact⟨_,.of (.bl _),rfl⟩
 | int=>cases e;exact⟨_,.of (.int _),rfl⟩
 | str=>cases e;exact⟨_,.of (.str _),rfl⟩
 | tup q rs=>cases e;exact⟨_,.sqT q,rfl⟩
 |
  exc m ex=>
  cases e
  exact⟨_,.exc ex (ok.xc _ (ou k) _ _ rfl m),_,rfl,m⟩
 |
  ref ea=>
  unfold tyD at e
  dsimp only at e
  split at e
  ·rename_i e1;cases e;obtain⟨vs,h1,h2⟩:=w.ob _ _ _ ea e1;exact⟨_,.of (.lst h1),rfl⟩
  ·rename_i e1;cases e;obtain⟨o,vs,h1,h2⟩:=w.ob _ _ _ ea e1;exact⟨_,.of (.frz h1),rfl⟩
  ·rename_i e1;cases e;obtain⟨ws,h1,_⟩:=w.ob _ _ _ ea e1;exact⟨_,.of (.dK h1),rfl⟩
  ·cases e
 | _=>cases e
theorem uQ {d:D}{v:V}{c:Cl} (r:RelD K mg ρ H d v) (e:clD d=some c):∃ cv,fP v=some cv/\ClV mg c cv:=by
 cases r with
 | ty n=>cases e;exact⟨_,rfl,rfl⟩
 | glb m=>cases e;exact⟨_,rfl,_,rfl,m⟩
 | _=>cases e
theorem Bh:∀ {ds:List D}{vs:List V}{cs:List Cl},RelDs K mg ρ H ds vs->ds.mapM clD=some cs->∃ cvs,vs.mapM fP=some cvs/\Paired (ClV mg) cs cvs:=by
 intro ds
 induction ds with
 |
  nil=>
  intro vs cs r e
  cases r
  have e':some ([]:List Cl)=some cs:=e
  cases e';exact⟨[],rfl,.nil⟩
 |
  cons d ds ih=>
  intro vs cs r e
  cases r with
  |
   cons r rr=>
   rw[List.mapM_cons] at e
   cases q:clD d with
   | none=>rw[q] at e;cases e
   |
    some c=>
    rw[q] at e
    cases q2:ds.mapM clD with
    | none=>rw[q2] at e;cases e
    |
     some cs'=>
     rw[q2] at e
     have e':some (c :: cs')=some cs:=e
     cases e'
     obtain⟨cv,h1,h2⟩:=uQ r q
     obtain⟨cvs,h3,h4⟩:=ih rr q2
     refine⟨cv :: cvs,?_,.cons h2 h4⟩
     rw[List.mapM_cons,h1,h3];rfl
theorem xb {kt:fE} (ok:KitsOk K mg kt) {t:Cl}{tv:Value} (ht:ClV mg t tv):∀ {cs:List Cl}{cvs:List Value}{b:Bool},Paired (ClV mg) cs cvs->fU kt t cs=some b->W.kitAny K tv cvs=some b:=by
 intro cs
 induction cs with
 |
  nil=>
  intro cvs b r e
  cases r
  cases e;rfl
 |
  cons c cs ih=>
  intro cvs b r e
  cases r with
  |
   cons r rr=>
   unfold fU at e
   unfold W.kitAny
   cases q:kit kt t c with
   | none=>rw[q] at e;cases e
   |
    some z=>
    rw[q] at e
    rw[ok.one _ (ou q) _ _ ht r]
    cases z with
    | true=>exact e
    | false=>exact ih rr e
theorem xG:CallR X (.builtin "isinstance") (λxs H Q=>∃ x tp cs t vs b,xs=[x,.ref tp]/\SqT X.K H tp cs/\TyX X.K H x t/\cs.mapM fP=some vs/\W.kitAny X.K t vs=some b/\Q (.bl b) H):=by
 intro pins s σ H xs us Q I r h
 obtain⟨x,tp,cs,t,vs,b,rfl,ht,ty,hc,hk,q⟩:=h
 obtain⟨u,w',rfl,rx,rc⟩:=vD r
 cases rc
 obtain⟨its,rv,⟨o,e,c,n,d⟩,_⟩:=I.tuple ht
 obtain rfl:=p7 hc rv
 obtain⟨Hh,Z,p,hne⟩:=uV I rx ty
 obtain⟨oc,od,odt,osl⟩:=o
 have c':oc=.type "tuple":=c
 have d':odt=.seq its.toArray n:=d
 subst c' d'
 exact W.kia_tup Z I.kIn p e hk hne λtk=>⟨.bl b,H,I.tok _,rfl,q⟩
theorem bR (hK:X.K=K):CallR X (.builtin "isinstance") (λxs H Q=>(∃ x c t v b,xs=[x,c]/\TyX K H x t/\fP c=some v/\W.kitOne K t v=some b/\Q (.bl b) H)\/
 (∃ x tp cs t vs b,xs=[x,.ref tp]/\SqT K H tp cs/\TyX K H x t/\cs.mapM fP=some vs/\W.kitAny K t vs=some b/\Q (.bl b) H)):=by subst hK;exact zJ.or xG
theorem Gp {kt:fE} (ok:KitsOk K mg kt):bT K mg (λxs H Q=>(∃ x c t v b,xs=[x,c]/\TyX K H x t/\fP c=some v/\W.kitOne K t v=some b/\Q (.bl b) H)\/
 (∃ x tp cs t vs b,xs=[x,.ref tp]/\SqT K H tp cs/\TyX K H x t/\cs.mapM fP=some vs/\W.kitAny K t vs=some b/\Q (.bl b) H)) (sQ kt):=λρ h H ds vs Q E w rs p=>by
 unfold sQ at p
 split at p
 ·cases
   rs with
  |
   cons r rs=>
   cases rs with
   |
    cons r2 rs=>
    cases rs
    split at p
    ·rename_i t e1
     split at p
     ·split
       at p
      ·rename_i cs c0 cr e2
       split at p
       ·rename_i b b' e3 e4
        cases r2 with
        |
         tup q rs2=>
         obtain⟨tv,h1,h2⟩:=uz ok w r e1 e4
         obtain⟨cvs,h3,h4⟩:=Bh rs2 e2
         exact .inr ⟨_,_,_,tv,cvs,b,rfl,q,h1,h3,xb ok h2 h4 e3,aO w (.bl _) p⟩
       ·exact p.elim
      ·exact p.elim
     ·split at p
      ·rename_i cl e2
       split at p
       ·rename_i b e3
        obtain⟨tv,h1,h2⟩:=uz ok w r e1 e3
        obtain⟨cv,h3,h4⟩:=uQ r2 e2
        exact .inl ⟨_,_,tv,cv,b,rfl,h1,h3,ok.one _ (ou e3) _ _ h2 h4,aO w (.bl _) p⟩
       ·exact p.elim
      ·exact p.elim
    ·exact p.elim
 ·exact p.elim
end
end L2
namespace L2
open PySem PySem.Spec PyProof.Rows
def MtD (K:W.Frag) (mg:Str->Option Value) (r:V->List V->Hp->VK->Prop) (g:D->List D->AH->R D):Prop:=∀ ρ h H dx ds x vs Q E,Wd K mg ρ h H->RelD K mg ρ H dx x->RelDs K mg ρ H ds vs->eg K mg ρ H Q E (g dx ds h)->r x vs H Q
def lZ (h:AH):D->Bool
 | .ref n=>(bD h n).isSome
 | _=>false
def eM (g:D->List D->AH->R D) (F:ME) (A:MA):ME:=λae h=>(F ae h).bind λx h1=>if lZ h1 x=true then (A ae h1).bind λds h2=>g x ds h2 else .stuck
section
variable {K:W.Frag}{mg:Str->Option Value}{X:Cx}{ES:St->XK}{o e:Expr}{es:List Expr}{F G:ME}{A:MA}{pos:Pos}
theorem yx {ρ:List Addr}{H:Hp}{h:AH}{d:D}{v:V} (w:Wd K mg ρ h H) (r:RelD K mg ρ H d v) (q:lZ h d=true):tyV K "list" v H:=by
 cases r with
 |
  ref ea=>
  obtain⟨xs,e⟩:=Option.isSome_iff_exists.mp q
  obtain⟨vs,h1,_⟩:=cm w ea e
  exact .inl ⟨rfl,vs,h1⟩
 | _=>cases q
theorem de_m {name:Str}{id:String}{apos cpos:Pos}{r:V->List V->Hp->VK->Prop}{g:D->List D->AH->R D} (hK:X.K=K) (slot:Slot "list" name id) (hty:typeOf (.builtin id)=pure (.type "method_descriptor")) (hm:MtM X id r) (hd:MtD K mg r g) (ho:DE K mg X ES o F) (ha:DA K mg X ES (e :: es) A)
 (hbase:attributeBase o name X.env (eval o X.env)=eval o X.env:=by rfl)
 (hfew:((backTo cpos (starEach (e :: es) X.env)).all (λx=>!x.1) && (backToKw cpos (keywordEach [] X.env)).all (λx=>x.1.isSome)
  && decide ((e :: es).length + ([]:List Keyword).length + (if ([]:List Keyword).isEmpty then 0 else 1) < 30))=true:=by rfl)
 (hline:(apos.endLine == cpos.line)=true:=by rfl) (hs:starEach (e :: es) X.env=(false,eval e X.env) :: starEach es X.env:=by rfl) (db:(backTo cpos (starEach es X.env)).any (·.1)=false:=by rfl):
 DE K mg X ES (.Call (.Attribute o name apos) (e :: es) [] cpos) (eM g F A):=by
 subst hK
 refine PE.imp (Kk PySem.F.plainAttrs_list slot hty hm ho ha hbase hfew hline hs db) λσ H Q q_=>q_.el λρ h ae w re p=>⟨ρ,h,ae,w,re,p.bind.imp λdx h1 ρ1 H1 l1 w1 p1 x rx=>?_⟩
 split at p1
 ·rename_i hl
  exact⟨yx w1 rx hl,ρ1,h1,ae,w1,re.mono l1,p1.bind.imp λds h2 ρ2 H2 l2 w2 p2 vs rs=>hd ρ2 h2 H2 dx ds x vs Q _ w2 (rx.mono l2) rs p2⟩
 ·exact p1.elim
end
def nO (h:AH) (d:D) (f:Nat->List D->R D):R D:=match d with
 | .ref n=>match h[n]? with
  | some (.lst xs)=>f n xs
  | _=>.stuck
 | _=>.stuck
def lY:D->List D->AH->R D:=λx ds h=>nO h x λn xs=>match ds with
 | [d]=>if xs.length < 16777216 then .ok .non (h.set n (.lst (xs++[d]))) else .stuck
 | _=>.stuck
def fS (h:AH) (d:D):List D->Option (List Bool)
 | []=>some []
 | x :: r=>match kY h x d,fS h d r with
  | some b,some bs=>some (b :: bs)
  | _,_=>none
def lN:D->List D->AH->R D:=λx ds h=>match x,ds with
 | .ref n,[d]=>match (bD h n).bind (fS h d) with
  | some bs=>if bs.idxOf true < bs.length then .ok (.int (bs.idxOf true:Nat)) h else .stuck
  | none=>.stuck
 | _,_=>.stuck
def nT:D->List D->AH->R D:=λx ds h=>match x,ds with
 | .ref n,[d]=>match (bD h n).bind (fS h d) with
  | some bs=>.ok (.int (bs.count true:Nat)) h
  | none=>.stuck
 | _,_=>.stuck
section
variable {K:W.Frag}{mg:Str->Option Value}{X:Cx}{ρ:List Addr}{H:Hp}{h:AH}
theorem yy {Q:VK}{E:XK}{d:D}{v:V}{f:Nat->List D->R D} (w:Wd K mg ρ h H) (r:RelD K mg ρ H d v) (p:eg K mg ρ H Q E (nO h d f)):
 ∃ n xs a vs,d=.ref n/\h[n]?=some (.lst xs)/\ρ[n]?=some a/\v=.ref a/\H a=some (.lst vs)/\RelDs K mg ρ H xs vs/\eg K mg ρ H Q E (f n xs):=by
 unfold nO at p
 split at p
 ·cases r with
  |
   ref ea=>
   split at p
   ·rename_i n xs e
    obtain⟨vs,h1,h2⟩:=w.ob _ _ _ ea e
    exact⟨_,_,_,vs,rfl,e,ea,rfl,h1,h2,p⟩
   ·exact p.elim
 ·exact p.elim
theorem zq {Q:VK}{E:XK}{n:Nat}{a:Addr}{vs ws:List V}{ys:List D}{d:D}{v:V} (w:Wd K mg ρ h H) (ea:ρ[n]?=some a) (e:H a=some (.lst vs)) (rs:RelDs K mg ρ H ys ws) (rd:RelD K mg ρ H d v) (p:eg K mg ρ H Q E (.ok d (h.set n (.lst ys)))):Q v (upd H a (.lst ws)):=by
 have l:Le ρ H ρ (upd H a (.lst ws)):=nz e qC
 exact p ρ _ l (w.write ea e qC ⟨ws,bY,rs.mono l⟩) v (rd.mono l)
theorem yu:MtD K mg o9 lY:=λρ h H dx ds x vs Q E w rx rs p=>by
 obtain⟨n,xs,a,us,rfl,e,ea,rfl,h1,h2,p⟩:=yy w rx p
 split at p
 ·cases rs with
  |
   cons r rs=>
   cases rs
   split at p
   ·rename_i hl
    exact⟨a,us,_,rfl,rfl,h1,by rw[<- h2.len];exact hl,zq w ea h1 (h2.append (.cons r .nil)) .non p⟩
   ·exact p.elim
 ·exact p.elim
inductive EqsR (K:W.Frag) (H:Hp) (y:V) (pd:PyData):List V->List Bool->Prop where
 | nil:EqsR K H y pd [] []
 | cons {x:V}{px:PyData}{xs:List V}{bs:List Bool} (rx:Rep K H x px) (hx:SeqAt.shaped px=true) (r:EqsR K H y pd xs bs):EqsR K H y pd (x :: xs) (PyData.eqv px pd :: bs)
def rEqs (K:W.Frag) (H:Hp) (l:Addr) (y:V) (bs:List Bool):Prop:=∃ xs pd,SqL K H l xs/\Rep K H y pd/\SeqAt.shaped pd=true/\EqsR K H y pd xs bs
theorem ux (w:Wd K mg ρ h H) {d:D}{y:V}{pd:PyData} (ry:RelD K mg ρ H d y) (es:dc 64 h d=some pd):∀ {xs:List D}{vs:List V}{bs:List Bool},RelDs K mg ρ H xs vs->fS h d xs=some bs->EqsR K H y pd vs bs:=by
 intro xs
 induction xs with
 |
  nil=>
  intro vs bs r e
  cases r
  have e':some ([]:List Bool)=some bs:=e
  cases e';exact .nil
 |
  cons x xs ih=>
  intro vs bs r e
  cases r with
  |
   cons r rr=>
   unfold fS at e
   split at e
   ·rename_i b bs' e1 e2
    cases e
    unfold kY at e1
    rw[es] at e1
    split at e1
    ·rename_i a c e3 e4
     cases e4
     split at e1
     ·rename_i hs
      cases e1
      exact .cons (fu w 64 r e3) hs.1 (ih rr e2)
     ·cases e1
    ·cases e1
   ·cases e
theorem zk {d:D}:∀ {xs:List D}{bs:List Bool},fS h d xs=some bs->xs=[]\/∃ pd,dc 64 h d=some pd/\SeqAt.shaped pd=true
 | [],_,_=>.inl rfl
 |
  x :: xs,bs,e=>by
  right
  unfold fS at e
  split at e
  ·rename_i b bs' e1 e2
   unfold kY at e1
   split at e1
   ·rename_i a c e3 e4
    split at e1
    ·rename_i hs;exact⟨c,e4,hs.2⟩
    ·cases e1
   ·cases e1
  ·cases e
theorem tR {pins:List (Addr×Obj)}{σ:St}{s:Shared}{y:V}{pd:PyData}{v:Value} (I:Inv X pins σ H s) (hu:X.A.units + 100 < cLine) (ry:Rep X.K H y pd) (rv:RelV y v) (hy:SeqAt.shaped pd=true):∃ e:Value->Bool,∀ {xs:List V}{bs:List Bool}{its:List Value},EqsR X.K H y pd xs bs->Vals xs its->its.map e=bs/\∀ u ∈ its,SeqAt.EqAt X.A.in1 s u v (e u):=by
 classical
 obtain⟨as,q1⟩:=ry.reads I rv
 refine⟨λu=>if q:∃ d as,Reads s.heap u d as/\SeqAt.shaped d=true then PyData.eqv q.choose pd else false,λ{xs bs its} r rr=>?_⟩
 induction r generalizing its with
 | nil=>cases rr;exact⟨rfl,λu hu=>nomatch hu⟩
 |
  cons rx hx r ih=>
  rename_i x px xs bs
  cases rr with
  |
   cons r1 rr=>
   rename_i u us
   obtain⟨ih1,ih2⟩:=ih rr
   obtain⟨as1,q2⟩:=rx.reads I r1
   have hq:∃ d as,Reads s.heap u d as/\SeqAt.shaped d=true:=⟨px,as1,q2,hx⟩
   have e1:(if q:∃ d as,Reads s.heap u d as/\SeqAt.shaped d=true then PyData.eqv q.choose pd else false)=PyData.eqv px pd:=by
    rw[dif_pos hq]
    obtain⟨as2,q3,hs3⟩:=hq.choose_spec
    have:=SeqAt.Reads.unique px hq.choose u _ _ (SeqAt.canLay_of_shaped hx) q2 q3
    rw[<- this]
   refine⟨by rw[List.map_cons,ih1,e1],λw hw=>?_⟩
   rcases List.mem_cons.mp hw with rfl | hw
   ·dsimp only
    rw[e1]
    exact SeqAt.eqAt_reads px pd X.A.in1 s _ _ _ _ q2 q1 (SeqAt.canLay_of_shaped hx) (SeqAt.canLay_of_shaped hy) (SeqAt.room_of_shaped hx (by
     have:X.A.in1.units=X.A.units + 1:=rfl
     rw[this];omega))
   ·exact ih2 w hw
def mC (K:W.Frag):V->List V->Hp->VK->Prop:=λx vs H Q=>∃ l y bs,x=.ref l/\vs=[y]/\rEqs K H l y bs/\bs.idxOf true < bs.length/\Q (.int (bs.idxOf true:Nat)) H
def jS (K:W.Frag):V->List V->Hp->VK->Prop:=λx vs H Q=>∃ l y bs,x=.ref l/\vs=[y]/\rEqs K H l y bs/\Q (.int (bs.count true:Nat)) H
theorem EqsR.len {y:V}{pd:PyData}{xs:List V}{bs:List Bool} (r:EqsR K H y pd xs bs):xs.length=bs.length:=by
 induction r with
 | nil=>rfl
 | cons _ _ _ ih=>rw[List.length_cons,List.length_cons,ih]
theorem Ao (hu:X.A.units + 100 < cLine):MtM X "list.index" (mC X.K):=by
 intro pins s σ H x vs v us Q I rx rv h
 obtain⟨l,y,bs,rfl,rfl,⟨xs,pd,hq,ry,hy,re⟩,hi,q⟩:=h
 cases rx
 obtain⟨u,rfl,ru⟩:=rv.one
 obtain⟨e,he⟩:=tR I hu ry ru hy
 obtain⟨its,r,⟨o,n,eo,hc,hd,hs⟩,hz⟩:=I.list hq
 obtain⟨m1,m2⟩:=he re r
 have be:=r.length
 have hbl:=re.len
 have hn:=iP
 have hj:bs.idxOf true < its.toArray.size:=by rw[List.size_toArray];omega
 have eo':s.heap.get? l=some { cls:=.type "list",dict:=o.dict,data:=.seq its.toArray n,slots:=o.slots }:=by
  rw[eo]
  obtain⟨oc,od,odt,osl⟩:=o
  have h1:oc=.type "list":=hc
  have h2:odt=.seq its.toArray n:=hs
  subst h1 h2
  rfl
 have em:∀ (m:Nat) (hm:m < its.toArray.size),bs[m]?=some (e its.toArray[m]):=λm hm=>by
  rw[<- m1,List.getElem?_map]
  have:its[m]?=some its.toArray[m]:=by
   rw[List.getElem?_eq_getElem (by simpa using hm)]
   rfl
  rw[this];rfl
 refine call_meets PySem.F.slot_list_index ⟨_,eo',rfl⟩ PySem.F.entry_list_index (PySem.F.args_list_index_2 _ _)
  (SeqAt.list_indexAt l its.toArray n o.dict o.slots u e (bs.idxOf true) hj (by omega) ?_ ?_) ⟨eo',λw hw=>m2 w (by simpa using hw),?_⟩
 ·have:=em _ hj
  rw[List.getElem?_eq_getElem hi,List.getElem_idxOf] at this
  exact (Option.some.inj this).symm
 ·intro m
   hm hlt
  have:=em m hm
  have hb:m < bs.length:=by omega
  rw[List.getElem?_eq_getElem hb] at this
  have h3
   : bs[m] ≠ true:=λz=>by
   have h4:bs.idxOf true<=m:=by
    have:=List.idxOf_lt_length_iff (l:=bs) (a:=true)
    rcases Nat.lt_or_ge m (bs.idxOf true) with z' | z'
    ·exact absurd z (by
      have h5:=List.not_of_lt_findIdx (xs:=bs) (p:=(· == true)) (i:=m) z'
      simpa using h5)
    ·exact z'
   omega
  have h4:e its.toArray[m]=bs[m]:=(Option.some.inj this).symm
  rw[h4]
  exact Bool.eq_false_iff.mpr h3
 ·exact⟨.int _,H,I.tok _,⟨_,rfl⟩,q⟩
theorem zU (hu:X.A.units + 100 < cLine):MtM X "list.count" (jS X.K):=by
 intro pins s σ H x vs v us Q I rx rv h
 obtain⟨l,y,bs,rfl,rfl,⟨xs,pd,hq,ry,hy,re⟩,q⟩:=h
 cases rx
 obtain⟨u,rfl,ru⟩:=rv.one
 obtain⟨e,he⟩:=tR I hu ry ru hy
 obtain⟨its,r,⟨o,n,eo,hc,hd,hs⟩,hz⟩:=I.list hq
 obtain⟨m1,m2⟩:=he re r
 have eo':s.heap.get? l=some { cls:=.type "list",dict:=o.dict,data:=.seq its.toArray n,slots:=o.slots }:=by
  rw[eo]
  obtain⟨oc,od,odt,osl⟩:=o
  have h1:oc=.type "list":=hc
  have h2:odt=.seq its.toArray n:=hs
  subst h1 h2
  rfl
 refine call_meets PySem.F.slot_list_count ⟨_,eo',rfl⟩ PySem.F.entry_list_count (PySem.F.args_list_count_2 _ _)
  (SeqAt.list_countAt l its.toArray n o.dict o.slots u e) ⟨eo',λw hw=>m2 w (by simpa using hw),?_⟩
 have ec:its.countP e=bs.count true:=by
  rw[<- m1,List.count,List.countP_map]
  congr 1
  funext w
  simp
 have ec':its.toArray.toList.countP e=bs.count true:=ec
 rw[ec']
 exact⟨.int _,H,I.tok _,⟨_,rfl⟩,q⟩
theorem AO:MtD K mg (mC K) lN:=λρ h H dx ds x vs Q E w rx rs p=>by
 unfold lN at p
 split at p
 ·cases
   rx with
  |
   ref ea=>
   cases rs with
   |
    cons r rs=>
    cases rs
    split at p
    ·rename_i bs e
     split at p
     ·rename_i hl
      obtain⟨xs,q,e2⟩:=Option.bind_eq_some_iff.mp e
      obtain⟨vs,h1,h2⟩:=cm w ea q
      rcases zk e2 with rfl | ⟨pd,h3,h4⟩
      ·have e3:some ([]:List Bool)=some bs:=e2
       cases e3
       exact absurd hl (by simp)
      ·exact⟨_,_,bs,rfl,rfl,⟨vs,pd,h1,fu w 64 r h3,h4,ux w r h3 h2 e2⟩,hl,aO w (.int _) p⟩
     ·exact p.elim
    ·exact p.elim
 ·exact p.elim
theorem AX:MtD K mg (jS K) (λx ds h=>match ds with | [d]=>if (dc 64 h d).isSome=true/\((dc 64 h d).map SeqAt.shaped)=some true then nT x ds h else .stuck | _=>.stuck):=λρ h H dx ds x vs Q E w rx rs p=>by
 dsimp only at p
 split at p
 ·split
   at p
  ·rename_i d hs
   obtain⟨pd,h3⟩:=Option.isSome_iff_exists.mp hs.1
   have h4:SeqAt.shaped pd=true:=by
    have:=hs.2
    rw[h3] at this
    exact Option.some.inj this
   unfold nT at p
   split at p
   ·rename_i ed
    cases ed
    cases rx with
    |
     ref ea=>
     cases rs with
     |
      cons r rs=>
      cases rs
      split at p
      ·rename_i bs e
       obtain⟨xs,q,e2⟩:=Option.bind_eq_some_iff.mp e
       obtain⟨vs,h1,h2⟩:=cm w ea q
       exact⟨_,_,bs,rfl,rfl,⟨vs,pd,h1,fu w 64 r h3,h4,ux w r h3 h2 e2⟩,aO w (.int _) p⟩
      ·exact p.elim
   ·exact p.elim
  ·exact p.elim
 ·exact p.elim
theorem G0 (h:X.K=K) (hu:X.A.units + 100 < cLine):MtM X "list.index" (mC K):=by subst h;exact Ao hu
theorem F2 (h:X.K=K) (hu:X.A.units + 100 < cLine):MtM X "list.count" (jS K):=by subst h;exact zU hu
end
def wL (o i v:D) (h:AH):R Unit:=match o,i with
 | .ref n,.int k=>match h[n]? with
  | some (.lst xs)=>match ixN xs.length k with
   | some j=>.ok () (h.set n (.lst (xs.set j v)))
   | none=>.stuck
  | _=>.stuck
 | _,_=>.stuck
section
variable {K:W.Frag}{mg:Str->Option Value}{X:Cx}{ES:St->XK}{o i:Expr}{F G:ME}{pos:Pos}
theorem Dy:sW K mg vH wL:=λρ h H do_ di dv o i v Q E w ro ri rv p=>by
 unfold wL at p
 split at p
 ·cases
   ro with
  |
   ref ea=>
   cases ri
   split at p
   ·rename_i n k xs e
    split at p
    ·rename_i j ej
     obtain⟨vs,h1,h2⟩:=w.ob _ _ _ ea e
     have l:Le ρ H ρ (upd H _ (.lst (vs.set j v))):=nz h1 qC
     exact⟨_,vs,_,j,rfl,rfl,h1,by rw[<- h2.len];exact ej,p ρ _ l (w.write ea h1 qC ⟨_,bY,(h2.set rv j).mono l⟩)⟩
    ·exact p.elim
   ·exact p.elim
 ·exact p.elim
theorem GU {t:m9}{f:D->D->D->AH->R Unit} (ho:DE K mg X ES o F) (hi:DE K mg X ES i G) (hs:rF X t) (hd:sW K mg t f)
 (ha:∀ v,assign (.Subscript o i pos) X.env v=(do
  let ov <- holding [v] (eval o X.env)
  let iv <- holding [v,ov] (eval i X.env)
  standAt pos
  holding [v,ov,iv] (setItem ov iv v)
  release [v,ov,iv] []):=by intro _;rfl):DG K mg X ES (.Subscript o i pos) (gS F G f):=
 PG.imp (HX ho hi hs ha) λv σ H Q q_=>q_.el λρ h ae d w re rd p=>
  ⟨ρ,h,ae,w,re,p.bind.imp λdo_ h1 ρ1 H1 l1 w1 p1 o' ro=>⟨ρ1,h1,ae,w1,re.mono l1,p1.bind.imp λdi h2 ρ2 H2 l2 w2 p2 i' ri=>
   hd ρ2 h2 H2 do_ di d o' i' v _ _ w2 (ro.mono l2) ri ((rd.mono l1).mono l2) (p2.bind.imp λ_ h3 ρ3 H3 l3 w3 p3=>p3 ρ3 H3 Le.refl w3 σ (((re.mono l1).mono l2).mono l3))⟩⟩
end
def cutD (xs:List D) (lo hi:Option Int):List D:=(xs.drop (HT.sIx xs.length 0 lo)).take (HT.sIx xs.length xs.length hi - HT.sIx xs.length 0 lo)
abbrev MO:=AE->AH->R (Option Int)
def vg:MO:=λ_ h=>.ok none h
def vn (F:ME):MO:=λae h=>(F ae h).bind λd h1=>match d with
 | .int i=>.ok (some i) h1
 | _=>.stuck
def gSl (x:D) (lo hi:Option Int) (h:AH):R D:=match x with
 | .tup xs=>if HT.sIx xs.length 0 lo=0/\HT.sIx xs.length xs.length hi=xs.length then .stuck else .ok (.tup (cutD xs lo hi)) h
 | .ref n=>match bD h n with
  | some xs=>.ok (.ref h.length) (h++[.lst (cutD xs lo hi)])
  | none=>.stuck
 | .kl xs=>.ok (.ref h.length) (h++[.lst (cutD xs lo hi)])
 | _=>.stuck
def eSl (F:ME) (L U:MO):ME:=λae h=>(F ae h).bind λx h1=>(L ae h1).bind λlo h2=>(U ae h2).bind λhi h3=>gSl x lo hi h3
section
variable {K:W.Frag}{mg:Str->Option Value}{X:Cx}{ES:St->XK}{e:Expr}{F:ME}{L U:MO}{lo hi:Option Expr}{pos p2:Pos}
def rdO (K:W.Frag) (mg:Str->Option Value) (ES:St->XK) (F:MO):TO:=λσ H Q=>∃ ρ h ae,Wd K mg ρ h H/\RelE K mg ρ H ae σ/\PostG K mg ρ H (ES σ) (λo _ ρ' H'=>Q o H') (F ae h)
def DO (K:W.Frag) (mg:Str->Option Value) (X:Cx) (ES:St->XK) (e:Option Expr) (F:MO):Prop:=PO X e (rdO K mg ES F)
theorem Ci:DO K mg X ES none vg:=PO.imp CI λσ H Q ⟨ρ,h,ae,w,re,p⟩=>p ρ H Le.refl w
theorem CO (he:DE K mg X ES e F):DO K mg X ES (some e) (vn F):=PO.imp (Dt he) λσ H Q ⟨ρ,h,ae,w,re,p⟩=>⟨ρ,h,ae,w,re,p.bind.imp λd h1 ρ1 H1 l1 w1 p1 v rv=>by
 split at p1
 ·cases rv;exact⟨_,rfl,p1 ρ1 H1 Le.refl w1⟩
 ·exact p1.elim⟩
theorem pD {ρ:List Addr}{H:Hp}{xs:List D}{vs:List V} (r:RelDs K mg ρ H xs vs) (lo hi:Option Int):RelDs K mg ρ H (cutD xs lo hi) (kW vs lo hi):=by
 unfold cutD kW
 rw[<- r.len]
 exact (r.drop _).take _
theorem slK (h:X.K=K):SlR X (λx lo hi H Q=>rSlL K x lo hi H Q\/rSlT K x lo hi H Q):=by subst h;exact B1.or Fg
theorem Aa (hK:X.K=K) (he:DE K mg X ES e F) (hl:DO K mg X ES lo L) (hu:DO K mg X ES hi U):DE K mg X ES (.Subscript e (.Slice lo hi none p2) pos) (eSl F L U):=
 PE.imp (
  Ar (slK hK) he hl hu) λσ H Q q_=>q_.el λρ h ae w re p=>⟨ρ,h,ae,w,re,p.bind.imp λd h1 ρ1 H1 l1 w1 p1 x rx=>⟨ρ1,h1,ae,w1,re.mono l1,p1.bind.imp λlo h2 ρ2 H2 l2 w2 p2=>⟨ρ2,h2,ae,w2,(re.mono l1).mono l2,p2.bind.imp λhi h3 ρ3 H3 l3 w3 p3=>by
  have rx3:=(rx.mono l2).mono l3
  unfold gSl at p3
  split at p3
  ·split at p3
   ·exact p3.elim
   ·rename_i hn
    cases rx3 with
    | tup q rs=>exact .inr ⟨_,_,rfl,q,by rw[<- rs.len];exact hn,λl hl=>kz w3 (pD rs lo hi) hl p3⟩
  ·split at p3
   ·rename_i xs e1
    cases rx3 with
    |
     ref ea=>
     obtain⟨vs,q,rs⟩:=cm w3 ea e1
     exact .inl ⟨_,_,rfl,q,λl hl=>eD w3 (pD rs lo hi) hl p3⟩
   ·exact p3.elim
  ·cases rx3 with
   | kl q rs=>exact .inl ⟨_,_,rfl,.inr q,λl hl=>eD w3 (pD rs lo hi) hl p3⟩
  ·exact p3.elim⟩⟩⟩
end
def qT (d:D) (h:AH):R Bool:=match d with
 | .non=>.ok false h
 | .bl b=>.ok b h
 | .int i=>.ok (i != 0) h
 | d=>match dN h d with
  | some xs=>.ok (!xs.isEmpty) h
  | none=>.stuck
def tTr (F:ME):MT:=λae h=>(F ae h).bind qT
section
variable {K:W.Frag}{mg:Str->Option Value}{X:Cx}{ES:St->XK}{a:Expr}{F:ME}
theorem yY (hK:X.K=K) (ha:DE K mg X ES a F) (he:∀ ci,isTrue a X.env ci=(do let v <- ci;standAt a.pos;holding [v] (truthy v)):=by intro _;rfl):DT K mg X ES a (tTr F):=by
 subst hK
 refine PT.imp (Ak ha he) λσ H Q q_=>q_.el λρ h ae w re p=>⟨ρ,h,ae,w,re,p.bind.imp λd h1 ρ1 H1 l1 w1 p1 x rx=>?_⟩
 have items:∀ {xs:List D},dN h1 d=some xs->Q (!xs.isEmpty) H1->∃ k,zt X.K x H1 k/\Q k H1:=λ{xs} e q=>by
  obtain⟨pa,vs,rfl,hq,rs⟩:=dY w1 rx e
  have ee:xs.isEmpty=vs.isEmpty:=by cases rs <;> rfl
  rw[ee] at q
  rcases hq with hq | hq
  ·exact⟨_,.inl ⟨vs,hq,rfl⟩,q⟩
  ·exact⟨_,.inr (.inl ⟨vs,hq,rfl⟩),q⟩
 unfold qT at p1
 split at p1
 ·cases rx;exact⟨_,rfl,p1 ρ1 H1 Le.refl w1⟩
 ·cases rx;exact⟨_,rfl,p1 ρ1 H1 Le.refl w1⟩
 ·cases rx;exact⟨_,rfl,p1 ρ1 H1 Le.refl w1⟩
 ·split at p1
  ·rename_i xs e1;exact items e1 (p1 ρ1 H1 Le.refl w1)
  ·exact p1.elim
end
end L2
namespace L2
open PySem PySem.Spec PyProof.Rows
abbrev cxT (X:Cx) (pn:List (Addr×Obj)) (xe:Value->Shared->Prop):Cx:={ X with pn:=pn,xe:=xe }
section
variable {X:Cx}{pins pins2 pn:List (Addr×Obj)}{σ:St}{H:Hp}{s:Shared}{xe:Value->Shared->Prop}
theorem Inv.toT (I:Inv X pins σ H s):Inv (cxT X (X.pn++pins) xe) [] σ H s:=
 ⟨⟨I.ok.mod,I.ok.kind,I.ok.glob,I.ok.blt,I.ok.above,I.ok.inj,I.ok.has,I.ok.cab,I.ok.hd,I.ok.frames,I.ok.stk,I.ok.exf,I.ok.bs,I.ok.bsz,I.ok.noex,I.ok.exfs,I.ok.funs,I.ok.frf⟩,I.os,I.bare,I.base,I.loc,I.cell,I.free,I.freeC,λp hp=>I.pin p (by simpa using hp),I.hok,I.len⟩
theorem Inv.ofT (I:Inv (cxT X (X.pn++pins) xe) pins2 σ H s):Inv X pins σ H s:=
 ⟨⟨I.ok.mod,I.ok.kind,I.ok.glob,I.ok.blt,I.ok.above,I.ok.inj,I.ok.has,I.ok.cab,I.ok.hd,I.ok.frames,I.ok.stk,I.ok.exf,I.ok.bs,I.ok.bsz,I.ok.noex,I.ok.exfs,I.ok.funs,I.ok.frf⟩,I.os,I.bare,I.base,I.loc,I.cell,I.free,I.freeC,λp hp=>I.pin p (List.mem_append_left _ hp),I.hok,I.len⟩
end
def rP (mro:List Str) (i:Nat) (B U:MS):MS:=λae h=>match B ae h with
 |
  .exc c ae1 h1=>if c ∈ mro then match U (ae1.set i (some (.exc c))) h1 with
   | .nx ae2 h2=>.nx (ae2.set i none) h2
   | .bk ae2 h2=>.bk (ae2.set i none) h2
   | .ct ae2 h2=>.ct (ae2.set i none) h2
   | .rt d h2=>.rt d h2
   | _=>.stuck
  else .stuck
 | r=>r
section
variable {K:W.Frag}{mg:Str->Option Value}{X:Cx}{ES:St->XK}{x n:Str}{C:Addr}{i:Nat}{body suite:List Stmt}{b₀:Stmt}{B U:MS}{np hpos pos:Pos}{mro:List Str}
theorem C9 (hb:∀ (pn:List (Addr×Obj)) (xe:Value->Shared->Prop) (ES':St->XK),fG (cxT X pn xe) ES'->DSs K mg (cxT X pn xe) ES' body B):PSsx X body (λDe E σ H=>∃ ρ h ae,Wd K mg ρ h H/\RelE K mg ρ H ae σ/\PostS K mg ρ H De E (B ae h)):=by
 intro pins s σ H De E I hh
 let xe:Value->Shared->Prop:=λe s'=>∃ pins2 σ1 H1 s1,Inv (cxT X (X.pn++pins) (λ_ _=>False)) pins2 σ1 H1 s1/\CX1 X.prog X.w X.stack H1 s1 (E σ1) e s'
 have hx:fG (cxT X (X.pn++pins) xe) E:=λpins2 σ1 H1 s1 e s' I1 q=>⟨pins2,σ1,H1,s1,⟨⟨I1.ok.mod,I1.ok.kind,I1.ok.glob,I1.ok.blt,I1.ok.above,I1.ok.inj,I1.ok.has,I1.ok.cab,I1.ok.hd,I1.ok.frames,I1.ok.stk,I1.ok.exf,I1.ok.bs,I1.ok.bsz,I1.ok.noex,I1.ok.exfs,I1.ok.funs,I1.ok.frf⟩,I1.os,I1.bare,I1.base,I1.loc,I1.cell,I1.free,I1.freeC,I1.pin,I1.hok,I1.len⟩,q⟩
 refine wpAny_mono (hb (X.pn++pins) xe E hx [] s σ H De I.toT hh) (λf s' q=>?_) λe s' q=>?_
 ·cases f with
  | next=>obtain⟨σ1,H1,I1,q1⟩:=q;exact⟨σ1,H1,I1.ofT,q1⟩
  | brk=>obtain⟨σ1,H1,I1,q1⟩:=q;exact⟨σ1,H1,I1.ofT,q1⟩
  | cont=>obtain⟨σ1,H1,I1,q1⟩:=q;exact⟨σ1,H1,I1.ofT,q1⟩
  | ret u=>obtain⟨v,σ1,H1,I1,r1,q1⟩:=q;exact⟨v,σ1,H1,I1.ofT,r1,q1⟩
 ·obtain⟨pins2,σ1,H1,s1,I1,q1⟩:=q
  exact⟨σ1,H1,s1,I1.ofT,q1⟩
theorem HS (T:X.Top) (hN:X.N.Nodup) (hi:X.N[i]?=some n) (hl:X.env.kindOf n=some .local) (hg:Gl X x) (hm:mg x=some (.ref C)) (hh:XHand K C) (hmro:∀ c ∈ mro,∀ Ce,mg c=some (.ref Ce)->W.mroIn K Ce (.ref C)=some true)
 (hb:∀ (pn:List (Addr×Obj)) (xe:Value->Shared->Prop) (ES':St->XK),fG (cxT X pn xe) ES'->DSs K mg (cxT X pn xe) ES' body B) (hs:∀ ea,DSs K mg (ir X ea) (λ_=>E0) (b₀ :: suite) U)
 (hK:X.K=K:=by rfl) (hk:X.mg=mg:=by rfl) (hd:(x == ("__debug__" : Str))=false:=by decide):DS K mg X ES (.Try body [.ExceptHandler (some (.Name x np)) (some n) (b₀ :: suite) hpos] [] [] pos) (rP mro i B U):=by
 subst hK hk
 refine PS.imp (Hs T hN hi hl hg hm hh (C9 hb) hs hd) λDe σ H q_=>q_.el λρ h ae w re p=>⟨ρ,h,ae,w,re,?_⟩
 unfold rP at p
 cases q:B ae h with
 | nx a1 h1=>rw[q] at p;exact p
 | rt a1 h1=>rw[q] at p;exact p
 | bk a1 h1=>rw[q] at p;exact p
 | ct a1 h1=>rw[q] at p;exact p
 | stuck=>rw[q] at p;exact p
 |
  exc c ae1 h1=>
  rw[q] at p
  dsimp only at p
  split at p
  ·rename_i hc
   intro ρ1 H1 σ1 Ce l1 w1 re1 mc
   refine⟨Ce,rfl,hmro c hc Ce mc,λea hn=>⟨ρ1,h1,ae1.set i (some (.exc c)),w1.tuple hn,(re1.mono (dg hn)).set i (.exc mc bY),?_⟩⟩
   have p':=PostS.mono (l1.trans (dg (o:=.ext (oh ea Ce)) hn)) p
   cases q2:U (ae1.set i (some (.exc c))) h1 with
   | nx a2 h2=>rw[q2] at p';exact λρ2 H2 σ2 l2 w2 re2=>p' ρ2 H2 _ l2 w2 (re2.unset i)
   | bk a2 h2=>rw[q2] at p';exact λρ2 H2 σ2 l2 w2 re2=>p' ρ2 H2 _ l2 w2 (re2.unset i)
   | ct a2 h2=>rw[q2] at p';exact λρ2 H2 σ2 l2 w2 re2=>p' ρ2 H2 _ l2 w2 (re2.unset i)
   | rt d h2=>rw[q2] at p';exact p'
   | exc c2 a2 h2=>rw[q2] at p';exact p'.elim
   | stuck=>rw[q2] at p';exact p'.elim
  ·exact p.elim
end
structure Script (h:AH) (d:D) (ns:List Int):Prop where
 form:(∃ n,d=.ref n/\h[n]?=some (.fz (ns.map D.int)))\/d=.kl (ns.map D.int)
theorem kP {K:W.Frag}{mg:Str->Option Value}{ρ:List Addr}{H:Hp}:∀ (ns:List Int),RelDs K mg ρ H (ns.map D.int) (ns.map V.int)
 | []=>.nil
 | _ :: r=>.cons (.int _) (kP r)
theorem Ap {P:Program}{w:World}{K:W.Frag}{mg:Str->Option Value}{base:Heap}{x y:Str}{k:Nat}{S:Fn} (C:Callee P w K mg base x k [y] (spD K mg 1 S))
 (hS:∀ (d:D) (h:AH) (ns:List Int),ns.length<=63->Script h d ns->∃ h',S [d] h=.ok (.bl true) h'):Callee P w K mg base x k [y] (λvs H Q _=>∃ (a:Addr) (ns:List Int),vs=[.ref a]/\pq H/\SqL K H a (ns.map V.int)/\ns.length<=63/\∀ H',Q (.bl true) H'):=by
 refine C.imp λvs H Q E ⟨a,ns,e,hO,hq,hl,q⟩=>?_
 subst e
 rcases hq with (hq | ⟨o,hq⟩) | hq
 ·rcases hO a with z | ⟨o,xs,z⟩ <;> rw[hq] at z <;> cases z
 ·obtain⟨h',e⟩:=hS (.ref 0) [.fz (ns.map D.int)] ns hl ⟨.inl ⟨0,rfl,rfl⟩⟩
  refine⟨[a],[.fz (ns.map D.int)],[.ref 0],⟨rfl,by simp,λn b ob e1 e2=>?_⟩,.cons (.ref rfl) .nil,rfl,?_⟩
  ·cases n with
   | zero=>cases e1;cases e2;exact⟨o,_,hq,kP ns⟩
   | succ n=>simp at e1
  ·rw[e]
   exact λρ' H' l' w' v rv=>by cases rv;exact q H'
 ·obtain⟨h',e⟩:=hS (.kl (ns.map D.int)) [] ns hl ⟨.inr rfl⟩
  refine⟨[],[],[.kl (ns.map D.int)],⟨rfl,by simp,λn b ob e1 e2=>by simp at e1⟩,.cons (.kl hq (kP ns)) .nil,rfl,?_⟩
  rw[e]
  exact λρ' H' l' w' v rv=>by cases rv;exact q H'
theorem walk_lawD {l:W.OpenLaw}{q:Program}{loose:List Str}{XP:(Str->Option Value)->Heap->Prop}{YP:World->Heap->Prop}{d:DefRec}{K:Params->W.Frag}{x:Str}{k:Nat} (hn:l.most=some 63) (hdf:d.params.defaults=[]) (hr:Room k callerA)
 (hY:∀ (w:World) (h:Heap),YP w h->(K w.params).In h)
 (F:∀ (w:World) (mg:Str->Option Value) (h:Heap),(K w.params).In h->h.Ns mainGlobals mg->∀ base:Heap,(K w.params).In base->base.Ns mainGlobals mg->Callee l.prog w (K w.params) mg base d.name k [x] (λvs H Q _=>∃ (a:Addr) (ns:List Int),vs=[.ref a]/\pq H/\SqL (K w.params) H a (ns.map V.int)/\ns.length<=63/\∀ H',Q (.bl true) H'))
 (D:∀ (w:World) (mg:Str->Option Value) (h:Heap),(K w.params).In h->h.Ns mainGlobals mg->∃ st,Def (K w.params) mg d.name st/\∀ (kV doc pm:Value) (an:Option Addr) (cdv ct:Value) (us:List Value),us.length=1->bindArgs (W.fnOf d.name d.name (cK st) (bu st) (av st) .none kV doc pm an cdv ct) ⟨us,[]⟩=pure ([x].zip us)):
 W.WalkO q loose XP YP l.row.toRowW d [] (λf vs=>PySem.call f vs):=by
 refine L2.walk_of (n:=63) (k:=k) (x:=x) (CX:=λw=>CX1 l.prog w) (sp:=λw=>λvs H Q _=>∃ (a:Addr) (ns:List Int),vs=[.ref a]/\pq H/\SqL (K w.params) H a (ns.map V.int)/\ns.length<=63/\∀ H',Q (.bl true) H') hn (by decide) hdf hr hY (λw mg fa h KX G hmg=>?_) (λ_ _ a ns hl hO hS=>⟨a,ns,rfl,hO,hS,hl,λ_=>rfl⟩) λ_ _ _ _ _ ⟨_,_,_,_,_,_,_,_,_,z⟩=>z
 obtain⟨st,Dd,hbind⟩:=D w mg h KX G
 obtain⟨f,fd,Ff,m⟩:=Dd.ex
 have e:=hmg.symm.trans m
 cases e
 obtain⟨oc,od,kV,doc,pm,an,cdv,ct,osl,rfl,lk,j'⟩:=Ff.ex
 refine⟨_,λs u=>.of_eq (hbind kV doc pm an cdv ct [u] rfl),λbase kb nb=>?_⟩
 obtain⟨f',fd',F',m',kp',b',oc',od',osl',lk'⟩:=(F w mg h KX G base kb nb).ex
 rw[m] at m'
 cases m'
 rw[lk] at lk'
 cases lk'
 exact F'
end L2
namespace L2
open PySem PySem.Spec PyProof.Rows
mutual
inductive Bel (N:Nat):D->Prop where
 | non:Bel N .non
 | bl (b:Bool):Bel N (.bl b)
 | int (i:Int):Bel N (.int i)
 | str (x:Str):Bel N (.str x)
 | ty (n:String):Bel N (.ty n)
 | glb (x:Str):Bel N (.glb x)
 | exc (x:Str):Bel N (.exc x)
 | tup {ds:List D} (r:Bels N ds):Bel N (.tup ds)
 | ref {n:Nat} (h:n < N):Bel N (.ref n)
 | kl {ds:List D} (r:Bels N ds):Bel N (.kl ds)
inductive Bels (N:Nat):List D->Prop where
 | nil:Bels N []
 | cons {d:D}{ds:List D} (r:Bel N d) (rr:Bels N ds):Bels N (d :: ds)
end
def y7 (N:Nat):Ob->Prop
 | .lst xs=>Bels N xs
 | .fz xs=>Bels N xs
 | .dct kvs=>Bels N (kvs.map (·.2))
 | _=>True
section
variable {K:W.Frag}{mg:Str->Option Value}{ρ ρ1 ρ2:List Addr}{H H1:Hp}{h:AH}
end
inductive Rf (h:AH):R D->R D->Prop where
 | stuck (r:R D):Rf h r .stuck
 | eq (r:R D):Rf h r r
 | val {d:D}{h2 g:AH} (hl:h2.length=h.length) (ho:∀ (n:Nat) (o:Ob),h2[n]?=some o->h[n]?=some o\/y7 h.length o) (hd:Bel h.length d):Rf h (.ok d (h2++g)) (.ok d h2)
 | exc {c:Str}{h2 g:AH} (hl:h2.length=h.length) (ho:∀ (n:Nat) (o:Ob),h2[n]?=some o->h[n]?=some o\/y7 h.length o):Rf h (.exc c (h2++g)) (.exc c h2)
 | lst {m:Nat}{h1 h2:AH}{ys:List D} (hl:h2.length=h.length) (ho:∀ (n:Nat) (o:Ob),h2[n]?=some o->h[n]?=some o\/y7 h.length o) (hs:∀ (n:Nat) (o:Ob),h2[n]?=some o->h1[n]?=some o) (em:h1[m]?=some (.lst ys)) (hm:h.length<=m) (hy:Bels h.length ys):Rf h (.ok (.ref m) h1) (.ok (.ref h.length) (h2++[.lst ys]))
section
variable {K:W.Frag}{mg:Str->Option Value}{ρ:List Addr}{H:Hp}{h:AH}
end
end L2
namespace L2
open PySem PySem.Spec PyProof.Rows
def wQ:D->D->AH->R D:=gOr (gI λi j=>.int (i + j)) mM
def CMulA (i j:Int):Prop:=BE i j\/CMul i j
def Bn:D->D->AH->R D:=gIc CMulA λi j=>.int (i * j)
def Ba:D->D->AH->R D:=gIc CDivB λi j=>.int (i.fdiv j)
def A7:D->D->AH->R D:=gIc (λ_ j=>j ≠ 0) λi j=>.int (i.fmod j)
def za:D->D->AH->R D:=gIc oZ λi j=>.int (i ^ j.toNat)
def gLt:D->D->AH->R D:=gI λi j=>.bl (decide (i < j))
def gGt:D->D->AH->R D:=gI λi j=>.bl (decide (j < i))
def gGe:D->D->AH->R D:=gI λi j=>.bl (decide (j<=i))
def wm:D->AH->R D:=λx h=>match x with
 | .int i=>.ok (.int (-i)) h
 | _=>.stuck
def vh (n:Nat) (S:Fn) (A:MA):ME:=eFn (λds h=>if ds.length=n then S ds h else .stuck) A
def mh:D->List D->AH->R D:=λx ds h=>match ds with
 | [d]=>if (dc 64 h d).isSome=true/\((dc 64 h d).map SeqAt.shaped)=some true then nT x ds h else .stuck
 | _=>.stuck
section
variable {K:W.Frag}{mg:Str->Option Value}{X:Cx}
theorem bw (h:X.K=K):OpR X (binaryOp .Add) (λx y H Q=>rI0 (λi j=>.int (i + j)) x y H Q\/(oP x y H Q\/(mB K x y H Q\/mi K x y H Q))):=E4.or (catK h)
theorem HD:OpD K mg (λx y H Q=>rI0 (λi j=>.int (i + j)) x y H Q\/(oP x y H Q\/(mB K x y H Q\/mi K x y H Q))) wQ:=(n5 λ_ _ _ _=>.int _).or B5
theorem cG:OpR X (binaryOp .Mult) (rI CMulA λi j=>.int (i * j)):=by
 intro pins s σ H x y v u Q I rx ry h
 obtain⟨i,j,e1,e2,hc,q⟩:=h
 rcases hc with hc | hc
 ·exact Dv pins s σ H x y v u Q I rx ry ⟨i,j,e1,e2,hc,q⟩
 ·exact H9 pins s σ H x y v u Q I rx ry ⟨i,j,e1,e2,hc,q⟩
theorem FK:OpD K mg (rI CMulA λi j=>.int (i * j)) Bn:=qB λ_ _ _ _=>.int _
theorem EE:OpD K mg (rI CDivB λi j=>.int (i.fdiv j)) Ba:=qB λ_ _ _ _=>.int _
theorem Iz:OpD K mg (rI (λ_ j=>j ≠ 0) λi j=>.int (i.fmod j)) A7:=qB λ_ _ _ _=>.int _
theorem Ib:OpD K mg (rI oZ λi j=>.int (i ^ j.toNat)) za:=qB λ_ _ _ _=>.int _
theorem Kh:OpD K mg (rI0 λi j=>.bl (decide (i < j))) gLt:=n5 λ_ _ _ _=>.bl _
theorem Kn:OpD K mg (rI0 λi j=>.bl (decide (j < i))) gGt:=n5 λ_ _ _ _=>.bl _
theorem Kg:OpD K mg (rI0 λi j=>.bl (decide (j<=i))) gGe:=n5 λ_ _ _ _=>.bl _
theorem Eo:UnD K mg (rU λi=>.int (-i)) wm:=λρ h H dx x Q E w rx p=>by
 unfold wm at p
 split at p
 ·cases rx;exact⟨_,rfl,aO w (.int _) p⟩
 ·exact p.elim
theorem Dm:IpD K mg (ipI λi j=>i + j) (gI λi j=>.int (i + j)):=λρ h H dx dy x y Q E w rx ry p=>by
 unfold gI at p
 split at p
 ·cases rx;cases ry;exact⟨_,_,rfl,rfl,aO w (.int _) p⟩
 ·exact p.elim
theorem xv:MtD K mg (jS K) mh:=AX
variable {ES:St->XK}{e:Expr}{es:List Expr}{A:MA}{pos:Pos}
theorem zm {x:Str}{p:Pos}{k n:Nat}{ps:List Str}{S:Fn} (C:Callee X.prog X.w X.K X.mg X.base x k ps (spD K mg n S)) (hr:Room k X.A) (hg:Gl X x) (hx:fG X ES) (ha:DA K mg X ES (e :: es) A)
 (hdb:(x == ("__debug__" : Str))=false:=by decide) (he:starEach (e :: es) X.env=(false,eval e X.env) :: starEach es X.env:=by rfl) (hpl:(backTo pos (starEach es X.env)).any (·.1)=false:=by rfl):
 DE K mg X ES (.Call (.Name x p) (e :: es) [] pos) (vh n S A):=Ee C hr hg hx ha hdb he hpl
end
section
variable {ae:AE}{h:AH}
@[simp] theorem iz {α β:Type} (a:α) (h:AH) (f:α->AH->R β):(R.ok a h).bind f=f a h:=rfl
end
end L2
namespace L2
open PySem PySem.Spec PyProof.Rows
theorem pV {pd:PyData} (h1:pd.canLay0=true) (h2:pd.depth<=64):SeqAt.shaped pd=true:=by
 unfold SeqAt.shaped
 rw[h1,decide_eq_true h2];rfl
def Sm (n:Nat) (x:Int):Prop:=x.natAbs < 2 ^ n
theorem Sm.mono {n m:Nat}{x:Int} (h:Sm n x) (l:n<=m):Sm m x:=Nat.lt_of_lt_of_le h (Nat.pow_le_pow_right (by omega) l)
theorem Sm.mul {n m:Nat}{x y:Int} (h:Sm n x) (k:Sm m y):Sm (n + m) (x * y):=by
 unfold Sm at *
 rw[Int.natAbs_mul,Nat.pow_add]
 exact Nat.mul_lt_mul'' h k
theorem Sm.add' {n:Nat}{x y:Int} (h:Sm n x) (k:Sm n y):Sm (n + 1) (x + y):=by
 unfold Sm at *
 have h3:2 ^ (n + 1)=2 ^ n + 2 ^ n:=by rw[Nat.pow_succ];omega
 have h4:(x + y).natAbs<=x.natAbs + y.natAbs:=Int.natAbs_add_le x y
 omega
theorem Sm.bits {n:Nat}{x:Int} (h:Sm n x):Builtin.Int.intBits x<=n:=intBits_le_iff.mpr h
theorem Sm.of_le {n:Nat}{x y:Int} (h:Sm n y) (l:x.natAbs<=y.natAbs):Sm n x:=Nat.lt_of_le_of_lt l h
theorem CMulA.of {n m:Nat}{x y:Int} (h:Sm n x) (k:Sm m y) (hn:n<=100000) (hm:m<=100000):CMulA x y:=.inl ⟨Nat.le_trans h.bits hn,Nat.le_trans k.bits hm⟩
theorem CMulA.left {x y:Int} (h:-(2 ^ 64) < x) (k:x < 2 ^ 64):CMulA x y:=.inr (.inl ⟨h,k⟩)
theorem CMulA.right {x y:Int} (h:-(2 ^ 64) < y) (k:y < 2 ^ 64):CMulA x y:=.inr (.inr ⟨h,k⟩)
theorem CDivB.of {x y:Int} (h0:y ≠ 0) (h:Sm 8000 y):CDivB x y:=⟨h0,h.bits⟩
structure Sz (n:Nat) (q:Rat):Prop where
 top:Sm n q.num
 bot:Sm n (q.den:Int)
theorem Sz.mono {n m:Nat}{q:Rat} (h:Sz n q) (l:n<=m):Sz m q:=⟨h.top.mono l,h.bot.mono l⟩
theorem xJ {a b:Int} (hb:b ≠ 0):((a:Rat) / (b:Rat)).num * b=a * ((a:Rat) / (b:Rat)).den:=by
 have h2:=Rat.num_divInt_den ((a:Rat) / (b:Rat))
 have h3:Rat.divInt ((a:Rat) / (b:Rat)).num (((a:Rat) / (b:Rat)).den:Int)=Rat.divInt a b:=by rw[h2,Rat.divInt_eq_div]
 exact (Rat.divInt_eq_divInt_iff (by have:=((a:Rat) / (b:Rat)).den_nz;omega) hb).mp h3
theorem uv (q:Rat):Int.gcd q.num q.den=1:=by
 have:=q.reduced
 exact this
theorem qL {a b:Int} (hb:b ≠ 0):Fr.T a b=((a:Rat) / (b:Rat)).num/\Fr.B a b=(((a:Rat) / (b:Rat)).den:Int):=by
 refine Fr.uniq (Fr.B_pos hb) (by have:=((a:Rat) / (b:Rat)).den_pos;omega) (Fr.low hb) (uv _) ?_
 have h1:=Fr.cross (a:=a) hb
 have h2:=xJ (a:=a) hb
 generalize ((a:Rat) / (b:Rat)).num=n at *
 generalize (((a:Rat) / (b:Rat)).den:Int)=d at *
 generalize Fr.T a b=x at *
 generalize Fr.B a b=y at *
 have h3:(x * d) * b=(n * y) * b:=by
  calc x * d * b=(x * b) * d:=by rw[Int.mul_right_comm]
   _=a * y * d:=by rw[h1]
   _=(a * d) * y:=by rw[Int.mul_right_comm]
   _=n * b * y:=by rw[h2]
   _=n * y * b:=by rw[Int.mul_right_comm]
 exact Int.eq_of_mul_eq_mul_right hb h3
theorem vx {a b:Int} (hb:b ≠ 0):((a:Rat) / (b:Rat)).num.natAbs<=a.natAbs:=by
 have h:=(qL (a:=a) hb).1
 rw[<- h]
 have h1:=Fr.T_mul (a:=a) hb
 have h2:=Fr.dv_ne (a:=a) hb
 have h3:(Fr.T a b).natAbs * (Fr.dv a b).natAbs=a.natAbs:=by rw[<- Int.natAbs_mul,h1]
 have h4:1<=(Fr.dv a b).natAbs:=by omega
 calc (Fr.T a b).natAbs=(Fr.T a b).natAbs * 1:=by omega
  _<=(Fr.T a b).natAbs * (Fr.dv a b).natAbs:=Nat.mul_le_mul_left _ h4
  _=a.natAbs:=h3
theorem wM {a b:Int} (hb:b ≠ 0):((((a:Rat) / (b:Rat)).den:Int)).natAbs<=b.natAbs:=by
 have h:=(qL (a:=a) hb).2
 rw[<- h]
 have h1:=Fr.B_mul (a:=a) hb
 have h2:=Fr.dv_ne (a:=a) hb
 have h3:(Fr.B a b).natAbs * (Fr.dv a b).natAbs=b.natAbs:=by rw[<- Int.natAbs_mul,h1]
 have h4:1<=(Fr.dv a b).natAbs:=by omega
 calc (Fr.B a b).natAbs=(Fr.B a b).natAbs * 1:=by omega
  _<=(Fr.B a b).natAbs * (Fr.dv a b).natAbs:=Nat.mul_le_mul_left _ h4
  _=b.natAbs:=h3
theorem Sz.div {n m:Nat}{a b:Int} (hb:b ≠ 0) (ha:Sm n a) (hb':Sm m b) (k:Nat) (h1:n<=k) (h2:m<=k):Sz k ((a:Rat) / (b:Rat)):=
 ⟨(ha.of_le (vx hb)).mono h1,(hb'.of_le (wM hb)).mono h2⟩
theorem cV (q:Rat):(q.den:Int) ≠ 0:=by have:=q.den_nz;omega
theorem iy (q:Rat):q=(q.num:Rat) / ((q.den:Int):Rat):=by
 have:=Rat.num_divInt_den q
 rw[Rat.divInt_eq_div] at this
 exact this.symm
theorem jc {b:Int} (h:b ≠ 0):(b:Rat) ≠ 0:=by
 intro z
 exact h (by exact_mod_cast z)
theorem uy (p q:Rat):p + q=((p.num * q.den + q.num * p.den:Int):Rat) / ((p.den * q.den:Int):Rat):=by
 have h1:=jc (cV p)
 have h2:=jc (cV q)
 conv=>lhs;rw[iy p,iy q]
 simp only[Rat.intCast_add,Rat.intCast_mul]
 grind
theorem uA (p q:Rat):p * q=((p.num * q.num:Int):Rat) / ((p.den * q.den:Int):Rat):=by
 have h1:=jc (cV p)
 have h2:=jc (cV q)
 conv=>lhs;rw[iy p,iy q]
 simp only[Rat.intCast_mul]
 grind
theorem Sz.add {n m:Nat}{p q:Rat} (hp:Sz n p) (hq:Sz m q):Sz (n + m + 1) (p + q):=by
 rw[uy]
 have h1:=(hp.top.mul hq.bot)
 have h2:=(hq.top.mul hp.bot)
 exact Sz.div (by have:=cV p;have:=cV q;exact Int.mul_ne_zero ‹_› ‹_›) (h1.add' (by rw[Nat.add_comm n m];exact h2)) (hp.bot.mul hq.bot) _ (by omega) (by omega)
theorem Sz.mul {n m:Nat}{p q:Rat} (hp:Sz n p) (hq:Sz m q):Sz (n + m) (p * q):=by
 rw[uA]
 exact Sz.div (by have:=cV p;have:=cV q;exact Int.mul_ne_zero ‹_› ‹_›) (hp.top.mul hq.top) (hp.bot.mul hq.bot) _ (by omega) (by omega)
theorem Dg {q:Rat}:0 < q.num ↔ 0 < q:=by
 have h1:=Rat.num_nonneg (q:=q)
 have h2:=Rat.num_eq_zero (q:=q)
 constructor
 ·intro h
  refine Rat.lt_of_le_of_ne (h1.mp (by omega)) λz=>?_
  have:=h2.mpr z.symm
  omega
 ·intro h
  have h3:=h1.mpr (Rat.le_of_lt h)
  have h4:q.num ≠ 0:=λz=>(Rat.ne_of_lt h) (h2.mp z).symm
  omega
theorem ER (p q:Rat):p < q ↔ p.num * q.den < q.num * p.den:=Rat.lt_iff p q
section
variable {α β:Type} (ae:AE) (h:AH)
end
theorem lF:∀ {ws:List Int},(∀ w ∈ ws,0<=w)->0<=ws.sum
 | [],_=>Int.le_refl _
 |
  w :: ws,h=>by
  have:=h w (List.mem_cons_self ..)
  have:=lF (ws:=ws) λv hv=>h v (List.mem_cons_of_mem _ hv)
  rw[List.sum_cons];omega
def Vl (mg:Str->Option Value) (c:Cl) (u:Value):Prop:=match c with
 | .b n=>u=.type n
 | .o x=>mg x=some u
theorem KZ {K:W.Frag}{mg:Str->Option Value}{c d:Cl}{tu cu t v:Value}{b:Bool} (e:W.kitOne K tu cu=some b) (hc:Vl mg c tu) (hd:Vl mg d cu) (h1:ClV mg c t) (h2:ClV mg d v):W.kitOne K t v=some b:=by
 have f:∀ {c:Cl}{u t:Value},Vl mg c u->ClV mg c t->u=t:=by
  intro c u t h1 h2
  cases c with
  | b n=>exact (show u=_ from h1).trans (show t=_ from h2).symm
  |
   o x=>
   obtain⟨a,rfl,m⟩:=h2
   have h1':mg x=some u:=h1
   rw[m] at h1'
   exact (Option.some.inj h1').symm
 rw[<- f hc h1,<- f hd h2]
 exact e
theorem AB {K:W.Frag}{mg:Str->Option Value}:KitsOk K mg []:=⟨λp hp=>(nomatch hp),λp hp=>(nomatch hp)⟩
theorem ak {K:W.Frag}{mg:Str->Option Value}{c d:Cl}{tu cu:Value}{b:Bool}{kt:fE} (e:W.kitOne K tu cu=some b) (hc:Vl mg c tu) (hd:Vl mg d cu) (hx:∀ x C,c=.o x->mg x=some (.ref C)->XCls K C) (r:KitsOk K mg kt):KitsOk K mg ((c,d,b) :: kt):=
 ⟨λp hp t v h1 h2=>by
  rcases List.mem_cons.mp hp with rfl | hp
  ·exact KZ e hc hd h1 h2
  ·exact r.one p hp t v h1 h2,λp hp x C e' m=>by
  rcases List.mem_cons.mp hp with rfl | hp
  ·exact hx x C e' m
  ·exact r.xc p hp x C e' m⟩
theorem bo {K:W.Frag}{mg:Str->Option Value}{n:String}:∀ x C,Cl.b n=.o x->mg x=some (.ref C)->XCls K C:=λ_ _ e=>nomatch e
theorem my {K:W.Frag}{mg:Str->Option Value}{y:Str}{a:Addr} (m:mg y=some (.ref a)) (k:XCls K a):∀ x C,Cl.o y=.o x->mg x=some (.ref C)->XCls K C:=λx C e m'=>by
 cases e
 rw[m] at m'
 cases m'
 exact k
theorem FF {K:W.Frag}{h:Heap}{mg:Str->Option Value}{x:Str}{i:Int}{t:Tok} (X:K.In h) (G:h.Ns mainGlobals mg) (e:W.nsIn K mainGlobals x=some (some (.int i t))):GC K mg x (.int i):=
 ⟨_,.int i,W.mg_of X G e,⟨t,rfl⟩,λ_ _=>.int i⟩
theorem FH {K:W.Frag}{h:Heap}{mg:Str->Option Value}{x:Str}{a:Addr}{dd:Option Addr}{its:Array Value}{n:Nat}{sl:Array (Option Value)}{vs:List V}{ds:List D} (X:K.In h) (G:h.Ns mainGlobals mg) (e:W.nsIn K mainGlobals x=some (some (.ref a)))
 (l:K.lookup a=some ⟨.type "tuple",dd,.seq its n,sl⟩) (hs:its.size<=sizeLine) (hv:Vals vs its.toList) (hr:∀ ρ H,RelDs K mg ρ H ds vs):GC K mg x (.tup ds):=
 ⟨_,.ref a,W.mg_of X G e,rfl,λρ H=>.tup (.inr ⟨_,its,n,l,rfl,rfl,hs,hv⟩) (hr ρ H)⟩
end L2
namespace L2
open PySem PySem.Spec PyProof.Rows
theorem sr {P:Program}{w:World}{H:Hp} (h:Heap) (hb:sysModules < h.objs.size):ObjOk P w H (h.push { cls:=.type "dict",data:=.dict #[] }) h.objs.size (.dK []):=
 ⟨Nat.zero_le _,beq_eq_false_iff_ne.mpr (Ne.symm (Nat.ne_of_lt hb)),[],.nil,Heap.DictOf.new h⟩
theorem Inv.big {X:Cx}{pins:List (Addr×Obj)}{σ:St}{H:Hp}{s:Shared} (I:Inv X pins σ H s):sysModules < s.heap.objs.size:=by
 have h:mainGlobals < s.heap.objs.size:=(I.mod.glob.keeps I.bk).lt
 exact Nat.lt_trans (by decide) h
def E8:TE:=λ_ H Q=>∀ p,H p=none->Q (.ref p) (upd H p (.dK []))
def eD0:ME:=λ_ h=>.ok (.ref h.length) (h++[.dct []])
section
variable {K:W.Frag}{mg:Str->Option Value}{X:Cx}{ES:St->XK}{pos:Pos}
theorem zS:PE X (.Dict [] [] pos) E8:=λpins s σ H Q I h=>
 wpAny_Dict_empty ⟨.ref s.heap.objs.size,_,I.laid (a:=s.heap.objs.size) (o:=.dK []) (t':=s.toks) (λ_ _ q=>Heap.get?_push_of_some _ q) (Nat.le_refl _) (sr s.heap I.big),rfl,h _ (I.hok.fresh (Nat.le_refl _))⟩
theorem K1:DE K mg X ES (.Dict [] [] pos) eD0:=PE.imp zS λσ H Q ⟨ρ,h,ae,w,re,q⟩ p hp=>by
 have l:Le ρ H (ρ++[p]) (upd H p (.dK [])):=(dg hp).trans lV
 refine q (ρ++[p]) _ l (w.alloc hp ⟨[],bY,rfl,.nil⟩) _ (.ref ?_)
 rw[<- w.len,List.getElem?_append_right (Nat.le_refl _),Nat.sub_self]
 rfl
end
end L2
namespace L2
open PySem PySem.Spec PyProof.Rows
variable {K:W.Frag}{mg:Str->Option Value}
theorem rG {ρ:List Addr}{H:Hp}{xs:List D}{vs:List V} (r:RelDs K mg ρ H xs vs):∀ n:Nat,RelDs K mg ρ H (List.replicate n xs).flatten (List.replicate n vs).flatten
 | 0=>.nil
 |
  n + 1=>by
  rw[List.replicate_succ,List.replicate_succ,List.flatten_cons,List.flatten_cons]
  exact r.append (rG r n)
theorem Cd:OpD K mg Bd tf:=λρ h H dx dy x y Q E w rx ry p=>by
 unfold tf at p
 split at p
 ·cases
   rx with
  |
   ref ea=>
   cases ry with
   |
    int=>
    split at p
    ·rename_i xs e1
     split at p
     ·rename_i hl
      obtain⟨vs,q1,r1⟩:=w.ob _ _ _ ea e1
      exact⟨_,_,vs,rfl,rfl,q1,hl.1,hl.2.1,by rw[<- r1.len];exact hl.2.2,λp' hp=>eD w (rG r1 _) hp p⟩
     ·exact p.elim
    ·exact p.elim
 ·exact p.elim
end L2
namespace L2
open PySem PySem.Spec PyProof.Rows
section
variable {K:W.Frag}{mg:Str->Option Value}{X:Cx}{ES:St->XK}{e:Expr}{es:List Expr}{A:MA}{pos:Pos}
end
end L2
namespace L2
open PySem PySem.Spec PyProof.Rows
section
variable {K:W.Frag}{mg:Str->Option Value}{X:Cx}{ES:St->XK}{e a b c o lo hi:Expr}{F G L U:ME}{pos p2:Pos}{ρ:List Addr}{H:Hp}{h:AH}{ae:AE}
end
end L2
namespace L2
open PySem PySem.Spec PyProof.Rows
section
variable {κ:Type} [DecidableEq κ]
def eT (kvs:List (κ×V)) (k:κ):Option V:=(kvs.find? λkv=>decide (kv.1=k)).map (·.2)
def df (kvs:List (κ×V)) (k:κ) (v:V):List (κ×V):=
 if (kvs.any λkv=>decide (kv.1=k))=true then kvs.map (λkv=>if kv.1=k then (kv.1,v) else kv) else kvs++[(k,v)]
theorem nj {p:κ×V}{r:List (κ×V)}{k:κ} (e:p.1=k):eT (p :: r) k=some p.2:=by simp [eT,List.find?_cons,e]
theorem mP {p:κ×V}{r:List (κ×V)}{k:κ} (e:¬ p.1=k):eT (p :: r) k=eT r k:=by simp [eT,List.find?_cons,e]
theorem mH (k:κ):∀ kvs:List (κ×V),(kvs.any λkv=>decide (kv.1=k))=(eT kvs k).isSome
 | []=>rfl
 |
  p :: r=>by
  rw[List.any_cons]
  by_cases e:p.1=k
  ·simp only[nj e,decide_eq_true e,Bool.true_or,Option.isSome_some]
  ·rw[mP e,decide_eq_false e,Bool.false_or];exact mH k r
theorem js (kvs:List (κ×V)) (k:κ) (v:V):(df kvs k v).length<=kvs.length + 1:=by
 unfold df
 split
 ·rw[List.length_map];omega
 ·rw[List.length_append,List.length_cons,List.length_nil];omega
theorem zp {kvs:List (κ×V)}{k:κ} (v:V) (h:eT kvs k=none):df kvs k v=kvs++[(k,v)]:=by
 unfold df
 rw[mH,h]
 exact if_neg (by decide)
theorem RelO.isSome_eq {o:Option V}{u:Option Value} (r:RelO o u):o.isSome=u.isSome:=by
 cases o with
 | none=>cases u with
  | none=>rfl
  | some _=>exact (show False from r).elim
 | some _=>cases u with
  | none=>exact (show False from r).elim
  | some _=>rfl
theorem KV.val {kvs:List (κ×V)}{vs:List (κ×Value)} (r:KV kvs vs) (k:κ):RelO (eT kvs k) (valueAt vs k):=by
 unfold KV at r
 induction r with
 | nil=>exact True.intro
 |
  @cons p q ps qs h t ih=>
  obtain⟨h1,h2⟩:=h
  by_cases e:p.1=k
  ·have e':q.1=k:=h1.symm.trans e
   have b:valueAt (q :: qs) k=some q.2:=by simp [valueAt,List.find?_cons,e']
   rw[nj e,b];exact h2
  ·have e':¬ q.1=k:=λz=>e (h1.trans z)
   have b:valueAt (q :: qs) k=valueAt qs k:=by simp [valueAt,List.find?_cons,e']
   rw[mP e,b];exact ih
theorem KV.any {kvs:List (κ×V)}{vs:List (κ×Value)} (r:KV kvs vs) (k:κ):(kvs.any λkv=>decide (kv.1=k))=vs.any λkv=>decide (kv.1=k):=by
 unfold KV at r
 induction r with
 | nil=>rfl
 | cons h t ih=>rw[List.any_cons,List.any_cons,ih,h.1]
theorem KV.repl {kvs:List (κ×V)}{vs:List (κ×Value)} (r:KV kvs vs) (k:κ) {y:V}{u:Value} (ry:RelV y u):
 KV (kvs.map λkv=>if kv.1=k then (kv.1,y) else kv) (vs.map λkv=>if kv.1=k then (kv.1,u) else kv):=by
 unfold KV at r ⊢
 induction r with
 | nil=>exact .nil
 |
  @cons p q ps qs h t ih=>
  rw[List.map_cons,List.map_cons]
  refine .cons ?_ ih
  obtain⟨h1,h2⟩:=h
  by_cases e:p.1=k
  ·rw[if_pos e,if_pos (h1.symm.trans e)];exact⟨h1,ry⟩
  ·rw[if_neg e,if_neg (λz=>e (h1.trans z))];exact⟨h1,h2⟩
theorem KV.put {kvs:List (κ×V)}{vs:List (κ×Value)} (r:KV kvs vs) (k:κ) {y:V}{u:Value} (ry:RelV y u):KV (df kvs k y) (stored vs k u):=by
 unfold df stored
 rw[r.any k]
 by_cases e:(vs.any λkv=>decide (kv.1=k))=true
 ·rw[if_pos e,if_pos e];exact r.repl k ry
 ·rw[if_neg e,if_neg e];exact Paired.snoc r ⟨rfl,ry⟩
theorem KV.length {kvs:List (κ×V)}{vs:List (κ×Value)} (r:KV kvs vs):kvs.length=vs.length:=Paired.length r
end
theorem lW {P:Program}{w:World}{k:Key}{u:Value} (r:RelV (kV k) u):(bF P w).is k u=true:=by
 cases k with
 | inl i=>obtain⟨t,e⟩:=(show ∃ t,u=Value.int i t from r);subst e;exact tV P w i t
 | inr x=>obtain⟨t,e⟩:=(show ∃ t,u=Value.str x t from r);subst e;exact mF P w x t
theorem p6 {P:Program}{w:World}:∀ {ks:List Key}{us:List Value},Vals (ks.map kV) us->ItemsAre (bF P w) ks us
 | [],_,r=>by rw[List.map_nil] at r;cases r;exact .nil
 |
  k :: ks,_,r=>by
  rw[List.map_cons] at r
  cases r with
  | cons h t=>exact .cons (lW h) (p6 t)
abbrev KT (H:Hp):List (List Key×V)->List (List Key×Addr×Value)->Prop:=Paired λp q=>p.1=q.1/\H q.2.1=some (.tup (p.1.map kV))/\RelV p.2 q.2.2
theorem KT.val {H:Hp}{kvs:List (List Key×V)}{xs:List (List Key×Addr×Value)} (r:KT H kvs xs) (k:List Key):RelO (eT kvs k) ((atKey xs k).map (·.2)):=by
 induction r with
 | nil=>exact True.intro
 |
  @cons p q ps qs h t ih=>
  obtain⟨h1,_,h2⟩:=h
  by_cases e:p.1=k
  ·have e':q.1=k:=h1.symm.trans e
   have b:atKey (q :: qs) k=some q.2:=by simp [atKey,List.find?_cons,e']
   rw[nj e,b];exact h2
  ·have e':¬ q.1=k:=λz=>e (h1.trans z)
   have b:atKey (q :: qs) k=atKey qs k:=by simp [atKey,List.find?_cons,e']
   rw[mP e,b];exact ih
theorem KT.repl {H:Hp}{kvs:List (List Key×V)}{xs:List (List Key×Addr×Value)} (r:KT H kvs xs) (k:List Key) {y:V}{u:Value} (ry:RelV y u):
 KT H (kvs.map λkv=>if kv.1=k then (kv.1,y) else kv) (xs.map (putAt k u)):=by
 induction r with
 | nil=>exact .nil
 |
  @cons p q ps qs h t ih=>
  rw[List.map_cons,List.map_cons]
  refine .cons ?_ ih
  obtain⟨h1,h2,h3⟩:=h
  unfold putAt
  by_cases e:p.1=k
  ·rw[if_pos e,if_pos (h1.symm.trans e)];exact⟨h1,h2,ry⟩
  ·rw[if_neg e,if_neg (λz=>e (h1.trans z))];exact⟨h1,h2,h3⟩
theorem KT.put {H:Hp}{kvs:List (List Key×V)}{xs:List (List Key×Addr×Value)} (r:KT H kvs xs) (k:List Key) {b:Addr}{y:V}{u:Value} (hb:H b=some (.tup (k.map kV))) (ry:RelV y u):
 KT H (df kvs k y) (storedH xs k b u):=by
 have e:(kvs.any λkv=>decide (kv.1=k))=(atKey xs k).isSome:=by
  rw[mH,(r.val k).isSome_eq,Option.isSome_map]
 unfold df storedH
 rw[e]
 by_cases q:(atKey xs k).isSome=true
 ·rw[if_pos q,if_pos q];exact r.repl k ry
 ·rw[if_neg q,if_neg q];exact Paired.snoc r ⟨rfl,hb,ry⟩
theorem KT.keeps {H H':Hp}{kvs:List (List Key×V)}{xs:List (List Key×Addr×Value)} (r:KT H kvs xs) (ht:∀ b ys,H b=some (.tup ys)->H' b=some (.tup ys)):KT H' kvs xs:=
 Paired.mapP r λ_ _ z=>⟨z.1,ht _ _ z.2.1,z.2.2⟩
section
variable {P:Program}{w:World}{H:Hp}{h:Heap}{a:Addr}
theorem BQ {u:HO} (ok:HOk P w H h) (e:Rd H a u):ObjOk P w H h a u:=e.ok ok
theorem wF {kvs:List (Key×V)} (ok:HOk P w H h) (e:Rd H a (.dK kvs)):kvs.length<=sizeLine/\(a == sysModules)=false/\∃ vs,KV kvs vs/\h.DictOf (bF P w) a vs:=
 show ObjOk P w H h a (.dK kvs) from BQ ok e
theorem BB {kvs:List (Key×V)} (ok:HOk P w H h) (e:H a=some (.dK kvs)):kvs.length<=sizeLine/\(a == sysModules)=false/\∃ vs,KV kvs vs/\h.DictOf (bF P w) a vs:=wF ok (.inl e)
theorem rV {ks:List Key} (ok:HOk P w H h) (e:H a=some (.tup (ks.map kV))):(tupleKind (bF P w)).is h ks a:=by
 obtain⟨_,its,r,o,h1,h2,n,h3⟩:=(show ObjOk P w H h a (.tup (ks.map kV)) from ok a _ e)
 exact⟨o,its.toArray,n,h1,h2,h3,by simpa using p6 r⟩
theorem wz {kvs:List (List Key×V)} (ok:HOk P w H h) (e:Rd H a (.dT kvs)):kvs.length<=sizeLine/\(a == sysModules)=false/\
 ∃ xs,KT H kvs xs/\h.DictOfH (tupleKind (bF P w)) a xs:=by
 obtain⟨z,y,xs,r,o,es,ep,h1,h2,h3,h4,h5⟩:=(show ObjOk P w H h a (.dT kvs) from BQ ok e)
 refine⟨z,y,xs,r,o,es,ep,h1,h2,h3,h4,λx hx=>?_,h5⟩
 have all:∀ {l:List (List Key×V)}{m:List (List Key×Addr×Value)},KT H l m->∀ x ∈ m,(tupleKind (bF P w)).is h x.1 x.2.1:=by
  intro l m q
  induction q with
  | nil=>intro x hx;exact nomatch hx
  |
   @cons p q ps qs hq t ih=>
   intro x hx
   rcases List.mem_cons.mp hx with e | hx
   ·subst e
    exact rV ok (by rw[<- hq.1];exact hq.2.1)
   ·exact ih x hx
 exact all r x hx
theorem Kd {kvs:List (List Key×V)} (ok:HOk P w H h) (e:H a=some (.dT kvs)):kvs.length<=sizeLine/\(a == sysModules)=false/\
 ∃ xs,KT H kvs xs/\h.DictOfH (tupleKind (bF P w)) a xs:=wz ok (.inl e)
end
def DGet (H:Hp) (a:Addr) (y:V) (r:Option V):Prop:=
 (∃ kvs k,Rd H a (.dK kvs)/\y=kV k/\r=eT kvs k)\/∃ kvs k b,Rd H a (.dT kvs)/\y=.ref b/\H b=some (.tup (k.map kV))/\r=eT kvs k
def DPut (H:Hp) (a:Addr) (y v:V) (H':Hp):Prop:=
 (∃ kvs k,H a=some (.dK kvs)/\y=kV k/\kvs.length < sizeLine/\H'=upd H a (.dK (df kvs k v)))\/
 ∃ kvs k b,H a=some (.dT kvs)/\y=.ref b/\H b=some (.tup (k.map kV))/\kvs.length < sizeLine/\H'=upd H a (.dT (df kvs k v))
theorem DGet.k {H:Hp}{a:Addr}{kvs:List (Key×V)}{k:Key} (e:H a=some (.dK kvs)):DGet H a (kV k) (eT kvs k):=.inl ⟨kvs,k,.inl e,rfl,rfl⟩
theorem DPut.k {H:Hp}{a:Addr}{kvs:List (Key×V)}{k:Key}{v:V} (e:H a=some (.dK kvs)) (hl:kvs.length < sizeLine):DPut H a (kV k) v (upd H a (.dK (df kvs k v))):=.inl ⟨kvs,k,e,rfl,hl,rfl⟩
section
variable {X:Cx}{pins:List (Addr×Obj)}{σ:St}{H:Hp}{s:Shared}{a:Addr}{y v:V}{u r:Value}{o:Option V}{A:Around}{E:Value->Shared->Prop}
theorem xZ {Q:Value->Shared->Prop} (hu:A.units + 1 < cLine) (I:Inv X pins σ H s) (g:DGet H a y (some v)) (ry:RelV y u) (h:∀ w' s',Inv X pins σ H s'->RelV v w'->Q w' s'):
 wpAny (model X.prog X.w) A (getItem (.ref a) u) Q E s:=by
 rcases g with ⟨kvs,k,e,ey,l⟩ | ⟨kvs,k,b,e,ey,eb,l⟩
 ·subst ey
  obtain⟨z,hd,vs,rel,dd⟩:=wF I.hok e
  obtain⟨w',hw,rw'⟩:=RelO.some_of (v:=v) (o:=valueAt vs k) (by rw[l];exact rel.val k)
  exact wpAny_getItem_of (lW ry) dd.mapOf hw (h w' _ (I.tok _) rw')
 ·subst ey
  cases (show u=Value.ref b from ry)
  obtain⟨z,hd,xs,rel,dd⟩:=wz I.hok e
  obtain⟨w',hw,rw'⟩:=RelO.some_of (v:=v) (o:=(atKey xs k).map (·.2)) (by rw[l];exact rel.val k)
  obtain⟨p,hp,hp2⟩:=Option.map_eq_some_iff.mp hw
  refine wpAny_getItem_heap (tupleKind_room_in1 hu) (rV I.hok eb) dd hp ?_
  rw[hp2]
  exact h w' _ (I.tok _) rw'
theorem oo {h':Heap}{t':Nat}{ob:HO} (I:Inv X pins σ H s) (mu:Mut (H a)) (hs:Heap.SameBut a s.heap h') (he:∃ q,h'.get? a=some q) (new:ObjOk X.prog X.w (upd H a ob) h' a ob):
 Inv X pins σ (upd H a ob) { s with heap:=h',toks:=t' }:=
 I.write (x:=a) (e:=a) mu (.inl rfl) (λb q hb z=>(hs.2 b hb).trans z) he new
theorem xM {P:Program}{w:World}{H':Hp}{h':Heap}{kvs:List (Key×V)}{vs:List (Key×Value)} (z:kvs.length<=sizeLine) (hd:(a == sysModules)=false) (rel:KV kvs vs) (dd:h'.DictOf (bF P w) a vs):
 ObjOk P w H' h' a (.dK kvs):=⟨z,hd,vs,rel,dd⟩
theorem xk {H':Hp}{Q:Unit->Shared->Prop} (hu:A.units + 1 < cLine) (I:Inv X pins σ H s) (g:DPut H a y v H') (ry:RelV y u) (rv:RelV v r) (h:∀ s',Inv X pins σ H' s'->Q () s'):
 wpAny (model X.prog X.w) A (setItem (.ref a) u r) Q E s:=by
 rcases g with ⟨kvs,k,e,ey,l,eH⟩ | ⟨kvs,k,b,e,ey,eb,l,eH⟩
 ·subst ey eH
  obtain⟨z,hd,vs,rel,dd⟩:=BB I.hok e
  have hz:vs.length<=sizeLine:=by rw[<- rel.length];exact z
  have hl:(df kvs k v).length<=sizeLine:=by have:=js kvs k v;omega
  refine wpAny_setItem_pairs (hsz:=hz) (lW ry) dd λh' dd' hs=>h _ ?_
  have he:∃ q,h'.get? a=some q:=let ⟨q,_,_,hq,_⟩:=dd';⟨q,hq⟩
  exact oo I (by rw[e];exact True.intro) hs he (xM hl hd (rel.put k rv) dd')
 ·subst ey eH
  cases (show u=Value.ref b from ry)
  obtain⟨z,hd,xs,rel,dd⟩:=Kd I.hok e
  have hz:xs.length<=sizeLine:=by rw[<- Paired.length rel];exact z
  have hl:(df kvs k v).length<=sizeLine:=by have:=js kvs k v;omega
  refine wpAny_setItem_heap (hsz:=hz) (tupleKind_room_in1 hu) (rV I.hok eb) dd λh' dd' hs=>h _ ?_
  obtain⟨q,es,ep,hq,h2,h3,h4,_,h5⟩:=dd'
  refine oo I (by rw[e];exact True.intro) hs ⟨q,hq⟩ ⟨hl,hd,_,(rel.put k eb rv).keeps λc ys ec=>?_,q,es,ep,hq,h2,h3,h4,h5⟩
  rw[aZ (JK ec e (λz=>nomatch z))]
  exact ec
end
section
variable {X:Cx}{pins:List (Addr×Obj)}{σ:St}{H:Hp}{s:Shared}{a:Addr}{kvs:List (Key×V)}{k:Key}{u:Value}{A:Around}{E:Value->Shared->Prop}
end
def vL (i:Expr):Prop:=∀ ov iv,subscripted i false ov iv=operate [ov,iv] (getItem ov iv)
theorem Di {prog:Program}{w:World}{A:Around}{E:Value->Shared->Prop}{s:Shared}{env:Env}{value gl:Expr}{pos:Pos}{T id:String}{Q:Value->Shared->Prop}
 (hl:typeLookup (.type T) "__getitem__"=pure (some (.builtin id))) (hs:vL gl)
 (h:wpAny (model prog w) A (eval value env) (λo s₁=>wpAny (model prog w) A (eval gl env) (λi s₂=>s₂.TypeIs o T/\wpAny (model prog w) A (getItem o i) Q E s₂) E s₁) E s):
 wpAny (model prog w) A (eval (.Subscript value gl pos) env) Q E s:=by
 refine Subscript_ (wpAny_mono h (λo s₁ h₁=>wpAny_mono h₁ (λi s₂ h₂=>?_) λ_ _ x=>x) λ_ _ x=>x)
 obtain⟨hT,h₂⟩:=h₂
 unfold subscriptTail
 refine wpAny_bind ?_
 rw[getitemInPython_of_ne hT.not_modules]
 refine wpAny_bind (wpAny_specialOf hT hl ?_)
 have fin:wpAny (model prog w) A (subscripted gl false o i) (λr s₃=>wpAny (model prog w) A (letTemporaryGo value o r >>= λ_=>pure r) Q E s₃) E s₂:=by
  rw[hs o i]
  exact wpAny_operating (wpAny_mono h₂ (λr s₃ h₃=>wpAny_bind (wpAny_letTemporaryGo (wpAny_pure h₃))) λ_ _ x=>x)
 first
  | exact wpAny_pure (wpAny_bind fin)
  | exact wpAny_bind (wpAny_pure (wpAny_bind fin))
  | exact wpAny_bind fin
theorem ue {X:Cx}{pins:List (Addr×Obj)}{σ:St}{H:Hp}{s:Shared}{a:Addr}{y:V}{o:Option V} (I:Inv X pins σ H s) (g:DGet H a y o):s.TypeIs (.ref a) "dict":=by
 rcases g with ⟨kvs,k,e,_,_⟩ | ⟨kvs,k,b,e,_,_,_⟩
 ·obtain⟨_,_,vs,_,dd⟩:=wF I.hok e
  exact dd.typeIs
 ·obtain⟨_,_,xs,_,dd⟩:=wz I.hok e
  exact dd.typeIs
def Jq (td ty:TE):TE:=λσ H Q=>td σ H λx H1=>ty σ H1 λy H2=>∃ a v,x=.ref a/\DGet H2 a y (some v)/\Q v H2
section
variable {X:Cx}{o i e value:Expr}{pos jp tpos:Pos}{td ty tv:TE}
theorem B7 (hu:X.A.units + 1 < cLine) (ho:PE X o td) (hi:PE X i ty) (hs:vL i):PE X (.Subscript o i pos) (Jq td ty):=by
 intro pins s σ H Q I h
 refine Di PySem.F.slot_dict_getitem.lookup hs (thn (ho pins s σ H _ I h) λu s1 ⟨x,H1,I1,rx,q1⟩=>thn (hi pins s1 σ H1 _ I1 q1) λiv s2 ⟨y,H2,I2,ry,a,v,ex,g,q2⟩=>?_)
 subst ex
 obtain rfl:u=Value.ref a:=rx
 exact⟨ue I2 g,xZ hu I2 g ry λw' s3 I3 rw'=>⟨v,H2,I3,rw',q2⟩⟩
end
section
variable {X:Cx}{pos:Pos}
end
def nA:List (TE×TE)->St->Hp->(List (V×V)->Hp->Prop)->Prop
 | [],_,H,Q=>Q [] H
 | (tk,tv) :: r,σ,H,Q=>tk σ H λx H1=>tv σ H1 λy H2=>nA r σ H2 λps H3=>Q ((x,y) :: ps) H3
abbrev VV:List (V×V)->List (Value×Value)->Prop:=Paired λp q=>RelV p.1 q.1/\RelV p.2 q.2
def PPs (X:Cx) (pos:Pos) (keys:List (Option Expr)) (values:List Expr) (trs:List (TE×TE)):Prop:=
 ∀
  (pins:List (Addr×Obj)) (s:Shared) (σ:St) (H:Hp) (Q:List (V×V)->Hp->Prop),Inv X pins σ H s->nA trs σ H Q->
  wpAny (model X.prog X.w) X.A (evalPairs (pairTrees keys values X.env pos)) (λvs s'=>∃ ps H',Inv X pins σ H' s'/\VV ps vs/\Q ps H') X.xe s
theorem Ca {X:Cx}{pos:Pos}:PPs X pos [] [] []:=λpins s σ H Q I h=>pairTrees_nil_walk ⟨[],H,I,.nil,h⟩
theorem zO {X:Cx}{pos:Pos}{k v:Expr}{ks:List (Option Expr)}{vs:List Expr}{tk tv:TE}{trs:List (TE×TE)} (hk:PE X k tk) (hv:PE X v tv) (hr:PPs X pos ks vs trs):
 PPs X pos (some k :: ks) (v :: vs) ((tk,tv) :: trs):=λpins s σ H Q I h=>
 pairTrees_cons_walk (thn (hk pins s σ H _ I h) λu s1 ⟨x,H1,I1,rx,q1⟩=>thn (hv pins s1 σ H1 _ I1 q1) λw2 s2 ⟨y,H2,I2,ry,q2⟩=>
  thn (hr pins s2 σ H2 _ I2 q2) λws s3 ⟨ps,H3,I3,rel,q3⟩=>⟨(x,y) :: ps,H3,I3,.cons ⟨rx,ry⟩ rel,q3⟩)
def iB (kvs more:List (Key×V)):List (Key×V):=more.foldl (λacc kv=>df acc kv.1 kv.2) kvs
theorem KV.merge:∀ {more:List (Key×V)}{rs:List (Key×Value)}{kvs:List (Key×V)}{vs:List (Key×Value)},KV more rs->KV kvs vs->KV (iB kvs more) (merged vs rs):=by
 intro more rs kvs vs r
 unfold KV at r
 induction r generalizing kvs vs with
 | nil=>intro q;exact q
 |
  @cons p q ps qs h t ih=>
  intro r0
  have e:KV (df kvs p.1 p.2) (stored vs q.1 q.2):=by
   have:=r0.put p.1 h.2
   rw[<- h.1];exact this
  exact ih e
theorem kR:∀ (more kvs:List (Key×V)),(iB kvs more).length<=kvs.length + more.length
 | [],kvs=>by show kvs.length<=kvs.length + 0;omega
 |
  p :: r,kvs=>by
  have h1:=kR r (df kvs p.1 p.2)
  have h2:=js kvs p.1 p.2
  show (iB (df kvs p.1 p.2) r).length<=_
  rw[List.length_cons];omega
theorem nE {P:Program}{w:World}:∀ {kvs:List (Key×V)}{ws:List (Value×Value)},VV (kvs.map λkv=>(kV kv.1,kv.2)) ws->∃ rs,Carries (bF P w) ws rs/\KV kvs rs
 | [],_,r=>by rw[List.map_nil] at r;cases r;exact⟨[],True.intro,.nil⟩
 |
  p :: kvs,_,r=>by
  rw[List.map_cons] at r
  cases r with
  |
   @cons a b as bs h t=>
   obtain⟨rs,c,q⟩:=nE (P:=P) (w:=w) t
   obtain⟨b1,b2⟩:=b
   exact⟨(p.1,b2) :: rs,⟨lW h.1,rfl,c⟩,.cons ⟨rfl,h.2⟩ q⟩
def IQ (trs:List (TE×TE)):TE:=λσ H Q=>∀ p,H p=none->nA trs σ (upd H p (.dK [])) λps H2=>H2 p=some (.dK [])/\∃ kvs:List (Key×V),ps=kvs.map (λkv=>(kV kv.1,kv.2))/\kvs.length<=15/\Q (.ref p) (upd H2 p (.dK (iB [] kvs)))
theorem CU {X:Cx}{pos:Pos}{keys:List (Option Expr)}{values:List Expr}{trs:List (TE×TE)} (h:PPs X pos keys values trs) (hall:keys.all (·.isSome)=true) (hl:keys.length=values.length) (h0:keys ≠ [])
 (h15:keys.length<=15):PE X (.Dict keys values pos) (IQ trs):=by
 intro pins s σ H Q I q
 have hn:=I.hok.fresh (Nat.le_refl s.heap.objs.size)
 have I1:=I.laid (a:=s.heap.objs.size) (o:=.dK []) (h':=s.heap.push { cls:=.type "dict",data:=.dict #[] }) (t':=s.toks) (λ_ _ q=>Heap.get?_push_of_some _ q) (Nat.le_refl _) (sr s.heap I.big)
 refine wpAny_Dict_walk (knd:=bF X.prog X.w) hall hl h0 h15 (thn (h pins _ σ _ _ I1 (q _ hn)) λws s2 ⟨ps,H2,I2,rel,e,kvs,ep,lk,q2⟩=>?_)
 subst ep
 obtain⟨rs,c,rk⟩:=nE (P:=X.prog) (w:=X.w) rel
 obtain⟨z,hd,vs0,r0,dd⟩:=BB I2.hok e
 cases r0
 refine⟨rs,c,dd,λh' dd' hs=>⟨.ref s.heap.objs.size,_,?_,rfl,q2⟩⟩
 have hz:(iB [] kvs).length<=sizeLine:=by
  have h1:=kR kvs []
  rw[List.length_nil] at h1
  rw[sizeLine_eq];omega
 have he:∃ q,h'.get? s.heap.objs.size=some q:=let ⟨q,_,_,hq,_⟩:=dd';⟨q,hq⟩
 exact oo I2 (by rw[e];exact True.intro) hs he (xM hz hd (rk.merge .nil) dd')
structure M1 (X:Cx) (o:Expr) (m:Str) (apos:Pos) (e:Expr) (cpos:Pos):Prop where
 base:attributeBase o m X.env (eval o X.env)=eval o X.env
 few:((backTo cpos (starEach [e] X.env)).all (λx=>!x.1) && (backToKw cpos (keywordEach [] X.env)).all (λx=>x.1.isSome)
  && decide (([e]:List Expr).length + ([]:List Keyword).length + (if ([]:List Keyword).isEmpty then 0 else 1) < 30))=true
 line:(apos.endLine == cpos.line)=true
 trees:backTo cpos (starEach [e] X.env)=[(false,eval e X.env)]
structure M2 (X:Cx) (o:Expr) (m:Str) (apos:Pos) (e f:Expr) (cpos:Pos):Prop where
 base:attributeBase o m X.env (eval o X.env)=eval o X.env
 few:((backTo cpos (starEach [e,f] X.env)).all (λx=>!x.1) && (backToKw cpos (keywordEach [] X.env)).all (λx=>x.1.isSome)
  && decide (([e,f]:List Expr).length + ([]:List Keyword).length + (if ([]:List Keyword).isEmpty then 0 else 1) < 30))=true
 line:(apos.endLine == cpos.line)=true
 trees:backTo cpos (starEach [e,f] X.env)=[(false,eval e X.env),(false,eval f X.env)]
section
variable {X:Cx}{pins:List (Addr×Obj)}{σ:St}{H:Hp}{s:Shared}{a:Addr}{y d:V}{u r:Value}{o:Option V}{A:Around}{E:Value->Shared->Prop}
end
section
variable {X:Cx}{o e f:Expr}{apos cpos:Pos}{td ty tx:TE}
end
section
variable {X:Cx}{pins:List (Addr×Obj)}{σ:St}{H:Hp}{s:Shared}{a:Addr}{kvs:List (Key×V)}{A:Around}{E:Value->Shared->Prop}
end
section
variable {X:Cx}{pins:List (Addr×Obj)}{σ:St}{H:Hp}{s:Shared}{a:Addr}{y:V}{u:Value}{A:Around}{E:Value->Shared->Prop}
end
end L2
namespace L2
open PySem PySem.Spec PyProof.Rows
section
variable {prog:Program}{w:World}{A:Around}{E:Value->Shared->Prop}{s:Shared}
end
end L2
namespace L2
open PySem PySem.Spec PyProof.Rows
section
variable {κ α:Type} [DecidableEq κ]
def lkD (kvs:List (κ×α)) (k:κ):Option α:=(kvs.find? λkv=>decide (kv.1=k)).map (·.2)
def ku (kvs:List (κ×α)) (k:κ) (v:α):List (κ×α):=if (kvs.any λkv=>decide (kv.1=k))=true then kvs.map λkv=>if kv.1=k then (kv.1,v) else kv else kvs++[(k,v)]
end
section
variable {K:W.Frag}{mg:Str->Option Value}{ρ:List Addr}{H:Hp}
theorem B8 {k:Key}{d:D}:∀ {kvs:List (Key×D)}{ws:List (Key×V)},ws.map (·.1)=kvs.map (·.1)->RelDs K mg ρ H (kvs.map (·.2)) (ws.map (·.2))->lkD kvs k=some d->∃ v,eT ws k=some v/\RelD K mg ρ H d v:=by
 intro kvs
 induction kvs with
 | nil=>intro ws e r q;cases q
 |
  cons p kvs ih=>
  intro ws e r q
  cases ws with
  | nil=>cases e
  |
   cons w ws=>
   obtain⟨k1,d1⟩:=p
   obtain⟨k2,v2⟩:=w
   rw[List.map_cons,List.map_cons] at e
   injection e with e1 e2
   dsimp only at e1
   subst e1
   cases r with
   |
    cons r rr=>
    unfold lkD at q
    unfold eT
    rw[List.find?_cons] at q ⊢
    dsimp only at q ⊢
    by_cases hk:k2=k
    ·rw[decide_eq_true hk] at q ⊢
     cases q
     exact⟨v2,rfl,r⟩
    ·rw[decide_eq_false hk] at q ⊢
     exact ih e2 rr q
theorem sd {α β κ:Type} [DecidableEq κ] {k:κ}:∀ {kvs:List (κ×α)}{ws:List (κ×β)},ws.map (·.1)=kvs.map (·.1)->(ws.any λkv=>decide (kv.1=k))=kvs.any λkv=>decide (kv.1=k):=by
 intro kvs
 induction kvs with
 |
  nil=>
  intro ws e
  cases ws with
  | nil=>rfl
  | cons _ _=>cases e
 |
  cons p kvs ih=>
  intro ws e
  cases ws with
  | nil=>cases e
  |
   cons w ws=>
   rw[List.map_cons,List.map_cons] at e
   injection e with e1 e2
   rw[List.any_cons,List.any_cons,ih e2,e1]
theorem Br {k:Key}{d:D}{v:V} (rd:RelD K mg ρ H d v) {kvs:List (Key×D)}{ws:List (Key×V)} (e:ws.map (·.1)=kvs.map (·.1)) (r:RelDs K mg ρ H (kvs.map (·.2)) (ws.map (·.2))):(df ws k v).map (·.1)=(ku kvs k d).map (·.1)/\RelDs K mg ρ H ((ku kvs k d).map (·.2)) ((df ws k v).map (·.2)):=by
 unfold df ku
 rw[sd e]
 by_cases hc:(kvs.any λkv=>decide (kv.1=k))=true
 ·rw[if_pos hc,if_pos hc]
  clear hc
  induction kvs generalizing ws with
  |
   nil=>
   cases ws with
   | nil=>exact⟨rfl,.nil⟩
   | cons _ _=>cases e
  |
   cons p kvs ih=>
   cases ws with
   | nil=>cases e
   |
    cons w ws=>
    obtain⟨k1,d1⟩:=p
    obtain⟨k2,v2⟩:=w
    rw[List.map_cons,List.map_cons] at e
    injection e with e1 e2
    dsimp only at e1
    subst e1
    cases r with
    |
     cons r rr=>
     obtain⟨h1,h2⟩:=ih e2 rr
     simp only[List.map_cons]
     by_cases hk:k2=k
     ·rw[if_pos hk,if_pos hk]
      exact⟨by rw[h1],.cons rd h2⟩
     ·rw[if_neg hk,if_neg hk]
      exact⟨by rw[h1],.cons r h2⟩
 ·rw[if_neg hc,if_neg hc,List.map_append,List.map_append,List.map_append,List.map_append,e]
  exact⟨rfl,r.append (.cons rd .nil)⟩
def tN:D->D->AH->R D:=λx y h=>match x with
 | .ref n=>(match y with
  | .str k=>(match h[n]? with
   | some (.dct kvs)=>(match lkD kvs (.inr k) with
    | some d=>.ok d h
    | none=>.stuck)
   | _=>.stuck)
  | _=>.stuck)
 | _=>.stuck
def wD (o i v:D) (h:AH):R Unit:=match o with
 | .ref n=>(match i with
  | .str k=>(match h[n]? with
   | some (.dct kvs)=>if kvs.length < 16777216 then .ok () (h.set n (.dct (ku kvs (.inr k) v))) else .stuck
   | _=>.stuck)
  | _=>.stuck)
 | _=>.stuck
def BL:m9:=λo i v H Q=>∃ a H4,o=.ref a/\DPut H a i v H4/\Q H4
variable {X:Cx}{ES:St->XK}{a b:Expr}{F G:ME}{pos:Pos}
theorem ni (hu:X.A.units + 1 < cLine):rF X BL:=λpins s σ H o i v ov iv u Q I ro ri rv ⟨a,H4,eo,g,q⟩=>by
 subst eo
 obtain rfl:ov=Value.ref a:=ro
 exact xk hu I g ri rv λs4 I4=>⟨H4,I4,q⟩
theorem oO:sW K mg BL wD:=λρ h H do_ di dv o i v Q E w ro ri rv p=>by
 unfold wD at p
 split at p
 ·split
   at p
  ·split
    at p
   ·rename_i n k _ kvs e
    split at p
    ·rename_i hl
     cases ro with
     |
      ref ea=>
      cases ri
      obtain⟨ws,h1,h2,h3⟩:=w.ob _ _ _ ea e
      have be:ws.length=kvs.length:=by have:=congrArg List.length h2;simpa using this
      have l:Le ρ H ρ (upd H _ (.dK (df ws (.inr k) v))):=nz h1 wa
      obtain⟨k1,k2⟩:=Br (k:=.inr k) rv h2 h3
      exact⟨_,_,rfl,DPut.k (k:=.inr k) h1 (by rw[be];exact hl),p ρ _ l (w.write ea h1 wa ⟨_,bY,k1,k2.mono l⟩)⟩
    ·exact p.elim
   ·exact p.elim
  ·exact p.elim
 ·exact p.elim
theorem Cm (hu:X.A.units + 1 < cLine) (ha:DE K mg X ES a F) (hb:DE K mg X ES b G) (hs:vL b):DE K mg X ES (.Subscript a b pos) (eOp tN F G):=PE.imp (B7 hu ha hb hs) λσ H Q q_=>q_.el λρ h ae w re p=>⟨ρ,h,ae,w,re,p.bind.imp λdx h1 ρ1 H1 l1 w1 p1 x rx=>⟨ρ1,h1,ae,w1,re.mono l1,p1.bind.imp λdy h2 ρ2 H2 l2 w2 p2 y ry=>by
 have rx2:=rx.mono l2
 unfold tN at p2
 split at p2
 ·split
   at p2
  ·split
    at p2
   ·rename_i n k _ kvs e
    split at p2
    ·rename_i d q
     cases rx2 with
     |
      ref ea=>
      cases ry
      obtain⟨ws,k1,k2,k3⟩:=w2.ob _ _ _ ea e
      obtain⟨v,q1,rv⟩:=B8 k2 k3 q
      refine⟨_,v,rfl,?_,aO w2 rv p2⟩
      rw[<- q1]
      exact DGet.k (k:=.inr k) k1
    ·exact p2.elim
   ·exact p2.elim
  ·exact p2.elim
 ·exact p2.elim⟩⟩
def nZ (ks:List Str) (A:MA):ME:=λae h=>(A ae (h++[.dct []])).bind λds h2=>match h2[h.length]? with
 | some (.dct [])=>if ks.length=ds.length then .ok (.ref h.length) (h2.set h.length (.dct ((ks.map Sum.inr).zip ds))) else .stuck
 | _=>.stuck
def aL:List (Str×ME)->MA
 | []=>nr
 | p :: r=>jV p.2 (aL r)
def tps (K:W.Frag) (mg:Str->Option Value) (ES:St->XK) (prs:List (Str×ME)):List (TE×TE):=prs.map λp=>(tC (.str p.1),rdE K mg ES p.2)
theorem sT {σ:St}:∀ (prs:List (Str×ME)) {ρ:List Addr}{h:AH}{ae:AE}{H:Hp}{Q:List (V×V)->Hp->Prop},Wd K mg ρ h H->RelE K mg ρ H ae σ->PostG K mg ρ H (ES σ) (λds _ ρ' H'=>∀ vs,RelDs K mg ρ' H' ds vs->Q ((prs.map λp=>V.str p.1).zip vs) H') (aL prs ae h)->nA (tps K mg ES prs) σ H Q
 | [],ρ,h,ae,H,Q,w,re,p=>p ρ H Le.refl w [] .nil
 | pr :: r,ρ,h,ae,H,Q,w,re,p=>⟨ρ,h,ae,w,re,(PostG.bind p).imp λd h1 ρ1 H1 l1 w1 p1 y ry=>sT r w1 (re.mono l1) ((PostG.bind p1).imp λds h2 ρ2 H2 l2 w2 p2 vs rs=>p2 ρ2 H2 Le.refl w2 (y :: vs) (.cons (ry.mono l2) rs))⟩
theorem rb:∀ (more acc:List (Key×V)),((acc++more).map (·.1)).Nodup->iB acc more=acc++more
 | [],acc,_=>(List.append_nil _).symm
 |
  (k,v) :: more,acc,h=>by
  show iB (df acc k v) more=_
  have hk:eT acc k=none:=by
   unfold eT
   rw[Option.map_eq_none_iff,List.find?_eq_none]
   intro p hp z
   have z:=of_decide_eq_true z
   rw[List.map_append,List.nodup_append] at h
   exact h.2.2 p.1 (List.mem_map_of_mem hp) k (List.mem_cons_self ..) z
  rw[zp v hk,rb more (acc++[(k,v)]) (by rw[List.append_assoc];exact h),List.append_assoc]
  rfl
theorem u3:PPs X pos [] [] (tps K mg ES []):=Ca
theorem AG {k:Str}{j:Nat}{kp:Pos}{v:Expr}{ks:List (Option Expr)}{vs:List Expr}{prs:List (Str×ME)} (hv:DE K mg X ES v F) (hr:PPs X pos ks vs (tps K mg ES prs)):PPs X pos (some (.Constant (.str k) j kp) :: ks) (v :: vs) (tps K mg ES ((k,F) :: prs)):=zO xx hv hr
theorem rQ:∀ (ks:List Str) (vs:List V),(ks.map V.str).zip vs=((ks.map Sum.inr).zip vs).map λkv:Key×V=>(kV kv.1,kv.2)
 | [],_=>rfl
 | _ :: _,[]=>rfl
 |
  k :: ks,v :: vs=>by
  show (V.str k,v) :: (ks.map V.str).zip vs=_
  rw[rQ ks vs]
  rfl
theorem CC {keys:List (Option Expr)}{values:List Expr}{prs:List (Str×ME)} (hp:PPs X pos keys values (tps K mg ES prs)) (hall:keys.all (·.isSome)=true) (hl:keys.length=values.length) (h0:keys ≠ []) (h15:keys.length<=15) (hn:(prs.map (·.1)).Nodup) (hp15:prs.length<=15):DE K mg X ES (.Dict keys values pos) (nZ (prs.map (·.1)) (aL prs)):=PE.imp (CU hp hall hl h0 h15) λσ H Q q_=>q_.el λρ h ae w re p=>λpp hpp=>by
 have l:Le ρ H (ρ++[pp]) (upd H pp (.dK [])):=(dg hpp).trans lV
 have w1:=w.alloc hpp (o:=.dct []) (u:=.dK []) ⟨[],bY,rfl,.nil⟩
 refine sT prs w1 (re.mono l) ((PostG.mono l (PostG.bind p)).imp λds h2 ρ2 H2 l2 w2 p2 vs rs=>?_)
 split at p2
 ·rename_i e
  split at p2
  ·rename_i be
   have ea:ρ2[h.length]?=some pp:=l2.pre _ _ (by rw[<- w.len,List.getElem?_append_right (Nat.le_refl _),Nat.sub_self];rfl)
   obtain⟨ws,k1,k2,_⟩:=w2.ob _ _ _ ea e
   have:ws=[]:=by cases ws with | nil=>rfl | cons _ _=>cases k2
   subst this
   have hlv:vs.length=prs.length:=by rw[<- rs.len,<- be,List.length_map]
   refine⟨k1,((prs.map (·.1)).map Sum.inr).zip vs,?_,?_,?_⟩
   ·rw[<- rQ,List.map_map]
    rfl
   ·rw[List.length_zip,List.length_map,List.length_map]
    omega
   ·have hz:(((prs.map (·.1)).map Sum.inr).zip vs:List (Key×V)).map (·.1)=(prs.map (·.1)).map Sum.inr:=List.map_fst_zip (by rw[List.length_map,List.length_map];omega)
    rw[rb _ [] (by
     rw[List.nil_append,hz]
     exact List.Pairwise.map _ (λa b hab z=>hab (Sum.inr.inj z)) hn),List.nil_append]
    have l3:Le ρ2 H2 ρ2 (upd H2 pp (.dK (((prs.map (·.1)).map Sum.inr).zip vs))):=nz k1 wa
    refine p2 ρ2 _ l3 (w2.write ea k1 wa ⟨_,bY,?_,?_⟩) _ (.ref ea)
    ·rw[hz,List.map_fst_zip (by rw[List.length_map];omega)]
    ·rw[List.map_snd_zip (by rw[List.length_map];omega),List.map_snd_zip (by rw[List.length_map,List.length_map];omega)]
     exact rs.mono l3
  ·exact p2.elim
 ·exact p2.elim
end
section
variable {X:Cx}
end
section
variable {K:W.Frag}{mg:Str->Option Value}
end
section
variable {K:W.Frag}{mg:Str->Option Value}{X:Cx}{ES:St->XK}{o:Expr}{F:ME}{pos p2:Pos}
end
end L2
namespace L2
open PySem PySem.Spec PySem.Calls PyProof.Rows
section
variable {X:Cx}{K:W.Frag}{mg:Str->Option Value}{ES:St->XK}{es:List Expr}{gs:MGs}{pos:Pos}
def gUnp (K:W.Frag) (n:Nat) (t:TGs):TG:=λv σ H Q=>∃ a xs,v=.ref a/\(SqT K H a xs\/SqL K H a xs)/\xs.length=n/\t xs σ H Q
theorem Fj {k:Nat}{t:TGs}{n:Nat} (hc:X.calm=true) (h:PGs X es t)
 (hn:(assignEach es X.env).length=n:=by rfl) (hst:(assignEach es X.env).findIdx? (·.1)=none:=by rfl):PG X (.Tuple es k pos) (gUnp X.K n t):=by
 intro pins s σ H v u Q I r hw
 obtain⟨a,xs,e1,hq,hl,hw⟩:=hw
 rcases hq with hq | hq
 ·exact yV hc h hn hst pins s σ H v u Q I r ⟨a,xs,e1,hq,hl,hw⟩
 ·subst e1
  cases r
  obtain⟨its,rv,⟨o,m,ho,oc,od,os⟩,hz⟩:=I.list hq
  have ht:s.heap.IsList a its.toArray:=⟨o,ho,oc,m,os⟩
  rw[assign_Tuple]
  refine wpAny_bind (wpAny_standAt ?_)
  unfold unpack
  rw[hst,hn,show n=its.toArray.size by simp [<- hl,rv.length]]
  refine wpAny_bind (wpAny_holding (W.kun_itemsOf (I.ok.hd hc) ht λh' hx=>?_))
  have I1:Inv X pins σ H { s with heap:=h' }:=I.kept (t':=s.toks) λb o e=>hx b o (Nat.ne_of_lt (Heap.lt_size e)) e
  exact h pins _ σ H xs _ Q I1 (by simpa using rv) hw
def gU (u:MGs):MG:=λd ae h=>match d with
 | .tup ds=>u ds ae h
 | .ref p=>match bD h p with
  | some ds=>u ds ae h
  | none=>.stuck
 | _=>.stuck
theorem Gv {k n:Nat} (hK:X.K=K) (hc:X.calm=true) (h:DGs K mg X (λ_=>E0) es gs)
 (hn:(assignEach es X.env).length=n:=by rfl) (hst:(assignEach es X.env).findIdx? (·.1)=none:=by rfl):DG K mg X (λ_=>E0) (.Tuple es k pos) (gU λds ae h=>if ds.length=n then gs ds ae h else .stuck):=by
 subst hK
 refine PG.imp (Fj hc h hn hst) λv σ H Q q_=>q_.el λρ h ae d w re rd p=>?_
 unfold gU at p
 cases rd with
 |
  tup q rs=>
  dsimp only at p
  split at p
  ·rename_i hl
   exact⟨_,_,rfl,.inl q,by rw[<- rs.len];exact hl,ρ,h,ae,_,w,re,rs,p⟩
  ·exact p.elim
 |
  ref ea=>
  dsimp only at p
  split at p
  ·rename_i ds q
   obtain⟨vs,h1,h2⟩:=cm w ea q
   split at p
   ·rename_i hl
    exact⟨_,_,rfl,.inr h1,by rw[<- h2.len];exact hl,ρ,h,ae,_,w,re,h2,p⟩
   ·exact p.elim
  ·exact p.elim
 | _=>exact p.elim
end
end L2
namespace L2
open PySem PySem.Spec PySem.Calls PyProof.Rows
section
variable {X:Cx}{K:W.Frag}{mg:Str->Option Value}{ES:St->XK}{a:Expr}{A:MA}{pos q2 p1 p2:Pos}
def sF (j:Int):List V:=(List.range j.toNat).map λi=>V.int ((i:Nat):Int)
def rLrg:List V->Hp->VK->Prop:=λxs H Q=>∃ j:Int,xs=[.int j]/\-(2 ^ 62)<=j/\j<=16777216/\∀ l,H l=none->Q (.ref l) (upd H l (.lst (sF j)))
theorem uI:∀ (n:Nat) (f:Nat->Int) (is:List Nat) (ys:List Value),CarriedAll ys (is.map λi=>PyData.int (f i))->Vals (is.map λi=>V.int (f i)) ys
 | n,f,[],ys,h=>by cases h;exact .nil
 |
  n,f,i :: is,ys,h=>by
  cases h with
  |
   cons c r=>
   cases c
   exact .cons ⟨_,rfl⟩ (uI n f is _ r)
theorem Gj {ta:TA} (hc:X.calm=true) (hl:Gl X "list") (hml:X.mg "list"=none) (hg:Gl X "range") (hm:X.mg "range"=none) (ha:PA X [a] ta) (hs:starEach [a] X.env=[(false,eval a X.env)]:=by rfl)
 (hs1:starEach [.Call (.Name "range" p2) [a] [] q2] X.env=[(false,eval (.Call (.Name "range" p2) [a] [] q2) X.env)]:=by rfl):
 PE X (.Call (.Name "list" p1) [.Call (.Name "range" p2) [a] [] q2] [] pos) (tCB rLrg ta):=by
 intro pins s σ H Q I h
 refine wpAny_Call_Name_kw (iY I hl hml (show bootBuiltins "list"=some (.type "list") from rfl) ?_ (by decide) (by decide))
 refine PyProof.Rows.callWith_type1 ?_ hs1 rfl
 rw[hs1]
 show wpAny _ _ (spliced ((false,eval (.Call (.Name "range" p2) [a] [] q2) X.env) :: [])) _ _ s
 refine Calls.spliced_cons ?_
 refine wpAny_Call_Name_kw (iY I hg hm (show bootBuiltins "range"=some (.type "range") from rfl) ?_ (by decide) (by decide))
 refine PyProof.Rows.callWith_type1 (thn (ha q2 pins s σ H _ I h) λus s1 ⟨vs,H1,I1,r1,q1⟩=>?_) hs rfl
 obtain⟨j,e,h1,h2,q⟩:=q1
 subst e
 cases r1 with
 |
  cons r rr=>
  cases rr
  obtain⟨t,rfl⟩:=r
  refine call_range_1 (Calls.spliced_nil ?_)
  have I2:Inv X pins σ H1 { s1 with heap:=s1.heap.push { cls:=.type "range",data:=.fields #[.int 0 s1.toks,.int j t,.int 1 (s1.toks + 1)] },toks:=s1.toks + 1 + 1 }:=I1.kept λb o e=>Heap.get?_push_of_some _ e
  obtain⟨m,hns,_⟩:=I2.loc
  refine list_rangeD (I.ok.hd hc) (Att.fr_all hns) (news:=[]) (λp hp=>nomatch hp) (IsRange.new ..) (small_one (by omega) (by omega) (by omega) (by omega)) (n:=j.toNat) (by rw[rangeSize_one];split <;> omega) (by omega) ?_
  intro h' tk ys hf hn hk _ _ ⟨⟨c,hpl⟩,_⟩ hcar
  have rv:Vals (sF j) ys:=uI 0 (λi=>((i:Nat):Int)) (List.range j.toNat) ys (by
   unfold rangeInts at hcar
   rw[List.map_map] at hcar
   have e:((λi=>PyData.int i) ∘ λ(i:Nat)=>(0:Int) + (i:Int) * 1)=λi:Nat=>PyData.int (i:Int):=by
    funext i
    simp
   rw[show (PyData.int ∘ λ(i:Nat)=>(0:Int) + (i:Int) * 1)=λi:Nat=>PyData.int (i:Int) from e] at hcar
   exact hcar)
  have hz:(sF j).length<=sizeLine:=by
   unfold sF
   rw[List.length_map,List.length_range]
   have:sizeLine=16777216:=rfl
   omega
  exact⟨.ref _,_,I2.laid (t':=tk) hk (Nat.le_refl _) (show ObjOk X.prog X.w _ h' _ (.lst (sF j)) from ⟨hz,ys,c,rv,hpl⟩),rfl,q _ (I2.hok.fresh (Nat.le_refl _))⟩
def Ag (j:Int):List D:=(List.range j.toNat).map λi=>D.int ((i:Nat):Int)
def ox:Fn:=λds h=>match ds with
 | [.int j]=>if -(2 ^ 62)<=j/\j<=16777216 then .ok (.ref h.length) (h++[.lst (Ag j)]) else .stuck
 | _=>.stuck
theorem xi (ρ:List Addr) (H:Hp):∀ is:List Nat,RelDs K mg ρ H (is.map λi=>D.int ((i:Nat):Int)) (is.map λi=>V.int ((i:Nat):Int))
 | []=>.nil
 | i :: is=>.cons (.int _) (xi ρ H is)
theorem HJ:bT K mg rLrg ox:=λρ h H ds vs Q E w rs p=>by
 unfold ox at p
 split at p
 ·split at p
  ·rename_i hb
   cases rs with
   |
    cons r rs=>
    cases r
    cases rs
    exact⟨_,rfl,hb.1,hb.2,λl hl=>eD w (xi ρ H _) hl p⟩
  ·exact p.elim
 ·exact p.elim
theorem HM (hc:X.calm=true) (hl:Gl X "list") (hml:mg "list"=none) (hg:Gl X "range") (hm:mg "range"=none) (ha:DA K mg X ES [a] A) (hk:X.mg=mg:=by rfl) (hs:starEach [a] X.env=[(false,eval a X.env)]:=by rfl)
 (hs1:starEach [.Call (.Name "range" p2) [a] [] q2] X.env=[(false,eval (.Call (.Name "range" p2) [a] [] q2) X.env)]:=by rfl):
 DE K mg X ES (.Call (.Name "list" p1) [.Call (.Name "range" p2) [a] [] q2] [] pos) (eFn ox A):=by
 subst hk
 exact PE.imp (Gj hc hl hml hg hm ha hs hs1) (vQ HJ)
end
end L2
namespace L2
open PySem PySem.Spec PySem.Calls PyProof.Rows
inductive EntOk (w:World):List DictEntry->List (Str×Int)->Prop
 | nil:EntOk w [] []
 | cons {e:DictEntry}{es:List DictEntry}{k:Str}{i:Int}{t t':Tok}{kvs:List (Str×Int)} (h:e.hash=hashStr w k) (hk:e.key=.str k t) (hv:e.val=.int i t') (r:EntOk w es kvs):EntOk w (e :: es) ((k,i) :: kvs)
def lkS (kvs:List (Str×Int)) (k:Str):Option Int:=(kvs.find? λp=>decide (p.1=k)).map (·.2)
def KDict (w:World) (K:W.Frag) (mg:Str->Option Value) (n:Str) (kvs:List (Str×Int)):Prop:=
 ∃ a o es ep,mg n=some (.ref a)/\(a == sysModules)=false/\List.lookup a K=some o/\o.ExactDict/\o.data=.dict es ep/\EntOk w es.toList kvs/\(kvs.map (·.1)).Nodup
theorem p9 {P:Program}{w:World}:∀ {es:List DictEntry}{kvs:List (Str×Int)},EntOk w es kvs->(∀ e ∈ es,∃ k,(bF P w).is k e.key=true/\e.hash=(bF P w).hash k)/\∃ vs:List (Key×Value),Pairs (bF P w) es vs/\vs.map (·.1)=kvs.map (λp=>.inr p.1)/\∀ k:Str,(lkS kvs k=none/\valueAt vs (.inr k)=none)\/∃ i t,lkS kvs k=some i/\valueAt vs (.inr k)=some (.int i t)
 | _,_,.nil=>⟨(λe h=>nomatch h),[],.nil,rfl,λk=>.inl ⟨rfl,rfl⟩⟩
 |
  _,_,.cons (e:=e) (es:=es) (k:=k) (i:=i) (t:=t) (t':=t') (kvs:=kvs) h hk hv r=>by
  obtain⟨h1,vs,h2,h3,h4⟩:=p9 (P:=P) r
  have is:(bF P w).is (.inr k) e.key=true:=by rw[hk];exact mF P w k t
  refine⟨λe' he=>?_,(.inr k,.int i t') :: vs,.cons is hv h2,by simp [h3],λk'=>?_⟩
  ·rcases List.mem_cons.mp he with rfl | he
   ·exact⟨.inr k,is,h⟩
   ·exact h1 e' he
  ·by_cases e:k=k'
   ·subst e
    exact .inr ⟨i,t',by simp [lkS],by simp [valueAt]⟩
   ·have n1:¬ (Sum.inr k:Key)=.inr k':=λz=>e (Sum.inr.inj z)
    have a1:lkS ((k,i) :: kvs) k'=lkS kvs k':=by simp [lkS,e]
    have a2:valueAt ((Sum.inr k,Value.int i t') :: vs) (.inr k':Key)=valueAt vs (.inr k'):=by simp [valueAt,n1]
    rw[a1,a2]
    exact h4 k'
theorem pS:∀ {l:List (Str×Int)},(l.map (·.1)).Nodup->(l.map (λp=>(Sum.inr p.1:Key))).Nodup
 | [],_=>.nil
 |
  p :: l,h=>by
  rw[List.map_cons,List.nodup_cons] at h
  rw[List.map_cons,List.nodup_cons]
  refine⟨λz=>h.1 ?_,pS h.2⟩
  obtain⟨q,hq,e⟩:=List.mem_map.mp z
  exact List.mem_map.mpr ⟨q,hq,Sum.inr.inj e⟩
section
variable {X:Cx}{K:W.Frag}{mg:Str->Option Value}{w:World}{n:Str}{kvs:List (Str×Int)}
theorem BD {pins:List (Addr×Obj)}{σ:St}{H:Hp}{s:Shared} (I:Inv X pins σ H s) (g:KDict X.w X.K X.mg n kvs):∃ a vs,X.mg n=some (.ref a)/\(a == sysModules)=false/\s.heap.DictOf (bF X.prog X.w) a vs/\∀ k:Str,(lkS kvs k=none/\valueAt vs (.inr k)=none)\/∃ i t,lkS kvs k=some i/\valueAt vs (.inr k)=some (.int i t):=by
 obtain⟨a,o,es,ep,h1,h2,h3,h4,h5,h6,h7⟩:=g
 obtain⟨q1,vs,q2,q3,q4⟩:=p9 (P:=X.prog) h6
 refine⟨a,vs,h1,h2,⟨o,es,ep,I.kIn a o h3,h4,h5,λe he=>q1 e (by simpa using he),q2,?_⟩,q4⟩
 rw[q3]
 exact pS h7
def Av (ii:Bool) (mg:Str->Option Value) (n:Str) (kvs:List (Str×Int)):R2:=λx y H Q=>∃ k a,x=.str k/\y=.ref a/\mg n=some (.ref a)/\Q (.bl (ii ^^ (lkS kvs k).isSome)) H
def wG (mg:Str->Option Value) (n:Str) (kvs:List (Str×Int)):R2:=λx y H Q=>∃ k a i,y=.str k/\x=.ref a/\mg n=some (.ref a)/\lkS kvs k=some i/\Q (.int i) H
theorem CA (hw:X.w=w) (hK:X.K=K) (hm:X.mg=mg) (g:KDict w K mg n kvs):OpR X (compareOp .NotIn) (Av true mg n kvs):=by
 subst hw hK hm
 intro pins s σ H x y v u Q I rx ry ⟨k,a,ex,ey,e1,q⟩
 subst ex ey
 cases ry
 obtain⟨a',vs,h1,h2,dd,h4⟩:=BD I g
 have:a'=a:=by rw[h1] at e1;cases e1;rfl
 subst this
 refine wpAny_notIn_of (lW (k:=.inr k) rx) h2 dd.mapOf ⟨.bl (!(valueAt vs (.inr k)).isSome),H,I.tok _,rfl,?_⟩
 rcases h4 k with ⟨z1,z2⟩ | ⟨i,t,z1,z2⟩
 ·rw[z2];rw[z1] at q;exact q
 ·rw[z2];rw[z1] at q;exact q
theorem CW (hw:X.w=w) (hK:X.K=K) (hm:X.mg=mg) (g:KDict w K mg n kvs):IxR X (wG mg n kvs):=by
 subst hw hK hm
 intro value gl pins s σ H x y v u Q I rx ry ⟨k,a,i,ey,ex,e1,e2,q⟩ hs
 subst ex ey
 cases rx
 obtain⟨a',vs,h1,h2,dd,h4⟩:=BD I g
 have:a'=a:=by rw[h1] at e1;cases e1;rfl
 subst this
 rcases h4 k with ⟨z1,z2⟩ | ⟨i',t,z1,z2⟩
 ·rw[e2] at z1;cases z1
 ·rw[e2] at z1
  cases z1
  exact subscriptTail_builtinR (x:=.int i t) dd.typeIs PySem.F.slot_dict_getitem.lookup (wpAny_getItem_of (lW (k:=.inr k) ry) dd.mapOf z2 ⟨rfl,.int i,H,I.tok _,⟨t,rfl⟩,q⟩) hs
def tP (ii:Bool) (n:Str) (kvs:List (Str×Int)):D->D->AH->R D:=λx y h=>match x,y with
 | .str k,.glb m=>if m=n then .ok (.bl (ii ^^ (lkS kvs k).isSome)) h else .stuck
 | _,_=>.stuck
def nI (n:Str) (kvs:List (Str×Int)):D->D->AH->R D:=λx y h=>match x,y with
 | .glb m,.str k=>(match lkS kvs k with
  | some i=>if m=n then .ok (.int i) h else .stuck
  | none=>.stuck)
 | _,_=>.stuck
theorem Cw (ii:Bool):OpD K mg (Av ii mg n kvs) (tP ii n kvs):=λρ h H dx dy x y Q E w rx ry p=>by
 unfold tP at p
 split at p
 ·split at p
  ·rename_i hm
   subst hm
   cases rx
   cases ry with
   | glb m=>exact⟨_,_,rfl,rfl,m,aO w (.bl _) p⟩
  ·exact p.elim
 ·exact p.elim
theorem AL:OpD K mg (wG mg n kvs) (nI n kvs):=λρ h H dx dy x y Q E w rx ry p=>by
 unfold nI at p
 split at p
 ·split at p
  ·rename_i i e
   split at p
   ·rename_i hm
    subst hm
    cases ry
    cases rx with
    | glb m=>exact⟨_,_,_,rfl,rfl,m,e,aO w (.int _) p⟩
   ·exact p.elim
  ·exact p.elim
 ·exact p.elim
end
theorem zL {K:W.Frag}{h:Heap}{mg:Str->Option Value}{w:World}{n:Str}{kvs:List (Str×Int)}{a:Addr}{es:Array DictEntry}{ep:Nat} (X:K.In h) (G:h.Ns mainGlobals mg) (e1:W.nsIn K mainGlobals n=some (some (.ref a))) (e2:List.lookup a K=some { cls:=.type "dict",data:=.dict es ep }) (hs:(a == sysModules)=false) (he:EntOk w es.toList kvs) (hn:(kvs.map (·.1)).Nodup):KDict w K mg n kvs:=
 ⟨a,_,es,ep,W.mg_of X G e1,hs,e2,⟨rfl,rfl,rfl⟩,rfl,he,hn⟩
end L2
namespace L2
open PySem
theorem KDict.ex {w:World}{K:W.Frag}{mg:Str->Option Value}{n:Str}{kvs:List (Str×Int)} (g:KDict w K mg n kvs):∃ a,mg n=some (.ref a):=let ⟨a,_,_,_,e,_⟩:=g;⟨a,e⟩
end L2
namespace L2
open PySem PySem.Spec PySem.Calls PyProof.Rows
section
variable {X:Cx}{K:W.Frag}{mg:Str->Option Value}
end
end L2
namespace L2
open PySem PySem.Spec PySem.Calls PyProof.Rows
structure RoomU (k:Nat) (A:Around):Prop where
 dp:A.depth + 3 * k + 5 < recursionLimit
 un:A.units + 16 * k + 200 < cLine
theorem RoomU.deeper {k:Nat}{A:Around} (r:RoomU (k + 1) A) (env:Env):RoomU k (A.deeper env):=
 ⟨by have:=r.dp;show A.depth + 1 + 3 * k + 5 < _;omega,by have:=r.un;show A.units + 3 + 16 * k + 200 < _;omega⟩
theorem RoomU.depth {k:Nat}{A:Around} (r:RoomU k A):A.depth < recursionLimit:=by have:=r.dp;omega
theorem RoomU.units {k:Nat}{A:Around} (r:RoomU k A):A.units + 64 < cLine:=by have:=r.un;omega
theorem RoomU.u100 {k:Nat}{A:Around} (r:RoomU k A):A.units + 100 < cLine:=by have:=r.un;omega
theorem Room.toU {j k:Nat}{A:Around} (r:Room k A) (e:Option Value) (h:j<=k):RoomU j (A.mark e):=⟨by have:=r.dp;show A.depth + 3 * j + 5 < _;omega,by have:=r.un;show A.units + 16 * j + 200 < _;omega⟩
def jh (CX:CXT) (P:Program) (w:World) (K:W.Frag) (mg:Str->Option Value) (base:Heap) (N:List Str) (qual:Str) (scope:Scope) (f:Addr) (cd:Value) (A:Around) (outer:List Env) (s:Shared) (H:Hp) (E:XK):Cx:={ er CX P w K mg base N qual scope f cd A outer s H E with calm:=false }
structure FnOkU (P:Program) (w:World) (K:W.Frag) (mg:Str->Option Value) (base:Heap) (CX:CXT) (k:Nat) (f:Addr) (fd:FuncData) (ps:List Str) (sp:Sp):Prop where
 len:∀ vs H Q E,sp vs H Q E->vs.length=ps.length
 run:∀ (A:Around) (outer:List Env) (s:Shared) (H:Hp) (args:Args) (us:List Value) (vs:List V) (Q:VK) (E:XK),RoomU k A->Env0 P w K mg base A outer s H->BindsTo s fd args (ps.zip us)->Vals vs us->sp vs H Q E->
  codeAny (model P w) A (.call (.ref f) args) (CR CX outer P w H s Q E) s
theorem wq {CX:CXT}{P:Program}{w:World}{K:W.Frag}{mg:Str->Option Value}{base:Heap}{N ps:List Str}{qual:Str}{scope:Scope}{f:Addr}{cd:Value}{A:Around}{outer:List Env}{s s1:Shared}{H:Hp}{E:XK}{us:List Value}{vs:List V}
 (S:FnScope N ps scope) (e0:Env0 P w K mg base A outer s H) (hl:vs.length=ps.length) (r:Vals vs us)
 (x:InCallC s s.heap.objs.size (bindL (envOfC qual scope s.heap.objs.size f cd).kindOf (ps.zip us) λ_=>none) (cellsFrom (s.heap.objs.size + 1) scope.names []) (bindC (envOfC qual scope s.heap.objs.size f cd).kindOf (ps.zip us) λ_=>none) s1):
 Inv (jh CX P w K mg base N qual scope f cd A outer s H E) [] (dm N vs) H s1:=by
 have I:=pP (CX:=CX) (E:=E) (A:={ A with handled:=none }) S rfl ⟨e0.frames,e0.mod,e0.bs,e0.bsz,e0.funs,e0.frf,e0.hok,e0.bare⟩ hl r x
 exact⟨⟨I.ok.mod,I.ok.kind,I.ok.glob,I.ok.blt,I.ok.above,I.ok.inj,I.ok.has,I.ok.cab,λz=>absurd z Bool.false_ne_true,Around.frames_deeper e0.frames,I.ok.stk,I.ok.exf,I.ok.bs,I.ok.bsz,I.ok.noex,I.ok.exfs,I.ok.funs,I.ok.frf⟩,I.os,I.bare,I.base,I.loc,I.cell,I.free,I.freeC,I.pin,I.hok,I.len⟩
theorem Fp {CX:CXT}{P:Program}{w:World}{K:W.Frag}{mg:Str->Option Value}{base:Heap}{k:Nat}{f:Addr}{name qual:Str}{params:Arguments}{body:List Stmt}{scope:Scope}{dV kV doc pm cdv ct oc:Value}{an od:Option Addr}
 {osl:Array (Option Value)}{N ps:List Str}{sp:Sp} (lk:K.lookup f=some ⟨oc,od,.func (W.fnOf name qual params body scope dV kV doc pm an cdv ct),osl⟩) (j':W.codeIn K cdv qual=true) (S:FnScope N ps scope)
 (len:∀ vs H Q E,sp vs H Q E->vs.length=ps.length)
 (bn:∀ (A:Around) (outer:List Env) (s:Shared) (H:Hp) (vs:List V) (Q:VK) (E:XK),RoomU k (A.deeper (envOfC qual scope s.heap.objs.size f cdv))->sp vs H Q E->
  ∃ t,PSs (jh CX P w K mg base N qual scope f cdv A outer s H E) body t/\t { nx:=λ_ H'=>Q .non H',rt:=Q } (dm N vs) H):
 FnOkU P w K mg base CX (k + 1) f (W.fnOf name qual params body scope dV kV doc pm an cdv ct) ps sp:=by
 refine⟨len,λA outer s H args us vs Q E hr e0 hb r hsp=>?_⟩
 have hl:=len _ _ _ _ hsp
 have KX:K.In s.heap:=e0.mod.kin.keeps λb o e=>(e0.bs b o e).1
 have lim:s.heap.NoLimit:=e0.mod.nolimit.keeps λb o e=>(e0.bs b o e).1
 have hkind:∀ y ∈ ps.zip us,scope.names.lookup y.1=some .local\/(scope.names.lookup y.1=some .cell/\((cellsFrom (s.heap.objs.size + 1) scope.names []).lookup y.1).isSome=true):=λ⟨n,v⟩ hy=>by
  rcases S.par n (List.of_mem_zip hy).1 with q | q
  ·exact .inl q
  ·exact .inr ⟨q,W.cellsFrom_some _ _ _ (.inl q)⟩
 refine codeAny_call_function hr.depth (KX _ _ lk) rfl S.co S.gen rfl (W.codeRec_of KX j') (hb _ _ _ _ ?_)
 refine wpAny_newFunctionEnv_cells S.kind hkind λenv he s1 x=>?_
 subst he
 refine⟨lim.keeps x.toInCall.keep,codeAny_func ?_⟩
 obtain⟨t,ht,hq⟩:=bn A outer s H vs Q E (hr.deeper _) hsp
 have I:Inv (jh CX P w K mg base N qual scope f cdv A outer s H E) [] (dm N vs) H s1:=wq S e0 hl r x
 refine wpAny_mono (ht [] s1 (dm N vs) H _ I hq) (λfl s' hs=>?_) λe s' hs=>hs
 have fin:∀ {σ':St}{H':Hp}{v:V}{u:Value},Inv (jh CX P w K mg base N qual scope f cdv A outer s H E) [] σ' H' s'->RelV v u->Q v H'->CE outer P w H s Q u s':=
  λ{σ' H' v u} J rv q=>⟨v,H',J.os,J.bare,J.base,J.hok,rv,q⟩
 cases fl with
 |
  ret u=>
  obtain⟨v,σ',H',J,rv,q⟩:=hs
  exact fin J rv q
 |
  next=>
  obtain⟨σ',H',J,q⟩:=hs
  exact fin (v:=V.non) (u:=Value.none) J rfl q
 |
  brk=>
  obtain⟨_,_,_,q⟩:=hs
  exact False.elim q
 |
  cont=>
  obtain⟨_,_,_,q⟩:=hs
  exact False.elim q
section
variable {P:Program}{w:World}{K:W.Frag}{mg:Str->Option Value}{base:Heap}{x:Str}{st:Stmt}{k:Nat}{ps N:List Str}{sp:Sp}
theorem Fun.okRU {x qual:Str}{st:Stmt}{f:Addr}{fd:FuncData}{N ps:List Str}{k:Nat}{sp:Sp} (F:Fun K x qual st f fd) (S:FnScope N ps (av st)) (len:∀ vs H Q E,sp vs H Q E->vs.length=ps.length)
 (bn:∀ (cdv:Value) (A:Around) (outer:List Env) (s:Shared) (H:Hp) (vs:List V) (Q:VK) (E:XK),RoomU k (A.deeper (envOfC qual (av st) s.heap.objs.size f cdv))->sp vs H Q E->
  ∃ t,PSs (jh (CX1 P w) P w K mg base N qual (av st) f cdv A outer s H E) (bu st) t/\t { nx:=λ_ H'=>Q .non H',rt:=Q } (dm N vs) H):FnOkU P w K mg base (CX1 P w) (k + 1) f fd ps sp:=by
 obtain⟨oc,od,kV,doc,pm,an,cdv,ct,osl,rfl,lk,j'⟩:=F.ex
 exact Fp lk j' S len λA outer s H vs Q E hr hsp=>bn cdv A outer s H vs Q E hr hsp
structure CalleeU (P:Program) (w:World) (K:W.Frag) (mg:Str->Option Value) (base:Heap) (x:Str) (k:Nat) (ps:List Str) (sp:Sp):Prop where
 ex:∃ f fd,FnOkU P w K mg base (CX1 P w) k f fd ps sp/\mg x=some (.ref f)/\W.keepIn K (.ref f)=true/\Binds K fd ps []/\∃ oc od osl,K.lookup f=some ⟨oc,od,.func fd,osl⟩
theorem Def.okRU (D:Def K mg x st) (S:FnScope N ps (av st))
 (hb:∀ (kV doc pm:Value) (an:Option Addr) (cdv ct:Value) (us:List Value),us.length=ps.length->bindArgs (W.fnOf x x (cK st) (bu st) (av st) .none kV doc pm an cdv ct) ⟨us,[]⟩=pure (ps.zip us))
 (len:∀ vs H Q E,sp vs H Q E->vs.length=ps.length)
 (bn:∀ (f:Addr) (cdv:Value) (A:Around) (outer:List Env) (s:Shared) (H:Hp) (vs:List V) (Q:VK) (E:XK),RoomU k (A.deeper (envOfC x (av st) s.heap.objs.size f cdv))->sp vs H Q E->
  ∃ t,PSs (jh (CX1 P w) P w K mg base N x (av st) f cdv A outer s H E) (bu st) t/\t { nx:=λ_ H'=>Q .non H',rt:=Q } (dm N vs) H):CalleeU P w K mg base x (k + 1) ps sp:=by
 obtain⟨f,fd,F,m⟩:=D.ex
 exact⟨f,fd,F.okRU S len (bn f),m,F.kp,F.binds hb,F.look⟩
variable {F:MS}
theorem Def.okDU (D:Def K mg x st) (S:FnScope N ps (av st))
 (hb:∀ (kV doc pm:Value) (an:Option Addr) (cdv ct:Value) (us:List Value),us.length=ps.length->bindArgs (W.fnOf x x (cK st) (bu st) (av st) .none kV doc pm an cdv ct) ⟨us,[]⟩=pure (ps.zip us))
 (bn:∀ (f:Addr) (cdv:Value) (A:Around) (outer:List Env) (s:Shared) (H:Hp) (E:XK),RoomU k (A.deeper (envOfC x (av st) s.heap.objs.size f cdv))->
  DSs K mg (jh (CX1 P w) P w K mg base N x (av st) f cdv A outer s H E) (λ_=>E) (bu st) F):CalleeU P w K mg base x (k + 1) ps (spD K mg ps.length (fnD N.length F)):=by
 refine D.okRU S hb (λvs H Q E ⟨ρ,h,ds,w,rs,hl,p⟩=>by rw[<- rs.len];exact hl) λf cdv A outer s H vs Q E hr ⟨ρ,h,ds,w',rs,hl,p⟩=>?_
 refine⟨_,bn f cdv A outer s H E hr,ρ,h,_,w',nS rs,?_⟩
 unfold fnD at p
 split at p
 ·rename_i e;rw[e];exact λρ1 H1 σ1 l1 w1 re1=>p ρ1 H1 l1 w1 _ .non
 ·rename_i e;rw[e];exact λρ1 H1 v l1 w1 rv=>p ρ1 H1 l1 w1 v rv
 ·rename_i e;rw[e];exact λρ1 H1 σ1 C l1 w1 re1 m=>p ρ1 H1 C l1 w1 m
 ·exact p.elim
end
section
variable {X:Cx}{K:W.Frag}{mg:Str->Option Value}{ES:St->XK}{e:Expr}{es:List Expr}{A:MA}{pos:Pos}
theorem Bk {x:Str}{p:Pos}{k n:Nat}{ps:List Str}{S:Fn} (C:CalleeU X.prog X.w X.K X.mg X.base x k ps (spD K mg n S)) (hr:RoomU k X.A) (hg:Gl X x) (hx:fG X ES) (ha:DA K mg X ES (e :: es) A)
 (hdb:(x == ("__debug__" : Str))=false:=by decide) (he:starEach (e :: es) X.env=(false,eval e X.env) :: starEach es X.env:=by rfl) (hpl:(backTo pos (starEach es X.env)).any (·.1)=false:=by rfl):
 DE K mg X ES (.Call (.Name x p) (e :: es) [] pos) (eFn (λds h=>if ds.length=n then S ds h else .stuck) A):=by
 obtain⟨f,fd,F',m,kp,bb,_⟩:=C.ex
 intro pins s σ H Q I hh
 refine wpAny_Call_Name_kw (mr I hg m ?_ hdb)
 have rd:rdA K mg ES A σ H (λvs H1=>spD K mg n S vs H1 Q (ES σ)):=by
  obtain⟨ρ,h,ae,w,re,p⟩:=hh
  refine⟨ρ,h,ae,w,re,p.bind.imp λds h1 ρ1 H1 l1 w1 p1 vs rs=>?_⟩
  split at p1
  ·rename_i hl
   exact⟨ρ1,h1,ds,w1,rs,hl,p1⟩
  ·exact p1.elim
 refine W.callWith_K (h₀:=X.base) I.ok.mod.kin kp (wpAny_mono (ha pos pins s σ H _ I rd) (λus s1 ⟨vs,H1,I1,r,q⟩=>⟨I1.kIn,?_⟩) λ_ _ z=>z) he hpl
 have hl:(us++[]).length=ps.length:=by rw[List.append_nil,<- r.length];exact F'.len _ _ _ _ q
 refine wpAny_call (codeAny_mono (F'.run X.A X.stack s1 H1 ⟨us,[]⟩ us vs Q (ES σ) hr I1.env0 (by simpa using bb s1 us I1.kIn hl) r q) λr s' hq=>?_)
 cases r with
 | error ex=>exact hx pins σ H1 s1 ex s' I1 hq
 |
  ok fl=>
  cases fl with
  | ret u=>exact I1.after hq
  | next=>exact False.elim hq
  | brk=>exact False.elim hq
  | cont=>exact False.elim hq
end
end L2
namespace L3
open PySem PySem.Spec PyProof.Rows L2
set_option genInjectivity true in
inductive Val where
 | non | bl (b:Bool) | int (i:Int) | str (x:Str) | ty (n:String) | glb (x:Str) | exc (x:Str)
 | tup (xs:List Val) | lst (xs:List Val) | kl (xs:List Val) | dct (kvs:List (Key×Val)) | set (xs:List Int)
 deriving Inhabited
mutual
inductive Rd (P:Nat->Prop) (h:AH):D->Val->Prop where
 | non:Rd P h .non .non
 | bl (b:Bool):Rd P h (.bl b) (.bl b)
 | int (i:Int):Rd P h (.int i) (.int i)
 | str (x:Str):Rd P h (.str x) (.str x)
 | ty (n:String):Rd P h (.ty n) (.ty n)
 | glb (x:Str):Rd P h (.glb x) (.glb x)
 | exc (x:Str):Rd P h (.exc x) (.exc x)
 | tup {ds:List D}{vs:List Val} (r:Rds P h ds vs):Rd P h (.tup ds) (.tup vs)
 | kl {ds:List D}{vs:List Val} (r:Rds P h ds vs):Rd P h (.kl ds) (.kl vs)
 | cell {n:Nat}{o:Ob}{v:Val} (p:P n) (e:h[n]?=some o) (r:Rc P h o v):Rd P h (.ref n) v
inductive Rc (P:Nat->Prop) (h:AH):Ob->Val->Prop where
 | lst {ds:List D}{vs:List Val} (r:Rds P h ds vs):Rc P h (.lst ds) (.lst vs)
 | fz {ds:List D}{vs:List Val} (r:Rds P h ds vs):Rc P h (.fz ds) (.kl vs)
 | dct {ws:List (Key×D)}{us:List (Key×Val)} (r:Rk P h ws us):Rc P h (.dct ws) (.dct us)
 | set (xs:List Int):Rc P h (.set xs) (.set xs)
inductive Rds (P:Nat->Prop) (h:AH):List D->List Val->Prop where
 | nil:Rds P h [] []
 | cons {d:D}{v:Val}{ds:List D}{vs:List Val} (r:Rd P h d v) (rr:Rds P h ds vs):Rds P h (d :: ds) (v :: vs)
inductive Rk (P:Nat->Prop) (h:AH):List (Key×D)->List (Key×Val)->Prop where
 | nil:Rk P h [] []
 | cons {k:Key}{d:D}{v:Val}{ds:List (Key×D)}{vs:List (Key×Val)} (r:Rd P h d v) (rr:Rk P h ds vs):Rk P h ((k,d) :: ds) ((k,v) :: vs)
end
section
variable {P P':Nat->Prop}{h h':AH}
abbrev Mov (P P':Nat->Prop) (h h':AH):Prop:=∀ n o,P n->h[n]?=some o->P' n/\h'[n]?=some o
theorem Rd.mono (m:Mov P P' h h') {d:D}{v:Val} (r:Rd P h d v):Rd P' h' d v:=@Rd.rec P h (λd v _=>Rd P' h' d v) (λo v _=>Rc P' h' o v) (λds vs _=>Rds P' h' ds vs) (λws us _=>Rk P' h' ws us) .non (λb=>.bl b) (λi=>.int i) (λx=>.str x) (λn=>.ty n) (λx=>.glb x) (λx=>.exc x) (λ_ ih=>.tup ih) (λ_ ih=>.kl ih) (λp e _ ih=>.cell (m _ _ p e).1 (m _ _ p e).2 ih) (λ_ ih=>.lst ih) (λ_ ih=>.fz ih) (λ_ ih=>.dct ih) (λxs=>.set xs) .nil (λ_ _ a b=>.cons a b) .nil (λ_ _ a b=>.cons a b) d v r
theorem Rds.ind {M:List D->List Val->Prop} (h0:M [] []) (h1:∀ {d v ds vs},Rd P h d v->Rds P h ds vs->M ds vs->M (d :: ds) (v :: vs)) {ds:List D}{vs:List Val} (r:Rds P h ds vs):M ds vs:=by
 induction ds generalizing vs with
 | nil=>cases r;exact h0
 |
  cons d ds ih=>
  cases r with
  | cons r rr=>exact h1 r rr (ih rr)
theorem Rk.ind {M:List (Key×D)->List (Key×Val)->Prop} (h0:M [] []) (h1:∀ {k d v ds vs},Rd P h d v->Rk P h ds vs->M ds vs->M ((k,d) :: ds) ((k,v) :: vs)) {ds:List (Key×D)}{vs:List (Key×Val)} (r:Rk P h ds vs):M ds vs:=by
 induction ds generalizing vs with
 | nil=>cases r;exact h0
 |
  cons d ds ih=>
  cases r with
  | cons r rr=>exact h1 r rr (ih rr)
theorem Rds.mono (m:Mov P P' h h') {d:List D}{v:List Val} (r:Rds P h d v):Rds P' h' d v:=r.ind .nil λr _ ih=>.cons (r.mono m) ih
theorem Rk.mono (m:Mov P P' h h') {d:List (Key×D)}{v:List (Key×Val)} (r:Rk P h d v):Rk P' h' d v:=r.ind .nil λr _ ih=>.cons (r.mono m) ih
theorem Rc.mono (m:Mov P P' h h') {d:Ob}{v:Val} (r:Rc P h d v):Rc P' h' d v:=by
 cases r with
 | lst r=>exact .lst (r.mono m)
 | fz r=>exact .fz (r.mono m)
 | dct r=>exact .dct (r.mono m)
 | set xs=>exact .set xs
theorem Rds.len {ds:List D}{vs:List Val} (r:Rds P h ds vs):ds.length=vs.length:=r.ind (M:=λds vs=>ds.length=vs.length) rfl λ_ _ ih=>congrArg (· + 1) ih
theorem Rds.get {ds:List D}{vs:List Val}{i:Nat}{v:Val} (r:Rds P h ds vs) (e:vs[i]?=some v):∃ d,ds[i]?=some d/\Rd P h d v:=
 r.ind (M:=λds vs=>∀ i,vs[i]?=some v->∃ d,ds[i]?=some d/\Rd P h d v) (λ_ e=>by rw[List.getElem?_nil] at e;cases e) (λr _ ih i e=>match i,e with
  | 0,e=>by cases e;exact⟨_,rfl,r⟩
  | i + 1,e=>ih i e) i e
theorem Rds.append {ds es:List D}{vs ws:List Val} (r:Rds P h ds vs) (q:Rds P h es ws):Rds P h (ds++es) (vs++ws):=r.ind (M:=λds vs=>Rds P h (ds++es) (vs++ws)) q λr _ ih=>.cons r ih
theorem Rds.take {ds:List D}{vs:List Val} (n:Nat) (r:Rds P h ds vs):Rds P h (ds.take n) (vs.take n):=
 r.ind (M:=λds vs=>∀ n:Nat,Rds P h (ds.take n) (vs.take n)) (λn=>by rw[List.take_nil,List.take_nil];exact .nil) (λr _ ih n=>by cases n with | zero=>exact .nil | succ n=>exact .cons r (ih n)) n
theorem Rds.drop {ds:List D}{vs:List Val} (n:Nat) (r:Rds P h ds vs):Rds P h (ds.drop n) (vs.drop n):=
 r.ind (M:=λds vs=>∀ n:Nat,Rds P h (ds.drop n) (vs.drop n)) (λn=>by rw[List.drop_nil,List.drop_nil];exact .nil) (λr rr ih n=>by cases n with | zero=>exact .cons r rr | succ n=>exact ih n) n
theorem Rds.set {d:D}{v:Val} (r:Rd P h d v) {ds:List D}{vs:List Val} (i:Nat) (q:Rds P h ds vs):Rds P h (ds.set i d) (vs.set i v):=
 q.ind (M:=λds vs=>∀ i:Nat,Rds P h (ds.set i d) (vs.set i v)) (λ_=>.nil) (λq qq ih i=>by cases i with | zero=>exact .cons r qq | succ i=>exact .cons q (ih i)) i
theorem Rds.rep {xs:List D}{vs:List Val} (r:Rds P h xs vs):∀ n:Nat,Rds P h (List.replicate n xs).flatten (List.replicate n vs).flatten
 | 0=>.nil
 |
  n + 1=>by
  rw[List.replicate_succ,List.replicate_succ,List.flatten_cons,List.flatten_cons]
  exact r.append (Rds.rep r n)
def ShR (P:Nat->Prop) (h:AH) (d:D) (v:Val):Prop:=Rd P h d v\/∃ n o,d=.ref n/\h[n]?=some o/\Rc P h o v
inductive ShRs (P:Nat->Prop) (h:AH):List D->List Val->Prop where
 | nil:ShRs P h [] []
 | cons {d:D}{v:Val}{ds:List D}{vs:List Val} (r:ShR P h d v) (rr:ShRs P h ds vs):ShRs P h (d :: ds) (v :: vs)
def Val.items:Val->Option (List Val)
 | .tup xs=>some xs
 | .lst xs=>some xs
 | .kl xs=>some xs
 | _=>none
theorem ShR.int {d:D}{i:Int} (r:ShR P h d (.int i)):d=.int i:=by
 rcases r with r | ⟨n,o,rfl,e,r⟩
 ·cases r with
  | int=>rfl
  | cell p e r=>cases r
 ·cases r
theorem ShR.str {d:D}{i:Str} (r:ShR P h d (.str i)):d=.str i:=by
 rcases r with r | ⟨n,o,rfl,e,r⟩
 ·cases r with
  | str=>rfl
  | cell p e r=>cases r
 ·cases r
theorem ShR.bl {d:D}{i:Bool} (r:ShR P h d (.bl i)):d=.bl i:=by
 rcases r with r | ⟨n,o,rfl,e,r⟩
 ·cases r with
  | bl=>rfl
  | cell p e r=>cases r
 ·cases r
theorem ShR.non {d:D} (r:ShR P h d .non):d=.non:=by
 rcases r with r | ⟨n,o,rfl,e,r⟩
 ·cases r with
  | non=>rfl
  | cell p e r=>cases r
 ·cases r
theorem ShR.exc {d:D}{x:Str} (r:ShR P h d (.exc x)):d=.exc x:=by
 rcases r with r | ⟨n,o,rfl,e,r⟩
 ·cases r with
  | exc=>rfl
  | cell p e r=>cases r
 ·cases r
theorem ShR.ty {d:D}{x:String} (r:ShR P h d (.ty x)):d=.ty x:=by
 rcases r with r | ⟨n,o,rfl,e,r⟩
 ·cases r with
  | ty=>rfl
  | cell p e r=>cases r
 ·cases r
theorem ShR.glb {d:D}{x:Str} (r:ShR P h d (.glb x)):d=.glb x:=by
 rcases r with r | ⟨n,o,rfl,e,r⟩
 ·cases r with
  | glb=>rfl
  | cell p e r=>cases r
 ·cases r
theorem ShR.tup {d:D}{vs:List Val} (r:ShR P h d (.tup vs)):∃ ds,d=.tup ds/\Rds P h ds vs:=by
 rcases r with r | ⟨n,o,rfl,e,r⟩
 ·cases r with
  | tup r=>exact⟨_,rfl,r⟩
  | cell p e r=>cases r
 ·cases r
theorem Rc.seq {n:Nat}{o:Ob}{vs:List Val} (e:h[n]?=some o) (r:Rc P h o (.lst vs)):∃ ds,h[n]?=some (.lst ds)/\bD h n=some ds/\Rds P h ds vs:=by
 cases r with
 | lst r=>exact⟨_,e,by unfold bD;rw[e],r⟩
theorem ShR.lst {d:D}{vs:List Val} (r:ShR P h d (.lst vs)):∃ n ds,d=.ref n/\h[n]?=some (.lst ds)/\bD h n=some ds/\Rds P h ds vs:=by
 rcases r with r | ⟨n,o,rfl,e,r⟩
 ·cases r with
  |
   cell p e r=>
   obtain⟨ds,q,r⟩:=Rc.seq e r
   exact⟨_,ds,rfl,q,r⟩
 ·obtain⟨ds,q,r⟩:=Rc.seq e r
  exact⟨_,ds,rfl,q,r⟩
theorem ShR.kl {d:D}{vs:List Val} (r:ShR P h d (.kl vs)):∃ ds,Rds P h ds vs/\(d=.kl ds\/∃ n,d=.ref n/\bD h n=some ds):=by
 rcases r with r | ⟨n,o,rfl,e,r⟩
 ·cases r with
  | kl r=>exact⟨_,r,.inl rfl⟩
  | cell p e r=>cases r with | fz r=>exact⟨_,r,.inr ⟨_,rfl,by unfold bD;rw[e]⟩⟩
 ·cases r with | fz r=>exact⟨_,r,.inr ⟨_,rfl,by unfold bD;rw[e]⟩⟩
theorem ShR.dct {d:D}{us:List (Key×Val)} (r:ShR P h d (.dct us)):∃ n ws,d=.ref n/\h[n]?=some (.dct ws)/\Rk P h ws us:=by
 rcases r with r | ⟨n,o,rfl,e,r⟩
 ·cases r with
  | cell p e r=>cases r with | dct r=>exact⟨_,_,rfl,e,r⟩
 ·cases r with | dct r=>exact⟨_,_,rfl,e,r⟩
theorem ShR.items {d:D}{v:Val}{vs:List Val} (r:ShR P h d v) (e:v.items=some vs):∃ ds,dN h d=some ds/\Rds P h ds vs:=by
 cases v with
 | tup xs=>cases e;obtain⟨ds,rfl,q⟩:=r.tup;exact⟨ds,rfl,q⟩
 | lst xs=>cases e;obtain⟨n,ds,rfl,_,e,q⟩:=r.lst;exact⟨ds,e,q⟩
 |
  kl xs=>
  cases e
  obtain⟨ds,q,rfl | ⟨n,rfl,e⟩⟩:=r.kl
  ·exact⟨ds,rfl,q⟩
  ·exact⟨ds,e,q⟩
 | _=>cases e
end
inductive Sl where
 | no | sh (v:Val) | ow (v:Val) | mu (v:Val) | lo (v:Val) | lm (v:Val)
 deriving Inhabited
abbrev E3:=List Sl
def Sl.val:Sl->Option Val
 | .no=>none
 | .sh v=>some v
 | .ow v=>some v
 | .mu v=>some v
 | .lo v=>some v
 | .lm v=>some v
def Sl.mt:Sl->Bool
 | .ow _=>true
 | .mu _=>true
 | _=>false
def Sl.lk:Sl->Bool
 | .lo _=>true
 | .lm _=>true
 | _=>false
abbrev Ns:=List (Option Nat)
def Oc (X:Nat->Prop) (ns:Ns) (n:Nat):Prop:=¬ X n/\some n ∉ ns
def cL:Ob->Prop
 | .fz _=>False
 | .any=>False
 | _=>True
def SlR (P:Nat->Prop) (h0:Nat) (n:Option (Option Nat)) (d:Option (Option D)) (h:AH):Sl->Prop
 | .no=>n=some none
 | .sh v=>n=some none/\∃ x,d=some (some x)/\Rd P h x v
 | .ow v=>∃ m o,n=some (some m)/\d=some (some (.ref m))/\h0<=m/\h[m]?=some o/\cL o/\Rc P h o v
 | .lo v=>∃ m o,n=some (some m)/\d=some (some (.ref m))/\h0<=m/\h[m]?=some o/\cL o/\Rc P h o v
 | .mu v=>∃ m o,n=some (some m)/\d=some (some (.ref m))/\h[m]?=some o/\cL o/\Rc P h o v
 | .lm v=>∃ m o,n=some (some m)/\d=some (some (.ref m))/\h[m]?=some o/\cL o/\Rc P h o v
structure Sat (X:Nat->Prop) (h0:Nat) (ns:Ns) (e:E3) (ae:AE) (h:AH):Prop where
 l1:ae.length=e.length
 l2:ns.length=e.length
 lh:h0<=h.length
 xl:∀ (n:Nat),X n->n < h.length
 inj:∀ (i j n:Nat),ns[i]?=some (some n)->ns[j]?=some (some n)->i=j
 nx:∀ (i n:Nat),ns[i]?=some (some n)->¬ X n
 sl:∀ (i:Nat) (s:Sl),e[i]?=some s->SlR (Oc X ns) h0 (ns[i]?) (ae[i]?) h s
def Mt (ns:Ns) (e:E3) (n:Nat):Prop:=∃ (i:Nat) (s:Sl),ns[i]?=some (some n)/\e[i]?=some s/\s.mt=true
structure Stp (ns:Ns) (e:E3) (h:AH) (ns':Ns) (e':E3) (h':AH):Prop where
 len:h.length<=h'.length
 keep:∀ (m:Nat) (o:Ob),h[m]?=some o->¬ Mt ns e m->h'[m]?=some o
 nw:∀ (i n:Nat),ns'[i]?=some (some n)->ns[i]?=some (some n)\/h.length<=n
 lk:∀ (i:Nat) (s:Sl),e[i]?=some s->s.lk=true->e'[i]?=some s/\ns'[i]?=ns[i]?
 lk':∀ (i:Nat) (s:Sl),e'[i]?=some s->s.lk=true->e[i]?=some s/\ns'[i]?=ns[i]?
 mu:∀ (i:Nat) (v:Val),e'[i]?=some (.mu v)->∃ u,e[i]?=some (.mu u)/\ns'[i]?=ns[i]?
 mu':∀ (i:Nat) (u:Val),e[i]?=some (.mu u)->∃ v,e'[i]?=some (.mu v)/\ns'[i]?=ns[i]?
section
variable {X:Nat->Prop}{h0:Nat}{ns ns' ns1 dl:Ns}{e e' e1 e2:E3}{ae:AE}{h h' h1 h2:AH}
theorem bK {n:Nat}:some n ∈ ns ↔ ∃ i:Nat,ns[i]?=some (some n):=by
 constructor
 ·intro m;exact List.getElem?_of_mem m
 ·rintro⟨i,e⟩;exact List.mem_of_getElem? e
theorem Sat.own (S:Sat X h0 ns e ae h) {i n:Nat} (q:ns[i]?=some (some n)):∃ s v o,e[i]?=some s/\(s.mt=true\/s.lk=true)/\s.val=some v/\ae[i]?=some (some (.ref n))/\h[n]?=some o/\cL o/\Rc (Oc X ns) h o v:=by
 have hi:i < e.length:=by rw[<- S.l2];exact (List.getElem?_eq_some_iff.mp q).1
 have hs:=S.sl i e[i] (List.getElem?_eq_getElem hi)
 refine⟨e[i],?_⟩
 have he:=List.getElem?_eq_getElem hi
 generalize e[i]=s at *
 rw[q] at hs
 cases s with
 | no=>cases hs
 | sh v=>cases hs.1
 | ow v=>obtain⟨m,o,e1,e2,_,e3,e4,e5⟩:=hs;cases e1;exact⟨v,o,he,.inl rfl,rfl,e2,e3,e4,e5⟩
 | lo v=>obtain⟨m,o,e1,e2,_,e3,e4,e5⟩:=hs;cases e1;exact⟨v,o,he,.inr rfl,rfl,e2,e3,e4,e5⟩
 | mu v=>obtain⟨m,o,e1,e2,e3,e4,e5⟩:=hs;cases e1;exact⟨v,o,he,.inl rfl,rfl,e2,e3,e4,e5⟩
 | lm v=>obtain⟨m,o,e1,e2,e3,e4,e5⟩:=hs;cases e1;exact⟨v,o,he,.inr rfl,rfl,e2,e3,e4,e5⟩
theorem Stp.refl:Stp ns e h ns e h:=⟨Nat.le_refl _,λ_ _ q _=>q,λ_ _ q=>.inl q,λ_ _ q _=>⟨q,rfl⟩,λ_ _ q _=>⟨q,rfl⟩,λ_ _ q=>⟨_,q,rfl⟩,λ_ _ q=>⟨_,q,rfl⟩⟩
theorem Stp.trans (S:Sat X h0 ns e ae h) (a:Stp ns e h ns1 e1 h1) (b:Stp ns1 e1 h1 dl e2 h2):Stp ns e h dl e2 h2:=by
 refine⟨Nat.le_trans a.len b.len,λm o q hm=>?_,λi n q=>?_,λi s q hl=>?_,λi s q hl=>?_,λi v q=>?_,λi v q=>?_⟩
 ·refine b.keep m o (a.keep m o q hm) λ⟨i,s,z1,z2,z3⟩=>hm ?_
  have hlt:=(List.getElem?_eq_some_iff.mp q).1
  rcases a.nw i m z1 with z | z
  ·obtain⟨s0,v,o',q1,q2,_⟩:=S.own z
   rcases q2 with q2 | q2
   ·exact⟨i,s0,z,q1,q2⟩
   ·have:=(a.lk i s0 q1 q2).1
    rw[z2] at this
    cases this
    exfalso
    cases s <;> first | cases z3;done | cases q2;done
  ·omega
 ·rcases b.nw i n q with z | z
  ·exact a.nw i n z
  ·exact .inr (Nat.le_trans a.len z)
 ·obtain⟨q1,q2⟩:=a.lk i s q hl
  obtain⟨q3,q4⟩:=b.lk i s q1 hl
  exact⟨q3,q4.trans q2⟩
 ·obtain⟨q1,q2⟩:=b.lk' i s q hl
  obtain⟨q3,q4⟩:=a.lk' i s q1 hl
  exact⟨q3,q2.trans q4⟩
 ·obtain⟨u,q1,q2⟩:=b.mu i v q
  obtain⟨u',q3,q4⟩:=a.mu i u q1
  exact⟨u',q3,q2.trans q4⟩
 ·obtain⟨u,q1,q2⟩:=a.mu' i v q
  obtain⟨u',q3,q4⟩:=b.mu' i u q1
  exact⟨u',q3,q4.trans q2⟩
theorem Stp.mov (S:Sat X h0 ns e ae h) (a:Stp ns e h ns1 e1 h1):Mov (Oc X ns) (Oc X ns1) h h1:=λn o p q=>by
 have hlt:=(List.getElem?_eq_some_iff.mp q).1
 have hm:¬ Mt ns e n:=λ⟨i,s,z,_⟩=>p.2 (bK.mpr ⟨i,z⟩)
 refine⟨⟨p.1,λz=>?_⟩,a.keep n o q hm⟩
 obtain⟨i,z⟩:=bK.mp z
 rcases a.nw i n z with z | z
 ·exact p.2 (bK.mpr ⟨i,z⟩)
 ·omega
theorem da {n:Nat}{o:Ob} (q:h[n]?=some o):n < h.length:=(List.getElem?_eq_some_iff.mp q).1
theorem mq {n:Nat}{o:Ob}{g:AH} (q:h[n]?=some o):(h++g)[n]?=some o:=by rw[List.getElem?_append_left (da q)];exact q
theorem uX {o:Ob}:(h++[o])[h.length]?=some o:=by rw[List.getElem?_append_right (Nat.le_refl _),Nat.sub_self];rfl
theorem SlR.mono {P P':Nat->Prop}{n:Option (Option Nat)}{d:Option (Option D)}{s:Sl} (m:Mov P P' h h') (k:∀ j o,n=some (some j)->h[j]?=some o->h'[j]?=some o) (r:SlR P h0 n d h s):SlR P' h0 n d h' s:=by
 cases s with
 | no=>exact r
 | sh v=>obtain⟨q,x,q1,q2⟩:=r;exact⟨q,x,q1,q2.mono m⟩
 | ow v=>obtain⟨j,o,q1,q2,q3,q4,q5,q6⟩:=r;exact⟨j,o,q1,q2,q3,k j o q1 q4,q5,q6.mono m⟩
 | lo v=>obtain⟨j,o,q1,q2,q3,q4,q5,q6⟩:=r;exact⟨j,o,q1,q2,q3,k j o q1 q4,q5,q6.mono m⟩
 | mu v=>obtain⟨j,o,q1,q2,q4,q5,q6⟩:=r;exact⟨j,o,q1,q2,k j o q1 q4,q5,q6.mono m⟩
 | lm v=>obtain⟨j,o,q1,q2,q4,q5,q6⟩:=r;exact⟨j,o,q1,q2,k j o q1 q4,q5,q6.mono m⟩
def Xn (X:Nat->Prop) (n:Nat):Nat->Prop:=λm=>X m\/m=n
theorem Sat.grow (S:Sat X h0 ns e ae h) (o:Ob):Sat (Xn X h.length) h0 ns e ae (h++[o]):=by
 have mv:Mov (Oc X ns) (Oc (Xn X h.length) ns) h (h++[o]):=λn o' p q=>⟨⟨λz=>by
  rcases z with z | z
  ·exact p.1 z
  ·have:=da q;omega,p.2⟩,mq q⟩
 refine⟨S.l1,S.l2,by rw[List.length_append];have:=S.lh;omega,λn z=>?_,S.inj,λi n q z=>?_,λi s q=>(S.sl i s q).mono mv λj o' _ q'=>mq q'⟩
 ·rw[List.length_append]
  rcases z with z | z
  ·have:=S.xl n z;omega
  ·subst z;show h.length < h.length + 1;omega
 ·rcases z with z | z
  ·exact S.nx i n q z
  ·obtain⟨_,_,_,_,_,_,_,q',_⟩:=S.own q
   have:=da q';omega
theorem Sat.weak {Y:Nat->Prop} (S:Sat Y h0 ns e ae h) (hx:∀ n,X n->Y n):Sat X h0 ns e ae h:=
 ⟨S.l1,S.l2,S.lh,λn z=>S.xl n (hx n z),S.inj,λi n q z=>S.nx i n q (hx n z),λi s q=>(S.sl i s q).mono (λn o p q=>⟨⟨λz=>p.1 (hx n z),p.2⟩,q⟩) λ_ _ _ q=>q⟩
theorem Stp.grow (o:Ob):Stp ns e h ns e (h++[o]):=⟨by rw[List.length_append];omega,λ_ _ q _=>mq q,λ_ _ q=>.inl q,λ_ _ q _=>⟨q,rfl⟩,λ_ _ q _=>⟨q,rfl⟩,λ_ _ q=>⟨_,q,rfl⟩,λ_ _ q=>⟨_,q,rfl⟩⟩
end
end L3
namespace L3
open PySem PySem.Spec PyProof.Rows L2
section
variable {X:Nat->Prop}{h0:Nat}{ns ns':Ns}{e e':E3}{ae:AE}{h h' hs:AH}
theorem bX {α:Type}{l:List α}{i j:Nat}{a b:α} (hi:i < l.length) (q:(l.set i a)[j]?=some b):(j=i/\b=a)\/(j ≠ i/\l[j]?=some b):=by
 rw[List.getElem?_set] at q
 by_cases z:i=j
 ·subst z
  rw[if_pos rfl,if_pos hi] at q
  exact .inl ⟨rfl,(Option.some.inj q).symm⟩
 ·rw[if_neg z] at q
  exact .inr ⟨λy=>z y.symm,q⟩
theorem cz {α:Type}{l:List α}{i:Nat}{a:α} (hi:i < l.length):(l.set i a)[i]?=some a:=by rw[List.getElem?_set,if_pos rfl,if_pos hi]
theorem bS {α:Type}{l:List α}{i j:Nat}{a:α} (hi:j ≠ i):(l.set i a)[j]?=l[j]?:=by rw[List.getElem?_set_ne (λy=>hi y.symm)]
theorem gb {i n:Nat} (p:Oc X ns n):Oc X (ns.set i none) n:=⟨p.1,λz=>by
 rcases List.mem_or_eq_of_mem_set z with z | z
 ·exact p.2 z
 ·cases z⟩
theorem Sat.putN (S:Sat X h0 ns e ae h) {i:Nat} (hi:i < e.length) {s:Sl}{d:Option D} (q:SlR (Oc X (ns.set i none)) h0 (some none) (some d) h s):Sat X h0 (ns.set i none) (e.set i s) (ae.set i d) h:=by
 have hn:i < ns.length:=by rw[S.l2];exact hi
 have ha:i < ae.length:=by rw[S.l1];exact hi
 refine⟨by rw[List.length_set,List.length_set];exact S.l1,by rw[List.length_set,List.length_set];exact S.l2,S.lh,S.xl,λj k n q1 q2=>?_,λj n q1=>?_,λj s' q1=>?_⟩
 ·rcases bX hn q1 with ⟨_,z⟩ | ⟨_,z⟩
  ·cases z
  rcases bX hn q2 with ⟨_,y⟩ | ⟨_,y⟩
  ·cases y
  exact S.inj j k n z y
 ·rcases bX hn q1 with ⟨_,z⟩ | ⟨_,z⟩
  ·cases z
  exact S.nx j n z
 ·rcases bX hi q1 with ⟨rfl,rfl⟩ | ⟨z,q2⟩
  ·rw[cz hn,cz ha];exact q
  ·rw[bS z,bS z]
   exact (S.sl j s' q2).mono (λn o p q=>⟨gb p,q⟩) λ_ _ _ q=>q
theorem Sat.putN' (S:Sat X h0 ns e ae h) {i:Nat} (hi:i < e.length) {s:Sl} (q:SlR (Oc X (ns.set i none)) h0 (some none) (ae[i]?) h s):Sat X h0 (ns.set i none) (e.set i s) ae h:=by
 have ha:i < ae.length:=by rw[S.l1];exact hi
 have:=S.putN hi (s:=s) (d:=ae[i]) (by rw[List.getElem?_eq_getElem ha] at q;exact q)
 rw[List.set_getElem_self] at this
 exact this
theorem Sat.putO {n:Nat}{o:Ob}{v:Val} (S:Sat (Xn X n) h0 ns e ae h) (hx:¬ X n) {i:Nat} (hi:i < e.length) (hn0:h0<=n) (eo:h[n]?=some o) (hf:cL o) (r:Rc (Oc (Xn X n) ns) h o v):Sat X h0 (ns.set i (some n)) (e.set i (.ow v)) (ae.set i (some (.ref n))) h:=by
 have hn:i < ns.length:=by rw[S.l2];exact hi
 have ha:i < ae.length:=by rw[S.l1];exact hi
 have nn:∀ j:Nat,ns[j]? ≠ some (some n):=λj q=>S.nx j n q (.inr rfl)
 have mv:Mov (Oc (Xn X n) ns) (Oc X (ns.set i (some n))) h h:=λm o' p q=>⟨⟨λz=>p.1 (.inl z),λz=>by
  rcases List.mem_or_eq_of_mem_set z with z | z
  ·exact p.2 z
  ·cases z;exact p.1 (.inr rfl)⟩,q⟩
 refine⟨by rw[List.length_set,List.length_set];exact S.l1,by rw[List.length_set,List.length_set];exact S.l2,S.lh,λm z=>S.xl m (.inl z),λj k m q1 q2=>?_,λj m q1 z=>?_,λj s' q1=>?_⟩
 ·rcases bX hn q1 with ⟨z1,z⟩ | ⟨z1,z⟩ <;> rcases bX hn q2 with ⟨y1,y⟩ | ⟨y1,y⟩
  ·rw[z1,y1]
  ·cases z;exact absurd y (nn k)
  ·cases y;exact absurd z (nn j)
  ·exact S.inj j k m z y
 ·rcases bX hn q1 with ⟨_,y⟩ | ⟨_,y⟩
  ·cases y;exact hx z
  ·exact S.nx j m y (.inl z)
 ·rcases bX hi q1 with ⟨rfl,rfl⟩ | ⟨z,q2⟩
  ·rw[cz hn,cz ha];exact⟨n,o,rfl,rfl,hn0,eo,hf,r.mono mv⟩
  ·rw[bS z,bS z]
   exact (S.sl j s' q2).mono mv λ_ _ _ q=>q
def Sl.pl:Sl->Bool
 | .no=>true
 | .sh _=>true
 | .ow _=>true
 | _=>false
theorem Stp.put {ns0:Ns}{e0:E3} (A:Stp ns0 e0 hs ns e h) {i:Nat} (hi:i < e.length) {x:Option Nat} (hx:∀ n,x=some n->hs.length<=n) {s s0:Sl} (q0:e[i]?=some s0) (p0:s0.pl=true) (p:s.pl=true) (l2:ns.length=e.length):Stp ns0 e0 hs (ns.set i x) (e.set i s) h:=by
 have hn:i < ns.length:=by rw[l2];exact hi
 refine⟨A.len,A.keep,λj n q=>?_,λj s' q hl=>?_,λj s' q hl=>?_,λj v q=>?_,λj v q=>?_⟩
 ·rcases bX hn q with ⟨_,z⟩ | ⟨_,z⟩
  ·exact .inr (hx n z.symm)
  ·exact A.nw j n z
 ·obtain⟨q1,q2⟩:=A.lk j s' q hl
  have z:j ≠ i:=λz=>by
   subst z
   rw[q0] at q1;cases q1
   cases s0 <;> first | cases p0;done | cases hl;done
  rw[bS z,bS z];exact⟨q1,q2⟩
 ·rcases bX hi q with ⟨_,z⟩ | ⟨z,q1⟩
  ·subst z;cases s' <;> first | cases p;done | cases hl;done
  ·rw[bS z];exact A.lk' j s' q1 hl
 ·rcases bX hi q with ⟨_,z⟩ | ⟨z,q1⟩
  ·subst z;cases p
  ·rw[bS z];exact A.mu j v q1
 ·obtain⟨u,q1,q2⟩:=A.mu' j v q
  have z:j ≠ i:=λz=>by
   subst z
   rw[q0] at q1;cases q1;cases p0
  exact⟨u,by rw[bS z];exact q1,by rw[bS z];exact q2⟩
end
inductive Tm where
 | val (v:Val) | new (v:Val) | bor (i:Nat)
inductive R3 (α:Type) where
 | ok (a:α) (e:E3) | exc (c:Str) (e:E3) | stuck
def R3.bind {α β:Type} (r:R3 α) (f:α->E3->R3 β):R3 β:=match r with
 | .ok a e=>f a e
 | .exc c e=>.exc c e
 | .stuck=>.stuck
abbrev ME3:=E3->R3 Tm
abbrev MT3:=E3->R3 Bool
abbrev MA3:=E3->R3 (List Tm)
def Po {δ α:Type} (X:Nat->Prop) (h0:Nat) (ns:Ns) (e:E3) (ae:AE) (h:AH) (rel:Ns->E3->AH->δ->α->Prop) (r2:R δ):R3 α->Prop
 | .stuck=>True
 | .ok t e'=>∃ d h' ns',r2=.ok d h'/\Stp ns e h ns' e' h'/\Sat X h0 ns' e' ae h'/\rel ns' e' h' d t
 | .exc c e'=>∃ h' ns',r2=.exc c h'/\Stp ns e h ns' e' h'/\Sat X h0 ns' e' ae h'
def relE (X:Nat->Prop) (h0 L:Nat) (ae:AE) (ns:Ns) (e:E3) (h:AH) (d:D):Tm->Prop
 | .val v=>Rd (Oc X ns) h d v
 | .new v=>∃ n o,d=.ref n/\L<=n/\¬ X n/\h[n]?=some o/\cL o/\Sat (Xn X n) h0 ns e ae h/\Rc (Oc (Xn X n) ns) h o v
 | .bor i=>ae[i]?=some (some d)
def relT (_:Ns) (_:E3) (_:AH) (b c:Bool):Prop:=b=c
inductive TsR (X:Nat->Prop) (ns:Ns) (ae:AE) (h:AH):List D->List Tm->Prop where
 | nil:TsR X ns ae h [] []
 | val {d:D}{v:Val}{ds:List D}{ts:List Tm} (r:Rd (Oc X ns) h d v) (rr:TsR X ns ae h ds ts):TsR X ns ae h (d :: ds) (.val v :: ts)
 | bor {d:D}{i:Nat}{ds:List D}{ts:List Tm} (q:ae[i]?=some (some d)) (rr:TsR X ns ae h ds ts):TsR X ns ae h (d :: ds) (.bor i :: ts)
def relA (X:Nat->Prop) (ae:AE) (ns:Ns) (_:E3) (h:AH) (ds:List D) (ts:List Tm):Prop:=TsR X ns ae h ds ts
def RE (F:ME) (G:ME3):Prop:=∀ X h0 L ns e ae h,Sat X h0 ns e ae h->L<=h.length->Po X h0 ns e ae h (relE X h0 L ae) (F ae h) (G e)
def RT (F:MT) (G:MT3):Prop:=∀ X h0 ns e ae h,Sat X h0 ns e ae h->Po X h0 ns e ae h relT (F ae h) (G e)
def RA (F:MA) (G:MA3):Prop:=∀ X h0 ns e ae h,Sat X h0 ns e ae h->Po X h0 ns e ae h (relA X ae) (F ae h) (G e)
section
variable {X:Nat->Prop}{h0 L:Nat}{ns ns':Ns}{e e':E3}{ae:AE}{h h':AH}
theorem Po.bind {δ δ' α α':Type}{rel:Ns->E3->AH->δ->α->Prop}{rel':Ns->E3->AH->δ'->α'->Prop}{r2:R δ}{r3:R3 α}{f2:δ->AH->R δ'}{f3:α->E3->R3 α'} (S:Sat X h0 ns e ae h) (p:Po X h0 ns e ae h rel r2 r3)
 (k:∀ d t h' ns' e',Stp ns e h ns' e' h'->Sat X h0 ns' e' ae h'->rel ns' e' h' d t->Po X h0 ns' e' ae h' rel' (f2 d h') (f3 t e')):Po X h0 ns e ae h rel' (r2.bind f2) (r3.bind f3):=by
 cases r3 with
 | stuck=>trivial
 | exc c e'=>obtain⟨h',ns',q,q1,q2⟩:=p;subst q;exact⟨h',ns',rfl,q1,q2⟩
 |
  ok t e'=>
  obtain⟨d,h',ns',q,q1,q2,q3⟩:=p
  subst q
  have:=k d t h' ns' e' q1 q2 q3
  show Po X h0 ns e ae h rel' (f2 d h') (f3 t e')
  generalize f3 t e'=r at *
  cases r with
  | stuck=>trivial
  | exc c e2=>obtain⟨h2,dl,y,y1,y2⟩:=this;exact⟨h2,dl,y,q1.trans S y1,y2⟩
  | ok t2 e2=>obtain⟨d2,h2,dl,y,y1,y2,y3⟩:=this;exact⟨d2,h2,dl,y,q1.trans S y1,y2,y3⟩
theorem Po.ret {δ α:Type}{rel:Ns->E3->AH->δ->α->Prop}{d:δ}{t:α} (S:Sat X h0 ns e ae h) (q:rel ns e h d t):Po X h0 ns e ae h rel (.ok d h) (.ok t e):=⟨d,h,ns,rfl,.refl,S,q⟩
theorem TsR.stp {ds:List D}{ts:List Tm} (S:Sat X h0 ns e ae h) (a:Stp ns e h ns' e' h') (r:TsR X ns ae h ds ts):TsR X ns' ae h' ds ts:=by
 induction r with
 | nil=>exact .nil
 | val r _ ih=>exact .val (r.mono (a.mov S)) ih
 | bor q _ ih=>exact .bor q ih
def rs (e:E3):Tm->Option Val
 | .val v=>some v
 | .new v=>some v
 | .bor i=>(e[i]?).bind Sl.val
theorem Sat.bor (S:Sat X h0 ns e ae h) {i:Nat}{d:D}{v:Val} (q:ae[i]?=some (some d)) (r:(e[i]?).bind Sl.val=some v):ShR (Oc X ns) h d v:=by
 cases z:e[i]? with
 | none=>rw[z] at r;cases r
 |
  some s=>
  rw[z] at r
  have y:=S.sl i s z
  rw[q] at y
  have r':s.val=some v:=r
  cases s with
  | no=>cases r'
  | sh u=>cases r';obtain⟨_,x,e1,e2⟩:=y;cases e1;exact .inl e2
  | ow u=>cases r';obtain⟨m,o,_,e2,_,e3,_,e4⟩:=y;cases e2;exact .inr ⟨m,o,rfl,e3,e4⟩
  | lo u=>cases r';obtain⟨m,o,_,e2,_,e3,_,e4⟩:=y;cases e2;exact .inr ⟨m,o,rfl,e3,e4⟩
  | mu u=>cases r';obtain⟨m,o,_,e2,e3,_,e4⟩:=y;cases e2;exact .inr ⟨m,o,rfl,e3,e4⟩
  | lm u=>cases r';obtain⟨m,o,_,e2,e3,_,e4⟩:=y;cases e2;exact .inr ⟨m,o,rfl,e3,e4⟩
theorem relE.new {d:D}{v:Val} (r:relE X h0 L ae ns e h d (.new v)):Rd (Oc X ns) h d v:=by
 obtain⟨n,o,rfl,_,hx,eo,_,S,rc⟩:=r
 exact .cell ⟨hx,λz=>by obtain⟨i,z⟩:=bK.mp z;exact S.nx i n z (.inr rfl)⟩ eo (rc.mono λm o p q=>⟨⟨λz=>p.1 (.inl z),p.2⟩,q⟩)
theorem relE.sh {d:D}{t:Tm}{v:Val} (S:Sat X h0 ns e ae h) (r:relE X h0 L ae ns e h d t) (q:rs e t=some v):ShR (Oc X ns) h d v:=by
 cases t with
 | val u=>cases q;exact .inl r
 | new u=>cases q;exact .inl r.new
 | bor i=>exact S.bor r q
theorem relE.stp {d:D}{t:Tm} (S:Sat X h0 ns e ae h) (a:Stp ns e h ns' e' h') (r:relE X h0 L ae ns e h d t) (hn:∀ v,t ≠ .new v):relE X h0 L ae ns' e' h' d t:=by
 cases t with
 | val u=>exact Rd.mono (a.mov S) r
 | new u=>exact absurd rfl (hn u)
 | bor i=>exact r
def Tm.drop:Tm->Tm
 | .new v=>.val v
 | t=>t
theorem relE.drop {d:D}{t:Tm} (r:relE X h0 L ae ns e h d t):relE X h0 L ae ns e h d t.drop/\∀ v,t.drop ≠ .new v:=by
 cases t with
 | val u=>exact⟨r,λ_ z=>nomatch z⟩
 | new u=>exact⟨r.new,λ_ z=>nomatch z⟩
 | bor i=>exact⟨r,λ_ z=>nomatch z⟩
def rss (e:E3):List Tm->Option (List Val)
 | []=>some []
 | t :: ts=>match rs e t,rss e ts with
  | some v,some vs=>some (v :: vs)
  | _,_=>none
theorem TsR.sh {ds:List D}{ts:List Tm}{vs:List Val} (S:Sat X h0 ns e ae h) (r:TsR X ns ae h ds ts) (q:rss e ts=some vs):ShRs (Oc X ns) h ds vs:=by
 induction r generalizing vs with
 | nil=>cases q;exact .nil
 |
  val r _ ih=>
  unfold rss at q
  split at q
  ·rename_i e1 e2;cases q;cases e1;exact .cons (.inl r) (ih e2)
  ·cases q
 |
  bor q' _ ih=>
  unfold rss at q
  split at q
  ·rename_i e1 e2;cases q;exact .cons (S.bor q' e1) (ih e2)
  ·cases q
end
inductive Bv where
 | val (v:Val) | new (v:Val) | stuck
def BvR (P:Nat->Prop) (h:AH) (r:R D):Bv->Prop
 | .val v=>∃ d,r=.ok d h/\Rd P h d v
 | .new v=>∃ o,r=.ok (.ref h.length) (h++[o])/\cL o/\Rc P h o v
 | .stuck=>True
def Bv.at (b:Bv) (e:E3):R3 Tm:=match b with
 | .val v=>.ok (.val v) e
 | .new v=>.ok (.new v) e
 | .stuck=>.stuck
theorem BvR.po {X:Nat->Prop}{h0 L:Nat}{ns:Ns}{e:E3}{ae:AE}{h:AH}{r:R D}{b:Bv} (S:Sat X h0 ns e ae h) (hl:L<=h.length) (q:BvR (Oc X ns) h r b):Po X h0 ns e ae h (relE X h0 L ae) r (b.at e):=by
 cases b with
 | stuck=>trivial
 | val v=>obtain⟨d,rfl,r⟩:=q;exact Po.ret S r
 |
  new v=>
  obtain⟨o,rfl,hf,r⟩:=q
  have S':=S.grow o
  refine⟨_,_,ns,rfl,.grow o,S'.weak λn z=>.inl z,h.length,o,rfl,hl,λz=>?_,uX,hf,S',r.mono λn o' p q=>⟨⟨λz=>?_,p.2⟩,mq q⟩⟩
  ·have:=S.xl _ z;omega
  ·rcases z with z | z
   ·exact p.1 z
   ·have:=da q;omega
def RU (g2:D->AH->R D) (g3:Val->Bv):Prop:=∀ P h d v,ShR P h d v->BvR P h (g2 d h) (g3 v)
def RO (g2:D->D->AH->R D) (g3:Val->Val->Bv):Prop:=∀ P h d1 d2 v1 v2,ShR P h d1 v1->ShR P h d2 v2->BvR P h (g2 d1 d2 h) (g3 v1 v2)
def RFn (g2:Fn) (g3:List Val->Bv):Prop:=∀ P h ds vs,ShRs P h ds vs->BvR P h (g2 ds h) (g3 vs)
def zw (i:Nat):ME3:=λe=>match e[i]? with
 | some (.sh v)=>.ok (.val v) e
 | some .no=>.stuck
 | some _=>.ok (.bor i) e
 | none=>.stuck
def vC (v:Val):ME3:=λe=>.ok (.val v) e
def vUn (g:Val->Bv) (F:ME3):ME3:=λe=>(F e).bind λt e1=>match rs e1 t with
 | some v=>(g v).at e1
 | none=>.stuck
def vOp (g:Val->Val->Bv) (F G:ME3):ME3:=λe=>(F e).bind λt1 e1=>(G e1).bind λt2 e2=>match rs e2 t1.drop,rs e2 t2 with
 | some v1,some v2=>(g v1 v2).at e2
 | _,_=>.stuck
def vNil:MA3:=λe=>.ok [] e
def BF (F:ME3) (A:MA3):MA3:=λe=>(F e).bind λt e1=>(A e1).bind λts e2=>.ok (t.drop :: ts) e2
def vFn (g:List Val->Bv) (A:MA3):ME3:=λe=>(A e).bind λts e1=>match rss e1 ts with
 | some vs=>(g vs).at e1
 | none=>.stuck
def cM (e:E3):Tm->Option (E3×Val)
 | .val v=>some (e,v)
 | .new v=>some (e,v)
 | .bor i=>match e[i]? with
  | some (.sh v)=>some (e,v)
  | some (.ow v)=>some (e.set i (.sh v),v)
  | _=>none
def dem (e:E3):List Tm->Option (E3×List Val)
 | []=>some (e,[])
 | t :: ts=>match cM e t with
  | some (e1,v)=>match dem e1 ts with
   | some (e2,vs)=>some (e2,v :: vs)
   | none=>none
  | none=>none
def vTup (A:MA3):ME3:=λe=>(A e).bind λts e1=>match dem e1 ts with
 | some (e2,vs)=>if vs.length<=16777216 then .ok (.val (.tup vs)) e2 else .stuck
 | none=>.stuck
def vLst (A:MA3):ME3:=λe=>(A e).bind λts e1=>match dem e1 ts with
 | some (e2,vs)=>if vs.length<=16777216 then .ok (.new (.lst vs)) e2 else .stuck
 | none=>.stuck
def bOf:Option Val->Option Bool
 | some (.bl b)=>some b
 | _=>none
def vAnd (F G:ME3):ME3:=λe=>(F e).bind λt e1=>match bOf (rs e1 t) with
 | some true=>G e1
 | some false=>.ok (.val (.bl false)) e1
 | none=>.stuck
def vNot (F:ME3):ME3:=λe=>(F e).bind λt e1=>match bOf (rs e1 t) with
 | some b=>.ok (.val (.bl (!b))) e1
 | none=>.stuck
def cOf (F:ME3):MT3:=λe=>(F e).bind λt e1=>match bOf (rs e1 t) with
 | some b=>.ok b e1
 | none=>.stuck
def cAn (c d:MT3):MT3:=λe=>(c e).bind λb e1=>if b=true then d e1 else .ok false e1
def cO (c d:MT3):MT3:=λe=>(c e).bind λb e1=>if b=true then .ok true e1 else d e1
def cNo (c:MT3):MT3:=λe=>(c e).bind λb e1=>.ok (!b) e1
def cY:MT3:=λe=>.ok true e
def lC:Val->Option Bool
 | .non=>some false
 | .bl b=>some b
 | .int i=>some (i != 0)
 | .tup xs=>some (!xs.isEmpty)
 | .lst xs=>some (!xs.isEmpty)
 | .kl xs=>some (!xs.isEmpty)
 | _=>none
def cTr (F:ME3):MT3:=λe=>(F e).bind λt e1=>match (rs e1 t).bind lC with
 | some b=>.ok b e1
 | none=>.stuck
section
variable {F G:ME}{F3 G3:ME3}{A:MA}{A3:MA3}{c d:MT}{c3 d3:MT3}
theorem HK (i:Nat):RE (eE i) (zw i):=λX h0 L ns e ae h S hl=>by
 unfold zw
 cases q:e[i]? with
 | none=>trivial
 |
  some s=>
  have y:=S.sl i s q
  cases s with
  | no=>trivial
  | sh v=>obtain⟨_,x,e1,e2⟩:=y;unfold eE;rw[e1];exact Po.ret S e2
  | ow v=>obtain⟨m,o,_,e2,_⟩:=y;unfold eE;rw[e2];exact Po.ret S e2
  | lo v=>obtain⟨m,o,_,e2,_⟩:=y;unfold eE;rw[e2];exact Po.ret S e2
  | mu v=>obtain⟨m,o,_,e2,_⟩:=y;unfold eE;rw[e2];exact Po.ret S e2
  | lm v=>obtain⟨m,o,_,e2,_⟩:=y;unfold eE;rw[e2];exact Po.ret S e2
theorem ng {d:D}{v:Val} (r:∀ P h,Rd P h d v):RE (eC d) (vC v):=λX h0 L ns e ae h S hl=>Po.ret S (r _ _)
theorem Kb {g:D->AH->R D}{g3:Val->Bv} (hg:RU g g3) (hF:RE F F3):RE (eUn g F) (vUn g3 F3):=λX h0 L ns e ae h S hl=>
 Po.bind S (hF X h0 L ns e ae h S hl) λd t h1 ns1 e1 a1 S1 r1=>by
  try dsimp only
  split
  ·rename_i v q
   exact BvR.po S1 (Nat.le_trans hl a1.len) (hg _ _ _ _ (r1.sh S1 q))
  ·trivial
theorem JX {g:D->D->AH->R D}{g3:Val->Val->Bv} (hg:RO g g3) (hF:RE F F3) (hG:RE G G3):RE (eOp g F G) (vOp g3 F3 G3):=λX h0 L ns e ae h S hl=>
 Po.bind S (hF X h0 L ns e ae h S hl) λd1 t1 h1 ns1 e1 a1 S1 r1=>Po.bind S1 (hG X h0 L ns1 e1 ae h1 S1 (Nat.le_trans hl a1.len)) λd2 t2 h2 dl e2 a2 S2 r2=>by
  try dsimp only
  split
  ·rename_i v1 v2 q1 q2
   obtain⟨r1',hn⟩:=r1.drop
   exact BvR.po S2 (Nat.le_trans hl (Nat.le_trans a1.len a2.len)) (hg _ _ _ _ _ _ ((r1'.stp S1 a2 hn).sh S2 q1) (r2.sh S2 q2))
  ·trivial
theorem Gu:RA nr vNil:=λX h0 ns e ae h S=>Po.ret S .nil
theorem C8 (hF:RE F F3) (hA:RA A A3):RA (jV F A) (BF F3 A3):=λX h0 ns e ae h S=>
 Po.bind S (hF X h0 0 ns e ae h S (Nat.zero_le _)) λd1 t1 h1 ns1 e1 a1 S1 r1=>Po.bind S1 (hA X h0 ns1 e1 ae h1 S1) λds ts h2 dl e2 a2 S2 r2=>by
  obtain⟨r1',hn⟩:=r1.drop
  have r3:=r1'.stp S1 a2 hn
  refine Po.ret S2 ?_
  show TsR X dl ae h2 (d1 :: ds) (t1.drop :: ts)
  generalize t1.drop=t at *
  cases t with
  | val v=>exact .val r3 r2
  | new v=>exact absurd rfl (hn v)
  | bor i=>exact .bor r3 r2
theorem KA {g:Fn}{g3:List Val->Bv} (hg:RFn g g3) (hA:RA A A3):RE (eFn g A) (vFn g3 A3):=λX h0 L ns e ae h S hl=>
 Po.bind S (hA X h0 ns e ae h S) λds ts h1 ns1 e1 a1 S1 r1=>by
  try dsimp only
  split
  ·rename_i vs q
   exact BvR.po S1 (Nat.le_trans hl a1.len) (hg _ _ _ _ (TsR.sh S1 r1 q))
  ·trivial
theorem Fe {X:Nat->Prop}{h0:Nat}{ns:Ns}{e:E3}{ae:AE}{h:AH}{i:Nat}{v:Val} (S:Sat X h0 ns e ae h) (q:e[i]?=some (.ow v)):∃ n,ae[i]?=some (some (.ref n))/\Sat X h0 (ns.set i none) (e.set i (.sh v)) ae h/\Stp ns e h (ns.set i none) (e.set i (.sh v)) h/\Rd (Oc X (ns.set i none)) h (.ref n) v:=by
 obtain⟨n,o,q1,q2,_,q3,_,q4⟩:=S.sl i _ q
 have hi:=(List.getElem?_eq_some_iff.mp q).1
 have hn:i < ns.length:=by rw[S.l2];exact hi
 have r:Rd (Oc X (ns.set i none)) h (.ref n) v:=.cell ⟨S.nx i n q1,λz=>by
  obtain⟨j,z⟩:=bK.mp z
  rcases bX hn z with ⟨_,y⟩ | ⟨y,z⟩
  ·cases y
  ·exact y (S.inj j i n z q1)⟩ q3 (q4.mono λm o p q=>⟨gb p,q⟩)
 exact⟨n,q2,S.putN' hi ⟨rfl,_,q2,r⟩,Stp.refl.put (x:=none) hi (λ_ z=>by cases z) q rfl rfl S.l2,r⟩
theorem gv {X:Nat->Prop}{h0 L:Nat}{ns:Ns}{e e':E3}{ae:AE}{h:AH}{d:D}{t:Tm}{v:Val} (S:Sat X h0 ns e ae h) (r:relE X h0 L ae ns e h d t) (q:cM e t=some (e',v)):∃ ns',Sat X h0 ns' e' ae h/\Stp ns e h ns' e' h/\Rd (Oc X ns') h d v:=by
 cases t with
 | val u=>cases q;exact⟨ns,S,.refl,r⟩
 | new u=>cases q;exact⟨ns,S,.refl,r.new⟩
 |
  bor i=>
  unfold cM at q
  dsimp only at q
  have r':ae[i]?=some (some d):=r
  split at q
  ·rename_i u q1;cases q
   obtain⟨_,x,e1,e2⟩:=S.sl i _ q1
   rw[r'] at e1;cases e1
   exact⟨ns,S,.refl,e2⟩
  ·rename_i u q1;cases q
   obtain⟨n,e1,S',a',e2⟩:=Fe S q1
   rw[r'] at e1;cases e1
   exact⟨_,S',a',e2⟩
  ·cases q
theorem jQ {X:Nat->Prop}{h0:Nat}{ae:AE}{h:AH}{ts:List Tm}:∀ {ds:List D}{vs:List Val}{ns:Ns}{e e':E3},Sat X h0 ns e ae h->TsR X ns ae h ds ts->dem e ts=some (e',vs)->∃ ns',Sat X h0 ns' e' ae h/\Stp ns e h ns' e' h/\Rds (Oc X ns') h ds vs:=by
 induction ts with
 | nil=>intro ds vs ns e e' S r q;cases r;cases q;exact⟨ns,S,.refl,.nil⟩
 |
  cons t ts ih=>
  intro ds vs ns e e' S r q
  unfold dem at q
  split at q
  ·rename_i e1 v q1
   split at q
   ·rename_i e2 vs' q2
    cases q
    have hr:∃ d ds',ds=d :: ds'/\relE X h0 0 ae ns e h d t/\TsR X ns ae h ds' ts:=by
     cases r with
     | val r rr=>exact⟨_,_,rfl,r,rr⟩
     | bor r rr=>exact⟨_,_,rfl,r,rr⟩
    obtain⟨d,ds',rfl,hr⟩:=hr
    obtain⟨ns1,S1,a1,r1⟩:=gv S hr.1 q1
    obtain⟨dl,S2,a2,r2⟩:=ih S1 (hr.2.stp S a1) q2
    exact⟨dl,S2,a1.trans S a2,.cons (r1.mono (a2.mov S1)) r2⟩
   ·cases q
  ·cases q
theorem ED (hA:RA A A3):RE (eFn nM A) (vTup A3):=λX h0 L ns e ae h S hl=>
 Po.bind S (hA X h0 ns e ae h S) λds ts h1 ns1 e1 a1 S1 r1=>by
  try dsimp only
  split
  ·rename_i e2 vs q
   split
   ·rename_i hv
    obtain⟨dl,S2,a2,r2⟩:=jQ S1 r1 q
    exact⟨.tup ds,h1,dl,by unfold nM;rw[if_pos (by rw[r2.len];exact hv)],a2,S2,.tup r2⟩
   ·trivial
  ·trivial
theorem Im (hA:RA A A3):RE (eFn dD A) (vLst A3):=λX h0 L ns e ae h S hl=>
 Po.bind S (hA X h0 ns e ae h S) λds ts h1 ns1 e1 a1 S1 r1=>by
  try dsimp only
  split
  ·rename_i e2 vs q
   split
   ·rename_i hv
    obtain⟨dl,S2,a2,r2⟩:=jQ S1 r1 q
    have p:=BvR.po (r:=dD ds h1) (b:=.new (.lst vs)) S2 (Nat.le_trans hl a1.len) ⟨.lst ds,by unfold dD;rw[if_pos (by rw[r2.len];exact hv)],trivial,.lst r2⟩
    obtain⟨d,h',ns',y,y1,y2,y3⟩:=p
    exact⟨d,h',ns',y,a2.trans S1 y1,y2,y3⟩
   ·trivial
  ·trivial
theorem nD {X:Nat->Prop}{h0 L:Nat}{ae:AE}{ns1:Ns}{e1:E3}{h1:AH}{d1:D}{t1:Tm}{b:Bool} (S1:Sat X h0 ns1 e1 ae h1) (r1:relE X h0 L ae ns1 e1 h1 d1 t1) (q:bOf (rs e1 t1)=some b):d1=.bl b:=by
 unfold bOf at q
 split at q
 ·rename_i b' q';cases q;exact (r1.sh S1 q').bl
 ·cases q
theorem Iw (hF:RE F F3) (hG:RE G G3):RE (zg F G) (vAnd F3 G3):=λX h0 L ns e ae h S hl=>
 Po.bind S (hF X h0 L ns e ae h S hl) λd1 t1 h1 ns1 e1 a1 S1 r1=>by
  try dsimp only
  split
  ·rename_i q;rw[nD S1 r1 q];exact hG X h0 L ns1 e1 ae h1 S1 (Nat.le_trans hl a1.len)
  ·rename_i q;rw[nD S1 r1 q];exact Po.ret S1 (.bl false)
  ·trivial
theorem FO (hF:RE F F3):RE (zf F) (vNot F3):=λX h0 L ns e ae h S hl=>
 Po.bind S (hF X h0 L ns e ae h S hl) λd1 t1 h1 ns1 e1 a1 S1 r1=>by
  try dsimp only
  split
  ·rename_i q;rw[nD S1 r1 q];exact Po.ret S1 (.bl _)
  ·trivial
theorem KP (hF:RE F F3):RT (tOf F) (cOf F3):=λX h0 ns e ae h S=>
 Po.bind S (hF X h0 0 ns e ae h S (Nat.zero_le _)) λd1 t1 h1 ns1 e1 a1 S1 r1=>by
  try dsimp only
  split
  ·rename_i q;rw[nD S1 r1 q];exact Po.ret S1 rfl
  ·trivial
theorem J4 (hc:RT c c3) (hd:RT d d3):RT (tAn c d) (cAn c3 d3):=λX h0 ns e ae h S=>
 Po.bind S (hc X h0 ns e ae h S) λb b' h1 ns1 e1 a1 S1 r1=>by
  cases r1
  try dsimp only
  split
  ·exact hd X h0 ns1 e1 ae h1 S1
  ·exact Po.ret S1 rfl
theorem rt_o (hc:RT c c3) (hd:RT d d3):RT (tO c d) (cO c3 d3):=λX h0 ns e ae h S=>
 Po.bind S (hc X h0 ns e ae h S) λb b' h1 ns1 e1 a1 S1 r1=>by
  cases r1
  try dsimp only
  split
  ·exact Po.ret S1 rfl
  ·exact hd X h0 ns1 e1 ae h1 S1
theorem ID (hc:RT c c3):RT (tNo c) (cNo c3):=λX h0 ns e ae h S=>
 Po.bind S (hc X h0 ns e ae h S) λb b' h1 ns1 e1 a1 S1 r1=>by
  cases r1
  exact Po.ret S1 rfl
theorem rt_y:RT tY cY:=λX h0 ns e ae h S=>Po.ret S rfl
theorem Df {P:Nat->Prop}{h:AH}{d:D}{v:Val}{b:Bool} (r:ShR P h d v) (q:lC v=some b):qT d h=.ok b h:=by
 have emp:∀ {ds:List D}{vs:List Val},Rds P h ds vs->ds.isEmpty=vs.isEmpty:=λr=>by cases r <;> rfl
 cases v with
 | non=>cases q;rw[r.non];rfl
 | bl b=>cases q;rw[r.bl];rfl
 | int i=>cases q;rw[r.int];rfl
 | tup xs=>cases q;obtain⟨ds,rfl,r2⟩:=r.tup;show R.ok (!ds.isEmpty) h=_;rw[emp r2]
 |
  lst xs=>
  cases q
  obtain⟨n,ds,rfl,_,e1,r1⟩:=r.lst
  rw[<- emp r1]
  unfold qT dN;dsimp only;rw[e1]
 |
  kl xs=>
  cases q
  obtain⟨ds,r2,rfl | ⟨n,rfl,e1⟩⟩:=r.kl
  ·show R.ok (!ds.isEmpty) h=_;rw[emp r2]
  ·rw[<- emp r2]
   unfold qT dN;dsimp only;rw[e1]
 | _=>cases q
theorem Jo (hF:RE F F3):RT (tTr F) (cTr F3):=λX h0 ns e ae h S=>
 Po.bind S (hF X h0 0 ns e ae h S (Nat.zero_le _)) λd1 t1 h1 ns1 e1 a1 S1 r1=>by
  try dsimp only
  split
  ·rename_i b q
   obtain⟨v,q1,q2⟩:=Option.bind_eq_some_iff.mp q
   rw[Df (r1.sh S1 q1) q2]
   exact Po.ret S1 rfl
  ·trivial
end
end L3
namespace L3
open PySem PySem.Spec PyProof.Rows L2
inductive Rt where
 | val (v:Val) | new (v:Val)
inductive SR3 where
 | nx (e:E3) | rt (r:Rt) (e:E3) | bk (e:E3) | ct (e:E3) | exc (c:Str) (e:E3) | stuck
abbrev MS3:=E3->SR3
def RtR (X:Nat->Prop) (h0:Nat) (ns:Ns) (e:E3) (ae:AE) (h:AH) (d:D):Rt->Prop
 | .val v=>Sat X h0 ns e ae h/\Rd (Oc X ns) h d v
 | .new v=>∃ n o,d=.ref n/\h0<=n/\¬ X n/\h[n]?=some o/\cL o/\Sat (Xn X n) h0 ns e ae h/\Rc (Oc (Xn X n) ns) h o v
def PoS (X:Nat->Prop) (h0:Nat) (ns:Ns) (e:E3) (h:AH) (r2:SR):SR3->Prop
 | .stuck=>True
 | .nx e'=>∃ am h' ns',r2=.nx am h'/\Stp ns e h ns' e' h'/\Sat X h0 ns' e' am h'
 | .bk e'=>∃ am h' ns',r2=.bk am h'/\Stp ns e h ns' e' h'/\Sat X h0 ns' e' am h'
 | .ct e'=>∃ am h' ns',r2=.ct am h'/\Stp ns e h ns' e' h'/\Sat X h0 ns' e' am h'
 | .exc c e'=>∃ am h' ns',r2=.exc c am h'/\Stp ns e h ns' e' h'/\Sat X h0 ns' e' am h'
 | .rt r e'=>∃ d am h' ns',r2=.rt d h'/\Stp ns e h ns' e' h'/\RtR X h0 ns' e' am h' d r
def RS (F:MS) (G:MS3):Prop:=∀ X h0 ns e ae h,Sat X h0 ns e ae h->PoS X h0 ns e h (F ae h) (G e)
def R3.toS {α:Type} (r:R3 α) (f:α->E3->SR3):SR3:=match r with
 | .ok a e=>f a e
 | .exc c e=>.exc c e
 | .stuck=>.stuck
def SR3.then (r:SR3) (f:E3->SR3):SR3:=match r with
 | .nx e=>f e
 | r=>r
section
variable {X:Nat->Prop}{h0 L:Nat}{ns ns1 ns':Ns}{e e1 e':E3}{ae:AE}{h h1 h':AH}
theorem PoS.after {r2:SR}{r3:SR3} (S:Sat X h0 ns e ae h) (a:Stp ns e h ns1 e1 h1) (p:PoS X h0 ns1 e1 h1 r2 r3):PoS X h0 ns e h r2 r3:=by
 cases r3 with
 | stuck=>trivial
 | nx e'=>obtain⟨am,h',ns',q,q1,q2⟩:=p;exact⟨am,h',ns',q,a.trans S q1,q2⟩
 | bk e'=>obtain⟨am,h',ns',q,q1,q2⟩:=p;exact⟨am,h',ns',q,a.trans S q1,q2⟩
 | ct e'=>obtain⟨am,h',ns',q,q1,q2⟩:=p;exact⟨am,h',ns',q,a.trans S q1,q2⟩
 | exc c e'=>obtain⟨am,h',ns',q,q1,q2⟩:=p;exact⟨am,h',ns',q,a.trans S q1,q2⟩
 | rt r e'=>obtain⟨d,am,h',ns',q,q1,q2⟩:=p;exact⟨d,am,h',ns',q,a.trans S q1,q2⟩
theorem PoS.toS {δ α:Type}{rel:Ns->E3->AH->δ->α->Prop}{r2:R δ}{r3:R3 α}{f2:δ->AH->SR}{f3:α->E3->SR3} (p:Po X h0 ns e ae h rel r2 r3)
 (k:∀ d t h' ns' e',Stp ns e h ns' e' h'->Sat X h0 ns' e' ae h'->rel ns' e' h' d t->PoS X h0 ns e h (f2 d h') (f3 t e')):PoS X h0 ns e h (r2.toS ae f2) (r3.toS f3):=by
 cases r3 with
 | stuck=>trivial
 | exc c e'=>obtain⟨h',ns',rfl,q1,q2⟩:=p;exact⟨ae,h',ns',rfl,q1,q2⟩
 | ok t e'=>obtain⟨d,h',ns',rfl,q1,q2,q3⟩:=p;exact k d t h' ns' e' q1 q2 q3
theorem PoS.nx {am:AE} (a:Stp ns e h ns' e' h') (S:Sat X h0 ns' e' am h'):PoS X h0 ns e h (.nx am h') (.nx e'):=⟨am,h',ns',rfl,a,S⟩
end
def wNx:MS3:=λe=>.nx e
def wCt:MS3:=λe=>.ct e
def wSeq (F G:MS3):MS3:=λe=>(F e).then G
def BM (F:ME3):MS3:=λe=>(F e).toS λ_ e1=>.nx e1
def wIf (c:MT3) (F G:MS3):MS3:=λe=>(c e).toS λb e1=>if b=true then F e1 else G e1
def oy (t:Tm) (e:E3):SR3:=match t with
 | .val v=>.rt (.val v) e
 | .new v=>.rt (.new v) e
 | .bor i=>match e[i]? with
  | some (.sh v)=>.rt (.val v) e
  | some (.ow v)=>.rt (.new v) (e.set i .no)
  | _=>.stuck
def wRet (F:ME3):MS3:=λe=>(F e).toS oy
def jC (o:Bool) (i:Nat) (t:Tm) (e:E3):SR3:=match e[i]? with
 | some s0=>if s0.pl=true then (match t with
  | .val v=>.nx (e.set i (.sh v))
  | .new v=>.nx (e.set i (if o=true then .ow v else .sh v))
  | .bor j=>match cM e (.bor j) with
   | some (e2,v)=>.nx (e2.set i (.sh v))
   | none=>.stuck) else .stuck
 | none=>.stuck
def wAsg (o:Bool) (i:Nat) (F:ME3):MS3:=λe=>(F e).toS (jC o i)
abbrev MG3:=Val->E3->Option E3
abbrev ki:=List Val->E3->Option E3
def pN (i:Nat):MG3:=λv e=>match e[i]? with
 | some s=>if s.pl=true then some (e.set i (.sh v)) else none
 | none=>none
def psN:ki:=λvs e=>match vs with
 | []=>some e
 | _=>none
def psC (g:MG3) (u:ki):ki:=λvs e=>match vs with
 | v :: r=>(g v e).bind λe1=>u r e1
 | []=>none
def pT (n:Nat) (u:ki):MG3:=λv e=>match v with
 | .tup vs=>if vs.length=n then u vs e else none
 | _=>none
def BG (F:ME3) (g:MG3):MS3:=λe=>(F e).toS λt e1=>match cM e1 t with
 | some (e2,v)=>match g v e2 with
  | some e3=>.nx e3
  | none=>.stuck
 | none=>.stuck
def wPar (i j:Nat) (A:MA3):MS3:=λe=>(A e).toS λts e1=>match dem e1 ts with
 | some (e2,[v,u])=>match (pN i v e2).bind (pN j u) with
  | some e3=>.nx e3
  | none=>.stuck
 | _=>.stuck
def Bq (i:Nat) (g:Val->Val->Bv) (F:ME3):MS3:=λe=>match e[i]? with
 | some (.sh x)=>(F e).toS λt e1=>match rs e1 t with
  | some y=>match g x y with
   | .val z=>match pN i z e1 with
    | some e2=>.nx e2
    | none=>.stuck
   | _=>.stuck
  | none=>.stuck
 | _=>.stuck
def yq (c:Str) (A:MA3):MS3:=λe=>(A e).toS λts e1=>if ts.length<=16777216 then .exc c e1 else .stuck
def RG (g2:MG) (g3:MG3):Prop:=∀ X h0 ns e ae h d v e',Sat X h0 ns e ae h->Rd (Oc X ns) h d v->g3 v e=some e'->∃ am ns',g2 d ae h=.ok am h/\Sat X h0 ns' e' am h/\Stp ns e h ns' e' h
def RGs (g2:MGs) (g3:ki):Prop:=∀ X h0 ns e ae h ds vs e',Sat X h0 ns e ae h->Rds (Oc X ns) h ds vs->g3 vs e=some e'->∃ am ns',g2 ds ae h=.ok am h/\Sat X h0 ns' e' am h/\Stp ns e h ns' e' h
section
variable {F G:ME}{F3 G3:ME3}{A:MA}{A3:MA3}{c d:MT}{c3 d3:MT3}{U V:MS}{U3 V3:MS3}{g:MG}{g3:MG3}{gs:MGs}{gs3:ki}
theorem Jg:RS sNx wNx:=λX h0 ns e ae h S=>.nx .refl S
theorem KI:RS sCt wCt:=λX h0 ns e ae h S=>⟨ae,h,ns,rfl,.refl,S⟩
theorem E7 (hU:RS U U3) (hV:RS V V3):RS (Aq U V) (wSeq U3 V3):=λX h0 ns e ae h S=>by
 have p:=hU X h0 ns e ae h S
 show PoS X h0 ns e h ((U ae h).then V) ((U3 e).then V3)
 generalize U3 e=r at *
 cases r with
 | stuck=>trivial
 | nx e'=>obtain⟨am,h',ns',q,q1,q2⟩:=p;rw[q];exact PoS.after S q1 (hV X h0 ns' e' am h' q2)
 | bk e'=>obtain⟨am,h',ns',q,q1,q2⟩:=p;rw[q];exact⟨am,h',ns',rfl,q1,q2⟩
 | ct e'=>obtain⟨am,h',ns',q,q1,q2⟩:=p;rw[q];exact⟨am,h',ns',rfl,q1,q2⟩
 | exc c e'=>obtain⟨am,h',ns',q,q1,q2⟩:=p;rw[q];exact⟨am,h',ns',rfl,q1,q2⟩
 | rt r e'=>obtain⟨d,am,h',ns',q,q1,q2⟩:=p;rw[q];exact⟨d,am,h',ns',rfl,q1,q2⟩
theorem DY (hF:RE F F3):RS (wH F) (BM F3):=λX h0 ns e ae h S=>PoS.toS (hF X h0 0 ns e ae h S (Nat.zero_le _)) λd t h1 ns1 e1 a1 S1 r1=>.nx a1 S1
theorem IK (hc:RT c c3) (hU:RS U U3) (hV:RS V V3):RS (sIf c U V) (wIf c3 U3 V3):=λX h0 ns e ae h S=>PoS.toS (hc X h0 ns e ae h S) λb b' h1 ns1 e1 a1 S1 r1=>by
 cases r1
 try dsimp only
 split
 ·exact PoS.after S a1 (hU X h0 ns1 e1 ae h1 S1)
 ·exact PoS.after S a1 (hV X h0 ns1 e1 ae h1 S1)
theorem Gx (hF:RE F F3):RS (Au F) (wRet F3):=λX h0 ns e ae h S=>PoS.toS (hF X h0 h0 ns e ae h S S.lh) λd t h1 ns1 e1 a1 S1 r1=>by
 cases t with
 | val v=>exact⟨d,ae,h1,ns1,rfl,a1,S1,r1⟩
 | new v=>obtain⟨n,o,q⟩:=r1;exact⟨d,ae,h1,ns1,rfl,a1,n,o,q⟩
 |
  bor i=>
  unfold oy
  dsimp only
  have r':ae[i]?=some (some d):=r1
  split
  ·rename_i v q
   obtain⟨_,x,e1',e2⟩:=S1.sl i _ q
   rw[r'] at e1';cases e1'
   exact⟨d,ae,h1,ns1,rfl,a1,S1,e2⟩
  ·rename_i v q
   obtain⟨n,o,q1,q2,q3,q4,q5,q6⟩:=S1.sl i _ q
   rw[r'] at q2;cases q2
   have hi:=(List.getElem?_eq_some_iff.mp q).1
   have hn:i < ns1.length:=by rw[S1.l2];exact hi
   have mv:Mov (Oc X ns1) (Oc (Xn X n) (ns1.set i none)) h1 h1:=λm o' p q'=>⟨⟨λz=>by
    rcases z with z | rfl
    ·exact p.1 z
    ·exact p.2 (bK.mpr ⟨i,q1⟩),(gb p).2⟩,q'⟩
   have S2:=S1.putN' hi (s:=.no) rfl
   refine⟨.ref n,ae,h1,ns1.set i none,rfl,a1.put (x:=none) hi (λ_ z=>by cases z) q rfl rfl S1.l2,n,o,rfl,q3,S1.nx i n q1,q4,q5,⟨S2.l1,S2.l2,S2.lh,λm z=>?_,S2.inj,λj m qj z=>?_,λj s qj=>?_⟩,q6.mono mv⟩
   ·rcases z with z | rfl
    ·exact S2.xl m z
    ·exact da q4
   ·rcases z with z | rfl
    ·exact S2.nx j m qj z
    ·rcases bX hn qj with ⟨_,y⟩ | ⟨y,z⟩
     ·cases y
     ·exact y (S1.inj j i _ z q1)
   ·rcases bX hi qj with ⟨rfl,rfl⟩ | ⟨z,qj'⟩
    ·rw[cz hn];rfl
    ·rw[bS z]
     exact (S1.sl j s qj').mono mv λ_ _ _ q=>q
  ·trivial
theorem Hy (o:Bool) (i:Nat) (hF:RE F F3):RS (gp F (gN i)) (wAsg o i F3):=λX h0 ns e ae h S=>PoS.toS (hF X h0 h.length ns e ae h S (Nat.le_refl _)) λd t h1 ns1 e1 a1 S1 r1=>by
 show PoS X h0 ns e h (.nx (ae.set i (some d)) h1) (jC o i t e1)
 unfold jC
 split
 ·rename_i s0 q0
  split
  ·rename_i p0
   have hi:=(List.getElem?_eq_some_iff.mp q0).1
   cases t with
   | val v=>exact .nx (a1.put (x:=none) (s:=.sh v) hi (λ_ z=>by cases z) q0 p0 rfl S1.l2) (S1.putN hi ⟨rfl,d,rfl,Rd.mono (λm o p q=>⟨gb p,q⟩) r1⟩)
   |
    new v=>
    try dsimp only
    split
    ·obtain⟨n,ob,rfl,q1,q2,q3,q4,q5,q6⟩:=r1
     exact .nx (a1.put (x:=some n) (s:=.ow v) hi (λm z=>by cases z;exact q1) q0 p0 rfl S1.l2) (Sat.putO q5 q2 hi (Nat.le_trans S.lh q1) q3 q4 q6)
    ·exact .nx (a1.put (x:=none) (s:=.sh v) hi (λ_ z=>by cases z) q0 p0 rfl S1.l2) (S1.putN hi ⟨rfl,d,rfl,Rd.mono (λm o p q=>⟨gb p,q⟩) r1.new⟩)
   |
    bor j=>
    try dsimp only
    split
    ·rename_i e2 v q2
     obtain⟨dl,S2,a2,r2⟩:=gv S1 r1 q2
     have hq:∃ s2,e2[i]?=some s2/\s2.pl=true:=by
      unfold cM at q2
      dsimp only at q2
      split at q2
      ·cases q2;exact⟨s0,q0,p0⟩
      ·rename_i u q3
       cases q2
       by_cases z:i=j
       ·subst z;exact⟨_,cz hi,rfl⟩
       ·exact⟨s0,by rw[bS z];exact q0,p0⟩
      ·cases q2
     obtain⟨s2,hq1,hq2⟩:=hq
     have hi2:=(List.getElem?_eq_some_iff.mp hq1).1
     exact .nx ((a1.trans S a2).put (x:=none) (s:=.sh v) hi2 (λ_ z=>by cases z) hq1 hq2 rfl S2.l2) (S2.putN hi2 ⟨rfl,d,rfl,Rd.mono (λm o p q=>⟨gb p,q⟩) r2⟩)
    ·trivial
  ·trivial
 ·trivial
theorem vq (i:Nat):RG (gN i) (pN i):=λX h0 ns e ae h d v e' S r q=>by
 unfold pN at q
 split at q
 ·rename_i s q0
  split at q
  ·rename_i p0
   cases q
   have hi:=(List.getElem?_eq_some_iff.mp q0).1
   exact⟨_,ns.set i none,rfl,S.putN hi ⟨rfl,d,rfl,Rd.mono (λm o p q=>⟨gb p,q⟩) r⟩,Stp.refl.put (x:=none) (s:=.sh v) hi (λ_ z=>by cases z) q0 p0 rfl S.l2⟩
  ·cases q
 ·cases q
theorem Kv:RGs gsN psN:=λX h0 ns e ae h ds vs e' S r q=>by
 cases r with
 | nil=>cases q;exact⟨ae,ns,rfl,S,.refl⟩
 | cons _ _=>cases q
theorem Ji (hg:RG g g3) (hs:RGs gs gs3):RGs (gsC g gs) (psC g3 gs3):=λX h0 ns e ae h ds vs e' S r q=>by
 cases r with
 | nil=>cases q
 |
  cons r rr=>
  obtain⟨e1,q1,q2⟩:=Option.bind_eq_some_iff.mp q
  obtain⟨ae1,ns1,p1,S1,a1⟩:=hg _ _ _ _ _ _ _ _ _ S r q1
  obtain⟨ae2,dl,p2,S2,a2⟩:=hs _ _ _ _ _ _ _ _ _ S1 (rr.mono (a1.mov S)) q2
  refine⟨ae2,dl,?_,S2,a1.trans S a2⟩
  unfold gsC;dsimp only;rw[p1];exact p2
theorem rg_t (n:Nat) (hs:RGs gs gs3):RG (gT λds ae h=>if ds.length=n then gs ds ae h else .stuck) (pT n gs3):=λX h0 ns e ae h d v e' S r q=>by
 unfold pT at q
 split at q
 ·split at q
  ·rename_i hn
   obtain⟨ds,rfl,r2⟩:=ShR.tup (.inl r)
   obtain⟨ae1,ns1,p1,S1,a1⟩:=hs _ _ _ _ _ _ _ _ _ S r2 q
   refine⟨ae1,ns1,?_,S1,a1⟩
   unfold gT;dsimp only;rw[if_pos (by rw[r2.len];exact hn)];exact p1
  ·cases q
 ·cases q
theorem EK (hg:RG g g3):RG (λd ae h=>noX (g d ae h)) g3:=λX h0 ns e ae h d v e' S r q=>by
 obtain⟨ae1,ns1,p1,S1,a1⟩:=hg _ _ _ _ _ _ _ _ _ S r q
 exact⟨ae1,ns1,by dsimp only;rw[p1];rfl,S1,a1⟩
theorem DX (hF:RE F F3) (hg:RG g g3):RS (gp F g) (BG F3 g3):=λX h0 ns e ae h S=>PoS.toS (hF X h0 0 ns e ae h S (Nat.zero_le _)) λd t h1 ns1 e1 a1 S1 r1=>by
 try dsimp only
 split
 ·rename_i e2 v q
  obtain⟨dl,S2,a2,r2⟩:=gv S1 r1 q
  split
  ·rename_i e3 q3
   obtain⟨ae3,ns3,p3,S3,a3⟩:=hg _ _ _ _ _ _ _ _ _ S2 r2 q3
   rw[p3]
   exact .nx ((a1.trans S a2).trans S a3) S3
  ·trivial
 ·trivial
theorem FQ (i j:Nat) (hA:RA A A3):RS (tw i j A) (wPar i j A3):=λX h0 ns e ae h S=>PoS.toS (hA X h0 ns e ae h S) λds ts h1 ns1 e1 a1 S1 r1=>by
 try dsimp only
 cases q:dem e1 ts with
 | none=>trivial
 |
  some w=>
  obtain⟨e2,vs⟩:=w
  obtain⟨dl,S2,a2,r2⟩:=jQ S1 r1 q
  match vs,ds,r2 with
  | [],_,_=>trivial
  | [_],_,_=>trivial
  | _ :: _ :: _ :: _,_,_=>trivial
  |
   [v,u],[d,d'],r2=>
   dsimp only
   split
   ·rename_i e3 q3
    obtain⟨e4,q4,q5⟩:=Option.bind_eq_some_iff.mp q3
    cases r2 with
    |
     cons r rr=>
     cases rr with
     |
      cons r' rr=>
      obtain⟨ae3,ns3,p3,S3,a3⟩:=vq i _ _ _ _ _ _ _ _ _ S2 r q4
      obtain⟨ae4,ns4,p4,S4,a4⟩:=vq j _ _ _ _ _ _ _ _ _ S3 (r'.mono (a3.mov S2)) q5
      have z3:ae3=ae.set i (some d):=by have:=p3;unfold gN at this;cases this;rfl
      have z4:ae4=ae3.set j (some d'):=by have:=p4;unfold gN at this;cases this;rfl
      subst z4 z3
      exact .nx (((a1.trans S a2).trans S a3).trans S a4) S4
   ·trivial
theorem EA {gg:D->D->AH->R D}{gg3:Val->Val->Bv} (i:Nat) (hg:RO gg gg3) (hF:RE F F3):RS (rL i gg F) (Bq i gg3 F3):=λX h0 ns e ae h S=>by
 unfold Bq
 split
 ·rename_i x q0
  obtain⟨_,dx,e1,r0⟩:=S.sl i _ q0
  unfold rL
  rw[e1]
  refine PoS.toS (hF X h0 0 ns e ae h S (Nat.zero_le _)) λd t h1 ns1 e1 a1 S1 r1=>?_
  try dsimp only
  split
  ·rename_i y q1
   have b:=hg _ _ _ _ _ _ (.inl (r0.mono (a1.mov S))) (r1.sh S1 q1)
   split
   ·rename_i z q2
    rw[q2] at b
    obtain⟨dz,p1,r2⟩:=b
    split
    ·rename_i e2 q3
     rw[p1]
     obtain⟨ae3,ns3,p3,S3,a3⟩:=vq i _ _ _ _ _ _ _ _ _ S1 r2 q3
     have z3:ae3=ae.set i (some dz):=by have:=p3;unfold gN at this;cases this;rfl
     subst z3
     exact .nx (a1.trans S a3) S3
    ·trivial
   ·trivial
  ·trivial
 ·trivial
theorem TsR.len {X:Nat->Prop}{ns:Ns}{ae:AE}{h:AH}{ds:List D}{ts:List Tm} (r:TsR X ns ae h ds ts):ds.length=ts.length:=by
 induction r with
 | nil=>rfl
 | val _ _ ih=>rw[List.length_cons,List.length_cons,ih]
 | bor _ _ ih=>rw[List.length_cons,List.length_cons,ih]
theorem A6 (x:Str) (hA:RA A A3):RS (rB x A) (yq x A3):=λX h0 ns e ae h S=>PoS.toS (hA X h0 ns e ae h S) λds ts h1 ns1 e1 a1 S1 r1=>by
 try dsimp only
 by_cases hl:ts.length<=16777216
 ·rw[if_pos hl,if_pos (by rw[TsR.len r1];exact hl)]
  exact⟨ae,h1,ns1,rfl,a1,S1⟩
 ·rw[if_neg hl];trivial
end
def Sl.re (s:Sl) (u:Val):Sl:=match s with
 | .ow _=>.ow u
 | .mu _=>.mu u
 | s=>s
def Sl.mv:Sl->Option Val
 | .ow v=>some v
 | .mu v=>some v
 | _=>none
section
variable {X:Nat->Prop}{h0 L:Nat}{ns ns1 ns':Ns}{e e1 e':E3}{ae:AE}{h h1 h':AH}
theorem Sat.write (S:Sat X h0 ns e ae h) {i:Nat}{s:Sl}{u:Val} (q:e[i]?=some s) (hm:s.mv=some u):∃ n o,ae[i]?=some (some (.ref n))/\h[n]?=some o/\cL o/\Rc (Oc X ns) h o u/\
 ∀ o' u',cL o'->Rc (Oc X ns) h o' u'->Mov (Oc X ns) (Oc X ns) h (h.set n o')/\Sat X h0 ns (e.set i (s.re u')) ae (h.set n o')/\Stp ns e h ns (e.set i (s.re u')) (h.set n o'):=by
 have hi:=(List.getElem?_eq_some_iff.mp q).1
 have key:∃ n o,ns[i]?=some (some n)/\ae[i]?=some (some (.ref n))/\h[n]?=some o/\cL o/\Rc (Oc X ns) h o u/\s.mt=true/\(∀ o' u',cL o'->Rc (Oc X ns) (h.set n o') o' u'->SlR (Oc X ns) h0 (some (some n)) (some (some (.ref n))) (h.set n o') (s.re u')):=by
  have y:=S.sl i s q
  cases s with
  | ow v=>cases hm;obtain⟨n,o,q1,q2,q3,q4,q5,q6⟩:=y;exact⟨n,o,q1,q2,q4,q5,q6,rfl,λo' u' hf r=>⟨n,o',rfl,rfl,q3,cz (da q4),hf,r⟩⟩
  | mu v=>cases hm;obtain⟨n,o,q1,q2,q4,q5,q6⟩:=y;exact⟨n,o,q1,q2,q4,q5,q6,rfl,λo' u' hf r=>⟨n,o',rfl,rfl,cz (da q4),hf,r⟩⟩
  | _=>cases hm
 obtain⟨n,o,k1,k2,k3,k4,k5,k6,k7⟩:=key
 refine⟨n,o,k2,k3,k4,k5,λo' u' hf r=>?_⟩
 have mv:Mov (Oc X ns) (Oc X ns) h (h.set n o'):=λm ob p q'=>⟨p,by
  have:m ≠ n:=λz=>p.2 (bK.mpr ⟨i,by rw[z];exact k1⟩)
  rw[bS this];exact q'⟩
 refine⟨mv,⟨by rw[List.length_set];exact S.l1,by rw[List.length_set];exact S.l2,by rw[List.length_set];exact S.lh,λm z=>by rw[List.length_set];exact S.xl m z,S.inj,S.nx,λj s' qj=>?_⟩,?_⟩
 ·rcases bX hi qj with ⟨rfl,rfl⟩ | ⟨z,qj'⟩
  ·rw[k1,k2];exact k7 o' u' hf (r.mono mv)
  ·refine (S.sl j s' qj').mono mv λm ob qm qo=>?_
   have:m ≠ n:=λy=>by subst y;exact z (S.inj j i m qm k1)
   rw[bS this];exact qo
 ·refine⟨by rw[List.length_set];exact Nat.le_refl _,λm ob qm hM=>?_,λ_ _ q=>.inl q,λj s' qj hl=>?_,λj s' qj hl=>?_,λj v qj=>?_,λj v qj=>?_⟩
  ·have:m ≠ n:=λy=>by subst y;exact hM ⟨i,s,k1,q,k6⟩
   rw[bS this];exact qm
  ·have z:j ≠ i:=λz=>by subst z;rw[q] at qj;cases qj;cases s <;> first | cases hl;done | cases k6;done
   rw[bS z];exact⟨qj,rfl⟩
  ·rcases bX hi qj with ⟨_,y⟩ | ⟨z,qj'⟩
   ·subst y;cases s <;> first | cases hl;done | cases k6;done
   ·exact⟨qj',rfl⟩
  ·rcases bX hi qj with ⟨rfl,y⟩ | ⟨z,qj'⟩
   ·cases s with
    | mu w=>exact⟨w,q,rfl⟩
    | ow w=>cases y
    | _=>cases k6
   ·exact⟨v,qj',rfl⟩
  ·by_cases z:j=i
   ·subst z;rw[q] at qj;cases qj;exact⟨u',cz hi,rfl⟩
   ·exact⟨v,by rw[bS z];exact qj,rfl⟩
end
def vw (w2:D->D->D->AH->R Unit) (w3:Val->Val->Val->Option Val):Prop:=∀ P h n o u di vi d v u',¬ P n->h[n]?=some o->cL o->Rc P h o u->ShR P h di vi->Rd P h d v->w3 u vi v=some u'->∃ o',w2 (.ref n) di d h=.ok () (h.set n o')/\cL o'/\Rc P h o' u'
def wSet (i:Nat) (G:ME3) (F:ME3) (w:Val->Val->Val->Option Val):MS3:=λe=>(F e).toS λt e1=>match (e1[i]?).bind Sl.mv with
 | none=>.stuck
 | some _=>(G e1).toS λt2 e2=>match rs e2 t2 with
  | none=>.stuck
  | some vi=>match cM e2 t.drop with
   | none=>.stuck
   | some (e3,v)=>match e3[i]? with
    | none=>.stuck
    | some s=>match s.mv with
     | none=>.stuck
     | some u=>match w u vi v with
      | some u'=>.nx (e3.set i (s.re u'))
      | none=>.stuck
def RM (m2:D->List D->AH->R D) (m3:Val->List Val->Option (Val×Val)):Prop:=∀ P h n o u ds vs u' v,h[n]?=some o->cL o->Rc P h o u->Rds P h ds vs->m3 u vs=some (u',v)->lZ h (.ref n)=true/\∃ o' d,m2 (.ref n) ds h=.ok d (h.set n o')/\cL o'/\Rc P h o' u'/\Rd P h d v
def eR:Val->Bool
 | .lst _=>true
 | _=>false
def AD (i:Nat) (m:Val->List Val->Option (Val×Val)) (A:MA3):ME3:=λe=>match e[i]? with
 | some s=>if (s.mv.map eR)=some true then (A e).bind λts e1=>match dem e1 ts with
  | some (e2,vs)=>match e2[i]? with
   | some s2=>match s2.mv with
    | some u=>match m u vs with
     | some (u',v)=>.ok (.val v) (e2.set i (s2.re u'))
     | none=>.stuck
    | none=>.stuck
   | none=>.stuck
  | none=>.stuck else .stuck
 | none=>.stuck
section
variable {F G:ME}{F3 G3:ME3}{A:MA}{A3:MA3}
theorem Cp {X:Nat->Prop}{h0:Nat}{ns:Ns}{e:E3}{ae:AE}{h:AH} (S:Sat X h0 ns e ae h) {i:Nat}{u:Val} (q:(e[i]?).bind Sl.mv=some u):∃ n o,ae[i]?=some (some (.ref n))/\h[n]?=some o/\cL o/\Rc (Oc X ns) h o u:=by
 obtain⟨s,q1,q2⟩:=Option.bind_eq_some_iff.mp q
 obtain⟨n,o,k1,k2,k3,k4,_⟩:=S.write q1 q2
 exact⟨n,o,k1,k2,k3,k4⟩
theorem IA {w2:D->D->D->AH->R Unit}{w3:Val->Val->Val->Option Val} (i:Nat) (hw:vw w2 w3) (hG:RE G G3) (hF:RE F F3):RS (gp F (gS (eE i) G w2)) (wSet i G3 F3 w3):=λX h0 ns e ae h S=>PoS.toS (hF X h0 0 ns e ae h S (Nat.zero_le _)) λd t h1 ns1 e1 a1 S1 r1=>by
 try dsimp only
 cases qm:(e1[i]?).bind Sl.mv with
 | none=>trivial
 |
  some u0=>
  obtain⟨n0,o0,b1,b2,b3,b4⟩:=Cp S1 qm
  have L2e:∀ h',(gS (eE i) G w2 d ae h').toS ae (λam h2=>SR.nx am h2)=(G ae h').toS ae λdi h2=>(w2 (.ref n0) di d h2).toS ae λ_ h3=>.nx ae h3:=λh'=>by
   unfold gS eE
   rw[b1]
   simp only[iz]
   cases G ae h' with
   |
    ok di h2=>
    simp only[iz]
    show _=(w2 (.ref n0) di d h2).toS ae λ_ h3=>.nx ae h3
    cases w2 (.ref n0) di d h2 <;> rfl
   | exc c h2=>rfl
   | stuck=>rfl
  rw[L2e]
  refine PoS.after S a1 (PoS.toS (hG X h0 0 ns1 e1 ae h1 S1 (Nat.zero_le _)) λdi t2 h2 dl e2 a2 S2 r2=>?_)
  try dsimp only
  cases qi:rs e2 t2 with
  | none=>trivial
  |
   some vi=>
   try dsimp only
   cases qd:cM e2 t.drop with
   | none=>trivial
   |
    some w=>
    obtain⟨e3,v⟩:=w
    try dsimp only
    obtain⟨r1',hn⟩:=r1.drop
    have r3:=r1'.stp S1 a2 hn
    have si:=r2.sh S2 qi
    obtain⟨ns3,S3,a3,r4⟩:=gv S2 r3 qd
    have si3:ShR (Oc X ns3) h2 di vi:=by
     rcases si with z | ⟨n,o,z1,z2,z3⟩
     ·exact .inl (z.mono (a3.mov S2))
     ·exact .inr ⟨n,o,z1,z2,z3.mono (a3.mov S2)⟩
    cases q3:e3[i]? with
    | none=>trivial
    |
     some s=>
     try dsimp only
     cases q4:s.mv with
     | none=>trivial
     |
      some u=>
      try dsimp only
      cases q5:w3 u vi v with
      | none=>trivial
      |
       some u'=>
       obtain⟨n,o,k1,k2,k3,k4,k5⟩:=S3.write q3 q4
       rw[b1] at k1;cases k1
       have nP:¬ Oc X ns3 n0:=λp=>by
        have z1:=((k5 (.lst []) (.lst []) trivial (.lst .nil)).1 _ _ p k2).2
        have z2:=((k5 (.lst [.non]) (.lst [.non]) trivial (.lst (.cons .non .nil))).1 _ _ p k2).2
        rw[cz (da k2)] at z1 z2
        rw[<- z2] at z1
        cases z1
       obtain⟨o',p1,p2,p3⟩:=hw _ _ _ _ _ _ _ _ _ _ nP k2 k3 k4 si3 r4 q5
       obtain⟨mv,S4,a4⟩:=k5 o' u' p2 p3
       rw[p1]
       exact .nx ((a2.trans S1 a3).trans S1 a4) S4
theorem Il {m2:D->List D->AH->R D}{m3:Val->List Val->Option (Val×Val)} (i:Nat) (hm:RM m2 m3) (hA:RA A A3):RE (eM m2 (eE i) A) (AD i m3 A3):=λX h0 L ns e ae h S hl=>by
 unfold AD
 cases q0:e[i]? with
 | none=>trivial
 |
  some s0=>
  dsimp only
  split
  ·rename_i hz
   obtain⟨u0,z1,z2⟩:=Option.map_eq_some_iff.mp hz
   obtain⟨n0,o0,b1,b2,b3,b4,_⟩:=S.write q0 z1
   have hL:lZ h (.ref n0)=true:=by
    cases u0 with
    | lst xs=>obtain⟨ds,_,e1,_⟩:=Rc.seq b2 b4;show (bD h n0).isSome=true;rw[e1];rfl
    | _=>cases z2
   have L2e:eM m2 (eE i) A ae h=(A ae h).bind λds h2=>m2 (.ref n0) ds h2:=by
    unfold eM eE
    rw[b1]
    simp only[iz,hL,if_true]
   rw[L2e]
   refine Po.bind S (hA X h0 ns e ae h S) λds ts h1 ns1 e1 a1 S1 r1=>?_
   try dsimp only
   cases q1:dem e1 ts with
   | none=>trivial
   |
    some w=>
    obtain⟨e2,vs⟩:=w
    try dsimp only
    obtain⟨dl,S2,a2,r2⟩:=jQ S1 r1 q1
    cases q2:e2[i]? with
    | none=>trivial
    |
     some s2=>
     try dsimp only
     cases q3:s2.mv with
     | none=>trivial
     |
      some u=>
      try dsimp only
      cases q4:m3 u vs with
      | none=>trivial
      |
       some w=>
       obtain⟨u',v⟩:=w
       obtain⟨n,o,k1,k2,k3,k4,k5⟩:=S2.write q2 q3
       rw[b1] at k1;cases k1
       obtain⟨_,o',d,p1,p2,p3,p4⟩:=hm _ _ _ _ _ _ _ _ _ k2 k3 k4 r2 q4
       obtain⟨mv,S4,a4⟩:=k5 o' u' p2 p3
       exact⟨d,_,dl,p1,a2.trans S1 a4,S4,p4.mono mv⟩
  ·trivial
end
def oA (mro:List Str) (i:Nat) (B U:MS3):MS3:=λe=>match B e with
 |
  .exc c e1=>if c ∈ mro then match e1[i]? with
   |
    some s0=>if s0.pl=true then match U (e1.set i (.sh (.exc c))) with
     | .nx e2=>(match e2[i]? with | some s=>if s.pl=true then .nx (e2.set i .no) else .stuck | none=>.stuck)
     | .bk e2=>(match e2[i]? with | some s=>if s.pl=true then .bk (e2.set i .no) else .stuck | none=>.stuck)
     | .ct e2=>(match e2[i]? with | some s=>if s.pl=true then .ct (e2.set i .no) else .stuck | none=>.stuck)
     | .rt d e2=>.rt d e2
     | _=>.stuck
    else .stuck
   | none=>.stuck
  else .stuck
 | r=>r
theorem EJ {B U:MS}{B3 U3:MS3} (mro:List Str) (i:Nat) (hB:RS B B3) (hU:RS U U3):RS (rP mro i B U) (oA mro i B3 U3):=λX h0 ns e ae h S=>by
 have p:=hB X h0 ns e ae h S
 unfold oA rP
 generalize B3 e=r at *
 cases r with
 | stuck=>trivial
 | nx e'=>obtain⟨am,h',ns',q,q1,q2⟩:=p;rw[q];exact⟨am,h',ns',rfl,q1,q2⟩
 | bk e'=>obtain⟨am,h',ns',q,q1,q2⟩:=p;rw[q];exact⟨am,h',ns',rfl,q1,q2⟩
 | ct e'=>obtain⟨am,h',ns',q,q1,q2⟩:=p;rw[q];exact⟨am,h',ns',rfl,q1,q2⟩
 | rt r e'=>obtain⟨d,am,h',ns',q,q1,q2⟩:=p;rw[q];exact⟨d,am,h',ns',rfl,q1,q2⟩
 |
  exc c e1=>
  obtain⟨ae1,h1,ns1,q,a1,S1⟩:=p
  rw[q]
  dsimp only
  by_cases hc:c ∈ mro
  ·rw[if_pos hc,if_pos hc]
   cases q0:e1[i]? with
   | none=>trivial
   |
    some s0=>
    dsimp only
    by_cases p0:s0.pl=true
    ·rw[if_pos p0]
     have hi:=(List.getElem?_eq_some_iff.mp q0).1
     have S2:Sat X h0 (ns1.set i none) (e1.set i (.sh (.exc c))) (ae1.set i (some (.exc c))) h1:=S1.putN hi ⟨rfl,_,rfl,.exc c⟩
     have a2:Stp ns e h (ns1.set i none) (e1.set i (.sh (.exc c))) h1:=a1.put (x:=none) (s:=.sh (.exc c)) hi (λ_ z=>by cases z) q0 p0 rfl S1.l2
     have p2:=PoS.after S a2 (hU X h0 _ _ _ _ S2)
     generalize U3 (e1.set i (.sh (.exc c)))=r2 at *
     cases r2 with
     | stuck=>trivial
     | exc _ _=>trivial
     | rt r e2=>obtain⟨d,am,h',ns',q,q1,q2⟩:=p2;rw[q];exact⟨d,am,h',ns',rfl,q1,q2⟩
     |
      nx e2=>
      obtain⟨am,h',ns',q,q1,q2⟩:=p2
      rw[q]
      dsimp only
      split
      ·rename_i s qs
       split
       ·rename_i ps
        have hi2:=(List.getElem?_eq_some_iff.mp qs).1
        exact⟨_,h',_,rfl,q1.put (x:=none) (s:=.no) hi2 (λ_ z=>by cases z) qs ps rfl q2.l2,q2.putN hi2 rfl⟩
       ·trivial
      ·trivial
     |
      bk e2=>
      obtain⟨am,h',ns',q,q1,q2⟩:=p2
      rw[q]
      dsimp only
      split
      ·rename_i s qs
       split
       ·rename_i ps
        have hi2:=(List.getElem?_eq_some_iff.mp qs).1
        exact⟨_,h',_,rfl,q1.put (x:=none) (s:=.no) hi2 (λ_ z=>by cases z) qs ps rfl q2.l2,q2.putN hi2 rfl⟩
       ·trivial
      ·trivial
     |
      ct e2=>
      obtain⟨am,h',ns',q,q1,q2⟩:=p2
      rw[q]
      dsimp only
      split
      ·rename_i s qs
       split
       ·rename_i ps
        have hi2:=(List.getElem?_eq_some_iff.mp qs).1
        exact⟨_,h',_,rfl,q1.put (x:=none) (s:=.no) hi2 (λ_ z=>by cases z) qs ps rfl q2.l2,q2.putN hi2 rfl⟩
       ·trivial
      ·trivial
    ·rw[if_neg p0];trivial
  ·rw[if_neg hc,if_neg hc];trivial
end L3
namespace L3
open PySem PySem.Spec PyProof.Rows L2
def kC:Sl->Sl
 | .ow v=>.lo v
 | .mu v=>.lm v
 | s=>s
def lX:Sl->Sl
 | .lo v=>.ow v
 | .lm v=>.mu v
 | s=>s
def lock (e:E3) (k:Nat):E3:=match e[k]? with
 | some s=>e.set k (kC s)
 | none=>e
def unlock (e:E3) (k:Nat):E3:=match e[k]? with
 | some s=>e.set k (lX s)
 | none=>e
def lockO (e:E3):Option Nat->E3
 | some k=>lock e k
 | none=>e
def fD (e:E3):Option Nat->E3
 | some k=>unlock e k
 | none=>e
section
variable {X:Nat->Prop}{h0 L:Nat}{ns ns1 ns':Ns}{e e1 e':E3}{ae am:AE}{h h1 h':AH}
theorem SlR.lock {P:Nat->Prop}{n:Option (Option Nat)}{d:Option (Option D)}{s:Sl} (r:SlR P h0 n d h s):SlR P h0 n d h (kC s):=by cases s <;> exact r
theorem SlR.unlock {P:Nat->Prop}{n:Option (Option Nat)}{d:Option (Option D)}{s:Sl} (r:SlR P h0 n d h s):SlR P h0 n d h (lX s):=by cases s <;> exact r
theorem Sat.lock (S:Sat X h0 ns e ae h) (k:Nat):Sat X h0 ns (lock e k) ae h:=by
 unfold L3.lock
 split
 ·rename_i s q
  have hi:=(List.getElem?_eq_some_iff.mp q).1
  refine⟨by rw[List.length_set];exact S.l1,by rw[List.length_set];exact S.l2,S.lh,S.xl,S.inj,S.nx,λj s' qj=>?_⟩
  rcases bX hi qj with ⟨rfl,rfl⟩ | ⟨z,qj'⟩
  ·exact (S.sl j s q).lock
  ·exact S.sl j s' qj'
 ·exact S
theorem Sat.unlock (S:Sat X h0 ns e ae h) (k:Nat):Sat X h0 ns (unlock e k) ae h:=by
 unfold L3.unlock
 split
 ·rename_i s q
  have hi:=(List.getElem?_eq_some_iff.mp q).1
  refine⟨by rw[List.length_set];exact S.l1,by rw[List.length_set];exact S.l2,S.lh,S.xl,S.inj,S.nx,λj s' qj=>?_⟩
  rcases bX hi qj with ⟨rfl,rfl⟩ | ⟨z,qj'⟩
  ·exact (S.sl j s q).unlock
  ·exact S.sl j s' qj'
 ·exact S
theorem jE {k j:Nat} (z:j ≠ k):(lock e k)[j]?=e[j]?:=by
 unfold lock;split
 ·rw[bS z]
 ·rfl
theorem jf {k j:Nat} (z:j ≠ k):(unlock e k)[j]?=e[j]?:=by
 unfold unlock;split
 ·rw[bS z]
 ·rfl
theorem oI {k:Nat}{s:Sl} (q:e[k]?=some s):(lock e k)[k]?=some (kC s):=by
 unfold lock;rw[q];exact cz (List.getElem?_eq_some_iff.mp q).1
theorem lx {k:Nat}{s:Sl} (q:e[k]?=some s):(unlock e k)[k]?=some (lX s):=by
 unfold unlock;rw[q];exact cz (List.getElem?_eq_some_iff.mp q).1
theorem Stp.unlock {k:Nat}{s:Sl} (q:e[k]?=some s) (hs:s.mt=true) (a:Stp ns (L3.lock e k) h ns' e' h'):Stp ns e h ns' (L3.unlock e' k) h':=by
 have hl:(kC s).lk=true:=by cases s <;> first | rfl | cases hs
 have hu:lX (kC s)=s:=by cases s <;> first | rfl | cases hs
 obtain⟨qk,nk⟩:=a.lk k _ (oI q) hl
 refine⟨a.len,λm o qm hM=>a.keep m o qm λ⟨j,s',z1,z2,z3⟩=>hM ?_,a.nw,λj s' qj hj=>?_,λj s' qj hj=>?_,λj v qj=>?_,λj v qj=>?_⟩
 ·by_cases z:j=k
  ·subst z;exact⟨j,s,z1,q,hs⟩
  ·rw[jE z] at z2;exact⟨j,s',z1,z2,z3⟩
 ·have z:j ≠ k:=λz=>by subst z;rw[q] at qj;cases qj;cases s <;> first | cases hs;done | cases hj;done
  rw[jf z]
  exact a.lk j s' (by rw[jE z];exact qj) hj
 ·have z:j ≠ k:=λz=>by
   subst z
   rw[lx qk,hu] at qj;cases qj;cases s <;> first | cases hs;done | cases hj;done
  rw[jf z] at qj
  obtain⟨y1,y2⟩:=a.lk' j s' qj hj
  rw[jE z] at y1
  exact⟨y1,y2⟩
 ·by_cases z:j=k
  ·subst z;rw[lx qk,hu] at qj;cases qj;exact⟨v,q,nk⟩
  ·rw[jf z] at qj
   obtain⟨u,y1,y2⟩:=a.mu j v qj
   rw[jE z] at y1
   exact⟨u,y1,y2⟩
 ·by_cases z:j=k
  ·subst z;rw[q] at qj;cases qj;exact⟨v,by rw[lx qk,hu],nk⟩
  ·obtain⟨u,y1,y2⟩:=a.mu' j v (by rw[jE z];exact qj)
   exact⟨u,by rw[jf z];exact y1,y2⟩
end
abbrev MI3:=E3->R3 (List Val×Option Nat)
def Stay (X:Nat->Prop) (ns:Ns) (k:Option Nat) (h h':AH):Prop:=∀ (m:Nat) (o:Ob),h[m]?=some o->(Oc X ns m\/∃ j:Nat,k=some j/\ns[j]?=some (some m))->h'[m]?=some o
def rf (X:Nat->Prop) (ns:Ns) (e:E3) (h:AH) (it:AIt) (p:List Val×Option Nat):Prop:=
 Rds (Oc X ns) h it.items p.1/\(∀ h',Stay X ns p.2 h h'->it.guard h')/\∀ k:Nat,p.2=some k->∃ s,e[k]?=some s/\s.mt=true
def RI (I:MI) (J:MI3):Prop:=∀ X h0 ns e ae h,Sat X h0 ns e ae h->Po X h0 ns e ae h (rf X) (I ae h) (J e)
def jl:Val->Option (List Val)
 | .tup xs=>some xs
 | .lst xs=>some xs
 | _=>none
def jU (t:Tm) (e:E3):Option (List Val×Option Nat):=match t with
 | .val v=>(jl v).map λxs=>(xs,none)
 | .new v=>(jl v).map λxs=>(xs,none)
 | .bor k=>match e[k]? with
  | some (.sh v)=>(jl v).map λxs=>(xs,none)
  | some (.ow (.lst xs))=>some (xs,some k)
  | some (.mu (.lst xs))=>some (xs,some k)
  | _=>none
def BA (F:ME3):MI3:=λe=>(F e).bind λt e1=>match jU t e1 with
 | some p=>.ok p e1
 | none=>.stuck
def o3 (lo:Int) (k:Nat):List Val:=(List.range k).map λi=>Val.int (lo + (i:Nat))
structure RgB (j:Int):Prop where
 lo:-(2 ^ 62)<=j
 hi:j < 2 ^ 62
def iM:List Val->Option (List Val)
 | [.int j]=>@ite _ (RgB j) (Classical.propDecidable _) (some (o3 0 j.toNat)) none
 | _=>none
def oi:List Val->Option (List Val)
 | [.int i,.int j]=>@ite _ (RgB i/\RgB j) (Classical.propDecidable _) (some (o3 i (j - i).toNat)) none
 | _=>none
def sk (f:List Val->Option (List Val)) (A:MA3):MI3:=λe=>(A e).bind λts e1=>match (rss e1 ts).bind f with
 | some xs=>.ok (xs,none) e1
 | none=>.stuck
section
variable {F:ME}{F3:ME3}{A:MA}{A3:MA3}
theorem vS {X:Nat->Prop}{h0:Nat}{ns:Ns}{e:E3}{ae:AE}{h:AH}{d:D}{v:Val}{xs:List Val} (S:Sat X h0 ns e ae h) (r:Rd (Oc X ns) h d v) (q:jl v=some xs):∃ it,me d h=some it/\rf X ns e h it (xs,none):=by
 cases v with
 |
  tup ys=>
  cases q
  obtain⟨ds,rfl,r2⟩:=ShR.tup (.inl r)
  exact⟨_,rfl,r2,λ_ _=>trivial,λ_ z=>nomatch z⟩
 |
  lst ys=>
  cases q
  cases r with
  |
   cell p eo rc=>
   rename_i n o
   obtain⟨ds,_,e1,r1⟩:=Rc.seq eo rc
   refine⟨.lst n ds,by unfold me;dsimp only;rw[e1];rfl,r1,λh' st=>?_,λ_ z=>nomatch z⟩
   show bD h' n=some ds
   have:=st n o eo (.inl p)
   unfold bD at e1 ⊢
   rw[eo] at e1
   rw[this];exact e1
 | _=>cases q
theorem Ih {X:Nat->Prop}{h0 L:Nat}{ns:Ns}{e:E3}{ae:AE}{h:AH}{d:D}{t:Tm}{p:List Val×Option Nat} (S:Sat X h0 ns e ae h) (r:relE X h0 L ae ns e h d t) (q:jU t e=some p):∃ it,me d h=some it/\rf X ns e h it p:=by
 cases t with
 | val v=>obtain⟨xs,q1,rfl⟩:=Option.map_eq_some_iff.mp q;exact vS S r q1
 | new v=>obtain⟨xs,q1,rfl⟩:=Option.map_eq_some_iff.mp q;exact vS S r.new q1
 |
  bor k=>
  have r':ae[k]?=some (some d):=r
  have own:∀ {s xs},e[k]?=some s->s.mv=some (.lst xs)->∃ it,me d h=some it/\rf X ns e h it (xs,some k):=λ{s xs} q qm=>by
   have hns:∃ n,ns[k]?=some (some n)/\ae[k]?=some (some (.ref n)):=by
    have y:=S.sl k s q
    cases s with
    | ow v=>obtain⟨n,o,y1,y2,_⟩:=y;exact⟨n,y1,y2⟩
    | mu v=>obtain⟨n,o,y1,y2,_⟩:=y;exact⟨n,y1,y2⟩
    | _=>cases qm
   obtain⟨n,y1,y2⟩:=hns
   obtain⟨n',o,k1,k2,k3,k4,_⟩:=S.write q qm
   rw[y2] at k1;cases k1
   rw[r'] at y2;cases y2
   obtain⟨ds,_,e2,r2⟩:=Rc.seq k2 k4
   refine⟨.lst n ds,by unfold me;dsimp only;rw[e2];rfl,r2,λh' st=>?_,λj z=>?_⟩
   ·show bD h' n=some ds
    have:=st n o k2 (.inr ⟨k,rfl,y1⟩)
    unfold bD at e2 ⊢
    rw[k2] at e2
    rw[this];exact e2
   ·cases z;exact⟨s,q,by cases s <;> first | rfl | cases qm⟩
  unfold jU at q
  dsimp only at q
  split at q
  ·rename_i v qs
   obtain⟨_,x,e2,r2⟩:=S.sl k _ qs
   rw[r'] at e2;cases e2
   obtain⟨xs,q1,rfl⟩:=Option.map_eq_some_iff.mp q
   exact vS S r2 q1
  ·rename_i xs qs;cases q;exact own qs rfl
  ·rename_i xs qs;cases q;exact own qs rfl
  ·cases q
def zC (d:D) (h:AH):R AIt:=match d with
 | .tup xs=>.ok (.tup xs) h
 | .ref n=>match bD h n with
  | some xs=>.ok (.lst n xs) h
  | none=>.stuck
 | _=>.stuck
theorem Ec {d:D}{h:AH}{it:AIt} (q:me d h=some it):zC d h=.ok it h:=by
 cases d with
 | tup xs=>cases q;rfl
 |
  ref n=>
  obtain⟨xs,y1,rfl⟩:=Option.map_eq_some_iff.mp (show (bD h n).map (AIt.lst n)=some it from q)
  unfold zC;dsimp only;rw[y1]
 | _=>cases q
theorem GD (hF:RE F F3):RI (zD F) (BA F3):=λX h0 ns e ae h S=>
 Po.bind S (hF X h0 0 ns e ae h S (Nat.zero_le _)) λd t h1 ns1 e1 a1 S1 r1=>by
  show Po X h0 ns1 e1 ae h1 (rf X) (zC d h1) _
  cases q:jU t e1 with
  | none=>trivial
  |
   some p=>
   dsimp only
   obtain⟨it,q1,q2⟩:=Ih S1 r1 q
   exact⟨it,h1,ns1,Ec q1,.refl,S1,q2⟩
theorem CZ {P:Nat->Prop}{h:AH} (lo:Int) (k:Nat):Rds P h (AIt.rng lo k).items (o3 lo k):=by
 show Rds P h ((List.range k).map λi=>D.int (lo + (i:Nat))) ((List.range k).map λi=>Val.int (lo + (i:Nat)))
 generalize List.range k=l
 induction l with
 | nil=>exact .nil
 | cons i l ih=>exact .cons (.int _) ih
theorem fc {P:Nat->Prop}{h:AH}{ds:List D}{v:Val} (r:ShRs P h ds [v]):∃ d,ds=[d]/\ShR P h d v:=by
 cases r with | cons r rr=>cases rr;exact⟨_,rfl,r⟩
theorem vv {P:Nat->Prop}{h:AH}{ds:List D}{v u:Val} (r:ShRs P h ds [v,u]):∃ d d',ds=[d,d']/\ShR P h d v/\ShR P h d' u:=by
 cases r with | cons r rr=>cases rr with | cons r' rr=>cases rr;exact⟨_,_,rfl,r,r'⟩
theorem BO {f2:List D->AH->R AIt}{f3:List Val->Option (List Val)} (hf:∀ P h ds vs xs,ShRs P h ds vs->f3 vs=some xs->∃ lo k,f2 ds h=.ok (.rng lo k) h/\xs=o3 lo k) (hA:RA A A3):RI (λae h=>(A ae h).bind f2) (sk f3 A3):=λX h0 ns e ae h S=>
 Po.bind S (hA X h0 ns e ae h S) λds ts h1 ns1 e1 a1 S1 r1=>by
  try dsimp only
  split
  ·rename_i xs q
   obtain⟨vs,q1,q2⟩:=Option.bind_eq_some_iff.mp q
   obtain⟨lo,k,p1,rfl⟩:=hf _ _ _ _ _ (TsR.sh S1 r1 q1) q2
   rw[p1]
   exact Po.ret S1 ⟨CZ _ _,λ_ _=>trivial,λ_ z=>nomatch z⟩
  ·trivial
theorem GP (hA:RA A A3):RI (AY A) (sk iM A3):=BO (f2:=λds h1=>match ds with
 | [.int j]=>if -(2 ^ 62)<=j/\j < 2 ^ 62 then .ok (.rng 0 j.toNat) h1 else .stuck
 |
  _=>.stuck) (λP h ds vs xs r q=>by
  unfold iM at q
  split at q
  ·split at q
   ·rename_i hb
    cases q
    obtain⟨d,rfl,r2⟩:=fc r
    obtain rfl:=r2.int
    exact⟨_,_,by dsimp only;rw[if_pos ⟨hb.lo,hb.hi⟩],rfl⟩
   ·cases q
  ·cases q) hA
theorem F4 (hA:RA A A3):RI (AI A) (sk oi A3):=BO (f2:=λds h1=>match ds with
 | [.int i,.int j]=>if -(2 ^ 62)<=i/\i < 2 ^ 62/\-(2 ^ 62)<=j/\j < 2 ^ 62 then .ok (.rng i (j - i).toNat) h1 else .stuck
 |
  _=>.stuck) (λP h ds vs xs r q=>by
  unfold oi at q
  split at q
  ·split at q
   ·rename_i hb
    cases q
    obtain⟨d,d',rfl,r2,r3⟩:=vv r
    obtain rfl:=r2.int
    obtain rfl:=r3.int
    exact⟨_,_,by dsimp only;rw[if_pos ⟨hb.1.lo,hb.1.hi,hb.2.lo,hb.2.hi⟩],rfl⟩
   ·cases q
  ·cases q) hA
end
def SR3.loop (r:SR3) (f:E3->SR3):SR3:=match r with
 | .nx e=>f e
 | .ct e=>f e
 | .bk e=>.nx e
 | .rt d e=>.rt d e
 | .exc c e=>.exc c e
 | .stuck=>.stuck
def fI (g:MG3) (B:MS3):List Val->MS3
 | [],e=>.nx e
 | v :: vs,e=>match g v e with
  | some e1=>(B e1).loop (fI g B vs)
  | none=>.stuck
def SR3.unl (k:Option Nat) (r:SR3):SR3:=match r with
 | .nx e=>.nx (fD e k)
 | .ct e=>.ct (fD e k)
 | .bk e=>.bk (fD e k)
 | .rt d e=>.rt d (fD e k)
 | .exc c e=>.exc c (fD e k)
 | .stuck=>.stuck
def wFor (I:MI3) (g:MG3) (B:MS3):MS3:=λe=>(I e).toS λp e1=>(fI g B p.1 (lockO e1 p.2)).unl p.2
section
variable {I:MI}{I3:MI3}{g:MG}{g3:MG3}{B:MS}{B3:MS3}{c:MT}{c3:MT3}{F:ME}{F3:ME3}
theorem PoS.loop {X:Nat->Prop}{h0:Nat}{ns:Ns}{e:E3}{ae:AE}{h:AH}{r2:SR}{r3:SR3}{f2:AE->AH->SR}{f3:E3->SR3} (p:PoS X h0 ns e h r2 r3)
 (k:∀ am h' ns' e',Stp ns e h ns' e' h'->Sat X h0 ns' e' am h'->PoS X h0 ns e h (f2 am h') (f3 e')):PoS X h0 ns e h (r2.loop f2) (r3.loop f3):=by
 cases r3 with
 | stuck=>trivial
 | nx e'=>obtain⟨am,h',ns',q,q1,q2⟩:=p;rw[q];exact k am h' ns' e' q1 q2
 | ct e'=>obtain⟨am,h',ns',q,q1,q2⟩:=p;rw[q];exact k am h' ns' e' q1 q2
 | bk e'=>obtain⟨am,h',ns',q,q1,q2⟩:=p;rw[q];exact⟨am,h',ns',rfl,q1,q2⟩
 | exc c e'=>obtain⟨am,h',ns',q,q1,q2⟩:=p;rw[q];exact⟨am,h',ns',rfl,q1,q2⟩
 | rt r e'=>obtain⟨d,am,h',ns',q,q1,q2⟩:=p;rw[q];exact⟨d,am,h',ns',rfl,q1,q2⟩
theorem Cb {X:Nat->Prop}{h0:Nat}{ns ns':Ns}{e e':E3}{ae:AE}{h h':AH}{k:Option Nat} (S:Sat X h0 ns e ae h) (hk:∀ j:Nat,k=some j->∃ s,e[j]?=some s/\s.mt=true) (a:Stp ns (lockO e k) h ns' e' h'):Stay X ns k h h':=λm o q hm=>by
 refine a.keep m o q λ⟨i,s,z1,z2,z3⟩=>?_
 rcases hm with hm | ⟨j,rfl,hj⟩
 ·exact hm.2 (bK.mpr ⟨i,z1⟩)
 ·have:i=j:=S.inj i j m z1 hj
  subst this
  obtain⟨s',y1,y2⟩:=hk i rfl
  have:(lockO e (some i))[i]?=some (kC s'):=oI y1
  rw[this] at z2;cases z2
  cases s' <;> first | cases y2;done | cases z3;done
theorem PoS.unl {X:Nat->Prop}{h0:Nat}{ns:Ns}{e:E3}{h:AH}{k:Option Nat}{r2:SR}{r3:SR3} (hk:∀ j:Nat,k=some j->∃ s,e[j]?=some s/\s.mt=true) (p:PoS X h0 ns (lockO e k) h r2 r3):PoS X h0 ns e h r2 (r3.unl k):=by
 cases k with
 | none=>cases r3 <;> exact p
 |
  some j=>
  obtain⟨s,y1,y2⟩:=hk j rfl
  cases r3 with
  | stuck=>trivial
  | nx e'=>obtain⟨am,h',ns',q,q1,q2⟩:=p;exact⟨am,h',ns',q,q1.unlock y1 y2,q2.unlock j⟩
  | ct e'=>obtain⟨am,h',ns',q,q1,q2⟩:=p;exact⟨am,h',ns',q,q1.unlock y1 y2,q2.unlock j⟩
  | bk e'=>obtain⟨am,h',ns',q,q1,q2⟩:=p;exact⟨am,h',ns',q,q1.unlock y1 y2,q2.unlock j⟩
  | exc c e'=>obtain⟨am,h',ns',q,q1,q2⟩:=p;exact⟨am,h',ns',q,q1.unlock y1 y2,q2.unlock j⟩
  |
   rt r e'=>
   obtain⟨d,am,h',ns',q,q1,q2⟩:=p
   refine⟨d,am,h',ns',q,q1.unlock y1 y2,?_⟩
   cases r with
   | val v=>exact⟨q2.1.unlock j,q2.2⟩
   | new v=>obtain⟨n,o,z1,z2,z3,z4,z5,z6,z7⟩:=q2;exact⟨n,o,z1,z2,z3,z4,z5,z6.unlock j,z7⟩
theorem Sat.lockO {X:Nat->Prop}{h0:Nat}{ns:Ns}{e:E3}{ae:AE}{h:AH} (S:Sat X h0 ns e ae h) (k:Option Nat):Sat X h0 ns (lockO e k) ae h:=by
 cases k with
 | none=>exact S
 | some k=>exact S.lock k
theorem Ds {X:Nat->Prop}{h0:Nat}{ns:Ns}{e:E3}{ae:AE}{h:AH}{G:AH->Prop} (S:Sat X h0 ns e ae h) (hg:RG g g3) (hB:RS B B3) (hG:∀ ns' e' h',Stp ns e h ns' e' h'->G h'):
 ∀ {ds:List D}{vs:List Val},Rds (Oc X ns) h ds vs->∀ {ns1:Ns}{e1:E3}{ae1:AE}{h1:AH},Stp ns e h ns1 e1 h1->Sat X h0 ns1 e1 ae1 h1->PoS X h0 ns e h (kE G g B ds ae1 h1) (fI g3 B3 vs e1):=by
 intro ds
 induction ds with
 |
  nil=>
  intro vs r ns1 e1 ae1 h1 a1 S1
  cases r
  unfold kE
  rw[if_pos (hG _ _ _ a1)]
  exact .nx a1 S1
 |
  cons d0 ds ih=>
  intro vs r ns1 e1 ae1 h1 a1 S1
  cases r with
  |
   cons r rr=>
   unfold kE fI
   rw[if_pos (hG _ _ _ a1)]
   split
   ·rename_i e2 q
    obtain⟨ae2,dl,p2,S2,a2⟩:=hg _ _ _ _ _ _ _ _ _ S1 (r.mono (a1.mov S)) q
    rw[p2]
    have a12:=a1.trans S a2
    show PoS X h0 ns e h ((B ae2 h1).loop _) _
    refine PoS.loop (ae:=ae) (PoS.after S a12 (hB X h0 dl e2 ae2 h1 S2)) λae3 h3 ns3 e3 a3 S3=>ih rr a3 S3
   ·trivial
theorem Gs (hI:RI I I3) (hg:RG g g3) (hB:RS B B3):RS (AA I g B) (wFor I3 g3 B3):=λX h0 ns e ae h S=>PoS.toS (hI X h0 ns e ae h S) λit p h1 ns1 e1 a1 S1 r1=>by
 obtain⟨r2,gd,hk⟩:=r1
 refine PoS.after S a1 (PoS.unl hk ?_)
 have S2:=S1.lockO p.2
 exact Ds S2 hg hB (λns' e' h' a=>gd h' (Cb S1 hk a)) r2 .refl S2
def whV (c:MT3) (B:MS3):Nat->MS3
 | 0,_=>.stuck
 | k + 1,e=>(c e).toS λb e1=>if b=true then (B e1).loop (whV c B k) else .nx e1
open Classical in
def wWh (c:MT3) (B:MS3):MS3:=λe=>if q:∃ k,whV c B k e ≠ .stuck then whV c B q.choose e else .stuck
theorem m7 {c:MT3}{B:MS3}:∀ {k:Nat}{e:E3},whV c B k e ≠ .stuck->whV c B (k + 1) e=whV c B k e
 | 0,_,q=>absurd rfl q
 |
  k + 1,e,q=>by
  have e1:whV c B (k + 2) e=(c e).toS λb e1=>if b=true then (B e1).loop (whV c B (k + 1)) else .nx e1:=rfl
  have e2:whV c B (k + 1) e=(c e).toS λb e1=>if b=true then (B e1).loop (whV c B k) else .nx e1:=rfl
  rw[e2] at q
  rw[e1,e2]
  cases r:c e with
  | exc _ _=>rfl
  | stuck=>rfl
  |
   ok b h1=>
   rw[r] at q
   cases b with
   | false=>rfl
   |
    true=>
    have q':(B h1).loop (whV c B k) ≠ .stuck:=q
    show (B h1).loop (whV c B (k + 1))=(B h1).loop (whV c B k)
    cases s:B h1 with
    | nx a2=>rw[s] at q';exact m7 q'
    | ct a2=>rw[s] at q';exact m7 q'
    | _=>rfl
theorem wV {c:MT3}{B:MS3}{k j:Nat}{e:E3} (q:whV c B k e ≠ .stuck) (hj:k<=j):whV c B j e=whV c B k e:=by
 induction hj with
 | refl=>rfl
 | step _ ih=>rw[m7 (by rw[ih];exact q),ih]
theorem nR {c:MT3}{B:MS3}{k:Nat}{e:E3} (q:whV c B k e ≠ .stuck):wWh c B e=whV c B k e:=by
 have hq:∃ k,whV c B k e ≠ .stuck:=⟨k,q⟩
 unfold wWh
 rw[dif_pos hq]
 rcases Nat.le_total hq.choose k with z | z
 ·exact (wV hq.choose_spec z).symm
 ·exact wV q z
theorem AZ (c:MT3) (B:MS3) (e:E3):wWh c B e=(c e).toS λb e1=>if b=true then (B e1).loop (wWh c B) else .nx e1:=by
 by_cases q:∃ k,whV c B k e ≠ .stuck
 ·obtain⟨k,q⟩:=q
  rw[nR q]
  cases k with
  | zero=>exact absurd rfl q
  |
   succ k=>
   have e2:whV c B (k + 1) e=(c e).toS λb e1=>if b=true then (B e1).loop (whV c B k) else .nx e1:=rfl
   rw[e2] at q ⊢
   cases r:c e with
   | exc _ _=>rfl
   | stuck=>rfl
   |
    ok b h1=>
    rw[r] at q
    cases b with
    | false=>rfl
    |
     true=>
     have q':(B h1).loop (whV c B k) ≠ .stuck:=q
     show (B h1).loop (whV c B k)=(B h1).loop (wWh c B)
     cases s:B h1 with
     | nx a2=>rw[s] at q';exact (nR q').symm
     | ct a2=>rw[s] at q';exact (nR q').symm
     | _=>rfl
 ·have e0:wWh c B e=.stuck:=by unfold wWh;rw[dif_neg q]
  rw[e0]
  have hs:∀ k,whV c B (k + 1) e=.stuck:=λk=>Classical.byContradiction λz=>q ⟨_,z⟩
  cases r:c e with
  | stuck=>rfl
  |
   exc c' h'=>
   have:=hs 0
   unfold whV at this
   rw[r] at this
   cases this
  |
   ok b h1=>
   cases b with
   |
    false=>
    have:=hs 0
    unfold whV at this
    rw[r] at this
    cases this
   |
    true=>
    have h2:∀ k,(B h1).loop (whV c B k)=.stuck:=λk=>by
     have:=hs k
     unfold whV at this
     rw[r] at this
     exact this
    show SR3.stuck=(B h1).loop (wWh c B)
    have lim:∀ a2,(∀ k,whV c B k a2=.stuck)->wWh c B a2=.stuck:=λa2 z=>by
     unfold wWh
     rw[dif_neg (λ⟨k,y⟩=>y (z k))]
    cases s:B h1 with
    | nx a2=>rw[s] at h2;exact (lim a2 h2).symm
    | ct a2=>rw[s] at h2;exact (lim a2 h2).symm
    | stuck=>rfl
    | _=>have:=h2 0;rw[s] at this;cases this
theorem EY {X:Nat->Prop}{h0:Nat}{ns:Ns}{e:E3}{h:AH}{r2:SR}{r3:SR3} (p:PoS X h0 ns e h r2 r3) (q:r3 ≠ .stuck):r2 ≠ .stuck:=by
 cases r3 with
 | stuck=>exact absurd rfl q
 | nx e'=>obtain⟨am,h',ns',z,_⟩:=p;rw[z];intro y;cases y
 | ct e'=>obtain⟨am,h',ns',z,_⟩:=p;rw[z];intro y;cases y
 | bk e'=>obtain⟨am,h',ns',z,_⟩:=p;rw[z];intro y;cases y
 | exc c e'=>obtain⟨am,h',ns',z,_⟩:=p;rw[z];intro y;cases y
 | rt r e'=>obtain⟨d,am,h',ns',z,_⟩:=p;rw[z];intro y;cases y
theorem yR (hc:RT c c3) (hB:RS B B3):∀ (k:Nat) (X:Nat->Prop) (h0:Nat) (ns:Ns) (e:E3) (ae:AE) (h:AH),Sat X h0 ns e ae h->PoS X h0 ns e h (whN c B k ae h) (whV c3 B3 k e)
 | 0,_,_,_,_,_,_,_=>trivial
 |
  k + 1,X,h0,ns,e,ae,h,S=>by
  refine PoS.toS (hc X h0 ns e ae h S) λb b' h1 ns1 e1 a1 S1 r1=>?_
  cases r1
  try dsimp only
  split
  ·exact PoS.after S a1 (PoS.loop (ae:=ae) (hB X h0 ns1 e1 ae h1 S1) λae2 h2 dl e2 a2 S2=>PoS.after S1 a2 (yR hc hB k X h0 dl e2 ae2 h2 S2))
  ·exact .nx a1 S1
theorem Kp (hc:RT c c3) (hB:RS B B3):RS (sWh c B) (wWh c3 B3):=λX h0 ns e ae h S=>by
 by_cases q:∃ k,whV c3 B3 k e ≠ .stuck
 ·obtain⟨k,q⟩:=q
  rw[nR q]
  have p:=yR hc hB k X h0 ns e ae h S
  rw[yc (EY p q)]
  exact p
 ·unfold wWh;rw[dif_neg q];trivial
end
end L3
namespace L3
open PySem PySem.Spec PyProof.Rows L2
def gw (o:Option Nat) (s:Sl) (e:E3):E3:=match o,s with
 | some i,.mu v=>(match e[i]? with
  | some t=>e.set i (t.re v)
  | none=>e)
 | _,_=>e
def bN:List (Option Nat)->E3->E3->E3
 | o :: sub,s :: inner,e=>bN sub inner (gw o s e)
 | _,_,e=>e
theorem uJ {o:Option Nat}{s:Sl}{e:E3}{i:Nat} (hn:∀ v,o=some i->s=.mu v->False):(gw o s e)[i]?=e[i]?:=by
 unfold gw
 split
 ·rename_i i' v
  split
  ·rename_i t q
   by_cases z:i=i'
   ·subst z;exact (hn v rfl rfl).elim
   ·rw[bS z]
  ·rfl
 ·rfl
theorem oH:∀ {sub:List (Option Nat)}{e2 e:E3}{i:Nat},(∀ (j:Nat) v,sub[j]?=some (some i)->e2[j]?=some (.mu v)->False)->(bN sub e2 e)[i]?=e[i]?
 | [],_,_,_,_=>rfl
 | _ :: _,[],_,_,_=>rfl
 |
  o :: sub,s :: e2,e,i,hn=>by
  show (bN sub e2 (gw o s e))[i]?=_
  rw[oH (λj v q1 q2=>hn (j + 1) v (by simpa using q1) (by simpa using q2))]
  exact uJ λv z1 z2=>hn 0 v (by rw[z1];rfl) (by rw[z2];rfl)
theorem uB:∀ {sub:List (Option Nat)}{e2 e:E3}{i j:Nat}{v:Val},(∀ (j k:Nat) i,sub[j]?=some (some i)->sub[k]?=some (some i)->j=k)->sub[j]?=some (some i)->e2[j]?=some (.mu v)->(bN sub e2 e)[i]?=(e[i]?).map (Sl.re · v)
 | [],_,_,_,j,_,_,q,_=>by simp at q
 | _ :: _,[],_,_,j,_,_,_,q=>by simp at q
 |
  o :: sub,s :: e2,e,i,0,v,hj,q1,q2=>by
  have z1:o=some i:=by simpa using q1
  have z2:s=.mu v:=by simpa using q2
  subst z1 z2
  show (bN sub e2 (gw (some i) (.mu v) e))[i]?=_
  rw[oH (λk u y1 _=>by have:=hj 0 (k + 1) i rfl (by simpa using y1);omega)]
  unfold gw
  dsimp only
  split
  ·rename_i t q;rw[cz (List.getElem?_eq_some_iff.mp q).1,q];rfl
  ·rename_i q;rw[q];rfl
 |
  o :: sub,s :: e2,e,i,j + 1,v,hj,q1,q2=>by
  show (bN sub e2 (gw o s e))[i]?=_
  have q1':sub[j]?=some (some i):=by simpa using q1
  rw[uB (λa b c y1 y2=>by have:=hj (a + 1) (b + 1) c (by simpa using y1) (by simpa using y2);omega) q1' (by simpa using q2)]
  rw[uJ λv z1 _=>by have:=hj 0 (j + 1) i (by rw[z1];rfl) q1;omega]
def cP (sub:List (Option Nat)) (ns:Ns):Ns:=sub.map λo=>o.bind λi=>(ns[i]?).bind id
theorem c8 {sub:List (Option Nat)}{ns:Ns}{j n:Nat} (q:(cP sub ns)[j]?=some (some n)):∃ i,sub[j]?=some (some i)/\ns[i]?=some (some n):=by
 unfold cP at q
 rw[List.getElem?_map] at q
 cases z:sub[j]? with
 | none=>rw[z] at q;cases q
 |
  some o=>
  rw[z] at q
  cases o with
  | none=>cases q
  |
   some i=>
   refine⟨i,rfl,?_⟩
   have q':(ns[i]?).bind id=some n:=Option.some.inj q
   cases y:ns[i]? with
   | none=>rw[y] at q';cases q'
   | some w=>rw[y] at q';have:w=some n:=q';rw[this]
theorem D5 {sub:List (Option Nat)}{ns:Ns}{j i:Nat}{w:Option Nat} (q:sub[j]?=some (some i)) (q2:ns[i]?=some w):(cP sub ns)[j]?=some w:=by
 unfold cP
 rw[List.getElem?_map,q]
 show some ((ns[i]?).bind id)=some w
 rw[q2];rfl
structure Lnk (sub:List (Option Nat)) (e ei:E3):Prop where
 inj:∀ (j k:Nat) (i:Nat),sub[j]?=some (some i)->sub[k]?=some (some i)->j=k
 mu:∀ (j:Nat) (v:Val),ei[j]?=some (.mu v)->∃ (i:Nat) (s:Sl),sub[j]?=some (some i)/\e[i]?=some s/\s.mt=true
 mt:∀ (j:Nat) (s:Sl),ei[j]?=some s->s.mt=true->∃ v,s=.mu v
theorem Sat.back {X Y:Nat->Prop}{h0:Nat}{ns dl:Ns}{e ei e2:E3}{ae:AE}{h h2:AH}{sub:List (Option Nat)} (S:Sat X h0 ns e ae h) (K:Lnk sub e ei) (a:Stp (cP sub ns) ei h dl e2 h2)
 (hY:∀ n,Y n->n < h2.length/\(X n\/h.length<=n)) (hXY:∀ n,X n->Y n)
 (hc:∀ (j:Nat) v n,e2[j]?=some (.mu v)->dl[j]?=some (some n)->∃ o,h2[n]?=some o/\cL o/\Rc (Oc Y ns) h2 o v):Sat Y h0 ns (bN sub e2 e) ae h2/\Stp ns e h ns (bN sub e2 e) h2:=by
 have hM:∀ n,Mt (cP sub ns) ei n->Mt ns e n:=λn ⟨j,s,z1,z2,z3⟩=>by
  obtain⟨v,rfl⟩:=K.mt j s z2 z3
  obtain⟨i,s',y1,y2,y3⟩:=K.mu j v z2
  obtain⟨i',y4,y5⟩:=c8 z1
  rw[y1] at y4;cases y4
  exact⟨i,s',y5,y2,y3⟩
 have mv:Mov (Oc X ns) (Oc Y ns) h h2:=λn o p q=>⟨⟨λz=>by
  rcases (hY n z).2 with z | z
  ·exact p.1 z
  ·have:=da q;omega,p.2⟩,a.keep n o q λz=>by
   obtain⟨j,s,z1,_⟩:=z
   obtain⟨i,_,y⟩:=c8 z1
   exact p.2 (bK.mpr ⟨i,y⟩)⟩
 have key:∀ i:Nat,(∃ (j:Nat) (v:Val) (s:Sl),sub[j]?=some (some i)/\e2[j]?=some (.mu v)/\e[i]?=some s/\s.mt=true/\(bN sub e2 e)[i]?=some (s.re v)/\dl[j]?=ns[i]?)\/((∀ n,ns[i]?=some (some n)->¬ Mt (cP sub ns) ei n)/\(bN sub e2 e)[i]?=e[i]?):=λi=>by
  by_cases hx:∃ (j:Nat) (v:Val),sub[j]?=some (some i)/\e2[j]?=some (.mu v)
  ·obtain⟨j,v,q1,q2⟩:=hx
   obtain⟨u,q3,q4⟩:=a.mu j v q2
   obtain⟨i',s,y1,y2,y3⟩:=K.mu j u q3
   rw[q1] at y1;cases y1
   refine .inl ⟨j,v,s,q1,q2,y2,y3,by rw[uB K.inj q1 q2,y2];rfl,?_⟩
   rw[q4]
   have hl:i < ns.length:=by rw[S.l2];exact (List.getElem?_eq_some_iff.mp y2).1
   rw[List.getElem?_eq_getElem hl]
   exact D5 q1 (List.getElem?_eq_getElem hl)
  ·refine .inr ⟨λn q ⟨j,s,z1,z2,z3⟩=>hx ?_,oH λj v y1 y2=>hx ⟨j,v,y1,y2⟩⟩
   obtain⟨v,rfl⟩:=K.mt j s z2 z3
   obtain⟨i',y4,y5⟩:=c8 z1
   have:i'=i:=S.inj i' i n y5 q
   subst this
   obtain⟨v',y6,_⟩:=a.mu' j v z2
   exact⟨j,v',y4,y6⟩
 have lenB:(bN sub e2 e).length=e.length:=by
  clear key hc a K S hY hXY hM mv
  induction sub generalizing e2 e with
  | nil=>rfl
  |
   cons o sub ih=>
   cases e2 with
   | nil=>rfl
   |
    cons s e2=>
    show (bN sub e2 (gw o s e)).length=_
    rw[ih]
    unfold gw
    split
    ·split
     ·rw[List.length_set]
     ·rfl
    ·rfl
 refine⟨⟨by rw[lenB];exact S.l1,by rw[lenB];exact S.l2,Nat.le_trans S.lh a.len,λn z=>(hY n z).1,S.inj,λi n q z=>?_,λi s q=>?_⟩,⟨a.len,λm o q hm=>a.keep m o q λz=>hm (hM m z),λ_ _ q=>.inl q,λi s q hl=>?_,λi s q hl=>?_,λi v q=>?_,λi v q=>?_⟩⟩
 ·rcases (hY n z).2 with z | z
  ·exact S.nx i n q z
  ·obtain⟨_,_,_,_,_,_,_,q',_⟩:=S.own q
   have:=da q';omega
 ·rcases key i with ⟨j,v,s0,k1,k2,k3,k4,k5,k6⟩ | ⟨k1,k2⟩
  ·rw[k5] at q;cases q
   have y:=S.sl i s0 k3
   cases s0 with
   |
    ow u=>
    obtain⟨n,o,y1,y2,y3,_⟩:=y
    obtain⟨o',z1,z2,z3⟩:=hc j v n k2 (by rw[k6];exact y1)
    exact⟨n,o',y1,y2,y3,z1,z2,z3⟩
   |
    mu u=>
    obtain⟨n,o,y1,y2,_⟩:=y
    obtain⟨o',z1,z2,z3⟩:=hc j v n k2 (by rw[k6];exact y1)
    exact⟨n,o',y1,y2,z1,z2,z3⟩
   | _=>cases k4
  ·rw[k2] at q
   exact (S.sl i s q).mono mv λn o q1 q2=>a.keep n o q2 (k1 n q1)
 ·rcases key i with ⟨j,v,s0,k1,k2,k3,k4,k5,k6⟩ | ⟨k1,k2⟩
  ·rw[k3] at q;cases q;cases s <;> first | cases hl;done | cases k4;done
  ·rw[k2];exact⟨q,rfl⟩
 ·rcases key i with ⟨j,v,s0,k1,k2,k3,k4,k5,k6⟩ | ⟨k1,k2⟩
  ·rw[k5] at q;cases q;cases s0 <;> first | cases hl;done | cases k4;done
  ·rw[k2] at q;exact⟨q,rfl⟩
 ·rcases key i with ⟨j,u,s0,k1,k2,k3,k4,k5,k6⟩ | ⟨k1,k2⟩
  ·rw[k5] at q
   cases s0 with
   | mu w=>exact⟨w,k3,rfl⟩
   | ow w=>cases q
   | _=>cases k4
  ·rw[k2] at q;exact⟨v,q,rfl⟩
 ·rcases key i with ⟨j,u,s0,k1,k2,k3,k4,k5,k6⟩ | ⟨k1,k2⟩
  ·rw[k3] at q;cases q;exact⟨u,k5,rfl⟩
  ·exact⟨v,by rw[k2];exact q,rfl⟩
def inS:Sl->Sl
 | .ow v=>.mu v
 | .lo v=>.lm v
 | s=>s
def cN (sub:List (Option Nat)) (e:E3):E3:=sub.map λo=>match o with
 | none=>.no
 | some i=>match e[i]? with
  | some s=>inS s
  | none=>.no
def lcV (g:MG3) (c:MT3) (F:ME3):List Val->List Val->E3->R3 (List Val)
 | [],acc,e=>.ok acc e
 | v :: vs,acc,e=>if acc.length < 16777216 then (match g v e with
  | none=>.stuck
  | some e1=>(c e1).bind λb e2=>if b=true then (F e2).bind λt e3=>(match cM e3 t with
   | some (e4,y)=>lcV g c F vs (acc++[y]) e4
   | none=>.stuck) else lcV g c F vs acc e2) else .stuck
def vLC (I:MI3) (sub:List (Option Nat)) (g:MG3) (c:MT3) (F:ME3):ME3:=λe=>(I e).bind λp e1=>match lcV g c F p.1 [] (cN sub (lockO e1 p.2)) with
 | .ok ys e2=>if ys.length<=16777216 then .ok (.new (.lst ys)) (fD (bN sub e2 (lockO e1 p.2)) p.2) else .stuck
 | _=>.stuck
def nK (sub:List (Option Nat)):Prop:=∀ (j k:Nat) (i:Nat),sub[j]?=some (some i)->sub[k]?=some (some i)->j=k
theorem xN {sub:List (Option Nat)} (h:(sub.filterMap id).Nodup):nK sub:=by
 induction sub with
 | nil=>intro j k i q;simp at q
 |
  cons o sub ih=>
  have ge:(sub.filterMap id).Nodup:=by
   cases o with
   | none=>simpa using h
   | some i=>rw[List.filterMap_cons] at h;simp at h;exact h.2
  have hno:∀ (i k:Nat),o=some i->sub[k]?=some (some i)->False:=λi k z q=>by
   subst z
   rw[List.filterMap_cons] at h
   simp at h
   exact h.1 (List.mem_of_getElem? q)
  intro j k i q1 q2
  cases j with
  |
   zero=>
   cases k with
   | zero=>rfl
   | succ k=>exact (hno i k (by simpa using q1) (by simpa using q2)).elim
  |
   succ j=>
   cases k with
   | zero=>exact (hno i j (by simpa using q2) (by simpa using q1)).elim
   | succ k=>exact congrArg (· + 1) (ih ge j k i (by simpa using q1) (by simpa using q2))
def Xin (X:Nat->Prop) (ns:Ns) (sub:List (Option Nat)) (n:Nat):Prop:=X n\/(some n ∈ ns/\some n ∉ cP sub ns)
theorem nh {sub:List (Option Nat)}{ns:Ns}{n:Nat} (q:some n ∈ cP sub ns):some n ∈ ns:=by
 obtain⟨j,q⟩:=bK.mp q
 obtain⟨i,_,q2⟩:=c8 q
 exact bK.mpr ⟨i,q2⟩
theorem kf {sub:List (Option Nat)}{e:E3}{j:Nat}{s:Sl} (q:(cN sub e)[j]?=some s):(sub[j]?=some none/\s=.no)\/(∃ i,sub[j]?=some (some i)/\((e[i]?=none/\s=.no)\/∃ t,e[i]?=some t/\s=inS t)):=by
 unfold cN at q
 rw[List.getElem?_map] at q
 cases z:sub[j]? with
 | none=>rw[z] at q;cases q
 |
  some o=>
  rw[z] at q
  cases o with
  | none=>cases q;exact .inl ⟨rfl,rfl⟩
  |
   some i=>
   refine .inr ⟨i,rfl,?_⟩
   have q':=Option.some.inj q
   dsimp only at q'
   cases y:e[i]? with
   | none=>rw[y] at q';exact .inl ⟨rfl,q'.symm⟩
   | some t=>rw[y] at q';exact .inr ⟨t,rfl,q'.symm⟩
theorem Sat.inner {X:Nat->Prop}{h0:Nat}{ns:Ns}{e:E3}{ae:AE}{h:AH}{sub:List (Option Nat)} (S:Sat X h0 ns e ae h) (hs:nK sub):Sat (Xin X ns sub) h0 (cP sub ns) (cN sub e) (jT sub ae) h:=by
 refine⟨by unfold jT cN;rw[List.length_map,List.length_map],by unfold cP cN;rw[List.length_map,List.length_map],S.lh,λn z=>?_,λj k n q1 q2=>?_,λj n q z=>?_,λj s q=>?_⟩
 ·rcases z with z | ⟨z,_⟩
  ·exact S.xl n z
  ·obtain⟨i,z⟩:=bK.mp z
   obtain⟨_,_,_,_,_,_,_,q',_⟩:=S.own z
   exact da q'
 ·obtain⟨i,y1,y2⟩:=c8 q1
  obtain⟨i',y3,y4⟩:=c8 q2
  have:=S.inj i i' n y2 y4
  subst this
  exact hs j k i y1 y3
 ·rcases z with z | ⟨_,z⟩
  ·obtain⟨i,y1,y2⟩:=c8 q
   exact S.nx i n y2 z
  ·exact z (bK.mpr ⟨j,q⟩)
 ·have mv:Mov (Oc X ns) (Oc (Xin X ns sub) (cP sub ns)) h h:=λn o p q=>⟨⟨λz=>by
   rcases z with z | ⟨z,_⟩
   ·exact p.1 z
   ·exact p.2 z,λz=>p.2 (nh z)⟩,q⟩
  have hj:∀ {o},sub[j]?=some o->(cP sub ns)[j]?=some (o.bind λi=>(ns[i]?).bind id)/\(jT sub ae)[j]?=some (o.bind λi=>(ae[i]?).bind id):=λ{o} z=>by
   unfold cP jT
   rw[List.getElem?_map,List.getElem?_map,z]
   exact⟨rfl,rfl⟩
  rcases kf q with ⟨z,rfl⟩ | ⟨i,z,⟨y,rfl⟩ | ⟨t,y,rfl⟩⟩
  ·rw[(hj z).1];rfl
  ·rw[(hj z).1]
   show some ((ns[i]?).bind id)=some none
   have:ns[i]?=none:=by
    rw[List.getElem?_eq_none_iff] at y ⊢
    rw[S.l2];exact y
   rw[this];rfl
  ·have k:=(S.sl i t y).mono mv λ_ _ _ q=>q
   rw[(hj z).1,(hj z).2]
   show SlR _ h0 (some ((ns[i]?).bind id)) (some ((ae[i]?).bind id)) h (inS t)
   have w1:∀ x,ns[i]?=some x->some ((ns[i]?).bind id)=some x:=λx q=>by rw[q];rfl
   have w2:∀ x,ae[i]?=some x->some ((ae[i]?).bind id)=some x:=λx q=>by rw[q];rfl
   cases t with
   | no=>rw[w1 _ k];rfl
   | sh v=>obtain⟨k1,x,k2,k3⟩:=k;rw[w1 _ k1,w2 _ k2];exact⟨rfl,x,rfl,k3⟩
   | ow v=>obtain⟨m,o,k1,k2,_,k3⟩:=k;rw[w1 _ k1,w2 _ k2];exact⟨m,o,rfl,rfl,k3⟩
   | lo v=>obtain⟨m,o,k1,k2,_,k3⟩:=k;rw[w1 _ k1,w2 _ k2];exact⟨m,o,rfl,rfl,k3⟩
   | mu v=>obtain⟨m,o,k1,k2,k3⟩:=k;rw[w1 _ k1,w2 _ k2];exact⟨m,o,rfl,rfl,k3⟩
   | lm v=>obtain⟨m,o,k1,k2,k3⟩:=k;rw[w1 _ k1,w2 _ k2];exact⟨m,o,rfl,rfl,k3⟩
theorem uR {sub:List (Option Nat)}{e:E3} (hs:nK sub):Lnk sub e (cN sub e):=by
 refine⟨hs,λj v q=>?_,λj s q hm=>?_⟩
 ·rcases kf q with ⟨_,z⟩ | ⟨i,z,⟨_,y⟩ | ⟨t,y,y2⟩⟩
  ·cases z
  ·cases y
  ·refine⟨i,t,z,y,?_⟩
   cases t <;> first | rfl | cases y2
 ·rcases kf q with ⟨_,z⟩ | ⟨i,z,⟨_,y⟩ | ⟨t,y,y2⟩⟩
  ·subst z;cases hm
  ·subst y;cases hm
  ·subst y2
   cases t with
   | ow v=>exact⟨v,rfl⟩
   | mu v=>exact⟨v,rfl⟩
   | _=>cases hm
section
variable {I:MI}{I3:MI3}{g:MG}{g3:MG3}{c:MT}{c3:MT3}{F:ME}{F3:ME3}
theorem Gw {X:Nat->Prop}{h0:Nat}{ns:Ns}{e:E3}{ae:AE}{h:AH}{G:AH->Prop} (S:Sat X h0 ns e ae h) (hg:RG g g3) (hc:RT c c3) (hF:RE F F3) (hG:∀ ns' e' h',Stp ns e h ns' e' h'->G h') {ys:List Val}{e2:E3}:
 ∀
  {ds:List D}{vs:List Val},Rds (Oc X ns) h ds vs->∀ {acc:List D}{accv:List Val}{ns1:Ns}{e1:E3}{ae1:AE}{h1:AH},Stp ns e h ns1 e1 h1->Sat X h0 ns1 e1 ae1 h1->Rds (Oc X ns1) h1 acc accv->lcV g3 c3 F3 vs accv e1=.ok ys e2->
  ∃ dy h2 dl ae2,lcL G g c F ds acc ae1 h1=.ok dy h2/\Stp ns e h dl e2 h2/\Sat X h0 dl e2 ae2 h2/\Rds (Oc X dl) h2 dy ys:=by
 intro ds
 induction ds with
 |
  nil=>
  intro vs r acc accv ns1 e1 ae1 h1 a1 S1 ra q
  cases r
  unfold lcL
  rw[if_pos (hG _ _ _ a1)]
  cases q
  exact⟨acc,h1,ns1,ae1,rfl,a1,S1,ra⟩
 |
  cons d0 ds ih=>
  intro vs r acc accv ns1 e1 ae1 h1 a1 S1 ra q
  cases r with
  |
   cons r rr=>
   rename_i v vs
   unfold lcV at q
   unfold lcL
   by_cases hl:accv.length < 16777216
   ·rw[if_pos hl] at q
    rw[if_pos ⟨hG _ _ _ a1,by rw[ra.len];exact hl⟩]
    cases q1:g3 v e1 with
    | none=>rw[q1] at q;cases q
    |
     some e3=>
     rw[q1] at q
     dsimp only at q
     obtain⟨ae3,ns3,p3,S3,a3⟩:=hg _ _ _ _ _ _ _ _ _ S1 (r.mono (a1.mov S)) q1
     rw[p3,iz]
     have a13:=a1.trans S a3
     have pc:=hc X h0 ns3 e3 ae3 h1 S3
     cases q4:c3 e3 with
     | stuck=>rw[q4] at q;cases q
     | exc _ _=>rw[q4] at q;cases q
     |
      ok b e4=>
      rw[q4] at q pc
      obtain⟨b',h4,ns4,p4,a4,S4,rfl⟩:=pc
      rw[p4,iz]
      have a14:=a13.trans S a4
      have ra4:=(ra.mono (a3.mov S1)).mono (a4.mov S3)
      have q':(if b'=true then (F3 e4).bind λt e3=>(match cM e3 t with
       | some (e4,y)=>lcV g3 c3 F3 _ (accv++[y]) e4
       | none=>.stuck) else lcV g3 c3 F3 _ accv e4)=.ok ys e2:=q
      by_cases hb:b'=true
      ·rw[if_pos hb] at q' ⊢
       have pF:=hF X h0 0 ns4 e4 ae3 h4 S4 (Nat.zero_le _)
       cases q5:F3 e4 with
       | stuck=>rw[q5] at q';cases q'
       | exc _ _=>rw[q5] at q';cases q'
       |
        ok t e5=>
        rw[q5] at q' pF
        obtain⟨d5,h5,ns5,p5,a5,S5,r5⟩:=pF
        rw[p5,iz]
        have q'':(match cM e5 t with
         | some (e4,y)=>lcV g3 c3 F3 _ (accv++[y]) e4
         | none=>.stuck)=.ok ys e2:=q'
        cases q6:cM e5 t with
        | none=>rw[q6] at q'';cases q''
        |
         some w=>
         obtain⟨e6,y⟩:=w
         rw[q6] at q''
         obtain⟨ns6,S6,a6,r6⟩:=gv S5 r5 q6
         exact ih rr ((a14.trans S a5).trans S a6) S6 (((ra4.mono (a5.mov S4)).mono (a6.mov S5)).append (.cons r6 .nil)) q''
      ·rw[if_neg hb] at q' ⊢
       exact ih rr a14 S4 ra4 q'
   ·rw[if_neg hl] at q;cases q
theorem JM {sub:List (Option Nat)} (hs:(sub.filterMap id).Nodup) (hI:RI I I3) (hg:RG g g3) (hc:RT c c3) (hF:RE F F3):RE (eLC I sub g c F) (vLC I3 sub g3 c3 F3):=λX h0 L ns e ae h S hl=>
 Po.bind
  S (hI X h0 ns e ae h S) λit p h1 ns1 e1 a1 S1 r1=>by
  try dsimp only
  obtain⟨r2,gd,hk⟩:=r1
  have hs':=xN hs
  have S2:=S1.lockO p.2
  have S3:=S2.inner hs'
  cases q:lcV g3 c3 F3 p.1 [] (cN sub (lockO e1 p.2)) with
  | stuck=>trivial
  | exc _ _=>trivial
  |
   ok ys e2=>
   dsimp only
   split
   ·rename_i hy
    have gd':∀ ns' e' h',Stp (cP sub ns1) (cN sub (lockO e1 p.2)) h1 ns' e' h'->it.guard h':=λns' e' h' a=>gd h' λm o qm hm=>a.keep m o qm λ⟨j,s,z1,z2,z3⟩=>by
     obtain⟨i,y1,y2⟩:=c8 z1
     rcases hm with hm | ⟨k,hk1,hk2⟩
     ·exact hm.2 (bK.mpr ⟨i,y2⟩)
     ·have:i=k:=S1.inj i k m y2 hk2
      subst this
      obtain⟨s',w1,w2⟩:=hk i hk1
      rcases kf z2 with ⟨z,_⟩ | ⟨i',z,y⟩
      ·rw[y1] at z;cases z
      ·rw[y1] at z;cases z
       have hl:(lockO e1 p.2)[i]?=some (kC s'):=by rw[hk1];exact oI w1
       rcases y with ⟨y,_⟩ | ⟨t,y,rfl⟩
       ·rw[hl] at y;cases y
       ·rw[hl] at y;cases y
        cases s' <;> first | cases w2;done | cases z3;done
    have mvi:Mov (Oc X ns1) (Oc (Xin X ns1 sub) (cP sub ns1)) h1 h1:=λn o p q=>⟨⟨λz=>by
     rcases z with z | ⟨z,_⟩
     ·exact p.1 z
     ·exact p.2 z,λz=>p.2 (nh z)⟩,q⟩
    obtain⟨dy,h2,dl,ae2,p2,a2,S4,r4⟩:=Gw (G:=it.guard) S3 hg hc hF gd' (r2.mono mvi) .refl S3 .nil q
    have k3:∀ n,Oc (Xin X ns1 sub) dl n->Oc X ns1 n:=λn z=>⟨λy=>z.1 (.inl y),λy=>by
     by_cases w:some n ∈ cP sub ns1
     ·obtain⟨j,w⟩:=bK.mp w
      obtain⟨s,v,o,b1,b2,_⟩:=S3.own w
      rcases b2 with b2 | b2
      ·obtain⟨v',rfl⟩:=(uR (e:=lockO e1 p.2) hs').mt j s b1 b2
       obtain⟨u,c1,c2⟩:=a2.mu' j v' b1
       exact z.2 (bK.mpr ⟨j,by rw[c2];exact w⟩)
      ·obtain⟨c1,c2⟩:=a2.lk j s b1 b2
       exact z.2 (bK.mpr ⟨j,by rw[c2];exact w⟩)
     ·exact z.1 (.inr ⟨y,w⟩)⟩
    have bk:=S2.back (Y:=X) (uR hs') a2 (λn z=>⟨Nat.lt_of_lt_of_le (S2.xl n z) a2.len,.inl z⟩) (λ_ z=>z) λj v n q1 q2=>by
     obtain⟨s,u,o,b1,b2,b3,b4,b5,b6,b7⟩:=S4.own q2
     rw[q1] at b1;cases b1
     cases b3
     exact⟨o,b5,b6,b7.mono λm o' z y=>⟨k3 m z,y⟩⟩
    obtain⟨S5,a5⟩:=bk
    have r5:Rds (Oc X ns1) h2 dy ys:=r4.mono λm o' z y=>⟨k3 m z,y⟩
    have fin:∀ (e':E3),Sat X h0 ns1 e' ae h2->Stp ns1 e1 h1 ns1 e' h2->Po X h0 ns1 e1 ae h1 (relE X h0 L ae) ((noX (lcL it.guard g c F it.items [] (jT sub ae) h1)).bind dD) (.ok (.new (.lst ys)) e'):=λe' S6 a6=>by
     rw[p2]
     have pp:=BvR.po (L:=L) (r:=dD dy h2) (b:=.new (.lst ys)) S6 (Nat.le_trans hl (Nat.le_trans a1.len a6.len)) ⟨.lst dy,by unfold dD;rw[if_pos (by rw[r5.len];exact hy)],trivial,.lst r5⟩
     obtain⟨d,h',ns',y,y1,y2,y3⟩:=pp
     exact⟨d,h',ns',y,a6.trans S1 y1,y2,y3⟩
    cases hp:p.2 with
    |
     none=>
     rw[hp] at S5 a5
     exact fin _ S5 a5
    |
     some k=>
     rw[hp] at S5 a5
     obtain⟨s,w1,w2⟩:=hk k hp
     exact fin _ (S5.unlock k) (a5.unlock w1 w2)
   ·trivial
end
end L3
namespace L3
open PySem PySem.Spec PyProof.Rows L2
inductive R3F where
 | ok (r:Rt) (mv:List Val) | exc (c:Str) (mv:List Val) | stuck
abbrev Fn3:=List Val->R3F
def sl1 (b:Bool) (v:Val):Sl:=if b=true then .mu v else .sh v
def sls (ms:List Bool) (vs:List Val):E3:=List.zipWith sl1 ms vs
def bj:List Bool->List Val->E3
 | true :: ms,v :: vs=>.mu v :: bj ms vs
 | true :: ms,[]=>.no :: bj ms []
 | false :: ms,vs=>.no :: bj ms vs
 | [],_=>[]
def muV:List Bool->E3->Option (List Val)
 | true :: ms,.mu v :: e=>(muV ms e).map (v :: ·)
 | true :: _,_=>none
 | false :: ms,_ :: e=>muV ms e
 | false :: _,[]=>none
 | [],_=>some []
def RFp (X:Nat->Prop) (ps:Ns) (ms:List Bool) (vs:List Val) (ds:List D) (h:AH) (r2:R D):R3F->Prop
 | .stuck=>True
 | .ok r mv=>∃ d h',r2=.ok d h'/\Stp ps (sls ms vs) h ps (bj ms mv) h'/\RtR X h.length ps (bj ms mv) (ds.map some) h' d r
 | .exc c mv=>∃ h',r2=.exc c h'/\Stp ps (sls ms vs) h ps (bj ms mv) h'/\Sat X h.length ps (bj ms mv) (ds.map some) h'
def RF (ms:List Bool) (G2:Fn) (G3:Fn3):Prop:=∀ X ps ds vs h,vs.length=ms.length->Sat X h.length ps (sls ms vs) (ds.map some) h->RFp X ps ms vs ds h (G2 ds h) (G3 vs)
def fnV (ms:List Bool) (N:Nat) (F:MS3):Fn3:=λvs=>if vs.length=ms.length then (match F (sls ms vs++List.replicate (N - vs.length) .no) with
 | .nx e=>(match muV ms e with | some mv=>.ok (.val .non) mv | none=>.stuck)
 | .rt r e=>(match muV ms e with | some mv=>.ok r mv | none=>.stuck)
 | .exc c e=>(match muV ms e with | some mv=>.exc c mv | none=>.stuck)
 | _=>.stuck) else .stuck
theorem gn {ms:List Bool}{vs:List Val}{i:Nat}{s:Sl} (q:(sls ms vs)[i]?=some s):∃ b v,ms[i]?=some b/\vs[i]?=some v/\s=sl1 b v:=by
 unfold sls at q
 rw[List.getElem?_zipWith] at q
 cases h1:ms[i]? with
 | none=>rw[h1] at q;cases q
 |
  some b=>
  cases h2:vs[i]? with
  | none=>rw[h1,h2] at q;cases q
  | some v=>rw[h1,h2] at q;cases q;exact⟨b,v,rfl,rfl,rfl⟩
theorem iE:∀ {ms:List Bool}{e:E3}{mv:List Val}{i:Nat}{s:Sl},muV ms e=some mv->(bj ms mv)[i]?=some s->(ms[i]?=some false/\s=.no)\/(ms[i]?=some true/\∃ v,e[i]?=some (.mu v)/\s=.mu v)
 | [],_,_,_,_,_,q=>by unfold bj at q;simp at q
 |
  true :: ms,.mu v :: e,mv,i,s,q,q2=>by
  obtain⟨mv',z1,z2⟩:=Option.map_eq_some_iff.mp (show (muV ms e).map (v :: ·)=some mv from q)
  subst z2
  cases i with
  | zero=>
   right;have:Sl.mu v=s:=by simpa [bj] using q2
   subst this;exact⟨rfl,v,rfl,rfl⟩
  |
   succ i=>
   have:=iE (i:=i) (s:=s) z1 (by simpa [bj] using q2)
   simpa using this
 | true :: ms,[],mv,i,s,q,q2=>by cases q
 | true :: ms,.no :: e,mv,i,s,q,q2=>by cases q
 | true :: ms,.sh v :: e,mv,i,s,q,q2=>by cases q
 | true :: ms,.ow v :: e,mv,i,s,q,q2=>by cases q
 | true :: ms,.lo v :: e,mv,i,s,q,q2=>by cases q
 | true :: ms,.lm v :: e,mv,i,s,q,q2=>by cases q
 | false :: ms,[],mv,i,s,q,q2=>by cases q
 |
  false :: ms,t :: e,mv,i,s,q,q2=>by
  cases i with
  | zero=>
   left;have:Sl.no=s:=by simpa [bj] using q2
   exact⟨rfl,this.symm⟩
  |
   succ i=>
   have:=iE (i:=i) (s:=s) (show muV ms e=some mv from q) (by simpa [bj] using q2)
   simpa using this
theorem pB:∀ {ms:List Bool}{e:E3}{mv:List Val}{i:Nat},muV ms e=some mv->ms[i]?=some true->∃ v,e[i]?=some (.mu v)/\(bj ms mv)[i]?=some (.mu v)
 | [],_,_,i,_,q=>by simp at q
 |
  true :: ms,.mu v :: e,mv,i,q,q2=>by
  obtain⟨mv',z1,z2⟩:=Option.map_eq_some_iff.mp (show (muV ms e).map (v :: ·)=some mv from q)
  subst z2
  cases i with
  | zero=>exact⟨v,rfl,rfl⟩
  |
   succ i=>
   obtain⟨u,y1,y2⟩:=pB (i:=i) z1 (by simpa using q2)
   exact⟨u,by simpa using y1,by simpa [bj] using y2⟩
 | true :: ms,[],mv,i,q,q2=>by cases q
 | true :: ms,.no :: e,mv,i,q,q2=>by cases q
 | true :: ms,.sh v :: e,mv,i,q,q2=>by cases q
 | true :: ms,.ow v :: e,mv,i,q,q2=>by cases q
 | true :: ms,.lo v :: e,mv,i,q,q2=>by cases q
 | true :: ms,.lm v :: e,mv,i,q,q2=>by cases q
 | false :: ms,[],mv,i,q,q2=>by cases q
 |
  false :: ms,t :: e,mv,i,q,q2=>by
  cases i with
  | zero=>simp at q2
  |
   succ i=>
   obtain⟨u,y1,y2⟩:=pB (i:=i) (show muV ms e=some mv from q) (by simpa using q2)
   exact⟨u,by simpa using y1,by simpa [bj] using y2⟩
theorem iQ:∀ {ms:List Bool}{mv:List Val},(bj ms mv).length=ms.length
 | [],_=>rfl
 | true :: ms,v :: mv=>by show (bj ms mv).length + 1=ms.length + 1;rw[iQ]
 | true :: ms,[]=>by show (bj ms []).length + 1=ms.length + 1;rw[iQ]
 | false :: ms,mv=>by show (bj ms mv).length + 1=ms.length + 1;rw[iQ]
theorem BV {ms:List Bool}{N:Nat}{F:MS}{F3:MS3} (hF:RS F F3):RF ms (fnD N F) (fnV ms N F3):=λX ps ds vs h hl S=>by
 unfold fnV
 rw[if_pos hl]
 have lS:(sls ms vs).length=vs.length:=by unfold sls;rw[List.length_zipWith];omega
 have lD:ds.length=vs.length:=by have:=S.l1;rw[List.length_map] at this;omega
 have lP:ps.length=vs.length:=by have:=S.l2;omega
 have S1
  : Sat X h.length (ps++List.replicate (N - vs.length) none) (sls ms vs++List.replicate (N - vs.length) .no) (ds.map some++List.replicate (N - vs.length) none) h:=by
  have mns:∀ n,some n ∈ ps++List.replicate (N - vs.length) (none:Option Nat) ↔ some n ∈ ps:=λn=>by
   rw[List.mem_append]
   constructor
   ·rintro (z | z)
    ·exact z
    ·have:=List.eq_of_mem_replicate z;cases this
   ·exact .inl
  have gns:∀ {i n:Nat},(ps++List.replicate (N - vs.length) (none:Option Nat))[i]?=some (some n)->ps[i]?=some (some n):=λ{i n} q=>by
   rw[List.getElem?_append] at q
   split at q
   ·exact q
   ·rw[List.getElem?_replicate] at q;split at q <;> cases q
  refine⟨?_,?_,S.lh,S.xl,λi j n q1 q2=>S.inj i j n (gns q1) (gns q2),λi n q=>S.nx i n (gns q),λi s q=>?_⟩
  ·rw[List.length_append,List.length_append,List.length_replicate,List.length_replicate,S.l1]
  ·rw[List.length_append,List.length_append,List.length_replicate,List.length_replicate,S.l2]
  ·rw[List.getElem?_append] at q
   split at q
   ·rename_i hi
    have k:=S.sl i s q
    rw[List.getElem?_append_left (by omega),List.getElem?_append_left (by rw[List.length_map];omega)]
    exact k.mono (λn o p q=>⟨⟨p.1,λz=>p.2 ((mns n).mp z)⟩,q⟩) λ_ _ _ q=>q
   ·rename_i hi
    rw[List.getElem?_replicate] at q
    split at q
    ·cases q
     rw[List.getElem?_append_right (by omega),List.getElem?_replicate,if_pos (by omega)]
     rfl
    ·cases q
 have p:=hF _ _ _ _ _ _ S1
 have e2:fnD N F ds h=match F (ds.map some++List.replicate (N - vs.length) none) h with
  | .nx _ h'=>.ok .non h'
  | .rt d h'=>.ok d h'
  | .exc c _ h'=>.exc c h'
  | _=>.stuck:=by rw[<- lD];rfl
 rw[e2]
 have fin:∀ (Y:Nat->Prop) (ns':Ns) (e':E3) (am:AE) (h':AH) (mv:List Val),(∀ n,X n->Y n)->Stp (ps++List.replicate (N - vs.length) none) (sls ms vs++List.replicate (N - vs.length) .no) h ns' e' h'->Sat Y h.length ns' e' am h'->muV ms e'=some mv->
  Stp ps (sls ms vs) h ps (bj ms mv) h'/\Sat Y h.length ps (bj ms mv) (ds.map some) h'/\∀ n,Oc Y ns' n->Oc Y ps n:=by
  intro Y ns' e' am h' mv hXY a S2 qm
  have kmu:∀ {i:Nat},ms[i]?=some true->∃ v u n o,e'[i]?=some (.mu v)/\(bj ms mv)[i]?=some (.mu v)/\(sls ms vs)[i]?=some (.mu u)/\ns'[i]?=ps[i]?/\ps[i]?=some (some n)/\(ds.map some)[i]?=some (some (.ref n))/\h'[n]?=some o/\cL o/\Rc (Oc Y ns') h' o v:=by
   intro i hi
   obtain⟨v,y1,y2⟩:=pB qm hi
   have hil:i < ms.length:=(List.getElem?_eq_some_iff.mp hi).1
   obtain⟨u,y3,y4⟩:=a.mu i v y1
   rw[List.getElem?_append_left (by omega)] at y3 y4
   obtain⟨n,o,z1,z2,_⟩:=S.sl i _ y3
   obtain⟨n',o',w1,w2,w3,w4,w5⟩:=S2.sl i _ y1
   rw[y4,z1] at w1;cases w1
   exact⟨v,u,n,o',y1,y2,y3,y4,z1,z2,w3,w4,w5⟩
  have kown:∀ {i n:Nat},ps[i]?=some (some n)->ms[i]?=some true:=λ{i n} q=>by
   obtain⟨s,v,o,z1,z2,_⟩:=S.own q
   obtain⟨b,u,y1,_,y2⟩:=gn z1
   cases b with
   | true=>exact y1
   | false=>subst y2;rcases z2 with z2 | z2 <;> cases z2
  have koc:∀ n,Oc Y ns' n->Oc Y ps n:=λn z=>⟨z.1,λy=>by
   obtain⟨i,y⟩:=bK.mp y
   obtain⟨v,u,n',o,_,_,_,k1,k2,_⟩:=kmu (kown y)
   exact z.2 (bK.mpr ⟨i,by rw[k1];exact y⟩)⟩
  refine⟨⟨a.len,λm o q hm=>a.keep m o q λ⟨i,s,z1,z2,z3⟩=>hm ?_,λ_ _ q=>.inl q,λi s q hl'=>?_,λi s q hl'=>?_,λi v q=>?_,λi v q=>?_⟩,⟨?_,?_,Nat.le_trans (Nat.le_refl _) a.len,S2.xl,S.inj,λi n q z=>?_,λi s q=>?_⟩,koc⟩
  ·rw[List.getElem?_append] at z1
   split at z1
   ·rename_i hi
    rw[List.getElem?_append_left (by omega)] at z2
    exact⟨i,s,z1,z2,z3⟩
   ·rw[List.getElem?_replicate] at z1;split at z1 <;> cases z1
  ·obtain⟨b,u,_,_,y⟩:=gn q
   subst y
   cases b <;> cases hl'
  ·rcases iE qm q with ⟨_,z⟩ | ⟨_,v,_,z⟩ <;> subst z <;> cases hl'
  ·rcases iE qm q with ⟨_,z⟩ | ⟨z,_⟩
   ·cases z
   ·obtain⟨v',u,n,o,_,_,k1,_⟩:=kmu z
    exact⟨u,k1,rfl⟩
  ·obtain⟨b,u,y1,_,y2⟩:=gn q
   cases b with
   | false=>cases y2
   |
    true=>
    obtain⟨v',u,n,o,_,k0,k1,_⟩:=kmu y1
    exact⟨v',k0,rfl⟩
  ·rw[List.length_map,iQ];omega
  ·rw[iQ];omega
  ·obtain⟨v,u,n',o,_,_,_,k1,k2,_⟩:=kmu (kown q)
   exact S2.nx i n (by rw[k1];exact q) z
  ·rcases iE qm q with ⟨z,rfl⟩ | ⟨z,v,z2,rfl⟩
   ·have hil:i < ms.length:=(List.getElem?_eq_some_iff.mp z).1
    have hi:i < (sls ms vs).length:=by omega
    obtain⟨b,u,y1,_,y2⟩:=gn (List.getElem?_eq_getElem hi)
    rw[z] at y1;cases y1
    have k:=S.sl i _ (List.getElem?_eq_getElem hi)
    rw[y2] at k
    exact k.1
   ·obtain⟨v',u,n,o,k0,_,_,k1,k2,k3,k4,k5,k6⟩:=kmu z
    rw[z2] at k0;cases k0
    exact⟨n,o,k2,k3,k4,k5,k6.mono λm o' y q=>⟨koc m y,q⟩⟩
 generalize F3 (sls ms vs++List.replicate (N - vs.length) .no)=r3 at *
 cases r3 with
 | stuck=>trivial
 | bk _=>trivial
 | ct _=>trivial
 |
  nx e'=>
  obtain⟨am,h',ns',q,a,S2⟩:=p
  rw[q]
  dsimp only
  cases qm:muV ms e' with
  | none=>trivial
  |
   some mv=>
   obtain⟨a3,S3,koc⟩:=fin X ns' e' am h' mv (λ_ z=>z) a S2 qm
   exact⟨.non,h',rfl,a3,S3,.non⟩
 |
  exc c e'=>
  obtain⟨am,h',ns',q,a,S2⟩:=p
  rw[q]
  dsimp only
  cases qm:muV ms e' with
  | none=>trivial
  |
   some mv=>
   obtain⟨a3,S3,koc⟩:=fin X ns' e' am h' mv (λ_ z=>z) a S2 qm
   exact⟨h',rfl,a3,S3⟩
 |
  rt r e'=>
  obtain⟨d,am,h',ns',q,a,rr⟩:=p
  rw[q]
  dsimp only
  cases qm:muV ms e' with
  | none=>trivial
  |
   some mv=>
   cases r with
   |
    val v=>
    obtain⟨a3,S3,koc⟩:=fin X ns' e' am h' mv (λ_ z=>z) a rr.1 qm
    exact⟨d,h',rfl,a3,S3,rr.2.mono λm o y q=>⟨koc m y,q⟩⟩
   |
    new v=>
    obtain⟨n,o,z1,z2,z3,z4,z5,z6,z7⟩:=rr
    obtain⟨a3,S3,koc⟩:=fin (Xn X n) ns' e' am h' mv (λ_ z=>.inl z) a z6 qm
    exact⟨d,h',rfl,a3,n,o,z1,z2,z3,z4,z5,S3,z7.mono λm o y q=>⟨koc m y,q⟩⟩
def jx (i:Nat):List Tm->Bool
 | .bor j :: ts=>(i == j) || jx i ts
 | _ :: ts=>jx i ts
 | []=>false
def oC (i:Nat):List Bool->List Tm->Bool
 | true :: ms,.bor j :: ts=>(i == j) || oC i ms ts
 | _ :: ms,_ :: ts=>oC i ms ts
 | _,_=>false
def okA (e:E3):List Bool->List Tm->Bool
 | true :: ms,.bor i :: ts=>((e[i]?).bind Sl.mv).isSome && !(jx i ts) && okA e ms ts
 | true :: _,_ :: _=>false
 | false :: ms,.bor i :: ts=>!(oC i ms ts) && okA e ms ts
 | false :: ms,_ :: ts=>okA e ms ts
 | [],[]=>true
 | _,_=>false
def oB (b:Bool) (t:Tm):Option Nat:=match b,t with
 | true,.bor i=>some i
 | _,_=>none
def cQ (ms:List Bool) (ts:List Tm):List (Option Nat):=List.zipWith oB ms ts
def bJ (e:E3):List Bool->List Tm->List Nat
 | false :: ms,.bor i :: ts=>(match e[i]? with
  | some (.sh _)=>bJ e ms ts
  | _=>i :: bJ e ms ts)
 | _ :: ms,_ :: ts=>bJ e ms ts
 | _,_=>[]
mutual
def flatV:Val->Bool
 | .tup xs=>flatVs xs
 | .lst _=>false
 | .kl _=>false
 | .dct _=>false
 | .set _=>false
 | _=>true
def flatVs:List Val->Bool
 | []=>true
 | v :: vs=>flatV v && flatVs vs
end
def nH:List (Key×Val)->Bool
 | []=>true
 | (_,v) :: vs=>flatV v && nH vs
def dX:Val->Bool
 | .lst xs=>flatVs xs
 | .dct xs=>nH xs
 | .set _=>true
 | _=>false
def ma:Rt->Bool
 | .val v=>flatV v
 | .new v=>dX v
def o4 (e:E3):List Nat->Option E3
 | []=>some e
 | i :: is=>match cM e (.bor i) with
  | some (e1,_)=>o4 e1 is
  | none=>none
def Rt.tm:Rt->Tm
 | .val v=>.val v
 | .new v=>.new v
def BW (ms:List Bool) (G:Fn3) (A:MA3):ME3:=λe=>(A e).bind λts e1=>match rss e1 ts with
 | none=>.stuck
 | some vs=>if okA e1 ms ts=true then (match G vs with
  | .stuck=>.stuck
  | .ok r mv=>if (bJ e1 ms ts).isEmpty || (ma r && mv.all dX) then .ok r.tm (bN (cQ ms ts) (bj ms mv) e1) else (match o4 e1 (bJ e1 ms ts) with
   | some e2=>.ok r.tm (bN (cQ ms ts) (bj ms mv) e2)
   | none=>.stuck)
  | .exc c mv=>if (bJ e1 ms ts).isEmpty || mv.all dX then .exc c (bN (cQ ms ts) (bj ms mv) e1) else .stuck) else .stuck
section
variable {P P':Nat->Prop}{h h':AH}
theorem Rd.flat {d:D}{v:Val} (f:flatV v=true) (r:Rd P h d v):Rd P' h' d v:=
 @Rd.rec P h (λd v _=>flatV v=true->Rd P' h' d v) (λo v _=>flatV v=true->Rd P' h' .non v) (λds vs _=>flatVs vs=true->Rds P' h' ds vs) (λws us _=>True) (λ_=>.non) (λb _=>.bl b) (λi _=>.int i) (λx _=>.str x) (λn _=>.ty n) (λx _=>.glb x) (λx _=>.exc x) (λ_ ih f=>.tup (ih f)) (λ_ _ f=>absurd f Bool.false_ne_true) (λ_ _ r _ f=>by cases r <;> exact absurd f Bool.false_ne_true) (λ_ _ f=>absurd f Bool.false_ne_true) (λ_ _ f=>absurd f Bool.false_ne_true) (λ_ _ f=>absurd f Bool.false_ne_true) (λ_ f=>absurd f Bool.false_ne_true) (λ_=>.nil) (λ_ _ a b f=>.cons (a (Bool.and_eq_true .. ▸ f).1) (b (Bool.and_eq_true .. ▸ f).2)) trivial (λ_ _ _ _=>trivial) d v r f
theorem Rds.flat {d:List D}{v:List Val} (f:flatVs v=true) (r:Rds P h d v):Rds P' h' d v:=
 r.ind (M:=λds vs=>flatVs vs=true->Rds P' h' ds vs) (λ_=>.nil) (λr _ ih f=>by
  rw[flatVs,Bool.and_eq_true] at f
  exact .cons (Rd.flat f.1 r) (ih f.2)) f
theorem Rk.flat {d:List (Key×D)}{v:List (Key×Val)} (f:nH v=true) (r:Rk P h d v):Rk P' h' d v:=
 r.ind (M:=λds vs=>nH vs=true->Rk P' h' ds vs) (λ_=>.nil) (λr _ ih f=>by
  rw[nH,Bool.and_eq_true] at f
  exact .cons (Rd.flat f.1 r) (ih f.2)) f
theorem Rc.flat {o:Ob}{v:Val} (f:dX v=true) (r:Rc P h o v):Rc P' h' o v:=by
 cases r with
 | lst r=>exact .lst (Rds.flat (by simpa [dX] using f) r)
 | fz r=>simp [dX] at f
 | dct r=>exact .dct (Rk.flat (by simpa [dX] using f) r)
 | set xs=>exact .set xs
end
theorem o6 {i:Nat}:∀ {ts:List Tm}{k:Nat},ts[k]?=some (.bor i)->jx i ts=true
 | [],_,q=>by simp at q
 |
  t :: ts,0,q=>by
  have:t=.bor i:=by simpa using q
  subst this;simp [jx]
 |
  t :: ts,k + 1,q=>by
  have:=o6 (ts:=ts) (k:=k) (by simpa using q)
  cases t <;> simp [jx,this]
theorem uE {i:Nat}:∀ {ms:List Bool}{ts:List Tm}{k:Nat},ms[k]?=some true->ts[k]?=some (.bor i)->oC i ms ts=true
 | [],_,_,q,_=>by simp at q
 | _ :: _,[],_,_,q=>by simp at q
 |
  b :: ms,t :: ts,0,q1,q=>by
  have:t=.bor i:=by simpa using q
  have:b=true:=by simpa using q1
  subst_vars;simp [oC]
 |
  b :: ms,t :: ts,k + 1,q1,q=>by
  have:=uE (ms:=ms) (ts:=ts) (k:=k) (by simpa using q1) (by simpa using q)
  cases b <;> cases t <;> simp [oC,this]
theorem oV {e:E3}:∀ {ms:List Bool}{ts:List Tm}{k:Nat},okA e ms ts=true->ms[k]?=some true->∃ i,ts[k]?=some (.bor i)/\∃ u,(e[i]?).bind Sl.mv=some u
 | [],_,_,_,q=>by simp at q
 | b :: ms,[],_,o,_=>by cases b <;> simp [okA] at o
 |
  b :: ms,t :: ts,0,o,q=>by
  have:b=true:=by simpa using q
  subst this
  cases t with
  |
   bor i=>
   simp only[okA,Bool.and_eq_true] at o
   exact⟨i,rfl,Option.isSome_iff_exists.mp o.1.1⟩
  | _=>simp [okA] at o
 |
  b :: ms,t :: ts,k + 1,o,q=>by
  have o':okA e ms ts=true:=by
   cases b <;> cases t <;> simp only[okA,Bool.and_eq_true] at o <;> first | exact o.2 | exact o | (simp at o;done)
  obtain⟨i,y⟩:=oV (k:=k) o' (by simpa using q)
  exact⟨i,by simpa using y⟩
theorem jK {e:E3}:∀ {ms:List Bool}{ts:List Tm}{k j i:Nat},okA e ms ts=true->ms[k]?=some true->ts[k]?=some (.bor i)->ts[j]?=some (.bor i)->j=k
 | [],_,_,_,_,_,q,_,_=>by simp at q
 | b :: ms,[],_,_,_,o,_,_,_=>by cases b <;> simp [okA] at o
 | b :: ms,t :: ts,0,0,i,o,q1,q2,q3=>rfl
 |
  b :: ms,t :: ts,0,j + 1,i,o,q1,q2,q3=>by
  have h1:b=true:=by simpa using q1
  have h2:t=.bor i:=by simpa using q2
  subst h1 h2
  simp only[okA,Bool.and_eq_true] at o
  have:=o6 (i:=i) (ts:=ts) (k:=j) (by simpa using q3)
  rw[this] at o
  simp at o
 |
  b :: ms,t :: ts,k + 1,0,i,o,q1,q2,q3=>by
  have h2:t=.bor i:=by simpa using q3
  subst h2
  have hm:=uE (i:=i) (ms:=ms) (ts:=ts) (k:=k) (by simpa using q1) (by simpa using q2)
  have hb:=o6 (i:=i) (ts:=ts) (k:=k) (by simpa using q2)
  cases b <;> simp [okA,hm,hb] at o
 |
  b :: ms,t :: ts,k + 1,j + 1,i,o,q1,q2,q3=>by
  have o':okA e ms ts=true:=by
   cases b <;> cases t <;> simp only[okA,Bool.and_eq_true] at o <;> first | exact o.2 | exact o | (simp at o;done)
  exact congrArg (· + 1) (jK (k:=k) (j:=j) (i:=i) o' (by simpa using q1) (by simpa using q2) (by simpa using q3))
theorem jJ {e:E3}:∀ {ms:List Bool}{ts:List Tm},okA e ms ts=true->ms.length=ts.length
 | [],[],_=>rfl
 | [],_ :: _,o=>by simp [okA] at o
 | b :: ms,[],o=>by cases b <;> simp [okA] at o
 |
  b :: ms,t :: ts,o=>by
  have o':okA e ms ts=true:=by
   cases b <;> cases t <;> simp only[okA,Bool.and_eq_true] at o <;> first | exact o.2 | exact o | (simp at o;done)
  exact congrArg (· + 1) (jJ o')
theorem mR {e:E3}:∀ {ms:List Bool}{ts:List Tm}{k i:Nat},ms[k]?=some false->ts[k]?=some (.bor i)->(∀ v,e[i]? ≠ some (.sh v))->i ∈ bJ e ms ts
 | [],_,_,_,q,_,_=>by simp at q
 | _ :: _,[],_,_,_,q,_=>by simp at q
 |
  b :: ms,t :: ts,0,i,q1,q2,hn=>by
  have h1:b=false:=by simpa using q1
  have h2:t=.bor i:=by simpa using q2
  subst h1 h2
  unfold bJ
  split
  ·rename_i v q;exact absurd q (hn v)
  ·exact List.mem_cons_self ..
 |
  b :: ms,t :: ts,k + 1,i,q1,q2,hn=>by
  have ih:=mR (ms:=ms) (ts:=ts) (k:=k) (by simpa using q1) (by simpa using q2) hn
  cases b <;> cases t <;> simp only[bJ] <;> first | exact ih | (split;exact ih;exact List.mem_cons_of_mem _ ih)
theorem fk {ms:List Bool}{ts:List Tm}{k i:Nat} (q:(cQ ms ts)[k]?=some (some i)):ms[k]?=some true/\ts[k]?=some (.bor i):=by
 unfold cQ at q
 rw[List.getElem?_zipWith] at q
 cases h1:ms[k]? with
 | none=>rw[h1] at q;cases q
 |
  some b=>
  cases h2:ts[k]? with
  | none=>rw[h1,h2] at q;cases q
  |
   some t=>
   rw[h1,h2] at q
   have q':oB b t=some i:=Option.some.inj q
   cases b <;> cases t <;> first | (cases q';done) | (cases q';exact⟨rfl,rfl⟩)
theorem Dj {ms:List Bool}{ts:List Tm}{k i:Nat} (q1:ms[k]?=some true) (q2:ts[k]?=some (.bor i)):(cQ ms ts)[k]?=some (some i):=by
 unfold cQ
 rw[List.getElem?_zipWith,q1,q2];rfl
theorem uL {e:E3}:∀ {ts:List Tm}{vs:List Val}{k:Nat}{v:Val},rss e ts=some vs->vs[k]?=some v->∃ t,ts[k]?=some t/\rs e t=some v
 | [],_,_,_,q,q2=>by cases q;simp at q2
 |
  t :: ts,vs,k,v,q,q2=>by
  unfold rss at q
  split at q
  ·rename_i u us e1 e2
   cases q
   cases k with
   | zero=>
    have:u=v:=by simpa using q2
    subst this;exact⟨t,rfl,e1⟩
   |
    succ k=>
    obtain⟨t',y1,y2⟩:=uL (k:=k) e2 (by simpa using q2)
    exact⟨t',by simpa using y1,y2⟩
  ·cases q
theorem mn {e:E3}:∀ {ts:List Tm}{vs:List Val},rss e ts=some vs->vs.length=ts.length
 | [],_,q=>by cases q;rfl
 |
  t :: ts,vs,q=>by
  unfold rss at q
  split at q
  ·rename_i u us e1 e2;cases q;exact congrArg (· + 1) (mn e2)
  ·cases q
theorem TsR.get {X:Nat->Prop}{ns:Ns}{ae:AE}{h:AH}:∀ {ds:List D}{ts:List Tm}{k:Nat}{t:Tm},TsR X ns ae h ds ts->ts[k]?=some t->∃ d,ds[k]?=some d/\((∃ v,t=.val v/\Rd (Oc X ns) h d v)\/∃ i,t=.bor i/\ae[i]?=some (some d))
 | _,_,_,_,.nil,q=>by simp at q
 | _,_,0,_,.val r rr,q=>by have:=(by simpa using q:Tm.val _=_);subst this;exact⟨_,rfl,.inl ⟨_,rfl,r⟩⟩
 | _,_,0,_,.bor r rr,q=>by have:=(by simpa using q:Tm.bor _=_);subst this;exact⟨_,rfl,.inr ⟨_,rfl,r⟩⟩
 | _,_,k + 1,t,.val r rr,q=>by obtain⟨d,y⟩:=rr.get (k:=k) (by simpa using q);exact⟨d,by simpa using y⟩
 | _,_,k + 1,t,.bor r rr,q=>by obtain⟨d,y⟩:=rr.get (k:=k) (by simpa using q);exact⟨d,by simpa using y⟩
def Xc (X:Nat->Prop) (ns:Ns) (e:E3) (ms:List Bool) (ts:List Tm) (n:Nat):Prop:=(X n\/some n ∈ ns)/\some n ∉ cP (cQ ms ts) ns/\∀ i ∈ bJ e ms ts,ns[i]? ≠ some (some n)
theorem tS {X:Nat->Prop}{h0:Nat}{ns:Ns}{e:E3}{ae:AE}{h:AH}{ms:List Bool}{ts:List Tm}{ds:List D}{vs:List Val} (S:Sat X h0 ns e ae h) (rt:TsR X ns ae h ds ts) (qv:rss e ts=some vs) (ok:okA e ms ts=true):
 Sat (Xc X ns e ms ts) h.length (cP (cQ ms ts) ns) (sls ms vs) (ds.map some) h:=by
 have l1:=jJ ok
 have l2:=mn qv
 have l3:=TsR.len rt
 have hs:nK (cQ ms ts):=λj k i q1 q2=>jK ok (fk q2).1 (fk q2).2 (fk q1).2
 have mv:Mov (Oc X ns) (Oc (Xc X ns e ms ts) (cP (cQ ms ts) ns)) h h:=λn o p q=>⟨⟨λz=>by
  rcases z.1 with z | z
  ·exact p.1 z
  ·exact p.2 z,λz=>p.2 (nh z)⟩,q⟩
 refine⟨?_,?_,Nat.le_refl _,λn z=>?_,λj k n q1 q2=>?_,λj n q z=>z.2.1 (bK.mpr ⟨j,q⟩),λk s q=>?_⟩
 ·unfold sls;rw[List.length_map,List.length_zipWith];omega
 ·unfold cP cQ sls;rw[List.length_map,List.length_zipWith,List.length_zipWith];omega
 ·rcases z.1 with z | z
  ·exact S.xl n z
  ·obtain⟨i,z⟩:=bK.mp z
   obtain⟨_,_,_,_,_,_,_,q',_⟩:=S.own z
   exact da q'
 ·obtain⟨i,y1,y2⟩:=c8 q1
  obtain⟨i',y3,y4⟩:=c8 q2
  have:=S.inj i i' n y2 y4
  subst this
  exact hs j k i y1 y3
 ·obtain⟨b,v,
   q1,q2,rfl⟩:=gn q
  obtain⟨t,q3,q4⟩:=uL qv q2
  obtain⟨d,q5,q6⟩:=rt.get q3
  have qd:(ds.map some)[k]?=some (some d):=by rw[List.getElem?_map,q5];rfl
  rw[qd]
  have qn:(cP (cQ ms ts) ns)[k]?=some ((oB b t).bind λi=>(ns[i]?).bind id):=by
   unfold cP cQ
   rw[List.getElem?_map,List.getElem?_zipWith,q1,q3];rfl
  rw[qn]
  cases b with
  |
   true=>
   obtain⟨i,y1,u,y2⟩:=oV ok q1
   rw[q3] at y1;cases y1
   have q4':(e[i]?).bind Sl.val=some v:=q4
   obtain⟨s,z1,z2⟩:=Option.bind_eq_some_iff.mp y2
   rw[z1] at q4'
   have hv:s.val=some v:=q4'
   have huv:u=v:=by cases s <;> first | cases z2;done | (cases z2;cases hv;rfl)
   subst huv
   have hns:∃ n,ns[i]?=some (some n):=by
    have y:=S.sl i s z1
    cases s with
    | ow v=>obtain⟨n,o,y1,_⟩:=y;exact⟨n,y1⟩
    | mu v=>obtain⟨n,o,y1,_⟩:=y;exact⟨n,y1⟩
    | _=>cases z2
   obtain⟨n,hn⟩:=hns
   obtain⟨n',o,k1,k2,k3,k4,_⟩:=S.write z1 z2
   rcases q6 with ⟨_,z,_⟩ | ⟨i',z,q6⟩
   ·cases z
   ·cases z
    rw[q6] at k1;cases k1
    obtain⟨_,_,_,_,_,_,w,_⟩:=S.own hn
    rw[q6] at w;cases w
    exact⟨n,o,by show some ((ns[i]?).bind id)=_;rw[hn];rfl,rfl,k2,k3,k4.mono mv⟩
  |
   false=>
   refine⟨by cases t <;> rfl,d,rfl,?_⟩
   rcases q6 with ⟨u,rfl,q6⟩ | ⟨i,rfl,q6⟩
   ·cases q4;exact q6.mono mv
   ·have q4':(
     e[i]?).bind Sl.val=some v:=q4
    rcases S.bor q6 q4' with z | ⟨n,o,rfl,z1,z2⟩
    ·exact z.mono mv
    ·refine .cell ⟨λy=>?_,λy=>?_⟩ z1 (z2.mono mv)
     ·
      by_cases hsh:∃ w,e[i]?=some (.sh w)
      ·obtain⟨w,hsh⟩:=hsh
       obtain⟨_,x,w1,w2⟩:=S.sl i _ hsh
       rw[q6] at w1;cases w1
       cases w2 with
       | cell p _ _=>rcases y.1 with y | y;exact p.1 y;exact p.2 y
      ·have hl:=mR q1 q3 λw z=>hsh ⟨w,z⟩
       cases w:ns[i]? with
       |
        none=>
        have hi:i < e.length:=by
         cases z:e[i]? with
         | none=>rw[z] at q4';cases q4'
         | some _=>exact (List.getElem?_eq_some_iff.mp z).1
        rw[List.getElem?_eq_none_iff,S.l2] at w
        omega
       |
        some w'=>
        cases w' with
        |
         none=>
         cases z:e[i]? with
         | none=>rw[z] at q4';cases q4'
         |
          some s=>
          have k:=S.sl i s z
          rw[w] at k
          cases s with
          | no=>rw[z] at q4';cases q4'
          | sh w=>exact hsh ⟨w,z⟩
          | ow w=>obtain⟨_,_,k,_⟩:=k;cases k
          | lo w=>obtain⟨_,_,k,_⟩:=k;cases k
          | mu w=>obtain⟨_,_,k,_⟩:=k;cases k
          | lm w=>obtain⟨_,_,k,_⟩:=k;cases k
        |
         some n'=>
         obtain⟨_,_,_,_,_,_,w2,_⟩:=S.own w
         rw[q6] at w2;cases w2
         exact y.2.2 i hl w
     ·obtain⟨j,y⟩:=bK.mp y
      obtain⟨i',y1,y2⟩:=c8 y
      obtain⟨y3,y4⟩:=fk y1
      obtain⟨_,_,_,_,_,_,w2,_⟩:=S.own y2
      have:i'
       = i:=by
       cases w:ns[i]? with
       |
        none=>
        have hi:i < e.length:=by
         cases z:e[i]? with
         | none=>rw[z] at q4';cases q4'
         | some _=>exact (List.getElem?_eq_some_iff.mp z).1
        rw[List.getElem?_eq_none_iff,S.l2] at w
        omega
       |
        some w'=>
        cases w' with
        |
         some n'=>
         obtain⟨_,_,_,_,_,_,w3,_⟩:=S.own w
         rw[q6] at w3;cases w3
         exact S.inj i' i n y2 w
        |
         none=>
         cases z:e[i]? with
         | none=>rw[z] at q4';cases q4'
         |
          some s=>
          have k:=S.sl i s z
          rw[w,q6] at k
          cases s with
          | no=>rw[z] at q4';cases q4'
          |
           sh w=>
           obtain⟨_,x,k1,k2⟩:=k
           cases k1
           cases k2 with
           | cell p _ _=>exact (p.2 (bK.mpr ⟨i',y2⟩)).elim
          | ow w=>obtain⟨_,_,k,_⟩:=k;cases k
          | lo w=>obtain⟨_,_,k,_⟩:=k;cases k
          | mu w=>obtain⟨_,_,k,_⟩:=k;cases k
          | lm w=>obtain⟨_,_,k,_⟩:=k;cases k
      subst this
      have:=jK ok y3 y4 q3
      subst this
      rw[q1] at y3;cases y3
end L3
namespace L3
open PySem PySem.Spec PyProof.Rows L2
theorem gf:∀ {ms:List Bool}{mv:List Val}{j:Nat}{v:Val},(bj ms mv)[j]?=some (.mu v)->v ∈ mv
 | [],_,_,_,q=>by simp [bj] at q
 | true :: ms,u :: mv,0,v,q=>by
  have:Sl.mu u=.mu v:=by simpa [bj] using q
  cases this;exact List.mem_cons_self ..
 | true :: ms,u :: mv,j + 1,v,q=>List.mem_cons_of_mem _ (gf (ms:=ms) (mv:=mv) (j:=j) (by simpa [bj] using q))
 | true :: ms,[],0,v,q=>by simp [bj] at q
 | true :: ms,[],j + 1,v,q=>gf (ms:=ms) (mv:=[]) (j:=j) (by simpa [bj] using q)
 | false :: ms,mv,0,v,q=>by simp [bj] at q
 | false :: ms,mv,j + 1,v,q=>gf (ms:=ms) (mv:=mv) (j:=j) (by simpa [bj] using q)
theorem mI {e:E3}:∀ {ms:List Bool}{ts:List Tm}{i:Nat},i ∈ bJ e ms ts->∃ k:Nat,ms[k]?=some false/\ts[k]?=some (.bor i)
 | [],_,_,q=>by simp [bJ] at q
 | _ :: _,[],_,q=>by simp [bJ] at q
 |
  b :: ms,t :: ts,i,q=>by
  have up:i ∈ bJ e ms ts->∃ k:Nat,(b :: ms)[k]?=some false/\(t :: ts)[k]?=some (.bor i):=λz=>by
   obtain⟨k,y1,y2⟩:=mI z
   exact⟨k + 1,by simpa using y1,by simpa using y2⟩
  cases b <;> cases t <;> simp only[bJ] at q <;> first | exact up q | skip
  split at q
  ·exact up q
  ·rcases List.mem_cons.mp q with rfl | q
   ·exact⟨0,rfl,rfl⟩
   ·exact up q
theorem C4 {e e1:E3}{i:Nat}{v:Val} (q:cM e (.bor i)=some (e1,v)):(∀ j,j ≠ i->e1[j]?=e[j]?)/\e1[i]?=some (.sh v)/\(e[i]?).bind Sl.val=some v:=by
 unfold cM at q
 dsimp only at q
 split at q
 ·rename_i u q1;cases q;exact⟨λ_ _=>rfl,q1,by rw[q1];rfl⟩
 ·rename_i u q1;cases q;exact⟨λj z=>bS z,cz (List.getElem?_eq_some_iff.mp q1).1,by rw[q1];rfl⟩
 ·cases q
theorem rC {X:Nat->Prop}{h0:Nat}{ae:AE}{h:AH}:∀ {is:List Nat}{ns:Ns}{e e2:E3},Sat X h0 ns e ae h->(∀ i ∈ is,∃ d,ae[i]?=some (some d))->o4 e is=some e2->∃ dl,Sat X h0 dl e2 ae h/\Stp ns e h dl e2 h/\(∀ i,i ∉ is->e2[i]?=e[i]?)/\(∀ i ∈ is,∃ v,e2[i]?=some (.sh v))/\∀ i:Nat,(e2[i]?).bind Sl.val=(e[i]?).bind Sl.val
 | [],ns,e,e2,S,_,q=>by cases q;exact⟨ns,S,.refl,λ_ _=>rfl,(λ_ z=>by cases z),λ_=>rfl⟩
 |
  i :: is,ns,e,e2,S,hd,q=>by
  unfold o4 at q
  split at q
  ·rename_i e1 v q1
   obtain⟨d,hd0⟩:=hd i (List.mem_cons_self ..)
   obtain⟨ns1,S1,a1,r1⟩:=gv (L:=0) (t:=.bor i) S hd0 q1
   obtain⟨dl,S2,a2,k1,k2,k3⟩:=rC S1 (λj z=>hd j (List.mem_cons_of_mem _ z)) q
   obtain⟨y1,y2,y3⟩:=C4 q1
   refine⟨dl,S2,a1.trans S a2,λj hj=>?_,λj hj=>?_,λj=>?_⟩
   ·rw[List.mem_cons,not_or] at hj
    rw[k1 j hj.2,y1 j hj.1]
   ·by_cases z:j ∈ is
    ·exact k2 j z
    ·rcases List.mem_cons.mp hj with rfl | hj
     ·exact⟨v,by rw[k1 j z];exact y2⟩
     ·exact absurd hj z
   ·rw[k3 j]
    by_cases z:j=i
    ·subst z;rw[y2,y3];rfl
    ·rw[y1 j z]
  ·cases q
theorem qe {e e2:E3}:∀ {ms:List Bool}{ts:List Tm},(∀ (k i:Nat),ms[k]?=some true->ts[k]?=some (.bor i)->e2[i]?=e[i]?)->okA e ms ts=true->okA e2 ms ts=true
 | [],[],_,o=>rfl
 | [],_ :: _,_,o=>by simp [okA] at o
 | b :: ms,[],_,o=>by cases b <;> simp [okA] at o
 |
  b :: ms,t :: ts,hk,o=>by
  have o':okA e ms ts=true:=by
   cases b <;> cases t <;> simp only[okA,Bool.and_eq_true] at o <;> first | exact o.2 | exact o | (simp at o;done)
  have ih:=qe (λk i q1 q2=>hk (k + 1) i (by simpa using q1) (by simpa using q2)) o'
  cases b with
  | false=>cases t <;> simp only[okA,Bool.and_eq_true] at o ⊢ <;> first | exact⟨o.1,ih⟩ | exact ih
  |
   true=>
   cases t with
   |
    bor i=>
    simp only[okA,Bool.and_eq_true] at o ⊢
    rw[hk 0 i rfl rfl]
    exact⟨o.1,ih⟩
   | _=>simp [okA] at o
theorem qW {e:E3}:∀ {ms:List Bool}{ts:List Tm},(∀ (k i:Nat),ms[k]?=some false->ts[k]?=some (.bor i)->∃ v,e[i]?=some (.sh v))->bJ e ms ts=[]
 | [],_,_=>by simp [bJ]
 | _ :: _,[],_=>by simp [bJ]
 |
  b :: ms,t :: ts,hk=>by
  have ih:=qW (λk i q1 q2=>hk (k + 1) i (by simpa using q1) (by simpa using q2))
  cases b <;> cases t <;> simp only[bJ] <;> first | exact ih | skip
  rename_i i
  obtain⟨v,q⟩:=hk 0 i rfl rfl
  rw[q];exact ih
theorem pX {e e2:E3} (hv:∀ i:Nat,(e2[i]?).bind Sl.val=(e[i]?).bind Sl.val):∀ (ts:List Tm),rss e2 ts=rss e ts
 | []=>rfl
 |
  t :: ts=>by
  unfold rss
  rw[pX hv ts]
  have:rs e2 t=rs e t:=by
   cases t with
   | bor i=>exact hv i
   | _=>rfl
  rw[this]
theorem sN {e:E3}{ms:List Bool}{ts:List Tm}{vs:List Val} (ok:okA e ms ts=true):Lnk (cQ ms ts) e (sls ms vs):=by
 refine⟨λj k i q1 q2=>jK ok (fk q2).1 (fk q2).2 (fk q1).2,λj v q=>?_,λj s q hm=>?_⟩
 ·obtain⟨b,u,q1,_,q2⟩:=gn q
  cases b with
  | false=>cases q2
  |
   true=>
   obtain⟨i,y1,w,y2⟩:=oV ok q1
   obtain⟨s,z1,z2⟩:=Option.bind_eq_some_iff.mp y2
   exact⟨i,s,Dj q1 y1,z1,by cases s <;> first | rfl | cases z2⟩
 ·obtain⟨b,u,q1,_,q2⟩:=gn q
  cases b with
  | false=>subst q2;cases hm
  | true=>exact⟨u,q2⟩
section
variable {X:Nat->Prop}{h0 L:Nat}{ns:Ns}{e:E3}{ae:AE}{h:AH}{ms:List Bool}{ts:List Tm}{ds:List D}{vs:List Val}{S2:Fn}{G3:Fn3}
theorem mz (Y:Nat->Prop) (hY:∀ n,Y n->X n\/Y n) {n:Nat} (hl:bJ e ms ts=[]) (z:¬ Xc X ns e ms ts n) (z2:some n ∉ cP (cQ ms ts) ns):Oc X ns n:=by
 refine⟨λy=>z ⟨.inl y,z2,λi hi=>by rw[hl] at hi;cases hi⟩,λy=>z ⟨.inr y,z2,λi hi=>by rw[hl] at hi;cases hi⟩⟩
theorem uK {r:Rt}{mv:List Val} (S:Sat X h0 ns e ae h) (hL:L<=h.length) (rt:TsR X ns ae h ds ts) (qv:rss e ts=some vs) (ok:okA e ms ts=true) (hG:RF ms S2 G3) (q:G3 vs=.ok r mv) (hf:bJ e ms ts=[]\/(ma r=true/\mv.all dX=true)):
 Po X h0 ns e ae h (relE X h0 L ae) (S2 ds h) (.ok r.tm (bN (cQ ms ts) (bj ms mv) e)):=by
 have p:=hG _ _ ds vs h (by rw[mn qv,jJ ok]) (tS S rt qv ok)
 rw[q] at p
 obtain⟨d,h',p1,a,rr⟩:=p
 have K:=sN (vs:=vs) ok
 have xcl:∀ n,X n->n < h.length:=S.xl
 cases r with
 |
  val v=>
  obtain⟨S3,rv⟩:=rr
  obtain⟨S4,a4⟩:=S.back (Y:=X) K a (λn z=>⟨Nat.lt_of_lt_of_le (xcl n z) a.len,.inl z⟩) (λ_ z=>z) λj w n q1 q2=>by
   obtain⟨s,u,o,b1,b2,b3,b4,b5,b6,b7⟩:=S3.own q2
   rw[q1] at b1;cases b1;cases b3
   rcases hf with hf | hf
   ·exact⟨o,b5,b6,b7.mono λm o' z y=>⟨mz X (λ_ z=>.inl z) hf z.1 z.2,y⟩⟩
   ·exact⟨o,b5,b6,b7.flat (List.all_eq_true.mp hf.2 w (gf q1))⟩
  refine⟨d,h',ns,p1,a4,S4,?_⟩
  rcases hf with hf | hf
  ·exact rv.mono λm o' z y=>⟨mz X (λ_ z=>.inl z) hf z.1 z.2,y⟩
  ·exact rv.flat hf.1
 |
  new v=>
  obtain⟨n,o,z1,z2,z3,z4,z5,S3,z7⟩:=rr
  have hnx:¬ X n:=λy=>by have:=xcl n y;omega
  have kk:∀ m,Oc (Xn (Xc X ns e ms ts) n) (cP (cQ ms ts) ns) m->bJ e ms ts=[]->Oc (Xn X n) ns m:=λm z hf=>by
   have:=mz X (λ_ z=>.inl z) hf (λy=>z.1 (.inl y)) z.2
   exact⟨λy=>by
    rcases y with y | y
    ·exact this.1 y
    ·exact z.1 (.inr y),this.2⟩
  obtain⟨S4,a4⟩:=S.back (Y:=Xn X n) K a (λm z=>by
   rcases z with z | rfl
   ·exact⟨Nat.lt_of_lt_of_le (xcl m z) a.len,.inl z⟩
   ·exact⟨da z4,.inr z2⟩) (λ_ z=>.inl z) λj w n' q1 q2=>by
   obtain⟨s,u,o,b1,b2,b3,b4,b5,b6,b7⟩:=S3.own q2
   rw[q1] at b1;cases b1;cases b3
   rcases hf with hf | hf
   ·exact⟨o,b5,b6,b7.mono λm o' z y=>⟨kk m z hf,y⟩⟩
   ·exact⟨o,b5,b6,b7.flat (List.all_eq_true.mp hf.2 w (gf q1))⟩
  refine⟨d,h',ns,p1,a4,S4.weak λ_ z=>.inl z,n,o,z1,Nat.le_trans hL z2,hnx,z4,z5,S4,?_⟩
  rcases hf with hf | hf
  ·exact z7.mono λm o' z y=>⟨kk m z hf,y⟩
  ·exact z7.flat hf.1
theorem Bc {c:Str}{mv:List Val} (S:Sat X h0 ns e ae h) (rt:TsR X ns ae h ds ts) (qv:rss e ts=some vs) (ok:okA e ms ts=true) (hG:RF ms S2 G3) (q:G3 vs=.exc c mv) (hf:bJ e ms ts=[]\/mv.all dX=true):
 Po X h0 ns e ae h (relE X h0 L ae) (S2 ds h) (.exc c (bN (cQ ms ts) (bj ms mv) e)):=by
 have p:=hG _ _ ds vs h (by rw[mn qv,jJ ok]) (tS S rt qv ok)
 rw[q] at p
 obtain⟨h',p1,a,S3⟩:=p
 have K:=sN (vs:=vs) ok
 obtain⟨S4,a4⟩:=S.back (Y:=X) K a (λn z=>⟨Nat.lt_of_lt_of_le (S.xl n z) a.len,.inl z⟩) (λ_ z=>z) λj w n q1 q2=>by
  obtain⟨s,u,o,b1,b2,b3,b4,b5,b6,b7⟩:=S3.own q2
  rw[q1] at b1;cases b1;cases b3
  rcases hf with hf | hf
  ·exact⟨o,b5,b6,b7.mono λm o' z y=>⟨mz X (λ_ z=>.inl z) hf z.1 z.2,y⟩⟩
  ·exact⟨o,b5,b6,b7.flat (List.all_eq_true.mp hf w (gf q1))⟩
 exact⟨h',ns,p1,a4,S4⟩
theorem CG {A:MA}{A3:MA3}{n:Nat} (hn:n=ms.length) (hG:RF ms S2 G3) (hA:RA A A3):RE (vh n S2 A) (BW ms G3 A3):=λX h0 L ns e ae h S hl=>
 Po.bind
  S (hA X h0 ns e ae h S) λds ts h1 ns1 e1 a1 S1 r1=>by
  try dsimp only
  cases qv:rss e1 ts with
  | none=>trivial
  |
   some vs=>
   dsimp only
   by_cases ok:okA e1 ms ts=true
   ·rw[if_pos ok]
    have be:ds.length=n:=by rw[hn,jJ ok];exact TsR.len r1
    rw[if_pos be]
    have hL:L<=h1.length:=Nat.le_trans hl a1.len
    cases q:G3 vs with
    | stuck=>trivial
    |
     exc c mv=>
     dsimp only
     by_cases hf:((bJ e1 ms ts).isEmpty || mv.all dX)=true
     ·rw[if_pos hf]
      refine Bc S1 r1 qv ok hG q ?_
      rw[Bool.or_eq_true] at hf
      rcases hf with hf | hf
      ·exact .inl (List.isEmpty_iff.mp hf)
      ·exact .inr hf
     ·rw[if_neg hf];trivial
    |
     ok r mv=>
     dsimp only
     by_cases hf:((bJ e1 ms ts).isEmpty || (ma r && mv.all dX))=true
     ·rw[if_pos hf]
      refine uK S1 hL r1 qv ok hG q ?_
      rw[Bool.or_eq_true,Bool.and_eq_true] at hf
      rcases hf with hf | hf
      ·exact .inl (List.isEmpty_iff.mp hf)
      ·exact .inr hf
     ·rw[if_neg hf]
      cases qd:o4 e1 (bJ e1 ms ts) with
      | none=>trivial
      |
       some e2=>
       dsimp only
       obtain⟨dl,S2',a2,k1,k2,k3⟩:=rC S1 (λi hi=>by
        obtain⟨k,_,y⟩:=mI hi
        obtain⟨d,_,z⟩:=r1.get y
        rcases z with ⟨_,z,_⟩ | ⟨j,z,z2⟩
        ·cases z
        ·cases z;exact⟨d,z2⟩) qd
       have ok2:okA e2 ms ts=true:=qe (λk i q1 q2=>k1 i λz=>by
        obtain⟨k',y1,y2⟩:=mI z
        have:=jK ok q1 q2 y2
        subst this
        rw[q1] at y1;cases y1) ok
       have ln:bJ e2 ms ts=[]:=qW λk i q1 q2=>by
        by_cases z:i ∈ bJ e1 ms ts
        ·exact k2 i z
        ·rw[k1 i z]
         exact Classical.byContradiction λw=>z (mR q1 q2 λv y=>w ⟨v,y⟩)
       have pp:=uK (L:=L) S2' hL (r1.stp S1 a2) (by rw[pX k3];exact qv) ok2 hG q (.inl ln)
       obtain⟨d,h',ns',y,y1,y2,y3⟩:=pp
       exact⟨d,h',ns',y,a2.trans S1 y1,y2,y3⟩
   ·rw[if_neg ok];trivial
end
def RMv (m2:D->List D->AH->R D) (m3:Val->List Val->Bv):Prop:=∀ P h d v ds vs,ShR P h d v->eR v=true->ShRs P h ds vs->BvR P h (m2 d ds h) (m3 v vs)
def BR (m:Val->List Val->Bv) (F:ME3) (A:MA3):ME3:=λe=>(F e).bind λt e1=>if (rs e1 t).map eR=some true then (A e1).bind λts e2=>(match rs e2 t.drop,rss e2 ts with
 | some v,some vs=>if eR v=true then (m v vs).at e2 else .stuck
 | _,_=>.stuck) else .stuck
theorem zB {P:Nat->Prop}{h:AH}{d:D}{v:Val} (r:ShR P h d v) (q:eR v=true):lZ h d=true:=by
 cases v with
 | lst xs=>obtain⟨n,ds,rfl,_,e1,_⟩:=r.lst;show (bD h n).isSome=true;rw[e1];rfl
 | _=>cases q
theorem DC {m2:D->List D->AH->R D}{m3:Val->List Val->Bv}{F:ME}{F3:ME3}{A:MA}{A3:MA3} (hm:RMv m2 m3) (hF:RE F F3) (hA:RA A A3):RE (eM m2 F A) (BR m3 F3 A3):=λX h0 L ns e ae h S hl=>
 Po.bind
  S (hF X h0 L ns e ae h S hl) λd t h1 ns1 e1 a1 S1 r1=>by
  try dsimp only
  split
  ·by_cases hq:(rs e1 t).map eR=some true
   ·rw[if_pos hq]
    refine Po.bind S1 (hA X h0 ns1 e1 ae h1 S1) λds ts h2 dl e2 a2 S2 r2=>?_
    try dsimp only
    split
    ·rename_i v vs q1 q2
     obtain⟨r1',hn⟩:=r1.drop
     by_cases hv:eR v=true
     ·rw[if_pos hv]
      exact BvR.po S2 (Nat.le_trans hl (Nat.le_trans a1.len a2.len)) (hm _ _ _ _ _ _ ((r1'.stp S1 a2 hn).sh S2 q1) hv (TsR.sh S2 r2 q2))
     ·rw[if_neg hv];trivial
    ·trivial
   ·rw[if_neg hq];trivial
  ·rename_i hL
   by_cases hq:(rs e1 t).map eR=some true
   ·obtain⟨v,z1,z2⟩:=Option.map_eq_some_iff.mp hq
    exact absurd (zB (r1.sh S1 z1) z2) hL
   ·rw[if_neg hq];trivial
end L3
namespace L3
open PySem PySem.Spec PyProof.Rows L2
def aI (f:Int->Int->Val):Val->Val->Bv:=λx y=>match x,y with
 | .int i,.int j=>.val (f i j)
 | _,_=>.stuck
open Classical in
def aIc (C:Int->Int->Prop) (f:Int->Int->Val):Val->Val->Bv:=λx y=>match x,y with
 | .int i,.int j=>if C i j then .val (f i j) else .stuck
 | _,_=>.stuck
def vO:Val->Val->Bv:=λx y=>match x,y with
 | .lst xs,.lst ys=>if xs.length + ys.length<=16777216 then .new (.lst (xs++ys)) else .stuck
 | .tup xs,.tup ys=>if xs.length + ys.length<=16777216 then .val (.tup (xs++ys)) else .stuck
 | _,_=>.stuck
def zQ:Val->Val->Bv:=λx y=>match x,y with
 | .int i,.int j=>.val (.int (i + j))
 | x,y=>vO x y
def vG:=aIc CMulA λi j=>.int (i * j)
def wK:=aIc CDivB λi j=>.int (i.fdiv j)
def wx:=aIc (λ_ j=>j ≠ 0) λi j=>.int (i.fmod j)
def vP:=aIc oZ λi j=>.int (i ^ j.toNat)
def aLt:=aI λi j=>.bl (decide (i < j))
def aGt:=aI λi j=>.bl (decide (j < i))
def aGe:=aI λi j=>.bl (decide (j<=i))
def Az:Val->Bv:=λx=>match x with
 | .int i=>.val (.int (-i))
 | _=>.stuck
def Ax:Val->Val->Bv:=λx y=>match x,y with
 | .lst xs,.int k=>if -(2 ^ 63)<=k/\k < 2 ^ 63/\xs.length * k.toNat<=16777216 then .new (.lst (List.replicate k.toNat xs).flatten) else .stuck
 | _,_=>.stuck
def aIx:Val->Val->Bv:=λx y=>match x.items,y with
 | some xs,.int i=>(match atI xs i with
  | some v=>.val v
  | none=>.stuck)
 | _,_=>.stuck
section
theorem vT {f2:Int->Int->D}{f3:Int->Int->Val} (hr:∀ i j P h,Rd P h (f2 i j) (f3 i j)):RO (gI f2) (aI f3):=λP h d1 d2 v1 v2 r1 r2=>by
 unfold aI
 split
 ·obtain rfl:=r1.int;obtain rfl:=r2.int;exact⟨_,rfl,hr _ _ P h⟩
 ·trivial
theorem qK {C:Int->Int->Prop}{f2:Int->Int->D}{f3:Int->Int->Val} (hr:∀ i j P h,Rd P h (f2 i j) (f3 i j)):RO (gIc C f2) (aIc C f3):=λP h d1 d2 v1 v2 r1 r2=>by
 unfold aIc
 split
 ·obtain rfl:=r1.int;obtain rfl:=r2.int
  split
  ·rename_i hc;exact⟨_,by unfold gIc;dsimp only;rw[if_pos hc],hr _ _ P h⟩
  ·trivial
 ·trivial
theorem He:RO mM vO:=λP h d1 d2 v1 v2 r1 r2=>by
 unfold vO
 split
 ·obtain⟨n,ds,rfl,e1,_,q1⟩:=r1.lst
  obtain⟨m,es,rfl,e2,_,q2⟩:=r2.lst
  split
  ·rename_i hl
   exact⟨.lst (ds++es),by unfold mM;dsimp only;rw[e1,e2];dsimp only;rw[if_pos (by rw[q1.len,q2.len];exact hl)],trivial,.lst (q1.append q2)⟩
  ·trivial
 ·obtain⟨ds,rfl,q1⟩:=r1.tup
  obtain⟨es,rfl,q2⟩:=r2.tup
  split
  ·rename_i hl
   exact⟨_,by unfold mM;dsimp only;rw[if_pos (by rw[q1.len,q2.len];exact hl)],.tup (q1.append q2)⟩
  ·trivial
 ·trivial
theorem Ic:RO wQ zQ:=λP h d1 d2 v1 v2 r1 r2=>by
 unfold zQ
 split
 ·obtain rfl:=r1.int;obtain rfl:=r2.int;exact⟨_,rfl,.int _⟩
 ·rename_i hn
  have k:=He P h d1 d2 v1 v2 r1 r2
  have e:wQ d1 d2 h=mM d1 d2 h\/vO v1 v2=.stuck:=by
   cases v1 <;> first | (right;rfl) | (left;skip)
   ·obtain⟨ds,rfl,_⟩:=r1.tup;rfl
   ·obtain⟨n,ds,rfl,_⟩:=r1.lst;rfl
  rcases e with e | e
  ·rw[e];exact k
  ·rw[e];trivial
theorem Gi:RO Bn vG:=qK λ_ _ _ _=>.int _
theorem EC:RO Ba wK:=qK λ_ _ _ _=>.int _
theorem Ig:RO A7 wx:=qK λ_ _ _ _=>.int _
theorem GF:RO za vP:=qK λ_ _ _ _=>.int _
theorem I0:RO gLt aLt:=vT λ_ _ _ _=>.bl _
theorem IP:RO gGt aGt:=vT λ_ _ _ _=>.bl _
theorem Km:RO gGe aGe:=vT λ_ _ _ _=>.bl _
theorem Ie:RU wm Az:=λP h d v r=>by
 unfold Az
 split
 ·obtain rfl:=r.int;exact⟨_,rfl,.int _⟩
 ·trivial
theorem E9:RO tf Ax:=λP h d1 d2 v1 v2 r1 r2=>by
 unfold Ax
 split
 ·obtain⟨n,ds,rfl,e1,_,q1⟩:=r1.lst
  obtain rfl:=r2.int
  split
  ·rename_i hl
   exact⟨.lst (List.replicate _ ds).flatten,by unfold tf;dsimp only;rw[e1];dsimp only;rw[if_pos (by rw[q1.len];exact hl)],trivial,.lst (q1.rep _)⟩
  ·trivial
 ·trivial
theorem J2 {P:Nat->Prop}{h:AH}{ds:List D}{vs:List Val} (r:Rds P h ds vs) {i:Int}{v:Val} (e:atI vs i=some v):∃ d,atI ds i=some d/\Rd P h d v:=by
 unfold atI at e ⊢
 rw[r.len]
 cases q:ixN vs.length i with
 | none=>rw[q] at e;cases e
 | some j=>rw[q] at e;exact r.get e
theorem IE:RO gIx aIx:=λP h d1 d2 v1 v2 r1 r2=>by
 unfold aIx
 split
 ·rename_i xs i e1
  obtain⟨ds,e2,q⟩:=r1.items e1
  obtain rfl:=r2.int
  split
  ·rename_i v e3
   obtain⟨d,e4,q2⟩:=J2 q e3
   exact⟨d,by unfold gIx;rw[e2];dsimp only;rw[e4],q2⟩
  ·trivial
 ·trivial
end
mutual
def ef:Nat->Val->Option PyData
 | 0,_=>none
 | _ + 1,.non=>some .none
 | _ + 1,.bl b=>some (.bool b)
 | _ + 1,.int i=>some (.int i)
 | _ + 1,.str x=>some (.str x)
 | k + 1,.tup xs=>(iH k xs).map .tuple
 | k + 1,.lst xs=>(iH k xs).map .list
 | _ + 1,_=>none
def iH:Nat->List Val->Option (List PyData)
 | _,[]=>some []
 | k,x :: xs=>match ef k x,iH k xs with
  | some a,some b=>some (a :: b)
  | _,_=>none
end
theorem Ac {P:Nat->Prop}{h:AH}{k:Nat} (hk:∀ d v pd,Rd P h d v->ef k v=some pd->dc k h d=some pd):∀ {ds:List D}{vs:List Val}{ps:List PyData},Rds P h ds vs->iH k vs=some ps->ds.mapM (dc k h)=some ps:=by
 intro ds
 induction ds with
 |
  nil=>
  intro vs ps r q
  cases r
  unfold iH at q
  cases q
  rfl
 |
  cons d0 ds ih=>
  intro vs ps r q
  cases r with
  |
   cons r rr=>
   unfold iH at q
   split at q
   ·rename_i a b e1 e2
    cases q
    rw[List.mapM_cons,hk _ _ _ r e1,ih rr e2];rfl
   ·cases q
theorem mf {P:Nat->Prop}{h:AH}:∀ (k:Nat) (d:D) (v:Val) (pd:PyData),ShR P h d v->ef k v=some pd->dc k h d=some pd
 | 0,_,_,_,_,q=>by unfold ef at q;cases q
 |
  k + 1,d,v,pd,r,q=>by
  have ih:∀ {ds:List D}{vs:List Val}{ps:List PyData},Rds P h ds vs->iH k vs=some ps->ds.mapM (dc k h)=some ps:=Ac λd v pd r q=>mf k d v pd (.inl r) q
  cases v with
  | non=>obtain rfl:=r.non;simp only[ef] at q;cases q;rfl
  | bl b=>obtain rfl:=r.bl;simp only[ef] at q;cases q;rfl
  | int b=>obtain rfl:=r.int;simp only[ef] at q;cases q;rfl
  | str b=>obtain rfl:=r.str;simp only[ef] at q;cases q;rfl
  |
   tup xs=>
   obtain⟨ds,rfl,r2⟩:=r.tup
   simp only[ef] at q
   obtain⟨ps,q1,rfl⟩:=Option.map_eq_some_iff.mp q
   show (ds.mapM (dc k h)).map PyData.tuple=_
   rw[ih r2 q1];rfl
  |
   lst xs=>
   obtain⟨n,ds,rfl,_,e1,r2⟩:=r.lst
   simp only[ef] at q
   obtain⟨ps,q1,rfl⟩:=Option.map_eq_some_iff.mp q
   unfold dc
   rw[e1]
   show (ds.mapM (dc k h)).map PyData.list=_
   rw[ih r2 q1];rfl
  | _=>simp only[ef] at q;cases q
def eS (x y:Val):Option Bool:=match ef 64 x,ef 64 y with
 | some a,some b=>if SeqAt.shaped a=true/\SeqAt.shaped b=true then some (PyData.eqv a b) else none
 | _,_=>none
def aEq (ii:Bool):Val->Val->Bv:=λx y=>match eS x y with
 | some b=>.val (.bl (if ii then !b else b))
 | none=>.stuck
theorem yr {P:Nat->Prop}{h:AH}{d1 d2:D}{v1 v2:Val}{b:Bool} (r1:ShR P h d1 v1) (r2:ShR P h d2 v2) (q:eS v1 v2=some b):kY h d1 d2=some b:=by
 unfold eS at q
 split at q
 ·rename_i a c e1 e2
  unfold kY
  rw[mf 64 _ _ _ r1 e1,mf 64 _ _ _ r2 e2]
  exact q
 ·cases q
theorem Bw (ii:Bool):RO (gEq ii) (aEq ii):=λP h d1 d2 v1 v2 r1 r2=>by
 unfold aEq
 split
 ·rename_i b q
  exact⟨_,by unfold gEq;rw[yr r1 r2 q],.bl _⟩
 ·trivial
def nW:Val->Bool
 | .non=>true
 | .bl _=>true
 | .int _=>true
 | .str _=>true
 | _=>false
def vt:Val->V
 | .bl b=>.bl b
 | .int i=>.int i
 | .str x=>.str x
 | _=>.non
def eq1 (x y:Val):Bool:=eqV (vt x) (vt y)
def aIn (ii:Bool):Val->Val->Bv:=λx y=>match y.items with
 | some xs=>if nW x=true/\xs.all nW=true then .val (.bl (if ii then !(xs.any λd=>eq1 d x) else xs.any λd=>eq1 d x)) else .stuck
 | none=>.stuck
theorem u4 {P:Nat->Prop}{h:AH}{d:D}{v:Val} (r:ShR P h d v) (f:nW v=true):mj d=true/\toV d=vt v:=by
 cases v with
 | non=>obtain rfl:=r.non;exact⟨rfl,rfl⟩
 | bl b=>obtain rfl:=r.bl;exact⟨rfl,rfl⟩
 | int b=>obtain rfl:=r.int;exact⟨rfl,rfl⟩
 | str b=>obtain rfl:=r.str;exact⟨rfl,rfl⟩
 | _=>cases f
theorem zT {P:Nat->Prop}{h:AH} (x:D) (y:Val) (hx:toV x=vt y):∀ {ds:List D}{vs:List Val},Rds P h ds vs->vs.all nW=true->ds.all mj=true/\(ds.any λd=>eqF d x)=vs.any λd=>eq1 d y:=by
 intro ds
 induction ds with
 |
  nil=>
  intro vs r f
  cases r
  exact⟨rfl,rfl⟩
 |
  cons d0 ds ih=>
  intro vs r f
  cases r with
  |
   cons r rr=>
   rw[List.all_cons,Bool.and_eq_true] at f
   obtain⟨h1,h2⟩:=u4 (.inl r) f.1
   obtain⟨h3,h4⟩:=ih rr f.2
   refine⟨by rw[List.all_cons,h1,h3];rfl,?_⟩
   rw[List.any_cons,List.any_cons,h4]
   unfold eqF eq1
   rw[h2,hx]
theorem BU (ii:Bool):RO (gIn ii) (aIn ii):=λP h d1 d2 v1 v2 r1 r2=>by
 unfold aIn
 split
 ·rename_i xs e
  obtain⟨ds,e2,q⟩:=r2.items e
  split
  ·rename_i hf
   obtain⟨f1,f2⟩:=u4 r1 hf.1
   obtain⟨f3,f4⟩:=zT d1 v1 f2 q hf.2
   exact⟨_,by unfold gIn;rw[e2];dsimp only;rw[if_pos ⟨f1,f3⟩,f4],.bl _⟩
  ·trivial
 ·trivial
def vY (ii:Bool):Val->Val->Bv:=λx y=>match x,y with
 | .non,.non=>.val (.bl (!ii))
 | _,.non=>.val (.bl ii)
 | _,_=>.stuck
theorem xP (ii:Bool):RO (lu ii) (vY ii):=λP h d1 d2 v1 v2 r1 r2=>by
 unfold vY
 split
 ·obtain rfl:=r1.non;obtain rfl:=r2.non;exact⟨_,rfl,.bl _⟩
 ·rename_i hn
  obtain rfl:=r2.non
  have:d1 ≠ .non:=by
   rintro rfl
   rcases r1 with r | ⟨n,o,z,_⟩
   ·cases r;exact hn rfl
   ·cases z
  refine⟨_,?_,.bl ii⟩
  unfold lu
  split
  ·exact absurd rfl this
  ·rfl
  ·rename_i h1 h2;exact (h1 rfl).elim
 ·trivial
def zI:List Val->Bv:=λvs=>match vs with
 | [v]=>(match v.items with
  | some xs=>.val (.int xs.length)
  | none=>(match v with
   | .str z=>if z.length<=16777216 then .val (.int z.length) else .stuck
   | _=>.stuck))
 | _=>.stuck
def Bf:List Val->Bv:=λvs=>match vs with
 | [.int i]=>.val (.int (if i < 0 then -i else i))
 | _=>.stuck
def wg:List Val->Bv:=λvs=>match vs with
 | [.int i,.int j]=>.val (.int (if j < i then j else i))
 | _=>.stuck
def lz:List Val->Option (List Bool)
 | []=>some []
 | .bl b :: r=>(lz r).map (b :: ·)
 | _=>none
def ky:List Val->Option (List Int)
 | []=>some []
 | .int b :: r=>(ky r).map (b :: ·)
 | _=>none
def zF:List Val->Bv:=λvs=>match vs with
 | [.lst xs]=>(match lz xs with
  | some bs=>.val (.bl (bs.all id))
  | none=>.stuck)
 | _=>.stuck
def zP:List Val->Bv:=λvs=>match vs with
 | [.lst xs]=>(match ky xs with
  | some bs=>.val (.int bs.sum)
  | none=>.stuck)
 | _=>.stuck
def vj:List Val->Bv:=λvs=>match vs with
 | [v]=>(match v.items with
  | some xs=>.new (.lst xs)
  | none=>.stuck)
 | _=>.stuck
def rm:List Val->Bv:=λvs=>match vs with
 | [v]=>(match v.items with
  | some xs=>.val (.tup xs)
  | none=>.stuck)
 | _=>.stuck
def Ae:List Val->Bv:=λvs=>match vs with
 | [.int i]=>.val (.int i)
 | [.bl b]=>.val (.int (if b then 1 else 0))
 | _=>.stuck
theorem FN:RFn rO zI:=λP h ds vs r=>by
 unfold zI
 split
 ·obtain⟨d,hd,rr1⟩:=fc r;subst hd;clear r;have r:=rr1
  split
  ·rename_i xs e
   obtain⟨es,e2,q⟩:=r.items e
   exact⟨_,by unfold rO;dsimp only;rw[e2],by rw[<- q.len];exact .int _⟩
  ·split
   ·rename_i z _
    obtain rfl:=r.str
    split
    ·rename_i hl;exact⟨_,by show (if z.length<=16777216 then _ else _)=_;rw[if_pos hl],.int _⟩
    ·trivial
   ·trivial
 ·trivial
theorem Hq:RFn wN Bf:=λP h ds vs r=>by
 unfold Bf
 split
 ·obtain⟨d,hd,rr1⟩:=fc r;subst hd;clear r;have r:=rr1;obtain rfl:=r.int;exact⟨_,rfl,.int _⟩
 ·trivial
theorem Dz:RFn qA wg:=λP h ds vs r=>by
 unfold wg
 split
 ·obtain⟨d,d',hd,rr1,r'⟩:=vv r;subst hd;clear r;have r:=rr1;obtain rfl:=r.int;obtain rfl:=r'.int;exact⟨_,rfl,.int _⟩
 ·trivial
theorem KW {P:Nat->Prop}{h:AH}:∀ {ds:List D}{vs:List Val}{bs:List Bool},Rds P h ds vs->lz vs=some bs->jm ds=some bs:=by
 intro ds
 induction ds with
 |
  nil=>
  intro vs bs r q
  cases r
  cases q
  rfl
 |
  cons d0 ds ih=>
  intro vs bs r q
  cases r with
  |
   cons r rr=>
   rename_i v vs
   cases v with
   |
    bl b=>
    obtain rfl:=ShR.bl (.inl r)
    obtain⟨b',q1,rfl⟩:=Option.map_eq_some_iff.mp (show (lz vs).map (b :: ·)=some bs from q)
    show (jm _).map (b :: ·)=_
    rw[ih rr q1];rfl
   | _=>cases q
theorem Hf {P:Nat->Prop}{h:AH}:∀ {ds:List D}{vs:List Val}{bs:List Int},Rds P h ds vs->ky vs=some bs->gJ ds=some bs:=by
 intro ds
 induction ds with
 |
  nil=>
  intro vs bs r q
  cases r
  cases q
  rfl
 |
  cons d0 ds ih=>
  intro vs bs r q
  cases r with
  |
   cons r rr=>
   rename_i v vs
   cases v with
   |
    int b=>
    obtain rfl:=ShR.int (.inl r)
    obtain⟨b',q1,rfl⟩:=Option.map_eq_some_iff.mp (show (ky vs).map (b :: ·)=some bs from q)
    show (gJ _).map (b :: ·)=_
    rw[ih rr q1];rfl
   | _=>cases q
theorem Eu:RFn rR zF:=λP h ds vs r=>by
 unfold zF
 split
 ·obtain⟨d,hd,rr1⟩:=fc r;subst hd;clear r;have r:=rr1
  obtain⟨n,es,rfl,_,e1,q⟩:=r.lst
  split
  ·rename_i bs e2
   exact⟨_,by unfold rR;dsimp only;rw[e1];show (match jm es with | some bs=>_ | none=>_)=_;rw[KW q e2],.bl _⟩
  ·trivial
 ·trivial
theorem Ey:RFn sM zP:=λP h ds vs r=>by
 unfold zP
 split
 ·obtain⟨d,hd,rr1⟩:=fc r;subst hd;clear r;have r:=rr1
  obtain⟨n,es,rfl,_,e1,q⟩:=r.lst
  split
  ·rename_i bs e2
   exact⟨_,by unfold sM;dsimp only;rw[e1];show (match gJ es with | some bs=>_ | none=>_)=_;rw[Hf q e2],.int _⟩
  ·trivial
 ·trivial
theorem Eg:RFn nF vj:=λP h ds vs r=>by
 unfold vj
 split
 ·obtain⟨d,hd,rr1⟩:=fc r;subst hd;clear r;have r:=rr1
  split
  ·rename_i xs e
   obtain⟨es,e2,q⟩:=r.items e
   exact⟨.lst es,by unfold nF;dsimp only;rw[e2],trivial,.lst q⟩
  ·trivial
 ·trivial
theorem Bb:RFn lH rm:=λP h ds vs r=>by
 unfold rm
 split
 ·obtain⟨d,hd,rr1⟩:=fc r;subst hd;clear r;have r:=rr1
  split
  ·rename_i xs e
   obtain⟨es,e2,q⟩:=r.items e
   exact⟨_,by unfold lH;dsimp only;rw[e2],.tup q⟩
  ·trivial
 ·trivial
theorem HV:RFn vV Ae:=λP h ds vs r=>by
 unfold Ae
 split
 ·obtain⟨d,hd,rr1⟩:=fc r;subst hd;clear r;have r:=rr1;obtain rfl:=r.int;exact⟨_,rfl,.int _⟩
 ·obtain⟨d,hd,rr1⟩:=fc r;subst hd;clear r;have r:=rr1;obtain rfl:=r.bl;exact⟨_,rfl,.int _⟩
 ·trivial
def tyC:Val->Option Cl
 | .non=>some (.b "NoneType")
 | .bl _=>some (.b "bool")
 | .int _=>some (.b "int")
 | .str _=>some (.b "str")
 | .tup _=>some (.b "tuple")
 | .exc x=>some (.o x)
 | .lst _=>some (.b "list")
 | .dct _=>some (.b "dict")
 | _=>none
def clV:Val->Option Cl
 | .ty n=>some (.b n)
 | .glb x=>some (.o x)
 | _=>none
def vZ:List Val->Option (List Cl)
 | []=>some []
 | v :: vs=>match clV v,vZ vs with
  | some c,some cs=>some (c :: cs)
  | _,_=>none
def JV:Val->Option (List Cl)
 | .tup cs=>vZ cs
 | v=>(clV v).map ([·])
def y9 (kt:fE):List Val->Bv:=λvs=>match vs with
 | [v,c]=>(match tyC v,JV c with
  | some t,some (c0 :: cr)=>(match fU kt t (c0 :: cr),kit kt t c0 with
   | some b,some _=>.val (.bl b)
   | _,_=>.stuck)
  | _,_=>.stuck)
 | _=>.stuck
theorem JB {P:Nat->Prop}{h:AH}{d:D}{v:Val}{t:Cl} (r:ShR P h d v) (q:tyC v=some t):tyD h d=some t:=by
 cases v with
 | non=>obtain rfl:=r.non;exact q
 | bl b=>obtain rfl:=r.bl;exact q
 | int b=>obtain rfl:=r.int;exact q
 | str b=>obtain rfl:=r.str;exact q
 | exc b=>obtain rfl:=r.exc;exact q
 | tup b=>obtain⟨ds,rfl,_⟩:=r.tup;exact q
 | lst b=>obtain⟨n,ds,rfl,e,_⟩:=r.lst;unfold tyD;dsimp only;rw[e];exact q
 | dct b=>obtain⟨n,ds,rfl,e,_⟩:=r.dct;unfold tyD;dsimp only;rw[e];exact q
 | _=>cases q
theorem Bt {P:Nat->Prop}{h:AH}{d:D}{v:Val}{c:Cl} (r:ShR P h d v) (q:clV v=some c):clD d=some c:=by
 cases v with
 | ty b=>obtain rfl:=r.ty;exact q
 | glb b=>obtain rfl:=r.glb;exact q
 | _=>cases q
theorem Fu {P:Nat->Prop}{h:AH}:∀ {ds:List D}{vs:List Val}{cs:List Cl},Rds P h ds vs->vZ vs=some cs->ds.mapM clD=some cs:=by
 intro ds
 induction ds with
 |
  nil=>
  intro vs cs r q
  cases r
  cases q
  rfl
 |
  cons d0 ds ih=>
  intro vs cs r q
  cases r with
  |
   cons r rr=>
   unfold vZ at q
   split at q
   ·rename_i c cs' e1 e2
    cases q
    rw[List.mapM_cons,Bt (.inl r) e1,ih rr e2];rfl
   ·cases q
theorem Es (kt:fE):RFn (sQ kt) (y9 kt):=λP h ds vs r=>by
 unfold y9
 split
 ·rename_i v c
  obtain⟨d,d',rfl,r1,r2⟩:=vv r
  split
  ·rename_i t c0 cr e1 e2
   have e3:=JB r1 e1
   split
   ·rename_i b b' e4 e5
    refine⟨.bl b,?_,.bl b⟩
    unfold sQ
    dsimp only
    rw[e3]
    dsimp only
    by_cases ht:∃ cs,c=.tup cs
    ·obtain⟨cs,rfl⟩:=ht
     obtain⟨es,rfl,q⟩:=r2.tup
     dsimp only
     rw[Fu q e2]
     dsimp only
     rw[e4,e5]
    ·have e2':(clV c).map ([·])=some (c0 :: cr):=by
      cases c with
      | tup cs=>exact absurd ⟨cs,rfl⟩ ht
      | _=>exact e2
     obtain⟨cl,y1,y2⟩:=Option.map_eq_some_iff.mp e2'
     cases y2
     have y3:=Bt r2 y1
     have hd:∀ cs,d' ≠ .tup cs:=λcs z=>by subst z;cases y3
     split
     ·rename_i cs;exact absurd rfl (hd cs)
     ·rw[y3]
      dsimp only
      have:kit kt t c0=some b:=by
       unfold fU at e4
       rw[e5] at e4 ⊢
       cases b' with
       | true=>exact e4
       | false=>unfold fU at e4;exact e4
      rw[this]
   ·trivial
  ·trivial
 ·trivial
def fR (xs:List Val) (lo hi:Option Int):List Val:=(xs.drop (HT.sIx xs.length 0 lo)).take (HT.sIx xs.length xs.length hi - HT.sIx xs.length 0 lo)
abbrev MO3:=E3->R3 (Option Int)
def zV (_:Ns) (_:E3) (_:AH) (b c:Option Int):Prop:=b=c
def ROp (F:MO) (G:MO3):Prop:=∀ X h0 ns e ae h,Sat X h0 ns e ae h->Po X h0 ns e ae h zV (F ae h) (G e)
def xw:MO3:=λe=>.ok none e
def yD (F:ME3):MO3:=λe=>(F e).bind λt e1=>match rs e1 t with
 | some (.int i)=>.ok (some i) e1
 | _=>.stuck
def aSl (x:Val) (lo hi:Option Int):Bv:=match x with
 | .tup xs=>if HT.sIx xs.length 0 lo=0/\HT.sIx xs.length xs.length hi=xs.length then .stuck else .val (.tup (fR xs lo hi))
 | .lst xs=>.new (.lst (fR xs lo hi))
 | .kl xs=>.new (.lst (fR xs lo hi))
 | _=>.stuck
def vSl (F:ME3) (L U:MO3):ME3:=λe=>(F e).bind λt e1=>(L e1).bind λlo e2=>(U e2).bind λhi e3=>match rs e3 t.drop with
 | some v=>(aSl v lo hi).at e3
 | none=>.stuck
theorem Cc:ROp vg xw:=λX h0 ns e ae h S=>Po.ret S rfl
theorem Cv {F:ME}{F3:ME3} (hF:RE F F3):ROp (vn F) (yD F3):=λX h0 ns e ae h S=>
 Po.bind S (hF X h0 0 ns e ae h S (Nat.zero_le _)) λd t h1 ns1 e1 a1 S1 r1=>by
  by_cases hq:∃ i,rs e1 t=some (.int i)
  ·obtain⟨i,hq⟩:=hq
   have hd:=(r1.sh S1 hq).int
   subst hd
   show Po X h0 ns1 e1 ae h1 zV (R.ok (some i) h1) (match rs e1 t with | some (.int i)=>R3.ok (some i) e1 | _=>.stuck)
   rw[hq]
   exact Po.ret S1 rfl
  ·have:(match rs e1 t with | some (.int i)=>R3.ok (some i) e1 | _=>.stuck)=(.stuck:R3 (Option Int)):=by
    split
    ·rename_i i q;exact absurd ⟨i,q⟩ hq
    ·rfl
   show Po X h0 ns1 e1 ae h1 zV _ (match rs e1 t with | some (.int i)=>R3.ok (some i) e1 | _=>.stuck)
   rw[this];trivial
theorem Kt {F:ME}{F3:ME3}{L U:MO}{L3' U3:MO3} (hF:RE F F3) (hL:ROp L L3') (hU:ROp U U3):RE (eSl F L U) (vSl F3 L3' U3):=λX h0 LL ns e ae h S hl=>
 Po.bind
  S (hF X h0 LL ns e ae h S hl) λd t h1 ns1 e1 a1 S1 r1=>Po.bind S1 (hL X h0 ns1 e1 ae h1 S1) λlo lo' h2 dl e2 a2 S2 r2=>Po.bind S2 (hU X h0 dl e2 ae h2 S2) λhi hi' h3 ns3 e3 a3 S3 r3=>by
  cases r2;cases r3
  obtain⟨r1',hn⟩:=r1.drop
  have r4:=(r1'.stp S1 a2 hn).stp S2 a3 hn
  try dsimp only
  split
  ·rename_i v q
   have rr:=r4.sh S3 q
   refine BvR.po S3 (Nat.le_trans hl (Nat.le_trans a1.len (Nat.le_trans a2.len a3.len))) ?_
   unfold aSl
   split
   ·rename_i xs
    obtain⟨ds,rfl,q1⟩:=rr.tup
    split
    ·trivial
    ·rename_i hne
     refine⟨_,by unfold gSl;dsimp only;rw[if_neg (by rw[q1.len];exact hne)],.tup ?_⟩
     unfold L2.cutD fR
     rw[q1.len]
     exact (q1.drop _).take _
   ·rename_i xs
    obtain⟨n,ds,rfl,_,e1,q1⟩:=rr.lst
    refine⟨.lst (L2.cutD ds lo hi),by unfold gSl;dsimp only;rw[e1],trivial,.lst ?_⟩
    unfold L2.cutD fR
    rw[q1.len]
    exact (q1.drop _).take _
   ·rename_i xs
    have key:∃ ds,gSl d lo hi h3=.ok (.ref h3.length) (h3++[.lst (L2.cutD ds lo hi)])/\Rds (Oc X ns3) h3 ds xs:=by
     rcases rr with rr | ⟨n,o,rfl,e,rr⟩
     ·cases rr with
      | kl q1=>exact⟨_,rfl,q1⟩
      | cell p e rc=>cases rc with | fz q1=>exact⟨_,by unfold gSl bD;dsimp only;rw[e],q1⟩
     ·cases rr with | fz q1=>exact⟨_,by unfold gSl bD;dsimp only;rw[e],q1⟩
    obtain⟨ds,e1,q1⟩:=key
    refine⟨.lst (L2.cutD ds lo hi),e1,trivial,.lst ?_⟩
    unfold L2.cutD fR
    rw[q1.len]
    exact (q1.drop _).take _
   ·trivial
  ·trivial
def oE:Val->List Val->Option (Val×Val):=λu vs=>match u,vs with
 | .lst xs,[v]=>if xs.length < 16777216 then some (.lst (xs++[v]),.non) else none
 | _,_=>none
section
variable {P:Nat->Prop}{h:AH}
theorem BH {n:Nat}{o:Ob}{xs:List Val} (e:h[n]?=some o) (r:Rc P h o (.lst xs)):lZ h (.ref n)=true/\∃ ds,h[n]?=some (.lst ds)/\Rds P h ds xs/\∀ f,nO h (.ref n) f=f n ds:=by
 obtain⟨ds,e1,e2,q⟩:=Rc.seq e r
 refine⟨by show (bD h n).isSome=true;rw[e2];rfl,ds,e1,q,λf=>?_⟩
 unfold nO;dsimp only;rw[e1]
theorem rds1 {ds:List D}{v:Val} (r:Rds P h ds [v]):∃ d,ds=[d]/\Rd P h d v:=by
 cases r with | cons r rr=>cases rr;exact⟨_,rfl,r⟩
end
theorem xR:RM lY oE:=λP h n o u ds vs u' v e hf r rs q=>by
 unfold oE at q
 split at q
 ·split at q
  ·rename_i hl
   cases q
   obtain⟨q1,es,q2,q3,q4⟩:=BH e r
   obtain⟨d,rfl,rd⟩:=rds1 rs
   refine⟨q1,.lst (es++[d]),.non,?_,trivial,.lst (q3.append (.cons rd .nil)),.non⟩
   unfold lY;rw[q4];dsimp only;rw[if_pos (by rw[q3.len];exact hl)]
  ·cases q
 ·cases q
def sL:Val->Val->Val->Option Val:=λu i v=>match u,i with
 | .lst xs,.int k=>(match ixN xs.length k with
  | some j=>some (.lst (xs.set j v))
  | none=>none)
 | _,_=>none
theorem Gq:vw wL sL:=λP h n o u di vi d v u' _ e hf r ri rd q=>by
 unfold sL at q
 split at q
 ·split at q
  ·rename_i j hj
   cases q
   obtain⟨q1,es,q2,q3,q4⟩:=BH e r
   obtain rfl:=ri.int
   refine⟨.lst (es.set j d),?_,trivial,.lst (q3.set rd j)⟩
   unfold wL;dsimp only;rw[q2];dsimp only;rw[q3.len,hj]
  ·cases q
 ·cases q
def tQ (d:Val):List Val->Option (List Bool)
 | []=>some []
 | x :: r=>match eS x d,tQ d r with
  | some b,some bs=>some (b :: bs)
  | _,_=>none
def ot:Val->List Val->Bv:=λx vs=>match x,vs with
 | .lst xs,[d]=>(match tQ d xs with
  | some bs=>if bs.idxOf true < bs.length then .val (.int (bs.idxOf true:Nat)) else .stuck
  | none=>.stuck)
 | _,_=>.stuck
def oR:Val->List Val->Bv:=λx vs=>match x,vs with
 | .lst xs,[d]=>if ((ef 64 d).map SeqAt.shaped)=some true then (match tQ d xs with
  | some bs=>.val (.int (bs.count true:Nat))
  | none=>.stuck) else .stuck
 | _,_=>.stuck
theorem Bz {P:Nat->Prop}{h:AH}{d:D}{v:Val} (rd:ShR P h d v):∀ {ds:List D}{vs:List Val}{bs:List Bool},Rds P h ds vs->tQ v vs=some bs->fS h d ds=some bs:=by
 intro ds
 induction ds with
 |
  nil=>
  intro vs bs r q
  cases r
  cases q
  rfl
 |
  cons d0 ds ih=>
  intro vs bs r q
  cases r with
  |
   cons r rr=>
   unfold tQ at q
   split at q
   ·rename_i b bs' e1 e2
    cases q
    unfold fS
    rw[yr (.inl r) rd e1,ih rr e2]
   ·cases q
theorem wY:RMv lN ot:=λP h d v ds vs r hv rs=>by
 unfold ot
 split
 ·rename_i xs w
  obtain⟨n,es,rfl,_,e1,q⟩:=r.lst
  obtain⟨d',rfl,r'⟩:=fc rs
  split
  ·rename_i bs eb
   split
   ·rename_i hl
    refine⟨_,?_,.int _⟩
    unfold lN
    dsimp only
    rw[e1]
    show (match fS h d' es with | some bs=>_ | none=>_)=_
    rw[Bz r' q eb]
    dsimp only
    rw[if_pos hl]
   ·trivial
  ·trivial
 ·trivial
theorem yJ:RMv mh oR:=λP h d v ds vs r hv rs=>by
 unfold oR
 split
 ·rename_i xs w
  obtain⟨n,es,rfl,_,e1,q⟩:=r.lst
  obtain⟨d',rfl,r'⟩:=fc rs
  split
  ·rename_i hs
   obtain⟨pd,s1,s2⟩:=Option.map_eq_some_iff.mp hs
   have s3:=mf 64 _ _ _ r' s1
   split
   ·rename_i bs eb
    refine⟨_,?_,.int _⟩
    unfold mh
    dsimp only
    rw[s3]
    rw[if_pos ⟨rfl,by show some (SeqAt.shaped pd)=_;rw[s2]⟩]
    unfold nT
    dsimp only
    rw[e1]
    show (match fS h d' es with | some bs=>_ | none=>_)=_
    rw[Bz r' q eb]
   ·trivial
  ·trivial
 ·trivial
def vD0:ME3:=λe=>.ok (.new (.dct [])) e
theorem IV:RE eD0 vD0:=λX h0 L ns e ae h S hl=>BvR.po (r:=eD0 ae h) (b:=.new (.dct [])) S hl ⟨.dct [],rfl,trivial,.dct .nil⟩
end L3
namespace L3
open PySem PySem.Spec PyProof.Rows L2
structure PEx where
 F:ME
 G:ME3
 ok:RE F G
structure PTs where
 F:MT
 G:MT3
 ok:RT F G
structure PAs where
 F:MA
 G:MA3
 ok:RA F G
structure PSt where
 F:MS
 G:MS3
 ok:RS F G
structure PGt where
 F:MG
 G:MG3
 ok:RG F G
structure PGs where
 F:MGs
 G:ki
 ok:RGs F G
structure PIt where
 F:MI
 G:MI3
 ok:RI F G
structure POp where
 F:MO
 G:MO3
 ok:ROp F G
structure PO2 where
 F:D->D->AH->R D
 G:Val->Val->Bv
 ok:RO F G
structure PU1 where
 F:D->AH->R D
 G:Val->Bv
 ok:RU F G
structure PBf where
 F:Fn
 G:List Val->Bv
 ok:RFn F G
structure PMm where
 F:D->List D->AH->R D
 G:Val->List Val->Option (Val×Val)
 ok:RM F G
structure PMv where
 F:D->List D->AH->R D
 G:Val->List Val->Bv
 ok:RMv F G
structure PSe where
 F:D->D->D->AH->R Unit
 G:Val->Val->Val->Option Val
 ok:vw F G
structure PFn where
 ms:List Bool
 F:Fn
 G:Fn3
 ok:RF ms F G
structure PFx (ms:List Bool) where
 F:Fn
 G:Fn3
 ok:RF ms F G
noncomputable section
def PFx.fn {ms:List Bool} (p:PFx ms):PFn:=⟨ms,p.F,p.G,p.ok⟩
def ai (i:Nat):PEx:=⟨eE i,zw i,HK i⟩
def aq (i:Int):PEx:=⟨eC (.int i),vC (.int i),ng λ_ _=>.int i⟩
def pBl (i:Bool):PEx:=⟨eC (.bl i),vC (.bl i),ng λ_ _=>.bl i⟩
def aQ (i:Str):PEx:=⟨eC (.str i),vC (.str i),ng λ_ _=>.str i⟩
def kh:PEx:=⟨eC .non,vC .non,ng λ_ _=>.non⟩
def pTy (i:String):PEx:=⟨eC (.ty i),vC (.ty i),ng λ_ _=>.ty i⟩
def dS (i:Str):PEx:=⟨eC (.glb i),vC (.glb i),ng λ_ _=>.glb i⟩
def rA (d:D) (v:Val) (r:∀ P h,Rd P h d v):PEx:=⟨eC d,vC v,ng r⟩
def pUn (o:PU1) (a:PEx):PEx:=⟨eUn o.F a.F,vUn o.G a.G,Kb o.ok a.ok⟩
def pOp (o:PO2) (a b:PEx):PEx:=⟨eOp o.F a.F b.F,vOp o.G a.G b.G,JX o.ok a.ok b.ok⟩
def ao:PAs:=⟨nr,vNil,Gu⟩
def af (a:PEx) (r:PAs):PAs:=⟨jV a.F r.F,BF a.G r.G,C8 a.ok r.ok⟩
def pFn (o:PBf) (a:PAs):PEx:=⟨eFn o.F a.F,vFn o.G a.G,KA o.ok a.ok⟩
def aU (a:PAs):PEx:=⟨eFn nM a.F,vTup a.G,ED a.ok⟩
def br (a:PAs):PEx:=⟨eFn dD a.F,vLst a.G,Im a.ok⟩
def lO (a b:PEx):PEx:=⟨zg a.F b.F,vAnd a.G b.G,Iw a.ok b.ok⟩
def pNot (a:PEx):PEx:=⟨zf a.F,vNot a.G,FO a.ok⟩
def qOf (a:PEx):PTs:=⟨tOf a.F,cOf a.G,KP a.ok⟩
def qTr (a:PEx):PTs:=⟨tTr a.F,cTr a.G,Jo a.ok⟩
def qAn (a b:PTs):PTs:=⟨tAn a.F b.F,cAn a.G b.G,J4 a.ok b.ok⟩
def qO (a b:PTs):PTs:=⟨tO a.F b.F,cO a.G b.G,rt_o a.ok b.ok⟩
def qNo (a:PTs):PTs:=⟨tNo a.F,cNo a.G,ID a.ok⟩
def qY:PTs:=⟨tY,cY,rt_y⟩
def xNx:PSt:=⟨sNx,wNx,Jg⟩
def xCt:PSt:=⟨sCt,wCt,KI⟩
def bg (a:PEx):PSt:=⟨Au a.F,wRet a.G,Gx a.ok⟩
def dk (a:PEx):PSt:=⟨wH a.F,BM a.G,DY a.ok⟩
def aA (a b:PSt):PSt:=⟨Aq a.F b.F,wSeq a.G b.G,E7 a.ok b.ok⟩
def xIf (c:PTs) (a b:PSt):PSt:=⟨sIf c.F a.F b.F,wIf c.G a.G b.G,IK c.ok a.ok b.ok⟩
def aR (o:Bool) (i:Nat) (a:PEx):PSt:=⟨gp a.F (gN i),wAsg o i a.G,Hy o i a.ok⟩
def gtN (i:Nat):PGt:=⟨gN i,pN i,vq i⟩
def jo:PGs:=⟨gsN,psN,Kv⟩
def dA (a:PGt) (b:PGs):PGs:=⟨gsC a.F b.F,psC a.G b.G,Ji a.ok b.ok⟩
def gtT (n:Nat) (a:PGs):PGt:=⟨gT λds ae h=>if ds.length=n then a.F ds ae h else .stuck,pT n a.G,rg_t n a.ok⟩
def gtX (a:PGt):PGt:=⟨λd ae h=>noX (a.F d ae h),a.G,EK a.ok⟩
def l9 (a:PEx) (g:PGt):PSt:=⟨gp a.F g.F,BG a.G g.G,DX a.ok g.ok⟩
def om (i j:Nat) (a:PAs):PSt:=⟨tw i j a.F,wPar i j a.G,FQ i j a.ok⟩
def zH (i:Nat) (o:PO2) (a:PEx):PSt:=⟨rL i o.F a.F,Bq i o.G a.G,EA i o.ok a.ok⟩
def eV (c:Str) (a:PAs):PSt:=⟨rB c a.F,yq c a.G,A6 c a.ok⟩
def gX (i:Nat) (w:PSe) (k a:PEx):PSt:=⟨gp a.F (gS (eE i) k.F w.F),wSet i k.G a.G w.G,IA i w.ok k.ok a.ok⟩
def zo (mro:List Str) (i:Nat) (b u:PSt):PSt:=⟨rP mro i b.F u.F,oA mro i b.G u.G,EJ mro i b.ok u.ok⟩
def kj (i:Nat) (m:PMm) (a:PAs):PEx:=⟨eM m.F (eE i) a.F,AD i m.G a.G,Il i m.ok a.ok⟩
def qQ (m:PMv) (a:PEx) (b:PAs):PEx:=⟨eM m.F a.F b.F,BR m.G a.G b.G,DC m.ok a.ok b.ok⟩
def dC (a:PEx):PIt:=⟨zD a.F,BA a.G,GD a.ok⟩
def ml (a:PAs):PIt:=⟨AY a.F,sk iM a.G,GP a.ok⟩
def vK (a:PAs):PIt:=⟨AI a.F,sk oi a.G,F4 a.ok⟩
def jZ (i:PIt) (g:PGt) (b:PSt):PSt:=⟨AA i.F g.F b.F,wFor i.G g.G b.G,Gs i.ok g.ok b.ok⟩
def xWh (c:PTs) (b:PSt):PSt:=⟨sWh c.F b.F,wWh c.G b.G,Kp c.ok b.ok⟩
def pLC (i:PIt) (sub:List (Option Nat)) (hs:(sub.filterMap id).Nodup) (g:PGt) (c:PTs) (a:PEx):PEx:=⟨eLC i.F sub g.F c.F a.F,vLC i.G sub g.G c.G a.G,JM hs i.ok g.ok c.ok a.ok⟩
def aB (f:PFn) (a:PAs):PEx:=⟨vh f.ms.length f.F a.F,BW f.ms f.G a.G,CG rfl f.ok a.ok⟩
def oN:POp:=⟨vg,xw,Cc⟩
def oS (a:PEx):POp:=⟨vn a.F,yD a.G,Cv a.ok⟩
def pSl (a:PEx) (l u:POp):PEx:=⟨eSl a.F l.F u.F,vSl a.G l.G u.G,Kt a.ok l.ok u.ok⟩
def pD0:PEx:=⟨eD0,vD0,IV⟩
def PFx.none (ms:List Bool) (N:Nat:=0):PFx ms:=⟨λ_ _=>.stuck,λ_=>.stuck,λ_ _ _ _ _ _ _=>trivial⟩
def PFx.of (ms:List Bool) (N:Nat) (c:PSt):PFx ms:=⟨fnD N c.F,fnV ms N c.G,BV c.ok⟩
def fnP (ms:List Bool) (N:Nat) (c:PSt):PFn:=⟨ms,fnD N c.F,fnV ms N c.G,BV c.ok⟩
def bp:PO2:=⟨wQ,zQ,Ic⟩
def bZ:PO2:=⟨Bn,vG,Gi⟩
def lg:PO2:=⟨Ba,wK,EC⟩
def dB:PO2:=⟨A7,wx,Ig⟩
def oz:PO2:=⟨za,vP,GF⟩
def bLt:PO2:=⟨gLt,aLt,I0⟩
def bGt:PO2:=⟨gGt,aGt,IP⟩
def bGe:PO2:=⟨gGe,aGe,Km⟩
def zR:PO2:=⟨tf,Ax,E9⟩
def bIx:PO2:=⟨gIx,aIx,IE⟩
def bEq:PO2:=⟨gEq false,aEq false,Bw false⟩
def bNe:PO2:=⟨gEq true,aEq true,Bw true⟩
def bIn:PO2:=⟨gIn false,aIn false,BU false⟩
def o7:PO2:=⟨gIn true,aIn true,BU true⟩
def bIs:PO2:=⟨lu false,vY false,xP false⟩
def Ah:PO2:=⟨lu true,vY true,xP true⟩
def AJ:PO2:=⟨gI λi j=>.int (i + j),aI λi j=>.int (i + j),vT λ_ _ _ _=>.int _⟩
def iU:PU1:=⟨wm,Az,Ie⟩
def dH:PBf:=⟨rO,zI,FN⟩
def qN:PBf:=⟨wN,Bf,Hq⟩
def tD:PBf:=⟨qA,wg,Dz⟩
def qF:PBf:=⟨rR,zF,Eu⟩
def qH:PBf:=⟨sM,zP,Ey⟩
def kX:PBf:=⟨nF,vj,Eg⟩
def gh:PBf:=⟨lH,rm,Bb⟩
def vN:PBf:=⟨vV,Ae,HV⟩
def az (kt:fE):PBf:=⟨sQ kt,y9 kt,Es kt⟩
def dR:PMm:=⟨lY,oE,xR⟩
def iq:PMv:=⟨lN,ot,wY⟩
def iw:PMv:=⟨mh,oR,yJ⟩
def seL:PSe:=⟨wL,sL,Gq⟩
end
theorem pw {P:Nat->Prop}{h:AH}:∀ (ns:List Int),Rds P h (ns.map D.int) (ns.map Val.int)
 | []=>.nil
 | _ :: r=>.cons (.int _) (pw r)
theorem law3 (p:PFn) (hm:p.ms=[false]) (hG:∀ ns:List Int,ns.length<=63->p.G [.kl (ns.map .int)]=.ok (.val (.bl true)) []) (d:D) (h:AH) (ns:List Int) (hl:ns.length<=63) (sc:Script h d ns):∃ h',p.F [d] h=.ok (.bl true) h':=by
 have hp:=p.ok
 rw[hm] at hp
 have rd:Rd (Oc (λ_=>False) [none]) h d (.kl (ns.map .int)):=by
  rcases sc.form with ⟨n,rfl,e⟩ | rfl
  ·exact .cell ⟨λz=>z,by simp⟩ e (.fz (pw ns))
  ·exact .kl (pw ns)
 have S:Sat (λ_=>False) h.length [none] (sls [false] [.kl (ns.map .int)]) ([d].map some) h:=by
  refine⟨rfl,rfl,Nat.le_refl _,λ_ z=>z.elim,λi j n q=>?_,λi n q z=>z,λi s q=>?_⟩
  ·cases i with
   | zero=>simp at q
   | succ i=>simp at q
  ·cases i with
   |
    zero=>
    have:sl1 false (.kl (ns.map .int))=s:=by simpa [sls] using q
    subst this
    exact⟨rfl,d,rfl,rd⟩
   | succ i=>simp [sls] at q
 have:=hp _ _ [d] [.kl (ns.map .int)] h rfl S
 rw[hG ns hl] at this
 obtain⟨d',h',e,_,_,r⟩:=this
 cases r with
 | bl=>exact⟨h',e⟩
 | cell p e r=>cases r
section
variable (e:E3)
@[simp] theorem ek {α β:Type} (a:α) (f:α->E3->R3 β):(R3.ok a e).bind f=f a e:=rfl
@[simp] theorem KQ {α:Type} (a:α) (f:α->E3->SR3):(R3.ok a e).toS f=f a e:=rfl
@[simp] theorem G7 {α:Type} (c:Str) (f:α->E3->SR3):(R3.exc c e:R3 α).toS f=.exc c e:=rfl
@[simp] theorem Jp (f:E3->SR3):(SR3.nx e).then f=f e:=rfl
@[simp] theorem Jy (r:Rt) (f:E3->SR3):(SR3.rt r e).then f=.rt r e:=rfl
@[simp] theorem Jm (f:E3->SR3):(SR3.ct e).then f=.ct e:=rfl
@[simp] theorem FR (c:Str) (f:E3->SR3):(SR3.exc c e).then f=.exc c e:=rfl
@[simp] theorem nX (f:E3->SR3):(SR3.nx e).loop f=f e:=rfl
@[simp] theorem Je (f:E3->SR3):(SR3.ct e).loop f=f e:=rfl
@[simp] theorem IG (r:SR3):r.unl none=r:=by cases r <;> rfl
@[simp] theorem AK:lockO e none=e:=rfl
@[simp] theorem vf:fD e none=e:=rfl
@[simp] theorem HR (v:Val):(Bv.val v).at e=.ok (.val v) e:=rfl
@[simp] theorem GB (v:Val):(Bv.new v).at e=.ok (.new v) e:=rfl
@[simp] theorem Gb (v:Val):rs e (.val v)=some v:=rfl
@[simp] theorem HE (v:Val):rs e (.new v)=some v:=rfl
@[simp] theorem Ia (i:Nat):rs e (.bor i)=(e[i]?).bind Sl.val:=rfl
@[simp] theorem GY (v:Val):(Tm.val v).drop=.val v:=rfl
@[simp] theorem HI (v:Val):(Tm.new v).drop=.val v:=rfl
@[simp] theorem Fy (i:Nat):(Tm.bor i).drop=.bor i:=rfl
@[simp] theorem CV:rss e []=some []:=rfl
@[simp] theorem AF (t:Tm) (ts:List Tm):rss e (t :: ts)=match rs e t,rss e ts with
 | some v,some vs=>some (v :: vs)
 | _,_=>none:=rfl
@[simp] theorem FU (v:Val):cM e (.val v)=some (e,v):=rfl
@[simp] theorem G8 (v:Val):cM e (.new v)=some (e,v):=rfl
@[simp] theorem Fv (i:Nat):cM e (.bor i)=match e[i]? with
 | some (.sh v)=>some (e,v)
 | some (.ow v)=>some (e.set i (.sh v),v)
 | _=>none:=rfl
@[simp] theorem Hk:dem e []=some (e,[]):=rfl
@[simp] theorem CD (t:Tm) (ts:List Tm):dem e (t :: ts)=match cM e t with
 | some (e1,v)=>match dem e1 ts with
  | some (e2,vs)=>some (e2,v :: vs)
  | none=>none
 | none=>none:=rfl
@[simp] theorem HW (b:Bool):bOf (some (.bl b))=some b:=rfl
@[simp] theorem Kr (i:Nat):(ai i).G e=match e[i]? with
 | some (.sh v)=>.ok (.val v) e
 | some .no=>.stuck
 | some _=>.ok (.bor i) e
 | none=>.stuck:=rfl
@[simp] theorem Jt (i:Int):(aq i).G e=.ok (.val (.int i)) e:=rfl
@[simp] theorem v_bl (i:Bool):(pBl i).G e=.ok (.val (.bl i)) e:=rfl
@[simp] theorem JY (i:Str):(aQ i).G e=.ok (.val (.str i)) e:=rfl
@[simp] theorem Jb:kh.G e=.ok (.val .non) e:=rfl
@[simp] theorem v_ty (i:String):(pTy i).G e=.ok (.val (.ty i)) e:=rfl
@[simp] theorem K2 (i:Str):(dS i).G e=.ok (.val (.glb i)) e:=rfl
@[simp] theorem v_un (o:PU1) (a:PEx):(pUn o a).G e=(a.G e).bind λt e1=>match rs e1 t with
 | some v=>(o.G v).at e1
 | none=>.stuck:=rfl
@[simp] theorem v_op (o:PO2) (a b:PEx):(pOp o a b).G e=(a.G e).bind λt1 e1=>(b.G e1).bind λt2 e2=>match rs e2 t1.drop,rs e2 t2 with
 | some v1,some v2=>(o.G v1 v2).at e2
 | _,_=>.stuck:=rfl
@[simp] theorem IM:ao.G e=.ok [] e:=rfl
@[simp] theorem F8 (a:PEx) (r:PAs):(af a r).G e=(a.G e).bind λt e1=>(r.G e1).bind λts e2=>.ok (t.drop :: ts) e2:=rfl
@[simp] theorem v_fn (o:PBf) (a:PAs):(pFn o a).G e=(a.G e).bind λts e1=>match rss e1 ts with
 | some vs=>(o.G vs).at e1
 | none=>.stuck:=rfl
@[simp] theorem JE (a:PAs):(aU a).G e=(a.G e).bind λts e1=>match dem e1 ts with
 | some (e2,vs)=>if vs.length<=16777216 then .ok (.val (.tup vs)) e2 else .stuck
 | none=>.stuck:=rfl
@[simp] theorem JZ (a:PAs):(br a).G e=(a.G e).bind λts e1=>match dem e1 ts with
 | some (e2,vs)=>if vs.length<=16777216 then .ok (.new (.lst vs)) e2 else .stuck
 | none=>.stuck:=rfl
@[simp] theorem Jj (a b:PEx):(lO a b).G e=(a.G e).bind λt e1=>match bOf (rs e1 t) with
 | some true=>b.G e1
 | some false=>.ok (.val (.bl false)) e1
 | none=>.stuck:=rfl
@[simp] theorem c_of (a:PEx):(qOf a).G e=(a.G e).bind λt e1=>match bOf (rs e1 t) with
 | some b=>.ok b e1
 | none=>.stuck:=rfl
@[simp] theorem c_tr (a:PEx):(qTr a).G e=(a.G e).bind λt e1=>match (rs e1 t).bind lC with
 | some b=>.ok b e1
 | none=>.stuck:=rfl
@[simp] theorem c_an (a b:PTs):(qAn a b).G e=(a.G e).bind λk e1=>if k=true then b.G e1 else .ok false e1:=rfl
@[simp] theorem c_o (a b:PTs):(qO a b).G e=(a.G e).bind λk e1=>if k=true then .ok true e1 else b.G e1:=rfl
@[simp] theorem c_no (a:PTs):(qNo a).G e=(a.G e).bind λk e1=>.ok (!k) e1:=rfl
@[simp] theorem x_nx:xNx.G e=.nx e:=rfl
@[simp] theorem x_ct:xCt.G e=.ct e:=rfl
@[simp] theorem JO (a:PEx):(bg a).G e=(a.G e).toS oy:=rfl
@[simp] theorem DP (v:Val):oy (.val v) e=.rt (.val v) e:=rfl
@[simp] theorem B9 (v:Val):oy (.new v) e=.rt (.new v) e:=rfl
@[simp] theorem D4 (i:Nat):oy (.bor i) e=match e[i]? with
 | some (.sh v)=>.rt (.val v) e
 | some (.ow v)=>.rt (.new v) (e.set i .no)
 | _=>.stuck:=rfl
@[simp] theorem HZ (a:PEx):(dk a).G e=(a.G e).toS λ_ e1=>.nx e1:=rfl
@[simp] theorem BK (a b:PSt):(aA a b).G e=(a.G e).then b.G:=rfl
@[simp] theorem x_if (c:PTs) (a b:PSt):(xIf c a b).G e=(c.G e).toS λk e1=>if k=true then a.G e1 else b.G e1:=rfl
@[simp] theorem Jr (o:Bool) (i:Nat) (a:PEx):(aR o i a).G e=(a.G e).toS (jC o i):=rfl
@[simp] theorem IH:Sl.no.pl=true:=rfl
@[simp] theorem KR (v:Val):(Sl.sh v).pl=true:=rfl
@[simp] theorem JH (v:Val):(Sl.ow v).pl=true:=rfl
@[simp] theorem Dr (o:Bool) (i:Nat) (v:Val):jC o i (.val v) e=match e[i]? with
 | some s0=>if s0.pl=true then .nx (e.set i (.sh v)) else .stuck
 | none=>.stuck:=by unfold jC;rfl
@[simp] theorem zl (i:Nat) (v:Val):jC true i (.new v) e=match e[i]? with
 | some s0=>if s0.pl=true then .nx (e.set i (.ow v)) else .stuck
 | none=>.stuck:=by unfold jC;rfl
@[simp] theorem AU (i:Nat) (v:Val):jC false i (.new v) e=match e[i]? with
 | some s0=>if s0.pl=true then .nx (e.set i (.sh v)) else .stuck
 | none=>.stuck:=by unfold jC;rfl
@[simp] theorem g_n (i:Nat) (v:Val):(gtN i).G v e=match e[i]? with
 | some s=>if s.pl=true then some (e.set i (.sh v)) else none
 | none=>none:=rfl
@[simp] theorem g_sn:jo.G [] e=some e:=rfl
@[simp] theorem g_sc (a:PGt) (b:PGs) (v:Val) (vs:List Val):(dA a b).G (v :: vs) e=(a.G v e).bind λe1=>b.G vs e1:=rfl
@[simp] theorem g_t (n:Nat) (a:PGs) (vs:List Val):(gtT n a).G (.tup vs) e=if vs.length=n then a.G vs e else none:=rfl
@[simp] theorem g_x (a:PGt) (v:Val):(gtX a).G v e=a.G v e:=rfl
@[simp] theorem FD (a:PEx) (g:PGt):(l9 a g).G e=(a.G e).toS λt e1=>match cM e1 t with
 | some (e2,v)=>match g.G v e2 with
  | some e3=>.nx e3
  | none=>.stuck
 | none=>.stuck:=rfl
@[simp] theorem Ja (i j:Nat) (a:PAs):(om i j a).G e=(a.G e).toS λts e1=>match dem e1 ts with
 | some (e2,[v,u])=>match (pN i v e2).bind (pN j u) with
  | some e3=>.nx e3
  | none=>.stuck
 | _=>.stuck:=rfl
@[simp] theorem Kj (i:Nat) (v:Val):pN i v e=match e[i]? with
 | some s=>if s.pl=true then some (e.set i (.sh v)) else none
 | none=>none:=rfl
@[simp] theorem Kl (i:Nat) (o:PO2) (a:PEx):(zH i o a).G e=match e[i]? with
 | some (.sh x)=>(a.G e).toS λt e1=>match rs e1 t with
  | some y=>match o.G x y with
   | .val z=>match pN i z e1 with
    | some e2=>.nx e2
    | none=>.stuck
   | _=>.stuck
  | none=>.stuck
 | _=>.stuck:=rfl
@[simp] theorem DZ (c:Str) (a:PAs):(eV c a).G e=(a.G e).toS λts e1=>if ts.length<=16777216 then .exc c e1 else .stuck:=rfl
@[simp] theorem II (i:Nat) (w:PSe) (k a:PEx):(gX i w k a).G e=(a.G e).toS λt e1=>match (e1[i]?).bind Sl.mv with
 | none=>.stuck
 | some _=>(k.G e1).toS λt2 e2=>match rs e2 t2 with
  | none=>.stuck
  | some vi=>match cM e2 t.drop with
   | none=>.stuck
   | some (e3,v)=>match e3[i]? with
    | none=>.stuck
    | some s=>match s.mv with
     | none=>.stuck
     | some u=>match w.G u vi v with
      | some u'=>.nx (e3.set i (s.re u'))
      | none=>.stuck:=rfl
@[simp] theorem JI (v:Val):(Sl.ow v).mv=some v:=rfl
@[simp] theorem J9 (v:Val):(Sl.mu v).mv=some v:=rfl
@[simp] theorem Jn (v u:Val):(Sl.ow v).re u=.ow u:=rfl
@[simp] theorem KO (v u:Val):(Sl.mu v).re u=.mu u:=rfl
@[simp] theorem HA (v:Val):(Sl.ow v).val=some v:=rfl
@[simp] theorem Hd (v:Val):(Sl.mu v).val=some v:=rfl
@[simp] theorem JT (mro:List Str) (i:Nat) (b u:PSt):(zo mro i b u).G e=oA mro i b.G u.G e:=rfl
@[simp] theorem IS (i:Nat) (m:PMm) (a:PAs):(kj i m a).G e=match e[i]? with
 | some s=>if (s.mv.map eR)=some true then (a.G e).bind λts e1=>match dem e1 ts with
  | some (e2,vs)=>match e2[i]? with
   | some s2=>match s2.mv with
    | some u=>match m.G u vs with
     | some (u',v)=>.ok (.val v) (e2.set i (s2.re u'))
     | none=>.stuck
    | none=>.stuck
   | none=>.stuck
  | none=>.stuck else .stuck
 | none=>.stuck:=rfl
@[simp] theorem Ad (xs:List Val):eR (.lst xs)=true:=rfl
@[simp] theorem Ex (m:PMv) (a:PEx) (b:PAs):(qQ m a b).G e=(a.G e).bind λt e1=>if (rs e1 t).map eR=some true then (b.G e1).bind λts e2=>(match rs e2 t.drop,rss e2 ts with
 | some v,some vs=>if eR v=true then (m.G v vs).at e2 else .stuck
 | _,_=>.stuck) else .stuck:=rfl
@[simp] theorem Jh (a:PEx):(dC a).G e=(a.G e).bind λt e1=>match jU t e1 with
 | some p=>.ok p e1
 | none=>.stuck:=rfl
@[simp] theorem G1 (v:Val):jU (.val v) e=(jl v).map λxs=>(xs,none):=rfl
@[simp] theorem GN (v:Val):jU (.new v) e=(jl v).map λxs=>(xs,none):=rfl
@[simp] theorem GA (xs:List Val):jl (.tup xs)=some xs:=rfl
@[simp] theorem Io (xs:List Val):jl (.lst xs)=some xs:=rfl
@[simp] theorem JW (a:PAs):(ml a).G e=(a.G e).bind λts e1=>match (rss e1 ts).bind iM with
 | some xs=>.ok (xs,none) e1
 | none=>.stuck:=rfl
@[simp] theorem IL (a:PAs):(vK a).G e=(a.G e).bind λts e1=>match (rss e1 ts).bind oi with
 | some xs=>.ok (xs,none) e1
 | none=>.stuck:=rfl
@[simp] theorem Jv (i:PIt) (g:PGt) (b:PSt):(jZ i g b).G e=(i.G e).toS λp e1=>(fI g.G b.G p.1 (lockO e1 p.2)).unl p.2:=rfl
@[simp] theorem lU (g:MG3) (B:MS3):fI g B [] e=.nx e:=rfl
theorem fm (g:MG3) (B:MS3) (v:Val) (vs:List Val):fI g B (v :: vs) e=match g v e with
 | some e1=>(B e1).loop (fI g B vs)
 | none=>.stuck:=rfl
theorem x_wh (c:PTs) (b:PSt):(xWh c b).G e=(c.G e).toS λk e1=>if k=true then (b.G e1).loop (xWh c b).G else .nx e1:=AZ c.G b.G e
@[simp] theorem v_lc (i:PIt) (sub:List (Option Nat)) (hs:(sub.filterMap id).Nodup) (g:PGt) (c:PTs) (a:PEx):(pLC i sub hs g c a).G e=(i.G e).bind λp e1=>match lcV g.G c.G a.G p.1 [] (cN sub (lockO e1 p.2)) with
 | .ok ys e2=>if ys.length<=16777216 then .ok (.new (.lst ys)) (fD (bN sub e2 (lockO e1 p.2)) p.2) else .stuck
 | _=>.stuck:=rfl
@[simp] theorem El (f:PFn) (a:PAs):(aB f a).G e=(a.G e).bind λts e1=>match rss e1 ts with
 | none=>.stuck
 | some vs=>if okA e1 f.ms ts=true then (match f.G vs with
  | .stuck=>.stuck
  | .ok r mv=>if (bJ e1 f.ms ts).isEmpty || (ma r && mv.all dX) then .ok r.tm (bN (cQ f.ms ts) (bj f.ms mv) e1) else (match o4 e1 (bJ e1 f.ms ts) with
   | some e2=>.ok r.tm (bN (cQ f.ms ts) (bj f.ms mv) e2)
   | none=>.stuck)
  | .exc c mv=>if (bJ e1 f.ms ts).isEmpty || mv.all dX then .exc c (bN (cQ f.ms ts) (bj f.ms mv) e1) else .stuck) else .stuck:=rfl
@[simp] theorem GG (v:Val):(Rt.val v).tm=.val v:=rfl
@[simp] theorem FA (v:Val):(Rt.new v).tm=.new v:=rfl
@[simp] theorem o_n:oN.G e=.ok none e:=rfl
@[simp] theorem o_s (a:PEx):(oS a).G e=(a.G e).bind λt e1=>match rs e1 t with
 | some (.int i)=>.ok (some i) e1
 | _=>.stuck:=rfl
@[simp] theorem v_sl (a:PEx) (l u:POp):(pSl a l u).G e=(a.G e).bind λt e1=>(l.G e1).bind λlo e2=>(u.G e2).bind λhi e3=>match rs e3 t.drop with
 | some v=>(aSl v lo hi).at e3
 | none=>.stuck:=rfl
@[simp] theorem v_d0:pD0.G e=.ok (.new (.dct [])) e:=rfl
theorem bh (ms:List Bool) (N:Nat) (c:PSt) (vs:List Val):(fnP ms N c).G vs=if vs.length=ms.length then (match c.G (sls ms vs++List.replicate (N - vs.length) .no) with
 | .nx e=>(match muV ms e with | some mv=>.ok (.val .non) mv | none=>.stuck)
 | .rt r e=>(match muV ms e with | some mv=>.ok r mv | none=>.stuck)
 | .exc c e=>(match muV ms e with | some mv=>.exc c mv | none=>.stuck)
 | _=>.stuck) else .stuck:=rfl
theorem BP (ms:List Bool) (N:Nat) (c:PSt) (vs:List Val):(PFx.of ms N c).G vs=if vs.length=ms.length then (match c.G (sls ms vs++List.replicate (N - vs.length) .no) with
 | .nx e=>(match muV ms e with | some mv=>.ok (.val .non) mv | none=>.stuck)
 | .rt r e=>(match muV ms e with | some mv=>.ok r mv | none=>.stuck)
 | .exc c e=>(match muV ms e with | some mv=>.exc c mv | none=>.stuck)
 | _=>.stuck) else .stuck:=rfl
@[simp] theorem KY {ms:List Bool} (p:PFx ms):p.fn.ms=ms:=rfl
@[simp] theorem fx_G {ms:List Bool} (p:PFx ms) (vs:List Val):p.fn.G vs=p.G vs:=rfl
end
@[simp] theorem K5 (i j:Int):bp.G (.int i) (.int j)=.val (.int (i + j)):=rfl
@[simp] theorem k_lt (i j:Int):bLt.G (.int i) (.int j)=.val (.bl (decide (i < j))):=rfl
@[simp] theorem k_gt (i j:Int):bGt.G (.int i) (.int j)=.val (.bl (decide (j < i))):=rfl
@[simp] theorem k_ge (i j:Int):bGe.G (.int i) (.int j)=.val (.bl (decide (j<=i))):=rfl
@[simp] theorem Ka (i j:Int):AJ.G (.int i) (.int j)=.val (.int (i + j)):=rfl
@[simp] theorem JU (i:Int):iU.G (.int i)=.val (.int (-i)):=rfl
theorem du {i j:Int} (c:CMulA i j):bZ.G (.int i) (.int j)=.val (.int (i * j)):=by show vG (.int i) (.int j)=_;unfold vG aIc;dsimp only;rw[if_pos c]
theorem qE {i j:Int} (c:CDivB i j):lg.G (.int i) (.int j)=.val (.int (i.fdiv j)):=by show wK (.int i) (.int j)=_;unfold wK aIc;dsimp only;rw[if_pos c]
theorem jd {i j:Int} (c:j ≠ 0):dB.G (.int i) (.int j)=.val (.int (i.fmod j)):=by show wx (.int i) (.int j)=_;unfold wx aIc;dsimp only;rw[if_pos c]
theorem BY {i j:Int} (c:oZ i j):oz.G (.int i) (.int j)=.val (.int (i ^ j.toNat)):=by show vP (.int i) (.int j)=_;unfold vP aIc;dsimp only;rw[if_pos c]
@[simp] theorem k_ix (x:Val) (i:Int):bIx.G x (.int i)=match x.items with
 | some xs=>(match atI xs i with
  | some v=>.val v
  | none=>.stuck)
 | none=>.stuck:=by show aIx x (.int i)=_;unfold aIx;cases x.items <;> rfl
@[simp] theorem IC (xs:List Val):(Val.tup xs).items=some xs:=rfl
@[simp] theorem wZ (xs:List Val):(Val.lst xs).items=some xs:=rfl
@[simp] theorem JJ (xs:List Val):(Val.kl xs).items=some xs:=rfl
@[simp] theorem k_eq (x y:Val):bEq.G x y=match eS x y with
 | some b=>.val (.bl b)
 | none=>.stuck:=by show aEq false x y=_;unfold aEq;cases eS x y <;> rfl
@[simp] theorem k_ne (x y:Val):bNe.G x y=match eS x y with
 | some b=>.val (.bl (!b))
 | none=>.stuck:=by show aEq true x y=_;unfold aEq;cases eS x y <;> rfl
@[simp] theorem J8 (x y:Int):eS (.int x) (.int y)=some (x == y):=rfl
theorem eq_str {x y:Str} (hx:PyData.strOk x=true) (hy:PyData.strOk y=true):eS (.str x) (.str y)=some (x == y):=by
 unfold eS
 show (if SeqAt.shaped (.str x)=true/\SeqAt.shaped (.str y)=true then _ else _)=_
 rw[if_pos ⟨pV hx (Nat.zero_le _),pV hy (Nat.zero_le _)⟩]
 rfl
@[simp] theorem k_is (x:Val):bIs.G x .non=match x with
 | .non=>.val (.bl true)
 | _=>.val (.bl false):=by cases x <;> rfl
@[simp] theorem Jc (x:Val):Ah.G x .non=match x with
 | .non=>.val (.bl false)
 | _=>.val (.bl true):=by cases x <;> rfl
@[simp] theorem Jw (v:Val):dH.G [v]=match v.items with
 | some xs=>.val (.int xs.length)
 | none=>(match v with
  | .str z=>if z.length<=16777216 then .val (.int z.length) else .stuck
  | _=>.stuck):=rfl
@[simp] theorem Kz (i:Int):qN.G [.int i]=.val (.int (if i < 0 then -i else i)):=rfl
@[simp] theorem Ju (i j:Int):tD.G [.int i,.int j]=.val (.int (if j < i then j else i)):=rfl
@[simp] theorem KN (xs:List Val):qF.G [.lst xs]=match lz xs with
 | some bs=>.val (.bl (bs.all id))
 | none=>.stuck:=rfl
@[simp] theorem J3 (xs:List Val):qH.G [.lst xs]=match ky xs with
 | some bs=>.val (.int bs.sum)
 | none=>.stuck:=rfl
@[simp] theorem Fc (v:Val):kX.G [v]=match v.items with
 | some xs=>.new (.lst xs)
 | none=>.stuck:=rfl
@[simp] theorem DB (v:Val):gh.G [v]=match v.items with
 | some xs=>.val (.tup xs)
 | none=>.stuck:=rfl
@[simp] theorem Fi (b:Bool):vN.G [.bl b]=.val (.int (if b then 1 else 0)):=rfl
@[simp] theorem Af (xs:List Val) (v:Val):dR.G (.lst xs) [v]=if xs.length < 16777216 then some (.lst (xs++[v]),.non) else none:=rfl
@[simp] theorem p8:∀ (bs:List Int),ky (bs.map Val.int)=some bs
 | []=>rfl
 | b :: r=>by show (ky (r.map Val.int)).map (b :: ·)=_;rw[p8 r];rfl
theorem xh {K:W.Frag}{mg:Str->Option Value}{X:Cx}{ES:L2.St->XK}{sts:List Stmt}:DSs K mg X ES sts (λ_ _=>.stuck):=λpins s σ H D I ⟨_,_,_,_,_,p⟩=>p.elim
end L3
namespace L3
open PySem PySem.Spec PyProof.Rows L2
section
variable (K:W.Frag) (mg:Str->Option Value) (X:Cx) (ES:L2.St->XK)
@[irreducible] def DE (e:Expr) (F:ME):Prop:=L2.DE K mg X ES e F
@[irreducible] def DT (e:Expr) (F:MT):Prop:=L2.DT K mg X ES e F
@[irreducible] def DA (es:List Expr) (F:MA):Prop:=L2.DA K mg X ES es F
@[irreducible] def DS (st:Stmt) (F:MS):Prop:=L2.DS K mg X ES st F
@[irreducible] def DSs (st:List Stmt) (F:MS):Prop:=L2.DSs K mg X ES st F
@[irreducible] def DI (tg al:Expr) (F:MI):Prop:=L2.DI K mg X ES tg al F
end
section
variable {K:W.Frag}{mg:Str->Option Value}{X:Cx}{ES:L2.St->XK}{e a b c o i tg al im:Expr}{es:List Expr}{st:Stmt}{sts sts':List Stmt}{p q r:PEx}{A:PAs}{t u:PTs}{x y:PSt}{g:PGt}{gs:PGs}{I:PIt}{pos:Pos}
theorem ag (i:Nat) {x:Str} (hN:X.N[i]?=some x:=by rfl) (hv:Vis X.env.scope x:=by first | exact Or.inl rfl | exact Or.inr (Or.inl rfl) | exact Or.inr (Or.inr rfl)) (hd:(x == ("__debug__" : Str))=false:=by decide) (j':(x == ("__classdict__" : Str))=false:=by decide):DE K mg X ES (.Name x pos) (ai i).F:=by with_unfolding_all exact EZ i hN hv hd j'
theorem aj {i:Int}{j:Nat}:DE K mg X ES (.Constant (.int i) j pos) (aq i).F:=by with_unfolding_all exact FI
theorem gA {i:Bool}{j:Nat}:DE K mg X ES (.Constant (.bool i) j pos) (pBl i).F:=by with_unfolding_all exact IJ
theorem iV {j:Nat}:DE K mg X ES (.Constant .none j pos) kh.F:=by with_unfolding_all exact FL
theorem aC {i:Str}{j:Nat}:DE K mg X ES (.Constant (.str i) j pos) (aQ i).F:=by with_unfolding_all exact EM
theorem cE {x:Str} (hg:Gl X x) (ha:∃ a,mg x=some (.ref a)) (hm:X.mg=mg:=by rfl) (hd:(x == ("__debug__" : Str))=false:=by decide):DE K mg X ES (.Name x pos) (dS x).F:=by with_unfolding_all exact Gd hg ha hm hd
theorem va {x:Str}{d:D}{v:Val}{r:∀ P h,Rd P h d v} (hg:Gl X x) (ha:GC K mg x d) (hm:X.mg=mg:=by rfl) (hd:(x == ("__debug__" : Str))=false:=by decide):DE K mg X ES (.Name x pos) (rA d v r).F:=by with_unfolding_all exact IF hg ha hm hd
theorem hX {x:Str}{n:String} (hg:Gl X x) (hm:mg x=none) (hv:bootBuiltins x=some (.type n)) (he:X.mg=mg:=by rfl) (hn:x ≠ "__name__":=by decide) (hd:(x == ("__debug__" : Str))=false:=by decide):DE K mg X ES (.Name x pos) (pTy n).F:=by with_unfolding_all exact JD hg hm hv he hn hd
theorem aJ {op:Operator}{r':R2}{k:PO2} (ho:OpR X (binaryOp op) r') (hd:OpD K mg r' k.F) (ha:DE K mg X ES a p.F) (hb:DE K mg X ES b q.F):DE K mg X ES (.BinOp a op b pos) (pOp k p q).F:=by with_unfolding_all exact Kx ho hd ha hb
theorem aK {r':R2}{k:PO2} (hr:IxR X r') (hd:OpD K mg r' k.F) (ha:DE K mg X ES a p.F) (hb:DE K mg X ES b q.F) (hs:oY b):DE K mg X ES (.Subscript a b pos) (pOp k p q).F:=by with_unfolding_all exact J5 hr hd ha hb hs
theorem eW {op:CmpOp}{r':R2}{k:PO2} (ho:OpR X (compareOp op) r') (hd:OpD K mg r' k.F) (ha:DE K mg X ES a p.F) (hb:DE K mg X ES b q.F) (hm:behindInMarks op b=false):DE K mg X ES (.Compare a [op] [b] pos) (pOp k p q).F:=by with_unfolding_all exact G9 ho hd ha hb hm
theorem bz {op:CmpOp}{r':R2}{k:PO2} (ho:OpR X (compareOp op) r') (hd:OpD K mg r' k.F) (ha:DE K mg X ES a p.F) (hb:DE K mg X ES b q.F) (hm:behindInMarks op b=false):DT K mg X ES (.Compare a [op] [b] pos) (qOf (pOp k p q)).F:=by with_unfolding_all exact Gy ho hd ha hb hm
theorem cU (ha:DE K mg X ES a p.F) (he:∀ ci,isTrue a X.env ci=(do let v <- ci;standAt a.pos;holding [v] (truthy v)):=by intro _;rfl):DT K mg X ES a (qOf p).F:=by with_unfolding_all exact EB ha he
theorem sv (hK:X.K=K) (ha:DE K mg X ES a p.F) (he:∀ ci,isTrue a X.env ci=(do let v <- ci;standAt a.pos;holding [v] (truthy v)):=by intro _;rfl):DT K mg X ES a (qTr p).F:=by with_unfolding_all exact yY hK ha he
theorem dJ (ha:DT K mg X ES a t.F):DT K mg X ES (.UnaryOp .Not a pos) (qNo t).F:=by with_unfolding_all exact GL ha
theorem uN (ha:DT K mg X ES a t.F):DW K mg X ES (.BoolOp .And [a] pos) t.F:=by with_unfolding_all exact Cz ha
theorem iI (ha:DT K mg X ES a t.F):DW K mg X ES (.BoolOp .Or [a] pos) t.F:=by with_unfolding_all exact Fq ha
theorem yw (ha:DT K mg X ES a t.F) (hb:DW K mg X ES (.BoolOp .And (b :: es) pos) u.F):DW K mg X ES (.BoolOp .And (a :: b :: es) pos) (qAn t u).F:=by with_unfolding_all exact Fm ha hb
theorem ke (ha:DT K mg X ES a t.F) (hb:DW K mg X ES (.BoolOp .Or (b :: es) pos) u.F):DW K mg X ES (.BoolOp .Or (a :: b :: es) pos) (qO t u).F:=by with_unfolding_all exact JF ha hb
theorem ZW.dt (h:DW K mg X ES a t.F):DT K mg X ES a t.F:=by with_unfolding_all exact DW.dt h
theorem jH {op} (h:DE K mg X ES a p.F):DE K mg X ES (.BoolOp op [a] pos) p.F:=by with_unfolding_all exact EN h
theorem jR (ha:DE K mg X ES a p.F) (hb:DE K mg X ES (.BoolOp .And (b :: es) pos) q.F):DE K mg X ES (.BoolOp .And (a :: b :: es) pos) (lO p q).F:=by with_unfolding_all exact FV ha hb
theorem Iy (ha:DE K mg X ES a p.F):DE K mg X ES (.UnaryOp .Not a pos) (pNot p).F:=by with_unfolding_all exact FZ ha
theorem h9 {op:UnaryOp}{r':V->Hp->VK->Prop}{k:PU1} (ho:UnR X (unaryOp op) r') (hd:UnD K mg r' k.F) (ha:DE K mg X ES a p.F):DE K mg X ES (.UnaryOp op a pos) (pUn k p).F:=by with_unfolding_all exact K6 ho hd ha
theorem ah:DA K mg X ES [] ao.F:=by with_unfolding_all exact Gf
theorem aa (ha:DE K mg X ES e p.F) (hr:DA K mg X ES es A.F) (hs:starEach (e :: es) X.env=(false,eval e X.env) :: starEach es X.env:=by rfl):DA K mg X ES (e :: es) (af p A).F:=by with_unfolding_all exact DM ha hr hs
theorem aH {x1} (h:DA K mg X ES es A.F):DE K mg X ES (.Tuple es x1 pos) (aU A).F:=by with_unfolding_all exact Hw h
theorem ba (h:DA K mg X ES es A.F):DE K mg X ES (.List es pos) (br A).F:=by with_unfolding_all exact Hn h
theorem aD {id:String}{r':List V->Hp->VK->Prop}{k:PBf}{x:Str}{p0:Pos} (hc:CallR X (.builtin id) r') (hd:bT K mg r' k.F) (hg:Gl X x) (hm:mg x=none) (hv:bootBuiltins x=some (.builtin id)) (ha:DA K mg X ES (e :: es) A.F) (hk:X.mg=mg:=by rfl) (hn:x ≠ "__name__":=by decide) (hdb:(x == ("__debug__" : Str))=false:=by decide) (he:starEach (e :: es) X.env=(false,eval e X.env) :: starEach es X.env:=by rfl) (hpl:(backTo pos (starEach es X.env)).any (·.1)=false:=by rfl):DE K mg X ES (.Call (.Name x p0) (e :: es) [] pos) (pFn k A).F:=by with_unfolding_all exact zd hc hd hg hm hv ha hk hn hdb he hpl
theorem dn {id:String}{r':List V->Hp->VK->Prop}{k:PBf}{x:Str}{p0:Pos} (hc:CallR X (.type id) r') (hd:bT K mg r' k.F) (hg:Gl X x) (hm:mg x=none) (hv:bootBuiltins x=some (.type id)) (ha:DA K mg X ES (e :: es) A.F) (hk:X.mg=mg:=by rfl) (hn:x ≠ "__name__":=by decide) (hdb:(x == ("__debug__" : Str))=false:=by decide) (he:starEach (e :: es) X.env=(false,eval e X.env) :: starEach es X.env:=by rfl) (hpl:(backTo pos (starEach es X.env)).any (·.1)=false:=by rfl):DE K mg X ES (.Call (.Name x p0) (e :: es) [] pos) (pFn k A).F:=by with_unfolding_all exact yE hc hd hg hm hv ha hk hn hdb he hpl
theorem aw {f:PFn}{x:Str}{p0:Pos}{k n:Nat}{ps:List Str} (C:Callee X.prog X.w X.K X.mg X.base x k ps (spD K mg n f.F)) (hr:Room k X.A) (hg:Gl X x) (hx:fG X ES) (ha:DA K mg X ES (e :: es) A.F) (hn:f.ms.length=n:=by rfl) (hdb:(x == ("__debug__" : Str))=false:=by decide) (he:starEach (e :: es) X.env=(false,eval e X.env) :: starEach es X.env:=by rfl) (hpl:(backTo pos (starEach es X.env)).any (·.1)=false:=by rfl):DE K mg X ES (.Call (.Name x p0) (e :: es) [] pos) (aB f A).F:=by
 subst hn
 with_unfolding_all exact zm C hr hg hx ha hdb he hpl
theorem aS:DSs K mg X ES [] xNx.F:=by with_unfolding_all exact CY
theorem ay (h1:DS K mg X ES st x.F):DSs K mg X ES [st] x.F:=by with_unfolding_all exact DU h1
theorem ar (h1:DS K mg X ES st x.F) (h2:DSs K mg X ES sts y.F):DSs K mg X ES (st :: sts) (aA x y).F:=by with_unfolding_all exact A5 h1 h2
theorem uf:DS K mg X ES (.Continue pos) xCt.F:=by with_unfolding_all exact ui
theorem aP (he:DE K mg X ES e p.F):DS K mg X ES (.Return (some e) pos) (bg p).F:=by with_unfolding_all exact Gn he
theorem cx (he:DE K mg X ES e p.F) (hs:swapsWith e none pos.line X.env=pure false:=by rfl):DS K mg X ES (.Expr e pos) (dk p).F:=by with_unfolding_all exact Cy he hs
theorem bq (hc:DT K mg X ES c t.F) (ha:DSs K mg X ES sts x.F) (hb:DSs K mg X ES sts' y.F):DS K mg X ES (.If c sts sts' pos) (xIf t x y).F:=by with_unfolding_all exact Ke hc ha hb
theorem aV {i:Nat}{x:Str} (hN:X.N.Nodup) (hi:X.N[i]?=some x) (hx:Loc X.env.scope x) (hf:X.fn x=true\/X.env.scope.names.lookup x=some .local:=by first | exact .inl rfl | exact .inr rfl | assumption):DG K mg X ES (.Name x pos) (gtN i).F:=Co hN hi hx hf
theorem iu:DGs K mg X ES [] jo.F:=Cs
theorem bO (h1:DG K mg X (λ_=>E0) e g.F) (h2:DGs K mg X (λ_=>E0) es gs.F) (hs:(assignEach (e :: es) X.env).map (·.2)=assign e X.env :: (assignEach es X.env).map (·.2):=by rfl):DGs K mg X (λ_=>E0) (e :: es) (dA g gs).F:=zi h1 h2 hs
theorem k8 {k n:Nat} (hK:X.K=K) (hc:X.calm=true) (h:DGs K mg X (λ_=>E0) es gs.F) (hn:(assignEach es X.env).length=n:=by rfl) (hst:(assignEach es X.env).findIdx? (·.1)=none:=by rfl):DG K mg X (λ_=>E0) (.Tuple es k pos) (gtT n gs).F:=Fo hK hc h hn hst
theorem ZG.weak (hg:DG K mg X (λ_=>E0) e g.F):DG K mg X ES e (gtX g).F:=DG.weak hg
theorem l6 (he:DE K mg X ES e p.F) (hg:DG K mg X ES a g.F) (hs:swapsWithSole [a] e pos.line X.env=pure false:=by rfl) (hw:swappedStores [a] e X.env=pure none:=by rfl) (h1:(assignEach [a] X.env).map (·.2)=[assign a X.env]:=by rfl):DS K mg X ES (.Assign [a] e pos) (l9 p g).F:=by with_unfolding_all exact xS he hg hs hw h1
theorem dZ {j:Nat}{w:PSe}{r':m9}{p1:Pos} (he:DE K mg X ES e p.F) (ho:DE K mg X ES o (ai j).F) (hi:DE K mg X ES i q.F) (hs':rF X r') (hd:sW K mg r' w.F) (hs:swapsWithSole [.Subscript o i p1] e pos.line X.env=pure false:=by rfl) (hw:swappedStores [.Subscript o i p1] e X.env=pure none:=by rfl) (h1:(assignEach [.Subscript o i p1] X.env).map (·.2)=[assign (.Subscript o i p1) X.env]:=by rfl)
 (ha:∀ v,assign (.Subscript o i p1) X.env v=(do
  let ov <- holding [v] (eval o X.env)
  let iv <- holding [v,ov] (eval i X.env)
  standAt p1
  holding [v,ov,iv] (setItem ov iv v)
  release [v,ov,iv] []):=by intro _;rfl):DS K mg X ES (.Assign [.Subscript o i p1] e pos) (gX j w q p).F:=by with_unfolding_all exact xS he (GU ho hi hs' hd ha) hs hw h1
theorem aM {ow:Bool}{i:Nat}{x:Str}{jp:Pos} (hN:X.N.Nodup) (hi:X.N[i]?=some x) (hx:Loc X.env.scope x) (he:DE K mg X ES e p.F) (hs:swapsWith e (some (.Name x jp)) pos.line X.env=pure false:=by rfl) (hf:X.fn x=true\/X.env.scope.names.lookup x=some .local:=by first | exact .inl rfl | exact .inr rfl | assumption):DS K mg X ES (.Assign [.Name x jp] e pos) (aR ow i p).F:=by with_unfolding_all exact FJ hN hi hx he hs hf
theorem rY {i j:Nat}{x y:Str}{px py pt:Pos}{kt k2 pt2} (hc:X.calm=true) (hN:X.N.Nodup) (hi:X.N[i]?=some x) (hj:X.N[j]?=some y) (hij:i ≠ j) (hx:X.env.scope.names.lookup x=some .local) (hy:X.env.scope.names.lookup y=some .local) (ha:DA K mg X ES [a,b] A.F) (hw:swappedStores [.Tuple [.Name x px,.Name y py] kt pt] (.Tuple [a,b] k2 pt2) X.env=pure (some [x,y])) (hs:swapsWithSole [.Tuple [.Name x px,.Name y py] kt pt] (.Tuple [a,b] k2 pt2) pos.line X.env=pure false:=by rfl):DS K mg X ES (.Assign [.Tuple [.Name x px,.Name y py] kt pt] (.Tuple [a,b] k2 pt2) pos) (om i j A).F:=by with_unfolding_all exact GW hc hN hi hj hij hx hy ha hw hs
theorem GZ {i:Nat}{x:Str}{op:Operator}{ti:TIp}{jp:Pos}{k:PO2} (hN:X.N.Nodup) (hi:X.N[i]?=some x) (hx:Loc X.env.scope x) (he:DE K mg X ES e p.F) (ho:PIp X op ti) (hd:IpD K mg ti k.F) (hf:X.fn x=true\/X.env.scope.names.lookup x=some .local:=by first | exact .inl rfl | exact .inr rfl | assumption):DS K mg X ES (.AugAssign (.Name x jp) op e pos) (zH i k p).F:=by with_unfolding_all exact Ik hN hi hx he ho hd hf
theorem eF {x:Str}{C:Addr}{E:XK}{np cpos:Pos} (hc:X.calm=true) (hR:Rz X E) (hg:Gl X x) (hm:mg x=some (.ref C)) (hq:W.excIn X.K C eJ "ValueError.__new__"=true) (ha:DA K mg X (λ_=>E) (e :: es) A.F) (hk:X.mg=mg:=by rfl) (he:starEach (e :: es) X.env=(false,eval e X.env) :: starEach es X.env:=by rfl) (db:(backTo cpos (starEach es X.env)).any (·.1)=false:=by rfl) (hd:(x == ("__debug__" : Str))=false:=by decide):DS K mg X (λ_=>E) (.Raise (some (.Call (.Name x np) (e :: es) [] cpos)) none pos) (eV x A).F:=by with_unfolding_all exact zZ hc hR hg hm hq ha hk he db hd
theorem dO (hK:X.K=K) (he:DE K mg X ES e p.F):DI K mg X ES tg e (dC p).F:=by with_unfolding_all exact GQ hK he
theorem jj {p0:Pos} (hg:Gl X "range") (hm:mg "range"=none) (ha:DA K mg X ES [a] A.F) (hk:X.mg=mg:=by rfl) (hs:starEach [a] X.env=[(false,eval a X.env)]:=by rfl):DI K mg X ES tg (.Call (.Name "range" p0) [a] [] pos) (ml A).F:=by with_unfolding_all exact yG hg hm ha hk hs
theorem yp {p0:Pos} (hg:Gl X "range") (hm:mg "range"=none) (ha:DA K mg X ES [a,b] A.F) (hk:X.mg=mg:=by rfl) (hs:starEach [a,b] X.env=[(false,eval a X.env),(false,eval b X.env)]:=by rfl) (hs2:starEach [b] X.env=[(false,eval b X.env)]:=by rfl):DI K mg X ES tg (.Call (.Name "range" p0) [a,b] [] pos) (vK A).F:=by with_unfolding_all exact ye hg hm ha hk hs hs2
theorem iD (hp:PassesOwn (model X.prog X.w) X.A X.env X.xe) (hc:X.calm=true) (hi:DI K mg X ES tg al I.F) (hg:DG K mg X ES tg g.F) (hb:DSs K mg X ES sts x.F) (hs:∀ x,foldedSetIterable al X.env x=pure x:=by intro _;rfl):DS K mg X ES (.For tg al sts [] pos) (jZ I g x).F:=by with_unfolding_all exact EU hp hc hi hg hb hs
theorem AS (hp:PassesOwn (model X.prog X.w) X.A X.env X.xe) (hc:DT K mg X ES c t.F) (hb:DSs K mg X ES sts x.F):DS K mg X ES (.While c sts [] pos) (xWh t x).F:=by with_unfolding_all exact A8 hp hc hb
theorem j9 {scope:Scope} (M:List Str) (kn:List (Str×NameKind)) (N:List Str) (sub:List (Option Nat)) {hsb:(sub.filterMap id).Nodup} (hc:X.calm=true) (hi:DI K mg X ES tg al I.F) (hg:∀ cl C s₂ H fp,DG K mg (bc X N scope cl C s₂ H fp) (λ_=>E0) tg g.F) (he:∀ cl C s₂ H fp,DE K mg (bc X N scope cl C s₂ H fp) (λ_=>E0) im p.F) (hM:X.N=M:=by rfl) (hkn:X.env.scope.names=kn:=by rfl) (ge:fF M scope.names sub N=true:=by decide) (hk:scope.kind=.function:=by rfl) (hnc:∀ x ∈ scope.names,x.2 ≠ .cell:=by decide) (bi:∀ x ∈ scope.names,x.2=.local->scope.names.lookup x.1=some .local:=by decide) (le:iZ kn scope.names=true:=by decide) (hsl:sub.length=N.length:=by rfl) (hs:∀ x,foldedSetIterable al X.env x=pure x:=by intro _;rfl):DE K mg X ES (.ListComp im [⟨tg,al,[],0⟩] scope pos) (pLC I sub hsb g qY p).F:=by with_unfolding_all exact KU M kn N sub hc hi hg he hM hkn ge hk hnc bi le hsl hs
theorem Dx {scope:Scope} (M:List Str) (kn:List (Str×NameKind)) (N:List Str) (sub:List (Option Nat)) {hsb:(sub.filterMap id).Nodup} (hc:X.calm=true) (hi:DI K mg X ES tg al I.F) (hg:∀ cl C s₂ H fp,DG K mg (bc X N scope cl C s₂ H fp) (λ_=>E0) tg g.F) (ht:∀ cl C s₂ H fp,DT K mg (bc X N scope cl C s₂ H fp) (λ_=>E0) c t.F) (he:∀ cl C s₂ H fp,DE K mg (bc X N scope cl C s₂ H fp) (λ_=>E0) im p.F) (hM:X.N=M:=by rfl) (hkn:X.env.scope.names=kn:=by rfl) (ge:fF M scope.names sub N=true:=by decide) (hk:scope.kind=.function:=by rfl) (hnc:∀ x ∈ scope.names,x.2 ≠ .cell:=by decide) (bi:∀ x ∈ scope.names,x.2=.local->scope.names.lookup x.1=some .local:=by decide) (le:iZ kn scope.names=true:=by decide) (hsl:sub.length=N.length:=by rfl) (hs:∀ x,foldedSetIterable al X.env x=pure x:=by intro _;rfl):DE K mg X ES (.ListComp im [⟨tg,al,[c],0⟩] scope pos) (pLC I sub hsb g t p).F:=by with_unfolding_all exact DN M kn N sub hc hi hg ht he hM hkn ge hk hnc bi le hsl hs
theorem wc {ow:Bool}{px spos:Pos}{iT:Nat}{xT:Str}{scope:Scope} (M:List Str) (kn:List (Str×NameKind)) (N:List Str) (sub:List (Option Nat)) {hsb:(sub.filterMap id).Nodup} (hc:X.calm=true) (hN:X.N.Nodup) (hix:X.N[iT]?=some xT) (hxl:Loc X.env.scope xT) (hi:DI K mg X ES tg al I.F) (hg:∀ cl C s₂ H fp,DG K mg (bc X N scope cl C s₂ H fp) (λ_=>E0) tg g.F) (he:∀ cl C s₂ H fp,DE K mg (bc X N scope cl C s₂ H fp) (λ_=>E0) im p.F) (hsw:swapsWith (.ListComp im [⟨tg,al,[],0⟩] scope pos) (some (.Name xT px)) spos.line X.env=pure true:=by rfl) (hM:X.N=M:=by rfl) (hkn:X.env.scope.names=kn:=by rfl) (ge:fF M scope.names sub N=true:=by decide) (hk:scope.kind=.function:=by rfl) (hnc:∀ x ∈ scope.names,x.2 ≠ .cell:=by decide) (bi:∀ x ∈ scope.names,x.2=.local->scope.names.lookup x.1=some .local:=by decide) (le:iZ kn scope.names=true:=by decide) (hsl:sub.length=N.length:=by rfl) (hs:∀ x,foldedSetIterable al X.env x=pure x:=by intro _;rfl) (hf:X.fn xT=true\/X.env.scope.names.lookup xT=some .local:=by first | exact .inl rfl | exact .inr rfl | assumption):DS K mg X ES (.Assign [.Name xT px] (.ListComp im [⟨tg,al,[],0⟩] scope pos) spos) (aR ow iT (pLC I sub hsb g qY p)).F:=by with_unfolding_all exact K4 M kn N sub hc hN hix hxl hi hg he hsw hM hkn ge hk hnc bi le hsl hs hf
theorem jb {j:Nat}{name:Str}{id:String}{apos cpos:Pos}{r':V->List V->Hp->VK->Prop}{k:PMm} (hK:X.K=K) (slot:Slot "list" name id) (hty:typeOf (.builtin id)=pure (.type "method_descriptor")) (hm:MtM X id r') (hd:MtD K mg r' k.F) (ho:DE K mg X ES o (ai j).F) (ha:DA K mg X ES (e :: es) A.F) (hbase:attributeBase o name X.env (eval o X.env)=eval o X.env:=by rfl) (hfew:((backTo cpos (starEach (e :: es) X.env)).all (λx=>!x.1) && (backToKw cpos (keywordEach [] X.env)).all (λx=>x.1.isSome) && decide ((e :: es).length + ([]:List Keyword).length + (if ([]:List Keyword).isEmpty then 0 else 1) < 30))=true:=by rfl) (hline:(apos.endLine == cpos.line)=true:=by rfl) (hs:starEach (e :: es) X.env=(false,eval e X.env) :: starEach es X.env:=by rfl) (db:(backTo cpos (starEach es X.env)).any (·.1)=false:=by rfl):DE K mg X ES (.Call (.Attribute o name apos) (e :: es) [] cpos) (kj j k A).F:=by with_unfolding_all exact de_m hK slot hty hm hd ho ha hbase hfew hline hs db
theorem uT {name:Str}{id:String}{apos cpos:Pos}{r':V->List V->Hp->VK->Prop}{k:PMv} (hK:X.K=K) (slot:Slot "list" name id) (hty:typeOf (.builtin id)=pure (.type "method_descriptor")) (hm:MtM X id r') (hd:MtD K mg r' k.F) (ho:DE K mg X ES o p.F) (ha:DA K mg X ES (e :: es) A.F) (hbase:attributeBase o name X.env (eval o X.env)=eval o X.env:=by rfl) (hfew:((backTo cpos (starEach (e :: es) X.env)).all (λx=>!x.1) && (backToKw cpos (keywordEach [] X.env)).all (λx=>x.1.isSome) && decide ((e :: es).length + ([]:List Keyword).length + (if ([]:List Keyword).isEmpty then 0 else 1) < 30))=true:=by rfl) (hline:(apos.endLine == cpos.line)=true:=by rfl) (hs:starEach (e :: es) X.env=(false,eval e X.env) :: starEach es X.env:=by rfl) (db:(backTo cpos (starEach es X.env)).any (·.1)=false:=by rfl):DE K mg X ES (.Call (.Attribute o name apos) (e :: es) [] cpos) (qQ k p A).F:=by with_unfolding_all exact de_m hK slot hty hm hd ho ha hbase hfew hline hs db
theorem gq:DO K mg X ES none oN.F:=Ci
theorem gc (he:DE K mg X ES e p.F):DO K mg X ES (some e) (oS p).F:=by with_unfolding_all exact CO he
theorem fh {l u:POp}{lo hi:Option Expr}{p2:Pos} (hK:X.K=K) (he:DE K mg X ES e p.F) (hl:DO K mg X ES lo l.F) (hu:DO K mg X ES hi u.F):DE K mg X ES (.Subscript e (.Slice lo hi none p2) pos) (pSl p l u).F:=by with_unfolding_all exact Aa hK he hl hu
theorem KH:DE K mg X ES (.Dict [] [] pos) pD0.F:=by with_unfolding_all exact K1
theorem Gz {cn n:Str}{C:Addr}{i:Nat}{body suite:List Stmt}{b₀:Stmt}{np hpos:Pos}{mro:List Str} (T:X.Top) (hN:X.N.Nodup) (hi:X.N[i]?=some n) (hl:X.env.kindOf n=some .local) (hg:Gl X cn) (hm:mg cn=some (.ref C)) (hh:XHand K C) (hmro:∀ c ∈ mro,∀ Ce,mg c=some (.ref Ce)->W.mroIn K Ce (.ref C)=some true) (hb:∀ (pn:List (Addr×Obj)) (xe:Value->Shared->Prop) (ES':L2.St->XK),fG (cxT X pn xe) ES'->DSs K mg (cxT X pn xe) ES' body x.F) (hs:∀ ea,DSs K mg (ir X ea) (λ_=>E0) (b₀ :: suite) y.F) (hK:X.K=K:=by rfl) (hk:X.mg=mg:=by rfl) (hd:(cn == ("__debug__" : Str))=false:=by decide):DS K mg X ES (.Try body [.ExceptHandler (some (.Name cn np)) (some n) (b₀ :: suite) hpos] [] [] pos) (zo mro i x y).F:=by with_unfolding_all exact HS T hN hi hl hg hm hh hmro hb hs hK hk hd
theorem bt:OpD K mg (λx y H Q=>rI0 (λi j=>.int (i + j)) x y H Q\/(oP x y H Q\/(mB K x y H Q\/mi K x y H Q))) bp.F:=HD
theorem cF:OpD K mg (rI CMulA λi j=>.int (i * j)) bZ.F:=FK
theorem lR:OpD K mg (rI CDivB λi j=>.int (i.fdiv j)) lg.F:=EE
theorem eY:OpD K mg (rI (λ_ j=>j ≠ 0) λi j=>.int (i.fmod j)) dB.F:=Iz
theorem wX:OpD K mg (rI oZ λi j=>.int (i ^ j.toNat)) oz.F:=Ib
theorem qJ:OpD K mg (rI0 λi j=>.bl (decide (i < j))) bLt.F:=Kh
theorem kK:OpD K mg (rI0 λi j=>.bl (decide (j < i))) bGt.F:=Kn
theorem we:OpD K mg (rI0 λi j=>.bl (decide (j<=i))) bGe.F:=Kg
theorem Ii:OpD K mg Bd zR.F:=Cd
theorem aN:OpD K mg (λx y H Q=>wu K x y H Q\/wU K x y H Q) bIx.F:=F6
theorem eL:OpD K mg (vy K) bEq.F:=Fz
theorem qG:OpD K mg (vb K) bNe.F:=HC
theorem Ki:OpD K mg (rIn K false) bIn.F:=(yT false)
theorem EG:OpD K mg (rIn K true) o7.F:=(yT true)
theorem Kf:OpD K mg (λx y H Q=>y=.non/\Q (.bl (decide (x=.non))) H) bIs.F:=B6
theorem ET:OpD K mg (λx y H Q=>y=.non/\Q (.bl (!decide (x=.non))) H) Ah.F:=Be
theorem dq:bT K mg (λxs H Q=>(∃ p ys,xs=[.ref p]/\(SqL K H p ys\/SqT K H p ys)/\Q (.int ys.length) H)\/(∃ z,xs=[.str z]/\z.length<=sizeLine/\Q (.int z.length) H)) dH.F:=HH
theorem yn:bT K mg (λxs H Q=>∃ i,xs=[.int i]/\Q (.int (if i < 0 then -i else i)) H) qN.F:=GJ
theorem DR:bT K mg (λxs H Q=>∃ i j,xs=[.int i,.int j]/\Q (.int (if j < i then j else i)) H) tD.F:=D8
theorem xE:bT K mg (λxs H Q=>∃ (a:Addr) (bs:List Bool),xs=[.ref a]/\SqL K H a (bs.map V.bl)/\Q (.bl (bs.all id)) H) qF.F:=Iq
theorem xp:bT K mg (λxs H Q=>∃ (a:Addr) (ns:List Int),xs=[.ref a]/\SqL K H a (ns.map V.int)/\Q (.int ns.sum) H) qH.F:=EF
theorem oQ:bT K mg (λxs H Q=>∃ p ys,xs=[.ref p]/\(SqL K H p ys\/SqT K H p ys)/\∀ l,H l=none->Q (.ref l) (upd H l (.lst ys))) kX.F:=Cj
theorem iF:bT K mg (λxs H Q=>∃ p ys,xs=[.ref p]/\((SqL K H p ys/\∀ l,H l=none->Q (.ref l) (upd H l (.tup ys)))\/(SqT K H p ys/\Q (.ref p) H))) gh.F:=AV
theorem E6:bT K mg (λxs H Q=>(∃ i,xs=[.int i]/\Q (.int i) H)\/∃ k,xs=[.bl k]/\Q (.int (if k then 1 else 0)) H) vN.F:=Hc
theorem bG {kt:fE} (ok:KitsOk K mg kt):bT K mg (λxs H Q=>(∃ x c t v b,xs=[x,c]/\TyX K H x t/\fP c=some v/\W.kitOne K t v=some b/\Q (.bl b) H)\/
 (∃ x tp cs t vs b,xs=[x,.ref tp]/\SqT K H tp cs/\TyX K H x t/\cs.mapM fP=some vs/\W.kitAny K t vs=some b/\Q (.bl b) H)) (az kt).F:=Gp ok
theorem et:MtD K mg o9 dR.F:=yu
theorem zY:MtD K mg (mC K) iq.F:=AO
theorem yP:MtD K mg (jS K) iw.F:=xv
theorem fX:sW K mg vH seL.F:=Dy
theorem Fw:IpD K mg (ipI λi j=>i + j) AJ.F:=Dm
theorem fN:UnD K mg (rU λi=>.int (-i)) iU.F:=Eo
variable {P:Program}{w:World}{base:Heap}{fx:Str}{kw:Stmt}{k n m:Nat}{ps N:List Str}{ms:List Bool}
theorem okP (D:Def K mg fx kw) (S:FnScope N ps (av kw))
 (hb:∀ (kV doc pm:Value) (an:Option Addr) (cdv ct:Value) (us:List Value),us.length=ps.length->bindArgs (W.fnOf fx fx (cK kw) (bu kw) (av kw) .none kV doc pm an cdv ct) ⟨us,[]⟩=pure (ps.zip us))
 (bn:∀ (f:Addr) (cdv:Value) (A:Around) (outer:List Env) (s:Shared) (H:Hp) (E:XK),Room k (A.deeper (envOfC fx (av kw) s.heap.objs.size f cdv))->
  DSs K mg (er (CX1 P w) P w K mg base N fx (av kw) f cdv A outer s H E) (λ_=>E) (bu kw) x.F) (hn:ps.length=n:=by rfl) (hm:N.length=m:=by rfl):Callee P w K mg base fx (k + 1) ps (spD K mg n (fnP ms m x).F):=by
 subst hn hm
 with_unfolding_all exact D.okD S hb bn
theorem okX (D:Def K mg fx kw) (S:FnScope N ps (av kw))
 (hb:∀ (kV doc pm:Value) (an:Option Addr) (cdv ct:Value) (us:List Value),us.length=ps.length->bindArgs (W.fnOf fx fx (cK kw) (bu kw) (av kw) .none kV doc pm an cdv ct) ⟨us,[]⟩=pure (ps.zip us))
 (bn:∀ (f:Addr) (cdv:Value) (A:Around) (outer:List Env) (s:Shared) (H:Hp) (E:XK),Room k (A.deeper (envOfC fx (av kw) s.heap.objs.size f cdv))->
  DSs K mg (er (CX1 P w) P w K mg base N fx (av kw) f cdv A outer s H E) (λ_=>E) (bu kw) x.F) (hn:ps.length=n:=by rfl) (hm:N.length=m:=by rfl):Callee P w K mg base fx (k + 1) ps (spD K mg n (PFx.of ms m x).F):=by
 subst hn hm
 with_unfolding_all exact D.okD S hb bn
theorem ok0 (D:Def K mg fx kw) (S:FnScope N ps (av kw))
 (hb:∀ (kV doc pm:Value) (an:Option Addr) (cdv ct:Value) (us:List Value),us.length=ps.length->bindArgs (W.fnOf fx fx (cK kw) (bu kw) (av kw) .none kV doc pm an cdv ct) ⟨us,[]⟩=pure (ps.zip us)) (hn:ps.length=n:=by rfl):Callee P w K mg base fx (k + 1) ps (spD K mg n (PFx.none ms).F):=by
 subst hn
 exact D.okD (F:=λ_ _=>.stuck) S hb λ_ _ _ _ _ _ _ _=>xh
end
end L3
namespace L3
open PySem PySem.Spec PyProof.Rows L2
theorem Ht (b:Bool) (ms:List Bool) (v:Val) (vs:List Val):sls (b :: ms) (v :: vs)=sl1 b v :: sls ms vs:=rfl
theorem CJ:sls [] []=[]:=rfl
theorem IU (v:Val):sl1 true v=.mu v:=rfl
theorem KL (v:Val):sl1 false v=.sh v:=rfl
section
variable (e:E3)
theorem Ei:okA e [] []=true:=rfl
theorem Gg (i:Nat) (ms:List Bool) (ts:List Tm):okA e (true :: ms) (.bor i :: ts)=(((e[i]?).bind Sl.mv).isSome && !(jx i ts) && okA e ms ts):=rfl
theorem Hz (v:Val) (ms:List Bool) (ts:List Tm):okA e (false :: ms) (.val v :: ts)=okA e ms ts:=rfl
theorem zu (i:Nat):jx i []=false:=rfl
theorem Hu (i:Nat) (v:Val) (ts:List Tm):jx i (.val v :: ts)=jx i ts:=rfl
theorem w9:bJ e [] []=[]:=rfl
theorem Dl (v:Val) (ms:List Bool) (ts:List Tm):bJ e (false :: ms) (.val v :: ts)=bJ e ms ts:=rfl
theorem EH (t:Tm) (ms:List Bool) (ts:List Tm):bJ e (true :: ms) (t :: ts)=bJ e ms ts:=by cases t <;> rfl
end
theorem wW:cQ [] []=[]:=rfl
theorem Ct (b:Bool) (t:Tm) (ms:List Bool) (ts:List Tm):cQ (b :: ms) (t :: ts)=oB b t :: cQ ms ts:=rfl
theorem Dn (i:Nat):oB true (.bor i)=some i:=rfl
theorem FC (t:Tm):oB false t=none:=by cases t <;> rfl
theorem Aw (e:E3):bN [] [] e=e:=rfl
theorem HU (o:Option Nat) (sub:List (Option Nat)) (s:Sl) (i e:E3):bN (o :: sub) (s :: i) e=bN sub i (gw o s e):=rfl
theorem B2 (i:Nat) (v:Val) (e:E3):gw (some i) (.mu v) e=match e[i]? with
 | some t=>e.set i (t.re v)
 | none=>e:=rfl
theorem HY (s:Sl) (e:E3):gw none s e=e:=rfl
theorem AW (vs:List Val):bj [] vs=[]:=rfl
theorem Ij (ms:List Bool) (v:Val) (vs:List Val):bj (true :: ms) (v :: vs)=.mu v :: bj ms vs:=rfl
theorem Gr (ms:List Bool) (vs:List Val):bj (false :: ms) vs=.no :: bj ms vs:=by cases vs <;> rfl
theorem Eh (e:E3):muV [] e=some []:=by cases e <;> rfl
theorem KG (ms:List Bool) (v:Val) (e:E3):muV (true :: ms) (.mu v :: e)=(muV ms e).map (v :: ·):=rfl
theorem J1 (ms:List Bool) (s:Sl) (e:E3):muV (false :: ms) (s :: e)=muV ms e:=by cases s <;> rfl
theorem yK (v:Val):ma (.val v)=flatV v:=rfl
theorem yW (v:Val):ma (.new v)=dX v:=rfl
theorem xq (xs:List Val):dX (.lst xs)=flatVs xs:=rfl
theorem fQ:flatVs []=true:=by simp [flatVs]
theorem eZ (v:Val) (vs:List Val):flatVs (v :: vs)=(flatV v && flatVs vs):=by simp [flatVs]
theorem lJ (i:Int):flatV (.int i)=true:=by simp [flatV]
theorem AQ (i:Bool):flatV (.bl i)=true:=by simp [flatV]
theorem qc (i:Str):flatV (.str i)=true:=by simp [flatV]
theorem xI:flatV .non=true:=by simp [flatV]
theorem lb (xs:List Val):flatV (.tup xs)=flatVs xs:=by simp [flatV]
theorem gx {α:Type}{l:List α}{i:Int}{x:α} (h0:0<=i) (h:l[i.toNat]?=some x):atI l i=some x:=by
 have hl:=(List.getElem?_eq_some_iff.mp h).1
 unfold atI ixN
 rw[if_pos h0,if_pos (by omega)]
 exact h
theorem lM {n:Nat}{i:Int} (h0:0<=i) (h:i.toNat < n):ixN n i=some i.toNat:=by
 unfold ixN
 rw[if_pos h0,if_pos (by omega)]
section
variable {α:Type} (a b c d e f g h:α) (l:List α)
theorem ati0:atI (a :: l) 0=some a:=gx (by decide) rfl
theorem ati1:atI (a :: b :: l) 1=some b:=gx (by decide) rfl
theorem ati2:atI (a :: b :: c :: l) 2=some c:=gx (by decide) rfl
theorem ati3:atI (a :: b :: c :: d :: l) 3=some d:=gx (by decide) rfl
theorem ati4:atI (a :: b :: c :: d :: e :: l) 4=some e:=gx (by decide) rfl
theorem ati5:atI (a :: b :: c :: d :: e :: f :: l) 5=some f:=gx (by decide) rfl
theorem ati6:atI (a :: b :: c :: d :: e :: f :: g :: l) 6=some g:=gx (by decide) rfl
theorem ati7:atI (a :: b :: c :: d :: e :: f :: g :: h :: l) 7=some h:=gx (by decide) rfl
end
theorem ixn0 (n:Nat):ixN (n + 1) 0=some 0:=lM (i:=0) (by decide) (by show 0 < n + _;omega)
theorem ixn1 (n:Nat):ixN (n + 2) 1=some 1:=lM (i:=1) (by decide) (by show 1 < n + _;omega)
theorem ixn2 (n:Nat):ixN (n + 3) 2=some 2:=lM (i:=2) (by decide) (by show 2 < n + _;omega)
theorem ixn3 (n:Nat):ixN (n + 4) 3=some 3:=lM (i:=3) (by decide) (by show 3 < n + _;omega)
theorem Jx (xs:List Val) (k:Int) (v:Val):seL.G (.lst xs) (.int k) v=match ixN xs.length k with
 | some j=>some (.lst (xs.set j v))
 | none=>none:=rfl
end L3
namespace L3
open PySem PySem.Spec PyProof.Rows L2
def fV (q:Rat):Val:=.tup [.int q.num,.int q.den]
structure Bx where
 l:Rat
 t:Rat
 w:Rat
 h:Rat
structure Bx.Ok (b:Bx):Prop where
 w:0 < b.w
 h:0 < b.h
structure Bx.Sz (n:Nat) (b:Bx):Prop where
 l:L2.Sz n b.l
 t:L2.Sz n b.t
 w:L2.Sz n b.w
 h:L2.Sz n b.h
def bV (b:Bx):Val:=.tup [fV b.l,fV b.t,fV b.w,fV b.h]
def knV:Val->Bool
 | .exc _=>false
 | v=>(tyC v).isSome
def de:Nat->Val->Bool
 | k + 1,.tup xs=>xs.all (de k)
 | _,v=>knV v
def kQ:Val->Bool
 | .int _=>true
 | _=>false
def bf:Val->Bool
 | .tup [.int a,.int b]=>decide (1<=b) && decide (Int.gcd a b=1)
 | _=>false
def ko:Val->Bool
 | .tup (.int a :: _)=>decide (0 < a)
 | _=>false
def bQ:Val->Bool
 | .tup [a,b,c,d]=>bf a && (bf b && (bf c && (bf d && (ko c && ko d))))
 | _=>false
def fH:Val->Bool
 | .int i=>decide (1<=i)
 | _=>false
def fK:Val->Bool
 | .tup _=>true
 | _=>false
theorem JS {a b:Int} (h1:1<=b) (h2:Int.gcd a b=1):Val.tup [.int a,.int b]=fV ((a:Rat) / (b:Rat)):=by
 have hb:b ≠ 0:=by omega
 have h:=qL (a:=a) hb
 have s:=Fr.self (by omega) h2
 unfold fV
 rw[<- h.1,<- h.2,s.1,s.2]
theorem kH (q:Rat):bf (fV q)=true:=by
 show (decide (1<=(q.den:Int)) && decide (Int.gcd q.num q.den=1))=true
 have:=q.den_pos
 rw[decide_eq_true (by omega),decide_eq_true (uv q)];rfl
theorem yj {d:Val} (h:bf d=true):∃ q,d=fV q:=by
 unfold bf at h
 split at h
 ·simp only[Bool.and_eq_true,decide_eq_true_eq] at h
  exact⟨_,JS h.1 h.2⟩
 ·cases h
theorem uH (q:Rat):ko (fV q)=decide (0 < q):=by
 show decide (0 < q.num)=decide (0 < q)
 rw[decide_eq_decide]
 exact Dg
theorem Bj {b:Bx} (h:b.Ok):bQ (bV b)=true:=by
 show (bf (fV b.l) && (bf (fV b.t) && (bf (fV b.w) && (bf (fV b.h) && (ko (fV b.w) && ko (fV b.h))))))=true
 rw[kH,kH,kH,kH,uH,uH,decide_eq_true h.w,decide_eq_true h.h];rfl
theorem GX (b:Bx):de 2 (bV b)=true:=by simp [bV,fV,de,knV,tyC]
theorem oX {g:MG3}{F:ME3}{f:Val->Val} (P:E3->Prop):∀ (vs acc:List Val) (e:E3),P e->(∀ v ∈ vs,∀ e,P e->∃ e1 t e2,g v e=some e1/\F e1=.ok t e2/\cM e2 t=some (e2,f v)/\P e2)->acc.length + vs.length<=16777216->∃ e',P e'/\lcV g cY F vs acc e=.ok (acc++vs.map f) e'
 | [],acc,e,hp,_,_=>⟨e,hp,by simp [lcV]⟩
 |
  v :: vs,acc,e,hp,hf,hl=>by
  obtain⟨e1,t,e2,q1,q2,q3,q4⟩:=hf v (List.mem_cons_self ..) e hp
  obtain⟨e',p',q5⟩:=oX P vs (acc++[f v]) e2 q4 (λu hu=>hf u (List.mem_cons_of_mem _ hu)) (by simp at hl ⊢;omega)
  refine⟨e',p',?_⟩
  unfold lcV
  rw[if_pos (by simp at hl;omega),q1]
  simp only[cY,ek,if_true,q2,q3,q5]
  simp
end L3
namespace L3
open PySem PySem.Spec PyProof.Rows L2
def rgV (k:Nat):List Val:=(List.range k).map λj=>Val.int (j:Nat)
theorem Dw {k:Nat} (h:k < 1000000):iM [.int (k:Nat)]=some (rgV k):=by
 simp only[iM]
 rw[if_pos (⟨by omega,by omega⟩:RgB _),Int.toNat_natCast]
 unfold o3 rgV
 simp only[Int.zero_add]
theorem jI {i:Int} (h0:0<=i) (h:i < 1000000):iM [.int i]=some (rgV i.toNat):=by
 have:=Dw (k:=i.toNat) (by omega)
 rwa [show ((i.toNat:Nat):Int)=i from by omega] at this
theorem pE {g:MG3}{B:MS3}{α σ:Type} (f:α->Val) (st:σ->α->σ) (P:σ->E3->Prop):∀ (l:List α) (s:σ) (e:E3),P s e->(∀ a ∈ l,∀ s e,P s e->∃ e1 e2,g (f a) e=some e1/\(B e1=.nx e2\/B e1=.ct e2)/\P (st s a) e2)->∃ e',P (l.foldl st s) e'/\fI g B (l.map f) e=.nx e'
 | [],s,e,hp,_=>⟨e,hp,rfl⟩
 |
  a :: l,s,e,hp,hf=>by
  obtain⟨e1,e2,q1,q2,q3⟩:=hf a (List.mem_cons_self ..) s e hp
  obtain⟨e',p',q4⟩:=pE f st P l (st s a) e2 q3 λu hu=>hf u (List.mem_cons_of_mem _ hu)
  refine⟨e',p',?_⟩
  rw[List.map_cons,fm,q1]
  rcases q2 with q2 | q2 <;> simp only[q2,nX,Je,q4]
theorem eI {g:MG3}{F:ME3}{α:Type} (fv fw:α->Val) (P:E3->Prop):∀ (l:List α) (acc:List Val) (e:E3),P e->(∀ a ∈ l,∀ e,P e->∃ e1 t e2,g (fv a) e=some e1/\F e1=.ok t e2/\cM e2 t=some (e2,fw a)/\P e2)->acc.length + l.length<=16777216->∃ e',P e'/\lcV g qY.G F (l.map fv) acc e=.ok (acc++l.map fw) e'
 | [],acc,e,hp,_,_=>⟨e,hp,by simp [lcV]⟩
 |
  v :: vs,acc,e,hp,hf,hl=>by
  obtain⟨e1,t,e2,q1,q2,q3,q4⟩:=hf v (List.mem_cons_self ..) e hp
  obtain⟨e',p',q5⟩:=eI fv fw P vs (acc++[fw v]) e2 q4 (λu hu=>hf u (List.mem_cons_of_mem _ hu)) (by simp at hl ⊢;omega)
  refine⟨e',p',?_⟩
  rw[List.map_cons]
  unfold lcV
  have cy:qY.G=cY:=rfl
  rw[cy] at q5 ⊢
  rw[if_pos (by simp at hl;omega),q1]
  simp only[cY,ek,if_true,q2,q3,q5]
  simp
theorem Fb (v:Val):inS (.mu v)=.mu v:=rfl
theorem Hj (v:Val):inS (.sh v)=.sh v:=rfl
theorem CB (i:Nat) (v:Val) (e:E3):gw (some i) (.sh v) e=e:=rfl
def sC (ms:List Bool) (r:SR3):R3F:=match r with
 | .nx e=>(match muV ms e with | some mv=>.ok (.val .non) mv | none=>.stuck)
 | .rt r e=>(match muV ms e with | some mv=>.ok r mv | none=>.stuck)
 | .exc c e=>(match muV ms e with | some mv=>.exc c mv | none=>.stuck)
 | _=>.stuck
theorem wo {ms:List Bool}{N:Nat}{c:PSt}{vs:List Val} (h:vs.length=ms.length):(fnP ms N c).G vs=sC ms (c.G (sls ms vs++List.replicate (N - vs.length) .no)):=by
 rw[bh,if_pos h];rfl
theorem cJ (ms:List Bool) (r:Rt) (e:E3):sC ms (.rt r e)=match muV ms e with | some mv=>.ok r mv | none=>.stuck:=rfl
theorem bA {Q:SR3->Prop} (I:E3->Prop) {a b:PSt}{e:E3} (h1:∃ e1,a.G e=.nx e1/\I e1) (h2:∀ e1,I e1->Q (b.G e1)):Q ((aA a b).G e):=by
 obtain⟨e1,q,i⟩:=h1
 rw[BK,q]
 exact h2 e1 i
theorem sm8 {m:Int} (h:m.natAbs < 1099511627776):Sm 8000 m:=Nat.lt_of_lt_of_le (show m.natAbs < 2 ^ 40 from h) (Nat.pow_le_pow_right (by decide) (by decide))
theorem uS {m:Int} (h:0 < m):(0:Rat) < (m:Rat):=Rat.intCast_pos.mpr h
theorem zE {a b:Int} (h1:0 < a) (h2:0 < b):(0:Rat) < (a:Rat) / (b:Rat):=by
 rw[Rat.div_def]
 exact Rat.mul_pos (uS h1) (Rat.inv_pos.mpr (uS h2))
structure Good (b:Bx):Prop where
 ok:b.Ok
 sz:b.Sz 101
end L3
namespace L3
open PySem PySem.Spec PyProof.Rows L2
section
variable {K:W.Frag}{mg:Str->Option Value}{X:Cx}{ES:L2.St->XK}{e:Expr}{es:List Expr}{A:PAs}{pos:Pos}
end
theorem xn (xs ys:List Val):bp.G (.lst xs) (.lst ys)=if xs.length + ys.length<=16777216 then .new (.lst (xs++ys)) else .stuck:=rfl
end L3
namespace L3
open PySem PySem.Spec PyProof.Rows L2
section
variable {K:W.Frag}{mg:Str->Option Value}{X:Cx}{ES:L2.St->XK}{e a b c o lo hi:Expr}{p q r:PEx}{pos p1 p2:Pos}
end
theorem ar1 {α:Type}{P:List α->Prop} (h:∀ a,P [a]):∀ us:List α,us.length=1->P us
 | [a],_=>h a
theorem ar2 {α:Type}{P:List α->Prop} (h:∀ a b,P [a,b]):∀ us:List α,us.length=2->P us
 | [a,b],_=>h a b
theorem ar3 {α:Type}{P:List α->Prop} (h:∀ a b c,P [a,b,c]):∀ us:List α,us.length=3->P us
 | [a,b,c],_=>h a b c
theorem ar4 {α:Type}{P:List α->Prop} (h:∀ a b c d,P [a,b,c,d]):∀ us:List α,us.length=4->P us
 | [a,b,c,d],_=>h a b c d
end L3
namespace L3
open PySem PySem.Spec PyProof.Rows L2
section
variable {P:Nat->Prop}{h:AH}
theorem Kc {k:Key}{v:Val}{ws:List (Key×D)}{us:List (Key×Val)} (r:Rk P h ws us):lkD us k=some v->∃ d,lkD ws k=some d/\Rd P h d v:=
 r.ind (M:=λws us=>lkD us k=some v->∃ d,lkD ws k=some d/\Rd P h d v) (λq=>by cases q) (λ{k2 d v2 ds vs} r _ ih q=>by
  unfold lkD at q ih ⊢
  rw[List.find?_cons] at q ⊢
  dsimp only at q ⊢
  by_cases hk:k2=k
  ·rw[decide_eq_true hk] at q ⊢
   cases q
   exact⟨d,rfl,r⟩
  ·rw[decide_eq_false hk] at q ⊢
   exact ih q)
theorem CQ {ws:List (Key×D)}{us:List (Key×Val)} (r:Rk P h ws us):us.map (·.1)=ws.map (·.1):=
 r.ind (M:=λws us=>us.map (·.1)=ws.map (·.1)) rfl λ_ _ ih=>by rw[List.map_cons,List.map_cons,ih]
theorem EL {ws:List (Key×D)}{us:List (Key×Val)} (r:Rk P h ws us):ws.length=us.length:=
 r.ind (M:=λws us=>ws.length=us.length) rfl λ_ _ ih=>congrArg (· + 1) ih
theorem HF {ws ws':List (Key×D)}{us us':List (Key×Val)} (r:Rk P h ws us) (q:Rk P h ws' us'):Rk P h (ws++ws') (us++us'):=
 r.ind (M:=λws us=>Rk P h (ws++ws') (us++us')) q λr _ ih=>.cons r ih
theorem HN {k:Key}{d:D}{v:Val} (rd:Rd P h d v) {ws:List (Key×D)}{us:List (Key×Val)} (r:Rk P h ws us):Rk P h (ku ws k d) (ku us k v):=by
 unfold ku
 rw[sd (CQ r)]
 by_cases hc:(ws.any λkv=>decide (kv.1=k))=true
 ·rw[if_pos hc,if_pos hc]
  exact r.ind (M:=λws us=>Rk P h (ws.map λkv=>if kv.1=k then (kv.1,d) else kv) (us.map λkv=>if kv.1=k then (kv.1,v) else kv)) .nil (λ{k2 d2 v2 ds vs} r _ ih=>by
   rw[List.map_cons,List.map_cons]
   dsimp only
   by_cases hk:k2=k
   ·rw[if_pos hk,if_pos hk];exact .cons rd ih
   ·rw[if_neg hk,if_neg hk];exact .cons r ih)
 ·rw[if_neg hc,if_neg hc]
  exact HF r (.cons rd .nil)
theorem Ez:∀ {ks:List Key}{ds:List D}{vs:List Val},Rds P h ds vs->Rk P h (ks.zip ds) (ks.zip vs):=by
 intro ks
 induction ks with
 | nil=>intro ds vs _;exact .nil
 |
  cons k ks ih=>
  intro ds vs r
  cases r with
  | nil=>exact .nil
  | cons r rr=>exact .cons r (ih rr)
end
def yZ:Val->Val->Bv:=λx y=>match x with
 | .dct kvs=>(match y with
  | .str k=>(match lkD kvs (.inr k) with
   | some v=>.val v
   | none=>.stuck)
  | _=>.stuck)
 | _=>.stuck
theorem Fl:RO tN yZ:=λP h d1 d2 v1 v2 r1 r2=>by
 unfold yZ
 split
 ·rename_i kvs
  split
  ·rename_i k
   split
   ·rename_i v q
    obtain⟨n,ws,rfl,e,rk⟩:=r1.dct
    obtain rfl:=r2.str
    obtain⟨d,q1,rd⟩:=Kc rk q
    refine⟨d,?_,rd⟩
    unfold tN
    dsimp only
    rw[e]
    dsimp only
    rw[q1]
   ·trivial
  ·trivial
 ·trivial
def eQ:PO2:=⟨tN,yZ,Fl⟩
theorem IX (kvs:List (Key×Val)) (k:Str):eQ.G (.dct kvs) (.str k)=match lkD kvs (.inr k) with
 | some v=>.val v
 | none=>.stuck:=rfl
def sD:Val->Val->Val->Option Val:=λo i v=>match o with
 | .dct kvs=>(match i with
  | .str k=>if kvs.length < 16777216 then some (.dct (ku kvs (.inr k) v)) else none
  | _=>none)
 | _=>none
theorem EW:vw wD sD:=λP h n o u di vi d v u' np e hf r ri rd q=>by
 unfold sD at q
 split at q
 ·rename_i kvs
  split at q
  ·rename_i k
   split at q
   ·rename_i hl
    cases q
    obtain rfl:=ri.str
    cases r with
    |
     dct rk=>
     rename_i ws
     refine⟨.dct (ku ws (.inr k) d),?_,trivial,.dct (HN rd rk)⟩
     unfold wD
     dsimp only
     rw[e]
     dsimp only
     rw[if_pos (by rw[EL rk];exact hl)]
   ·cases q
  ·cases q
 ·cases q
def seD:PSe:=⟨wD,sD,EW⟩
def wA (ks:List Str) (A:MA3):ME3:=λe=>(A e).bind λts e1=>match dem e1 ts with
 | some (e2,vs)=>if ks.length=vs.length then .ok (.new (.dct ((ks.map Sum.inr).zip vs))) e2 else .stuck
 | none=>.stuck
theorem DD {A:MA}{A3:MA3} (ks:List Str) (hA:RA A A3):RE (nZ ks A) (wA ks A3):=λX h0 L ns e ae h S hl=>by
 have SG:=S.grow (.dct [])
 have p:=hA (Xn X h.length) h0 ns e ae (h++[.dct []]) SG
 unfold wA nZ
 cases q:A3 e with
 | stuck=>trivial
 |
  exc c e'=>
  rw[q] at p
  obtain⟨h',ns',y,a,S'⟩:=p
  exact⟨h',ns',by rw[y];rfl,(Stp.grow _).trans S a,S'.weak λn z=>.inl z⟩
 |
  ok ts e1=>
  rw[q] at p
  obtain⟨ds,h1,ns1,y,a1,S1,r1⟩:=p
  rw[y]
  show Po X h0 ns e ae h (relE X h0 L ae) _ (match dem e1 ts with
   | some (e2,vs)=>if ks.length=vs.length then .ok (.new (.dct ((ks.map Sum.inr).zip vs))) e2 else .stuck
   | none=>.stuck)
  cases qd:dem e1 ts with
  | none=>trivial
  |
   some w=>
   obtain⟨e2,vs⟩:=w
   dsimp only
   by_cases be:ks.length=vs.length
   ·rw[if_pos be]
    obtain⟨dl,S2,a2,r2⟩:=jQ S1 r1 qd
    have hk:h1[h.length]?=some (.dct []):=a1.keep _ _ uX λ⟨i,s,z,_⟩=>SG.nx i _ z (.inr rfl)
    have A:=((Stp.grow (.dct [])).trans S a1).trans S a2
    have hlt:=da hk
    have mv:Mov (Oc (Xn X h.length) dl) (Oc (Xn X h.length) dl) h1 (h1.set h.length (.dct ((ks.map Sum.inr).zip ds))):=λm o p q=>⟨p,by
     have:m ≠ h.length:=λz=>p.1 (.inr z)
     rw[bS this];exact q⟩
    have S3:Sat (Xn X h.length) h0 dl e2 ae (h1.set h.length (.dct ((ks.map Sum.inr).zip ds))):=⟨S2.l1,S2.l2,by rw[List.length_set];exact S2.lh,λm z=>by rw[List.length_set];exact S2.xl m z,S2.inj,S2.nx,λj s qj=>(S2.sl j s qj).mono mv λm o qm qo=>by
     have:m ≠ h.length:=λz=>S2.nx j m qm (.inr z)
     rw[bS this];exact qo⟩
    have A3':Stp ns e h dl e2 (h1.set h.length (.dct ((ks.map Sum.inr).zip ds))):=⟨by rw[List.length_set];exact A.len,λm o qm hm=>by
     have:m ≠ h.length:=Nat.ne_of_lt (da qm)
     rw[bS this];exact A.keep m o qm hm,A.nw,A.lk,A.lk',A.mu,A.mu'⟩
    refine⟨.ref h.length,_,dl,?_,A3',S3.weak λn z=>.inl z,h.length,_,rfl,hl,λz=>Nat.lt_irrefl _ (S.xl _ z),cz hlt,trivial,S3,.dct ((Ez r2).mono mv)⟩
    show (match h1[h.length]? with
     | some (.dct [])=>if ks.length=ds.length then R.ok (D.ref h.length) (h1.set h.length (.dct ((ks.map Sum.inr).zip ds))) else .stuck
     | _=>.stuck)=_
    rw[hk]
    dsimp only
    rw[if_pos (by rw[r2.len];exact be)]
   ·rw[if_neg be]
    trivial
def qP (ks:List Str) (a:PAs):PEx:=⟨nZ ks a.F,wA ks a.G,DD ks a.ok⟩
theorem n4 (e:E3) (ks:List Str) (a:PAs):(qP ks a).G e=(a.G e).bind λts e1=>match dem e1 ts with
 | some (e2,vs)=>if ks.length=vs.length then .ok (.new (.dct ((ks.map Sum.inr).zip vs))) e2 else .stuck
 | none=>.stuck:=rfl
section
variable {K:W.Frag}{mg:Str->Option Value}{X:Cx}{ES:L2.St->XK}{a b:Expr}{p q:PEx}{pos:Pos}
theorem eP (hu:X.A.units + 1 < cLine) (ha:DE K mg X ES a p.F) (hb:DE K mg X ES b q.F) (hs:vL b):DE K mg X ES (.Subscript a b pos) (pOp eQ p q).F:=by with_unfolding_all exact Cm hu ha hb hs
theorem iA {k:Str}{j:Nat}{kp:Pos}{v:Expr}{ks:List (Option Expr)}{vs:List Expr}{prs:List (Str×ME)}{F:ME} (hv:DE K mg X ES v F) (hr:PPs X pos ks vs (tps K mg ES prs)):PPs X pos (some (.Constant (.str k) j kp) :: ks) (v :: vs) (tps K mg ES ((k,F) :: prs)):=by with_unfolding_all exact AG hv hr
theorem uM {keys:List (Option Expr)}{values:List Expr}{prs:List (Str×ME)}{ks:List Str}{A:PAs} (hp:PPs X pos keys values (tps K mg ES prs)) (h1:ks=prs.map (·.1):=by rfl) (h2:A.F=aL prs:=by rfl) (hn:ks.Nodup:=by decide) (hall:keys.all (·.isSome)=true:=by rfl) (hl:keys.length=values.length:=by rfl) (h0:keys ≠ []:=by intro h;cases h) (h15:keys.length<=15:=by decide) (hp15:prs.length<=15:=by decide):DE K mg X ES (.Dict keys values pos) (qP ks A).F:=by
 subst h1
 show DE K mg X ES (.Dict keys values pos) (nZ (prs.map (·.1)) A.F)
 rw[h2]
 with_unfolding_all exact CC hp hall hl h0 h15 hn hp15
end
end L3
namespace L3
open PySem L2
theorem lT (k:Nat):(rgV k).length=k:=by unfold rgV;rw[List.length_map,List.length_range]
theorem qX (xs:List Val) (n:Nat):fR xs none (some (n:Int))=xs.take n:=by
 unfold fR
 rw[HT.sIx_none,HT.sIx_nat,List.drop_zero,Nat.sub_zero]
 by_cases h:n<=xs.length
 ·rw[Nat.min_eq_left h]
 ·rw[Nat.min_eq_right (by omega),List.take_of_length_le (Nat.le_refl _),List.take_of_length_le (by omega)]
theorem zX (xs:List Val) (n:Nat):fR xs (some (n:Int)) none=xs.drop n:=by
 unfold fR
 rw[HT.sIx_none,HT.sIx_nat]
 by_cases h:n<=xs.length
 ·rw[Nat.min_eq_left h,List.take_of_length_le (by rw[List.length_drop];exact Nat.le_refl _)]
 ·rw[Nat.min_eq_right (by omega),List.drop_of_length_le (Nat.le_refl _),List.drop_of_length_le (by omega),List.take_nil]
theorem Dk (xs:List Val):fR xs none (some (-1))=xs.dropLast:=by
 unfold fR
 rw[HT.sIx_none,List.drop_zero,Nat.sub_zero,List.dropLast_eq_take]
 show xs.take (if (-1:Int) < 0 then ((-1:Int) + (xs.length:Int)).toNat else min (-1:Int).toNat xs.length)=_
 rw[if_pos (by decide)]
 congr 1
 omega
theorem nu (xs:List Val) (lo hi:Option Int):aSl (.lst xs) lo hi=.new (.lst (fR xs lo hi)):=rfl
theorem JP (xs:List Val) (lo hi:Option Int):aSl (.kl xs) lo hi=.new (.lst (fR xs lo hi)):=rfl
end L3
namespace L3
open PySem PySem.Spec PyProof.Rows L2
def pU (n:Nat) (u:ki):MG3:=λv e=>match v with
 | .tup vs=>if vs.length=n then u vs e else none
 | .lst vs=>if vs.length=n then u vs e else none
 | _=>none
section
variable {gs:MGs}{gs3:ki}
theorem rg_u (n:Nat) (hs:RGs gs gs3):RG (gU λds ae h=>if ds.length=n then gs ds ae h else .stuck) (pU n gs3):=λX h0 ns e ae h d v e' S r q=>by
 unfold pU at q
 split at q
 ·split at q
  ·rename_i hn
   obtain⟨ds,rfl,r2⟩:=ShR.tup (.inl r)
   obtain⟨ae1,ns1,p1,S1,a1⟩:=hs _ _ _ _ _ _ _ _ _ S r2 q
   refine⟨ae1,ns1,?_,S1,a1⟩
   unfold gU;dsimp only;rw[if_pos (by rw[r2.len];exact hn)];exact p1
  ·cases q
 ·split at q
  ·rename_i hn
   obtain⟨m,ds,rfl,_,eq,r2⟩:=ShR.lst (.inl r)
   obtain⟨ae1,ns1,p1,S1,a1⟩:=hs _ _ _ _ _ _ _ _ _ S r2 q
   refine⟨ae1,ns1,?_,S1,a1⟩
   unfold gU;dsimp only;rw[eq];dsimp only;rw[if_pos (by rw[r2.len];exact hn)];exact p1
  ·cases q
 ·cases q
end
def gtU (n:Nat) (a:PGs):PGt:=⟨gU λds ae h=>if ds.length=n then a.F ds ae h else .stuck,pU n a.G,rg_u n a.ok⟩
section
variable {e:E3}
theorem g_uL (n:Nat) (a:PGs) (vs:List Val):(gtU n a).G (.lst vs) e=if vs.length=n then a.G vs e else none:=rfl
end
section
variable {K:W.Frag}{mg:Str->Option Value}{X:Cx}{es:List Expr}{gs:PGs}{pos:Pos}
theorem EI {k n:Nat} (hK:X.K=K) (hc:X.calm=true) (h:DGs K mg X (λ_=>E0) es gs.F) (hn:(assignEach es X.env).length=n:=by rfl) (hst:(assignEach es X.env).findIdx? (·.1)=none:=by rfl):DG K mg X (λ_=>E0) (.Tuple es k pos) (gtU n gs).F:=Gv hK hc h hn hst
end
end L3
namespace L3
open PySem PySem.Spec PyProof.Rows L2
def zx:List Val->Bv:=λvs=>match vs with
 | [.int j]=>if -(2 ^ 62)<=j/\j<=16777216 then .new (.lst (rgV j.toNat)) else .stuck
 | _=>.stuck
theorem Hx:RFn ox zx:=λP h ds vs r=>by
 unfold zx
 split
 ·obtain⟨d,hd,rr1⟩:=fc r;subst hd
  split
  ·rename_i j hb
   have e:=rr1.int
   subst e
   refine⟨.lst (Ag j),by unfold ox;dsimp only;rw[if_pos hb],trivial,.lst ?_⟩
   unfold Ag rgV
   generalize List.range j.toNat=l
   induction l with
   | nil=>exact .nil
   | cons i l ih=>exact .cons (.int _) ih
  ·trivial
 ·trivial
def qI:PBf:=⟨ox,zx,Hx⟩
theorem KJ {j:Int} (h:-(2 ^ 62)<=j/\j<=16777216):qI.G [.int j]=.new (.lst (rgV j.toNat)):=if_pos h
section
variable {K:W.Frag}{mg:Str->Option Value}{X:Cx}{ES:L2.St->XK}{a:Expr}{A:PAs}{pos q2 p1 p2:Pos}
theorem Ga (hc:X.calm=true) (hl:Gl X "list") (hml:mg "list"=none) (hg:Gl X "range") (hm:mg "range"=none) (ha:DA K mg X ES [a] A.F) (hk:X.mg=mg:=by rfl) (hs:starEach [a] X.env=[(false,eval a X.env)]:=by rfl)
 (hs1:starEach [.Call (.Name "range" p2) [a] [] q2] X.env=[(false,eval (.Call (.Name "range" p2) [a] [] q2) X.env)]:=by rfl):
 DE K mg X ES (.Call (.Name "list" p1) [.Call (.Name "range" p2) [a] [] q2] [] pos) (pFn qI A).F:=by with_unfolding_all exact HM hc hl hml hg hm ha hk hs hs1
end
end L3
namespace L3
open PySem PySem.Spec PyProof.Rows L2
def tj (ii:Bool) (n:Str) (kvs:List (Str×Int)):Val->Val->Bv:=λx y=>match x,y with
 | .str k,.glb m=>if m=n then .val (.bl (ii ^^ (lkS kvs k).isSome)) else .stuck
 | _,_=>.stuck
def n9 (n:Str) (kvs:List (Str×Int)):Val->Val->Bv:=λx y=>match x,y with
 | .glb m,.str k=>(match lkS kvs k with
  | some i=>if m=n then .val (.int i) else .stuck
  | none=>.stuck)
 | _,_=>.stuck
theorem Ho (ii:Bool) (n:Str) (kvs:List (Str×Int)):RO (tP ii n kvs) (tj ii n kvs):=λP h d1 d2 v1 v2 r1 r2=>by
 unfold tj
 split
 ·split
  ·rename_i hm
   obtain rfl:=r1.str;obtain rfl:=r2.glb
   exact⟨_,by unfold tP;dsimp only;rw[if_pos hm],.bl _⟩
  ·trivial
 ·trivial
theorem B4 (n:Str) (kvs:List (Str×Int)):RO (nI n kvs) (n9 n kvs):=λP h d1 d2 v1 v2 r1 r2=>by
 unfold n9
 split
 ·split
  ·rename_i i e
   split
   ·rename_i hm
    obtain rfl:=r1.glb;obtain rfl:=r2.str
    exact⟨_,by unfold nI;dsimp only;rw[e];dsimp only;rw[if_pos hm],.int _⟩
   ·trivial
  ·trivial
 ·trivial
def wb (n:Str) (kvs:List (Str×Int)):PO2:=⟨tP true n kvs,tj true n kvs,Ho true n kvs⟩
def nQ (n:Str) (kvs:List (Str×Int)):PO2:=⟨nI n kvs,n9 n kvs,B4 n kvs⟩
theorem yO (n:Str) (kvs:List (Str×Int)) (k:Str):(wb n kvs).G (.str k) (.glb n)=.val (.bl (!(lkS kvs k).isSome)):=by
 show tj true n kvs (.str k) (.glb n)=_
 unfold tj
 dsimp only
 rw[if_pos rfl]
 cases (lkS kvs k).isSome <;> rfl
theorem yt {n:Str}{kvs:List (Str×Int)}{k:Str}{i:Int} (h:lkS kvs k=some i):(nQ n kvs).G (.glb n) (.str k)=.val (.int i):=by
 show n9 n kvs (.glb n) (.str k)=_
 unfold n9
 dsimp only
 rw[h]
 dsimp only
 rw[if_pos rfl]
section
variable {K:W.Frag}{mg:Str->Option Value}{n:Str}{kvs:List (Str×Int)}
theorem C5:OpD K mg (Av true mg n kvs) (wb n kvs).F:=Cw true
theorem B0:OpD K mg (wG mg n kvs) (nQ n kvs).F:=AL
end
end L3
namespace L3
open PySem L2
theorem pj {g:MG3}{c:MT3}{F:ME3}{α:Type} (pz:α->Bool) (fv fw:α->Val) (P:E3->Prop):∀ (l:List α) (acc:List Val) (e:E3),P e->(∀ a ∈ l,∀ e,P e->∃ e1 e2,g (fv a) e=some e1/\c e1=.ok (pz a) e2/\P e2/\(pz a=true->∃ t e3,F e2=.ok t e3/\cM e3 t=some (e3,fw a)/\P e3))->acc.length + l.length<=16777216->∃ e',P e'/\lcV g c F (l.map fv) acc e=.ok (acc++(l.filter pz).map fw) e'
 | [],acc,e,hp,_,_=>⟨e,hp,by simp [lcV]⟩
 |
  a :: l,acc,e,hp,hf,hl=>by
  obtain⟨e1,e2,q1,q2,q3,q4⟩:=hf a (List.mem_cons_self ..) e hp
  rw[List.length_cons] at hl
  cases hz:pz a with
  |
   false=>
   obtain⟨e',p',q⟩:=pj pz fv fw P l acc e2 q3 (λu hu=>hf u (List.mem_cons_of_mem _ hu)) (by omega)
   refine⟨e',p',?_⟩
   rw[hz] at q2
   rw[List.map_cons]
   unfold lcV
   rw[if_pos (by omega),q1]
   simp only[q2,ek,Bool.false_eq_true,if_false,q]
   rw[List.filter_cons_of_neg (by rw[hz];exact Bool.false_ne_true)]
  |
   true=>
   obtain⟨t,e3,r1,r2,r3⟩:=q4 hz
   obtain⟨e',p',q⟩:=pj pz fv fw P l (acc++[fw a]) e3 r3 (λu hu=>hf u (List.mem_cons_of_mem _ hu)) (by simp;omega)
   refine⟨e',p',?_⟩
   rw[hz] at q2
   rw[List.map_cons]
   unfold lcV
   rw[if_pos (by omega),q1]
   simp only[q2,ek,if_true,r1,r2,q]
   rw[List.filter_cons_of_pos hz,List.map_cons,List.append_assoc]
   rfl
theorem vM (xs:List Int):(xs.map Val.int).all nW=true:=by
 rw[List.all_map,List.all_eq_true]
 intro x _
 rfl
theorem zh (xs:List Int) (a:Int):((xs.map Val.int).any λd=>eq1 d (.int a))=xs.contains a:=by
 induction xs with
 | nil=>rfl
 |
  cons x xs ih=>
  rw[List.map_cons,List.any_cons,ih,List.contains_cons]
  congr 1
  show (x == a)=(a == x)
  rw[Bool.eq_iff_iff,beq_iff_eq,beq_iff_eq]
  exact⟨Eq.symm,Eq.symm⟩
theorem ym (xs:List Int) (a:Int):o7.G (.int a) (.lst (xs.map .int))=.val (.bl (!xs.contains a)):=by
 show aIn true (.int a) (.lst (xs.map .int))=_
 unfold aIn
 dsimp only [Val.items]
 rw[if_pos ⟨rfl,vM xs⟩,zh]
 rfl
end L3
namespace L3
open PySem PySem.Spec PyProof.Rows L2
section
variable {K:W.Frag}{mg:Str->Option Value}
end
end L3
namespace L3
open PySem PySem.Spec PyProof.Rows L2
section
variable {X:Cx}{K:W.Frag}{mg:Str->Option Value}{ES:L2.St->XK}{e:Expr}{es:List Expr}{A:PAs}{pos:Pos}{x:PSt}
variable {P:Program}{w:World}{base:Heap}{fx:Str}{kw:Stmt}{k n m:Nat}{ps N:List Str}{ms:List Bool}
theorem okPU (D:Def K mg fx kw) (S:FnScope N ps (av kw))
 (hb:∀ (kV doc pm:Value) (an:Option Addr) (cdv ct:Value) (us:List Value),us.length=ps.length->bindArgs (W.fnOf fx fx (cK kw) (bu kw) (av kw) .none kV doc pm an cdv ct) ⟨us,[]⟩=pure (ps.zip us))
 (bn:∀ (f:Addr) (cdv:Value) (A:Around) (outer:List Env) (s:Shared) (H:Hp) (E:XK),RoomU k (A.deeper (envOfC fx (av kw) s.heap.objs.size f cdv))->
  DSs K mg (jh (CX1 P w) P w K mg base N fx (av kw) f cdv A outer s H E) (λ_=>E) (bu kw) x.F) (hn:ps.length=n:=by rfl) (hm:N.length=m:=by rfl):CalleeU P w K mg base fx (k + 1) ps (spD K mg n (fnP ms m x).F):=by
 subst hn hm
 with_unfolding_all exact D.okDU S hb bn
theorem xy {f:PFn}{y:Str}{p0:Pos} (C:CalleeU X.prog X.w X.K X.mg X.base y k ps (spD K mg n f.F)) (hr:RoomU k X.A) (hg:Gl X y) (hx:fG X ES) (ha:DA K mg X ES (e :: es) A.F) (hn:f.ms.length=n:=by rfl) (hdb:(y == ("__debug__" : Str))=false:=by decide) (he:starEach (e :: es) X.env=(false,eval e X.env) :: starEach es X.env:=by rfl) (hpl:(backTo pos (starEach es X.env)).any (·.1)=false:=by rfl):DE K mg X ES (.Call (.Name y p0) (e :: es) [] pos) (aB f A).F:=by
 subst hn
 with_unfolding_all exact Bk C hr hg hx ha hdb he hpl
end
end L3
namespace L3
open PySem L2
theorem Dq (i j:Nat) (a:PEx):(om i j (af a (af (br ao) ao))).F=(aA (aR false i a) (aR true j (br ao))).F:=by
 funext ae h
 show tw i j (jV a.F (jV (eFn dD nr) nr)) ae h=(gp a.F (gN i) ae h).then (gp (eFn dD nr) (gN j))
 unfold tw jV
 rw[show gp a.F (gN i) ae h=(a.F ae h).toS ae λd h1=>(gN i d ae h1).toS ae λam h2=>.nx am h2 from rfl]
 cases a.F ae h with
 | ok d h1=>rfl
 | exc c h1=>rfl
 | stuck=>rfl
def BX (i j:Nat) (a:PEx):PSt:=⟨(om i j (af a (af (br ao) ao))).F,(aA (aR false i a) (aR true j (br ao))).G,by rw[Dq];exact (aA (aR false i a) (aR true j (br ao))).ok⟩
theorem Gh (i j:Nat) (a:PEx) (e:E3):(BX i j a).G e=(aA (aR false i a) (aR true j (br ao))).G e:=rfl
end L3
namespace L3
open PySem L2
def lq (b:Bx):Rat:=if b.w < b.h then b.h / b.w else b.w / b.h
def shL (s l:Rat) (W:Int):Int->List Int->List (Rat×Rat)
 | _,[]=>[]
 | a,w :: ws=>(s + l * ((a:Rat) / (W:Rat)),l * ((w:Rat) / (W:Rat))) :: shL s l W (a + w) ws
theorem pf (s l:Rat) (W:Int):∀ (ws:List Int) (a:Int),(shL s l W a ws).length=ws.length
 | [],_=>rfl
 | w :: ws,a=>by unfold shL;rw[List.length_cons,List.length_cons,pf s l W ws (a + w)]
def gE (b:Bx) (way:Str) (ws:List Int):List Bx:=if way="across" then (shL b.l b.w ws.sum 0 ws).map λp=>⟨p.1,b.t,p.2,b.h⟩ else (shL b.t b.h ws.sum 0 ws).map λp=>⟨b.l,p.1,b.w,p.2⟩
theorem lF:∀ {l:List Int},(∀ w ∈ l,1<=w)->(l.length:Int)<=l.sum
 | [],_=>by simp
 |
  x :: l,h=>by
  rw[List.sum_cons,List.length_cons]
  have:=h x (List.mem_cons_self ..)
  have:=lF (l:=l) λw hw=>h w (List.mem_cons_of_mem _ hw)
  omega
theorem uu {s l:Rat}{W:Int}{p:Rat×Rat}:∀ (ws:List Int) (a:Int),0<=a->(∀ w ∈ ws,1<=w)->a + ws.sum<=W->p ∈ shL s l W a ws->∃ a' w:Int,0<=a'/\a'<=W/\1<=w/\w<=W/\p=(s + l * ((a':Rat) / (W:Rat)),l * ((w:Rat) / (W:Rat)))
 | [],_,_,_,_,h=>nomatch h
 |
  w :: ws,a,ha,hw,hs,h=>by
  have h1:=hw w (List.mem_cons_self ..)
  have h2:=lF (l:=ws) λx hx=>hw x (List.mem_cons_of_mem _ hx)
  rw[List.sum_cons] at hs
  unfold shL at h
  rcases List.mem_cons.mp h with rfl | h
  ·exact⟨a,w,ha,by omega,h1,by omega,rfl⟩
  ·exact uu ws (a + w) (by omega) (λx hx=>hw x (List.mem_cons_of_mem _ hx)) (by omega) h
theorem r9 {b:Bx}{n m:Nat}{way:Str}{ws:List Int} (hb:b.Ok) (hs:b.Sz n) (hw:∀ w ∈ ws,1<=w) (mW:Sm m ws.sum) {b':Bx} (h:b' ∈ gE b way ws):b'.Ok/\b'.Sz (n + (n + m) + 1):=by
 have key:∀ (s l:Rat),Sz n s->Sz n l->0 < l->∀ p ∈ shL s l ws.sum 0 ws,Sz (n + (n + m) + 1) p.1/\Sz (n + (n + m) + 1) p.2/\0 < p.2:=by
  intro s l hs hl l0 p hp
  obtain⟨a',w,h1,h2,h3,h4,rfl⟩:=uu ws 0 (by omega) hw (by omega) hp
  have z1:Sz m ((a':Rat) / (ws.sum:Rat)):=Sz.div (by omega) (mW.of_le (by omega)) mW m (Nat.le_refl _) (Nat.le_refl _)
  have z2:Sz m ((w:Rat) / (ws.sum:Rat)):=Sz.div (by omega) (mW.of_le (by omega)) mW m (Nat.le_refl _) (Nat.le_refl _)
  exact⟨hs.add (hl.mul z1),(hl.mul z2).mono (by omega),Rat.mul_pos l0 (zE (by omega) (by omega))⟩
 unfold gE at h
 split at h
 ·obtain⟨p,hp,rfl⟩:=List.mem_map.mp h
  obtain⟨k1,k2,k3⟩:=key _ _ hs.l hs.w hb.1 p hp
  exact⟨⟨k3,hb.2⟩,⟨k1,hs.t.mono (by omega),k2,hs.h.mono (by omega)⟩⟩
 ·obtain⟨p,hp,rfl⟩:=List.mem_map.mp h
  obtain⟨k1,k2,k3⟩:=key _ _ hs.t hs.h hb.2 p hp
  exact⟨⟨hb.1,k3⟩,⟨hs.l.mono (by omega),k1,hs.w.mono (by omega),k2⟩⟩
def gi (b:Bx) (way:Str) (u v:Int):Bx:=(gE b way [u,v]).headD b
def gR (b:Bx) (way:Str) (u v:Int):Bx:=((gE b way [u,v]).drop 1).headD b
theorem rJ (b:Bx) (way:Str) (u v:Int):gE b way [u,v]=[gi b way u v,gR b way u v]:=by
 unfold gi gR gE
 split <;> rfl
theorem C7 {b:Bx}{n m:Nat}{way:Str}{u v:Int} (hb:b.Ok) (hs:b.Sz n) (hu:1<=u) (hv:1<=v) (mW:Sm m (u + v)):(gi b way u v).Ok/\(gi b way u v).Sz (n + (n + m) + 1):=by
 refine r9 (way:=way) (ws:=[u,v]) hb hs ?_ (by simpa using mW) (by rw[rJ];exact List.mem_cons_self ..)
 intro w hw
 simp at hw
 omega
theorem CK {b:Bx}{n m:Nat}{way:Str}{u v:Int} (hb:b.Ok) (hs:b.Sz n) (hu:1<=u) (hv:1<=v) (mW:Sm m (u + v)):(gR b way u v).Ok/\(gR b way u v).Sz (n + (n + m) + 1):=by
 refine r9 (way:=way) (ws:=[u,v]) hb hs ?_ (by simpa using mW) (by rw[rJ];simp)
 intro w hw
 simp at hw
 omega
def liV (l:List Int):Val:=.lst (l.map .int)
def fg (ws:List Int) (i:Int):Int:=ws.getD i.toNat 0
def Inr (ws nums:List Int):Prop:=∀ i ∈ nums,0<=i/\i < (ws.length:Nat)
def wt (ws l:List Int):Int:=(l.map (fg ws)).sum
theorem Kq {ws:List Int}{i:Int} (h0:0<=i) (h1:i < (ws.length:Nat)):atI (ws.map Val.int) i=some (.int (fg ws i)):=by
 have hi:i.toNat < ws.length:=by omega
 refine gx h0 ?_
 rw[List.getElem?_map,List.getElem?_eq_getElem hi]
 unfold fg
 rw[List.getD_eq_getElem?_getD,List.getElem?_eq_getElem hi]
 rfl
theorem Bl {ws:List Int}{i:Int} (h0:0<=i) (h1:i < (ws.length:Nat)):fg ws i ∈ ws:=by
 have hi:i.toNat < ws.length:=by omega
 unfold fg
 rw[List.getD_eq_getElem?_getD,List.getElem?_eq_getElem hi]
 exact List.getElem_mem hi
theorem Bu {ws l:List Int} (hw:∀ w ∈ ws,1<=w) (hr:Inr ws l):(l.length:Int)<=wt ws l:=by
 have:=lF (l:=l.map (fg ws)) λw h=>by
  obtain⟨i,hi,rfl⟩:=List.mem_map.mp h
  exact hw _ (Bl (hr i hi).1 (hr i hi).2)
 rw[List.length_map] at this
 exact this
theorem E5 (ws l r:List Int):wt ws (l++r)=wt ws l + wt ws r:=by unfold wt;rw[List.map_append,List.sum_append]
theorem Bp {l r:List Int} (h:l.Perm r):l.sum=r.sum:=by
 induction h with
 | nil=>rfl
 | cons x _ ih=>rw[List.sum_cons,List.sum_cons,ih]
 | swap x y l=>rw[List.sum_cons,List.sum_cons,List.sum_cons,List.sum_cons];omega
 | trans _ _ h1 h2=>rw[h1,h2]
theorem jM {ws l r:List Int} (h:l.Perm r):wt ws l=wt ws r:=Bp (h.map _)
def rst (nums l:List Int):List Int:=nums.filter λx=>!l.contains x
structure Lot (nums l:List Int):Prop where
 sub:l.Sublist nums
 ne:l ≠ []
 lt:l.length < nums.length
theorem Lot.mono {p q l:List Int} (h:Lot p l) (s:p.Sublist q):Lot q l:=⟨h.sub.trans s,h.ne,Nat.lt_of_lt_of_le h.lt s.length_le⟩
theorem Lot.more {p l:List Int} (h:Lot p l) (x:Int):Lot (p++[x]) (l++[x]):=⟨h.sub.append (List.Sublist.refl _),by simp,by have:=h.lt;simp;omega⟩
theorem Lot.self {p:List Int} (h:p ≠ []) (x:Int):Lot (p++[x]) p:=⟨List.sublist_append_left ..,h,by simp⟩
theorem mU {l nums:List Int} (h:l.Sublist nums):nums.Nodup->(l++rst nums l).Perm nums:=by
 induction h with
 | slnil=>intro _;exact .nil
 |
  cons a s ih=>
  intro nd
  rw[List.nodup_cons] at nd
  rename_i l nums
  have ha:¬ a ∈ l:=λz=>nd.1 (s.subset z)
  have e:rst (a :: nums) l=a :: rst nums l:=by
   unfold rst
   rw[List.filter_cons_of_pos]
   simp [ha]
  rw[e]
  exact List.perm_middle.trans ((ih nd.2).cons a)
 |
  cons_cons a s ih=>
  intro nd
  rw[List.nodup_cons] at nd
  rename_i l nums
  have e:rst (a :: nums) (a :: l)=rst nums l:=by
   unfold rst
   rw[List.filter_cons_of_neg (by simp)]
   refine List.filter_congr λx hx=>?_
   have:x ≠ a:=λz=>nd.1 (z ▸ hx)
   simp [this]
  rw[e]
  exact (ih nd.2).cons a
theorem uF {l nums:List Int} (h:Lot nums l) (nd:nums.Nodup):Lot nums (rst nums l):=by
 have p:=(mU h.sub nd).length_eq
 rw[List.length_append] at p
 have h1:=h.lt
 have h2:=List.length_pos_iff.mpr h.ne
 refine⟨List.filter_sublist,λz=>?_,by omega⟩
 rw[z,List.length_nil] at p
 omega
theorem zG {nums:List Int} (nd:nums.Nodup) (k:Nat):rst nums (nums.take k)=nums.drop k:=by
 have e:rst nums (nums.take k)=(nums.take k++nums.drop k).filter λx=>!(nums.take k).contains x:=by rw[List.take_append_drop];rfl
 rw[e,List.filter_append]
 have nd':(nums.take k++nums.drop k).Nodup:=by rw[List.take_append_drop];exact nd
 rw[List.nodup_append] at nd'
 have h1:(nums.take k).filter (λx=>!(nums.take k).contains x)=[]:=by
  rw[List.filter_eq_nil_iff]
  intro x hx
  simp [hx]
 have h2:(nums.drop k).filter (λx=>!(nums.take k).contains x)=nums.drop k:=by
  rw[List.filter_eq_self]
  intro x hx
  have:¬ x ∈ nums.take k:=λz=>nd'.2.2 x z x hx rfl
  simp [this]
 rw[h1,h2]
 rfl
def gB:List (List Int)->List Int->List (List Int)
 | L,[]=>L
 | L,x :: rest=>gB (L++L.map λl=>l++[x]) rest
def dG (kind:Str) (nums:List Int):List (List Int):=if kind="order" then (List.range' 1 (nums.length - 1)).map λi=>nums.take i else match nums with
 | []=>[]
 | x :: rest=>(gB [[x]] rest).dropLast
theorem jX:∀ (rest p:List Int) (M:List (List Int)),p ≠ []->(∀ l ∈ M,Lot p l)->∃ M',gB (M++[p]) rest=M'++[p++rest]/\(∀ l ∈ M',Lot (p++rest) l)/\(rest ≠ []->M' ≠ [])/\(M ≠ []->M' ≠ [])
 | [],p,M,hp,hM=>⟨M,by unfold gB;rw[List.append_nil],by simpa using hM,λz=>absurd rfl z,λz=>z⟩
 |
  x :: rest,p,M,hp,hM=>by
  obtain⟨M',q1,q2,q3,q4⟩:=jX rest (p++[x]) (M++[p]++M.map λl=>l++[x]) (by simp) (λl hl=>by
   rcases List.mem_append.mp hl with hl | hl
   ·rcases List.mem_append.mp hl with hl | hl
    ·exact (hM l hl).mono (List.sublist_append_left ..)
    ·rw[List.mem_singleton] at hl;subst hl;exact .self hp x
   ·obtain⟨l',h',rfl⟩:=List.mem_map.mp hl
    exact (hM l' h').more x)
  refine⟨M',?_,by rw[List.append_assoc] at q2;exact q2,λ_=>q4 (by simp),λ_=>q4 (by simp)⟩
  unfold gB
  rw[<- show (M++[p]++(M.map λl=>l++[x]))++[p++[x]]=M++[p]++(M++[p]).map (λl=>l++[x]) by simp,q1]
  simp
theorem Bg {kind:Str}{nums l:List Int} (h:l ∈ dG kind nums):Lot nums l:=by
 unfold dG at h
 split at h
 ·obtain⟨i,hi,rfl⟩:=List.mem_map.mp h
  rw[List.mem_range'_1] at hi
  refine⟨List.take_sublist ..,λz=>?_,by rw[List.length_take];omega⟩
  have:=congrArg List.length z
  rw[List.length_take,List.length_nil] at this
  omega
 ·split at h
  ·exact nomatch h
  ·rename_i x rest
   obtain⟨M',q1,q2,_,_⟩:=jX rest [x] [] (by simp) (λ_ z=>nomatch z)
   rw[List.nil_append] at q1
   rw[q1,List.dropLast_concat] at h
   exact q2 l h
theorem Ej {kind:Str}{nums:List Int} (h:2<=nums.length):dG kind nums ≠ []:=by
 unfold dG
 split
 ·intro z
  have:=congrArg List.length z
  rw[List.length_map,List.length_range',List.length_nil] at this
  omega
 ·split
  ·simp at h
  ·rename_i x rest
   obtain⟨M',q1,_,q3,_⟩:=jX rest [x] [] (by simp) (λ_ z=>nomatch z)
   rw[List.nil_append] at q1
   rw[q1,List.dropLast_concat]
   exact q3 (by rintro rfl;simp at h)
theorem pJ:∀ (rest:List Int) (L:List (List Int)),(gB L rest).length=L.length * 2 ^ rest.length
 | [],L=>by simp [gB]
 |
  x :: rest,L=>by
  unfold gB
  rw[pJ rest,List.length_append,List.length_map,List.length_cons,Nat.pow_succ,<- Nat.two_mul,Nat.mul_comm 2,Nat.mul_assoc,Nat.mul_comm 2]
theorem tJ {kind:Str}{nums:List Int} (h:nums.length<=10):(dG kind nums).length<=1000:=by
 unfold dG
 split
 ·rw[List.length_map,List.length_range']
  omega
 ·split
  ·simp
  ·rename_i x rest
   rw[List.length_cons] at h
   rw[List.length_dropLast,pJ]
   have:2 ^ rest.length<=2 ^ 9:=Nat.pow_le_pow_right (by decide) (by omega)
   simp
   omega
def cuV (c:Str×List Int×List Int):Val:=.tup [.str c.1,liV c.2.1,liV c.2.2]
def ip (nums l:List Int):List (Str×List Int×List Int):=[("across",l,rst nums l),("down",l,rst nums l)]
def jg (kind:Str) (nums:List Int):List (Str×List Int×List Int):=(dG kind nums).flatMap (ip nums)
def mx (x y:Rat):Rat:=if x < y then y else x
def kU (f:Bx->List Int->Rat) (ws:List Int) (b:Bx) (c:Str×List Int×List Int):Rat:=mx (f (gi b c.1 (wt ws c.2.1) (wt ws c.2.2)) c.2.1) (f (gR b c.1 (wt ws c.2.1) (wt ws c.2.2)) c.2.2)
def hZ (o:Option Rat) (q:Rat):Option Rat:=match o with
 | none=>some q
 | some p=>if q < p then some q else some p
def bst (kind:Str) (ws:List Int):Nat->Bx->List Int->Rat
 | 0,b,_=>lq b
 | k + 1,b,nums=>if nums.length=1 then lq b else ((jg kind nums).foldl (λo c=>hZ o (kU (bst kind ws k) ws b c)) none).getD 0
theorem u9 (o:Option Rat) (q:Rat):∃ p,hZ o q=some p:=by
 unfold hZ
 split
 ·exact⟨_,rfl⟩
 ·split <;> exact⟨_,rfl⟩
theorem pL {α:Type} (f:α->Rat):∀ (l:List α) (p:Rat),∃ q,l.foldl (λo c=>hZ o (f c)) (some p)=some q
 | [],p=>⟨p,rfl⟩
 |
  c :: l,p=>by
  obtain⟨q,e⟩:=u9 (some p) (f c)
  rw[List.foldl_cons,e]
  exact pL f l q
theorem Ef {α:Type} (f:α->Rat) {l:List α} (h:l ≠ []):∃ q,l.foldl (λo c=>hZ o (f c)) none=some q:=by
 cases l with
 | nil=>exact absurd rfl h
 | cons c l=>rw[List.foldl_cons];exact pL f l _
structure CutOk (nums:List Int) (c:Str×List Int×List Int):Prop where
 way:c.1="across" \/ c.1="down"
 one:Lot nums c.2.1
 two:Lot nums c.2.2
 rest:c.2.2=rst nums c.2.1
theorem uZ {kind:Str}{nums:List Int} (nd:nums.Nodup) {c:Str×List Int×List Int} (h:c ∈ jg kind nums):CutOk nums c:=by
 obtain⟨l,hl,hc⟩:=List.mem_flatMap.mp h
 have lo:=Bg hl
 unfold ip at hc
 rcases List.mem_cons.mp hc with rfl | hc
 ·exact⟨.inl rfl,lo,uF lo nd,rfl⟩
 ·rw[List.mem_singleton] at hc
  subst hc
  exact⟨.inr rfl,lo,uF lo nd,rfl⟩
theorem C2 {kind:Str}{nums:List Int} (h:2<=nums.length):jg kind nums ≠ []:=by
 have:=Ej (kind:=kind) h
 unfold jg
 cases e:dG kind nums with
 | nil=>exact absurd e this
 | cons l ls=>rw[List.flatMap_cons];unfold ip;simp
inductive Tr (ws:List Int):Bx->List Int->Val->Rat->Prop
 | leaf (b:Bx) (i:Int):Tr ws b [i] (.int i) (lq b)
 | node {b:Bx}{way:Str}{l r:List Int}{t1 t2:Val}{q1 q2:Rat} (hw:way="across" \/ way="down") (h1:Tr ws (gi b way (wt ws l) (wt ws r)) l t1 q1) (h2:Tr ws (gR b way (wt ws l) (wt ws r)) r t2 q2):Tr ws b (l++r) (.tup [.str way,.tup [t1,t2]]) (mx q1 q2)
theorem Tr.flat {ws:List Int}{b:Bx}{l:List Int}{t:Val}{q:Rat} (h:Tr ws b l t q):flatV t=true:=by
 induction h with
 | leaf=>exact lJ _
 | node _ _ _ ih1 ih2=>simp [lb,eZ,fQ,qc,ih1,ih2]
end L3
set_option maxHeartbeats 4000000
namespace KK
open PySem PySem.Spec PyProof.Rows L2 L3
theorem qr:bootBuiltins "ValueError"=some (.type "ValueError"):=by decide
theorem xD:bootBuiltins "abs"=some (.builtin "abs"):=by decide
theorem xa:bootBuiltins "all"=some (.builtin "all"):=by decide
theorem C0:bootBuiltins "bool"=some (.type "bool"):=by decide
theorem yF:bootBuiltins "int"=some (.type "int"):=by decide
theorem aG:bootBuiltins "isinstance"=some (.builtin "isinstance"):=by decide
theorem dh:bootBuiltins "len"=some (.builtin "len"):=by decide
theorem l8:bootBuiltins "list"=some (.type "list"):=by decide
theorem GI:bootBuiltins "min"=some (.builtin "min"):=by decide
theorem xf:bootBuiltins "str"=some (.type "str"):=by decide
theorem yA:bootBuiltins "sum"=some (.builtin "sum"):=by decide
theorem eA:bootBuiltins "tuple"=some (.type "tuple"):=by decide
def top (i:Nat):Stmt:=PySem.Challenge.pw_weightrooms_k53_least_worst_refused.main.body.getD i (.Pass ⟨0,0,0,0⟩)
abbrev kD:Stmt:=top 51
theorem ug:FnScope ["_law_script"] ["_law_script"] (av kD):=⟨rfl,rfl,rfl,by decide,rfl,by decide,by decide⟩
abbrev kF:Stmt:=top 52
theorem d6:FnScope ["_law_feed_here", "_law_many", "_law_found", "_law_at", "_law_cell", "_law_number"] ["_law_feed_here", "_law_many"] (av kF):=⟨rfl,rfl,rfl,by decide,rfl,by decide,by decide⟩
abbrev gk:Stmt:=top 53
theorem cH:FnScope ["_law_feed_here", "_law_box", "_law_at", "_law_bad", "_law_some"] ["_law_feed_here"] (av gk):=⟨rfl,rfl,rfl,by decide,rfl,by decide,by decide⟩
abbrev dE:Stmt:=top 54
theorem en:FnScope ["_law_feed_here", "_law_weights", "_law_at"] ["_law_feed_here"] (av dE):=⟨rfl,rfl,rfl,by decide,rfl,by decide,by decide⟩
abbrev kJ:Stmt:=top 18
theorem tT:FnScope ["thing"] ["thing"] (av kJ):=⟨rfl,rfl,rfl,by decide,rfl,by decide,by decide⟩
abbrev fj:Stmt:=top 19
theorem eU:FnScope ["one", "other"] ["one", "other"] (av fj):=⟨rfl,rfl,rfl,by decide,rfl,by decide,by decide⟩
abbrev gW:Stmt:=top 20
theorem gj:FnScope ["thing", "top", "bottom"] ["thing"] (av gW):=⟨rfl,rfl,rfl,by decide,rfl,by decide,by decide⟩
abbrev kx:Stmt:=top 30
theorem xg:FnScope ["thing"] ["thing"] (av kx):=⟨rfl,rfl,rfl,by decide,rfl,by decide,by decide⟩
abbrev jr:Stmt:=top 31
theorem tL:FnScope ["thing"] ["thing"] (av jr):=⟨rfl,rfl,rfl,by decide,rfl,by decide,by decide⟩
abbrev jq:Stmt:=top 34
theorem qZ:FnScope ["thing"] ["thing"] (av jq):=⟨rfl,rfl,rfl,by decide,rfl,by decide,by decide⟩
abbrev d8:Stmt:=top 35
theorem m6:FnScope ["thing"] ["thing"] (av d8):=⟨rfl,rfl,rfl,by decide,rfl,by decide,by decide⟩
abbrev iO:Stmt:=top 42
theorem ql:FnScope ["kind"] ["kind"] (av iO):=⟨rfl,rfl,rfl,by decide,rfl,by decide,by decide⟩
abbrev gP:Stmt:=top 43
theorem pC:FnScope ["room", "weights", "kind"] ["room", "weights", "kind"] (av gP):=⟨rfl,rfl,rfl,by decide,rfl,by decide,by decide⟩
abbrev lI:Stmt:=top 25
theorem vd:FnScope ["one", "other"] ["one", "other"] (av lI):=⟨rfl,rfl,rfl,by decide,rfl,by decide,by decide⟩
abbrev j5:Stmt:=top 36
theorem uh:FnScope ["box"] ["box"] (av j5):=⟨rfl,rfl,rfl,by decide,rfl,by decide,by decide⟩
abbrev kO:Stmt:=top 21
theorem jy:FnScope ["top", "bottom", "divisor"] ["top", "bottom"] (av kO):=⟨rfl,rfl,rfl,by decide,rfl,by decide,by decide⟩
abbrev rW:Stmt:=top 24
theorem Ed:FnScope ["one", "other"] ["one", "other"] (av rW):=⟨rfl,rfl,rfl,by decide,rfl,by decide,by decide⟩
abbrev pv:Stmt:=top 37
theorem AN:FnScope ["box"] ["box"] (av pv):=⟨rfl,rfl,rfl,by decide,rfl,by decide,by decide⟩
abbrev gG:Stmt:=top 46
theorem ij:FnScope ["numbers", "kind", "lots", "number"] ["numbers", "kind"] (av gG):=⟨rfl,rfl,rfl,by decide,rfl,by decide,by decide⟩
abbrev ji:Stmt:=top 47
theorem ie:FnScope ["numbers", "kind", "cuts", "lot", "way"] ["numbers", "kind"] (av ji):=⟨rfl,rfl,rfl,by decide,rfl,by decide,by decide⟩
abbrev mQ:Stmt:=top 32
theorem yd:FnScope ["thing"] ["thing"] (av mQ):=⟨rfl,rfl,rfl,by decide,rfl,by decide,by decide⟩
abbrev jv:Stmt:=top 33
theorem sg:FnScope ["way"] ["way"] (av jv):=⟨rfl,rfl,rfl,by decide,rfl,by decide,by decide⟩
abbrev oM:Stmt:=top 22
theorem z9:FnScope ["one", "other"] ["one", "other"] (av oM):=⟨rfl,rfl,rfl,by decide,rfl,by decide,by decide⟩
abbrev oj:Stmt:=top 23
theorem yX:FnScope ["one", "other"] ["one", "other"] (av oj):=⟨rfl,rfl,rfl,by decide,rfl,by decide,by decide⟩
abbrev m5:Stmt:=top 38
theorem eu:FnScope ["start", "length", "weights", "whole", "ahead", "found", "weight", "begin"] ["start", "length", "weights"] (av m5):=⟨rfl,rfl,rfl,by decide,rfl,by decide,by decide⟩
abbrev iK:Stmt:=top 39
theorem gK:FnScope ["box", "way", "weights", "left", "top", "wide", "high"] ["box", "way", "weights"] (av iK):=⟨rfl,rfl,rfl,by decide,rfl,by decide,by decide⟩
abbrev gD:Stmt:=top 49
theorem rH:FnScope ["numbers", "weights"] ["numbers", "weights"] (av gD):=⟨rfl,rfl,rfl,by decide,rfl,by decide,by decide⟩
abbrev kI:Stmt:=top 48
theorem gy:FnScope ["cut", "room", "weights", "way", "first", "second"] ["cut", "room", "weights"] (av kI):=⟨rfl,rfl,rfl,by decide,rfl,by decide,by decide⟩
abbrev gZ:Stmt:=top 26
theorem eK:FnScope ["fractions", "found", "one"] ["fractions"] (av gZ):=⟨rfl,rfl,rfl,by decide,rfl,by decide,by decide⟩
abbrev gz:Stmt:=top 45
theorem bM:FnScope ["room", "weights", "kind", "numbers", "best", "cut", "first", "second", "one", "other", "greatest"] ["room", "weights", "kind", "numbers"] (av gz):=⟨rfl,rfl,rfl,by decide,rfl,by decide,by decide⟩
abbrev gO:Stmt:=top 44
theorem pk:FnScope ["room", "weights", "kind"] ["room", "weights", "kind"] (av gO):=⟨rfl,rfl,rfl,by decide,rfl,by decide,by decide⟩
abbrev kL:Stmt:=top 55
theorem cZ:FnScope ["_law_error", "_law_some", "_law_words"] ["_law_error"] (av kL):=⟨rfl,rfl,rfl,by decide,rfl,by decide,by decide⟩
abbrev jz:Stmt:=top 56
theorem iC:FnScope ["_law_room", "_law_weights", "_law_kind", "_law_found", "e"] ["_law_room", "_law_weights", "_law_kind"] (av jz):=⟨rfl,rfl,rfl,by decide,rfl,by decide,by decide⟩
abbrev gF:Stmt:=top 57
theorem bL:FnScope ["_law_feed_here", "_law_room", "_law_due", "_law_kind", "_law_most", "_law_many", "_law_weights", "_law_way", "_law_wide"] ["_law_feed_here"] (av gF):=⟨rfl,rfl,rfl,by decide,rfl,by decide,by decide⟩
abbrev qM:Stmt:=top 58
theorem rK:FnScope ["_law_script", "_law_feed_here", "_law_bout"] ["_law_script"] (av qM):=⟨rfl,rfl,rfl,by decide,rfl,by decide,by decide⟩
def kits:fE:=[((.o "NoFraction"),(.o "NoBox"),false),((.o "NoBox"),(.o "NoBox"),true),((.o "NoWay"),(.o "NoBox"),false),((.o "NoWeights"),(.o "NoBox"),false),((.o "TooMany"),(.o "NoBox"),false),((.o "NoKind"),(.o "NoBox"),false),((.o "NoFraction"),(.o "NoCut"),false),((.o "NoBox"),(.o "NoCut"),false),((.o "NoWay"),(.o "NoCut"),false),((.o "NoWeights"),(.o "NoCut"),false),((.o "TooMany"),(.o "NoCut"),false),((.o "NoKind"),(.o "NoCut"),false),((.o "NoFraction"),(.o "NoFraction"),true),((.o "NoBox"),(.o "NoFraction"),false),((.o "NoWay"),(.o "NoFraction"),false),((.o "NoWeights"),(.o "NoFraction"),false),((.o "TooMany"),(.o "NoFraction"),false),((.o "NoKind"),(.o "NoFraction"),false),((.o "NoFraction"),(.o "NoKind"),false),((.o "NoBox"),(.o "NoKind"),false),((.o "NoWay"),(.o "NoKind"),false),((.o "NoWeights"),(.o "NoKind"),false),((.o "TooMany"),(.o "NoKind"),false),((.o "NoKind"),(.o "NoKind"),true),((.o "NoFraction"),(.o "NoName"),false),((.o "NoBox"),(.o "NoName"),false),((.o "NoWay"),(.o "NoName"),false),((.o "NoWeights"),(.o "NoName"),false),((.o "TooMany"),(.o "NoName"),false),((.o "NoKind"),(.o "NoName"),false),((.o "NoFraction"),(.o "NoRow"),false),((.o "NoBox"),(.o "NoRow"),false),((.o "NoWay"),(.o "NoRow"),false),((.o "NoWeights"),(.o "NoRow"),false),((.o "TooMany"),(.o "NoRow"),false),((.o "NoKind"),(.o "NoRow"),false),((.o "NoFraction"),(.o "NoRule"),false),((.o "NoBox"),(.o "NoRule"),false),((.o "NoWay"),(.o "NoRule"),false),((.o "NoWeights"),(.o "NoRule"),false),((.o "TooMany"),(.o "NoRule"),false),((.o "NoKind"),(.o "NoRule"),false),((.o "NoFraction"),(.o "NoText"),false),((.o "NoBox"),(.o "NoText"),false),((.o "NoWay"),(.o "NoText"),false),((.o "NoWeights"),(.o "NoText"),false),((.o "TooMany"),(.o "NoText"),false),((.o "NoKind"),(.o "NoText"),false),((.o "NoFraction"),(.o "NoThing"),false),((.o "NoBox"),(.o "NoThing"),false),((.o "NoWay"),(.o "NoThing"),false),((.o "NoWeights"),(.o "NoThing"),false),((.o "TooMany"),(.o "NoThing"),false),((.o "NoKind"),(.o "NoThing"),false),((.o "NoFraction"),(.o "NoTree"),false),((.o "NoBox"),(.o "NoTree"),false),((.o "NoWay"),(.o "NoTree"),false),((.o "NoWeights"),(.o "NoTree"),false),((.o "TooMany"),(.o "NoTree"),false),((.o "NoKind"),(.o "NoTree"),false),((.o "NoFraction"),(.o "NoWay"),false),((.o "NoBox"),(.o "NoWay"),false),((.o "NoWay"),(.o "NoWay"),true),((.o "NoWeights"),(.o "NoWay"),false),((.o "TooMany"),(.o "NoWay"),false),((.o "NoKind"),(.o "NoWay"),false),((.o "NoFraction"),(.o "NoWeights"),false),((.o "NoBox"),(.o "NoWeights"),false),((.o "NoWay"),(.o "NoWeights"),false),((.o "NoWeights"),(.o "NoWeights"),true),((.o "TooMany"),(.o "NoWeights"),false),((.o "NoKind"),(.o "NoWeights"),false),((.o "NoFraction"),(.o "Taken"),false),((.o "NoBox"),(.o "Taken"),false),((.o "NoWay"),(.o "Taken"),false),((.o "NoWeights"),(.o "Taken"),false),((.o "TooMany"),(.o "Taken"),false),((.o "NoKind"),(.o "Taken"),false),((.o "NoFraction"),(.o "TooMany"),false),((.o "NoBox"),(.o "TooMany"),false),((.o "NoWay"),(.o "TooMany"),false),((.o "NoWeights"),(.o "TooMany"),false),((.o "TooMany"),(.o "TooMany"),true),((.o "NoKind"),(.o "TooMany"),false),((.o "NoFraction"),(.o "Unknown"),false),((.o "NoBox"),(.o "Unknown"),false),((.o "NoWay"),(.o "Unknown"),false),((.o "NoWeights"),(.o "Unknown"),false),((.o "TooMany"),(.o "Unknown"),false),((.o "NoKind"),(.o "Unknown"),false),((.o "NoFraction"),(.b "ValueError"),true),((.o "NoBox"),(.b "ValueError"),true),((.o "NoWay"),(.b "ValueError"),true),((.o "NoWeights"),(.b "ValueError"),true),((.o "TooMany"),(.b "ValueError"),true),((.o "NoKind"),(.b "ValueError"),true),((.b "NoneType"),(.b "bool"),false),((.b "bool"),(.b "bool"),true),((.b "int"),(.b "bool"),false),((.b "str"),(.b "bool"),false),((.b "tuple"),(.b "bool"),false),((.b "list"),(.b "bool"),false),((.b "dict"),(.b "bool"),false),((.b "NoneType"),(.b "int"),false),((.b "bool"),(.b "int"),true),((.b "int"),(.b "int"),true),((.b "str"),(.b "int"),false),((.b "tuple"),(.b "int"),false),((.b "list"),(.b "int"),false),((.b "dict"),(.b "int"),false),((.b "NoneType"),(.b "list"),false),((.b "bool"),(.b "list"),false),((.b "int"),(.b "list"),false),((.b "str"),(.b "list"),false),((.b "tuple"),(.b "list"),false),((.b "list"),(.b "list"),true),((.b "dict"),(.b "list"),false),((.b "NoneType"),(.b "str"),false),((.b "bool"),(.b "str"),false),((.b "int"),(.b "str"),false),((.b "str"),(.b "str"),true),((.b "tuple"),(.b "str"),false),((.b "list"),(.b "str"),false),((.b "dict"),(.b "str"),false),((.b "NoneType"),(.b "tuple"),false),((.b "bool"),(.b "tuple"),false),((.b "int"),(.b "tuple"),false),((.b "str"),(.b "tuple"),false),((.b "tuple"),(.b "tuple"),true),((.b "list"),(.b "tuple"),false),((.b "dict"),(.b "tuple"),false)]
def ff:List Str:=["NoFraction", "NoBox", "NoWay", "NoWeights", "TooMany", "NoKind"]
def aX:List (Str×Int):=[("order",6),("any",5)]
def fZ:D:=(.int 40)
def tG:D:=(.tup [(.str "across"),(.str "down")])
structure Txt (w:World) (K:W.Frag) (mg:Str->Option Value) (e_:Addr) (a_:Addr) (f_:Addr) (g_:Addr) (b_:Addr) (c_:Addr) (m_:Addr) (k_:Addr) (d_:Addr) (j_:Addr) (r_:Addr) (i_:Addr) (h_:Addr) (o_:Addr) (l_:Addr) (p_:Addr):Prop where
 u_:KDict w K mg "MOST_THINGS" aX
 B_:GC K mg "MOST_WEIGHTS" fZ
 LJ:mg "NoBox"=some (.ref f_)
 LZ:mg "NoCut"=some (.ref o_)
 D_:mg "NoFraction"=some (.ref a_)
 Lm:mg "NoKind"=some (.ref d_)
 LK:mg "NoName"=some (.ref j_)
 L5:mg "NoRow"=some (.ref p_)
 LN:mg "NoRule"=some (.ref k_)
 LO:mg "NoText"=some (.ref l_)
 Lo:mg "NoThing"=some (.ref h_)
 LP:mg "NoTree"=some (.ref m_)
 LQ:mg "NoWay"=some (.ref g_)
 A_:mg "NoWeights"=some (.ref b_)
 Lb:mg "RoomError"=some (.ref e_)
 L6:mg "Taken"=some (.ref r_)
 K9:mg "TooMany"=some (.ref c_)
 Lp:mg "Unknown"=some (.ref i_)
 G_:mg "ValueError"=none
 L_:GC K mg "WAYS" tG
 ML:mg "abs"=none
 MM:mg "all"=none
 Mr:mg "bool"=none
 MN:mg "int"=none
 n_:mg "isinstance"=none
 z_:mg "len"=none
 Lk:mg "list"=none
 M3:mg "min"=none
 H_:mg "range"=none
 MP:mg "str"=none
 MQ:mg "sum"=none
 C_:mg "tuple"=none
 M4:XHand K e_
 M5:∀ c ∈ ff,∀ Ce,mg c=some (.ref Ce)->W.mroIn K Ce (.ref e_)=some true
 J_:W.excIn K a_ eJ "ValueError.__new__"=true
 L7:W.excIn K f_ eJ "ValueError.__new__"=true
 L8:W.excIn K g_ eJ "ValueError.__new__"=true
 F_:W.excIn K b_ eJ "ValueError.__new__"=true
 Lf:W.excIn K c_ eJ "ValueError.__new__"=true
 LR:W.excIn K d_ eJ "ValueError.__new__"=true
 kits:KitsOk K mg kits
section
variable {P:Program}{w:World}{K:W.Frag}{mg:Str->Option Value}{base:Heap}{e_ a_ f_ g_ b_ c_ m_ k_ d_ j_ r_ i_ h_ o_ l_ p_:Addr}
def fO:PEx:=rA fZ (.int 40) (λ_ _=>.int _)
theorem n6 (e:E3):fO.G e=.ok (.val (.int 40)) e:=rfl
def jD:PEx:=rA tG (.tup [(.str "across"),(.str "down")]) (λ_ _=>.tup (.cons (.str _) (.cons (.str _) .nil)))
theorem CT (e:E3):jD.G e=.ok (.val (.tup [(.str "across"),(.str "down")])) e:=rfl
def j8:PSt:=
 (bg (qP ["cells", "at", "left"] (af (pFn kX (af (pSl (ai 0) oN (oS (aq 63))) ao)) (af (aq 0) (af (aq 0) ao)))))
def dQ:PFn:=fnP [false] 1 j8
theorem tX:dQ.ms=[false]:=rfl
theorem sP (T:Txt w K mg e_ a_ f_ g_ b_ c_ m_ k_ d_ j_ r_ i_ h_ o_ l_ p_) (D:Def K mg "_law_feed" kD)  : Callee P w K mg base "_law_feed" (0 + 1) ["_law_script"] (spD K mg 1 dQ.F):=by
 unfold dQ j8
 exact okP D ug (λ_ _ _ _ _ _=>ar1 λ_=>rfl) λf cdv A outer s H E hr=>
  (ay (aP (uM (iA (dn (sE (K:=K) rfl) oQ rfl T.Lk l8 (aa (fh rfl (ag 0) gq (gc aj)) ah)) (iA aj (iA aj u3))))))
def kA:PSt:=
 (aA (xIf (qOf (pOp bGt (pOp eQ (ai 0) (aQ "left")) (aq 0))) (aA (aR false 2 (pOp dB (pOp eQ (ai 0) (aQ "left")) (ai 1)))
  (aA (gX 0 seD (aQ "left") (pOp lg (pOp eQ (ai 0) (aQ "left")) (ai 1)))
  (bg (ai 2)))) xNx)
  (aA (aR false 3 (pOp eQ (ai 0) (aQ "at")))
  (aA (gX 0 seD (aQ "at") (pOp bp (ai 3) (aq 1)))
  (aA (aR false 4 (ai 3))
  (aA (xIf (qOf (pOp bGt (pFn dH (af (pOp eQ (ai 0) (aQ "cells")) ao)) (aq 0))) (aR false 4 (pOp bIx (pOp eQ (ai 0) (aQ "cells")) (pOp dB (ai 3) (pFn dH (af (pOp eQ (ai 0) (aQ "cells")) ao))))) xNx)
  (aA (xIf (qAn (qOf (pOp bGe (ai 4) (pOp oz (aq 10) (aq 18)))) (qOf (pOp bLt (ai 3) (pFn dH (af (pOp eQ (ai 0) (aQ "cells")) ao))))) (aA (gX 0 seD (aQ "left") (pOp lg (ai 4) (ai 1)))
  (bg (pOp dB (ai 4) (ai 1)))) xNx)
  (aA (aR false 5 (pOp dB (pOp bZ (pOp bp (pOp bp (pOp bp (pOp dB (ai 4) (aq 1000003)) (pOp bZ (pOp bZ (aq 61) (ai 3)) (ai 3))) (pOp bZ (aq 7) (ai 3))) (aq 1)) (aq 48271)) (aq 999983)))
  (bg (pOp dB (pOp lg (pOp dB (pOp bZ (pOp dB (pOp bp (pOp bZ (ai 5) (aq 69623)) (pOp bZ (aq 7919) (ai 3))) (aq 1999993)) (aq 16811)) (aq 524287)) (aq 5)) (ai 1))))))))))
def aF:PFn:=fnP [true,false] 6 kA
theorem t5:aF.ms=[true,false]:=rfl
theorem sS (T:Txt w K mg e_ a_ f_ g_ b_ c_ m_ k_ d_ j_ r_ i_ h_ o_ l_ p_) (D:Def K mg "_law_draw" kF)  : Callee P w K mg base "_law_draw" (0 + 1) ["_law_feed_here", "_law_many"] (spD K mg 2 aF.F):=by
 unfold aF kA
 exact okP D d6 (λ_ _ _ _ _ _=>ar2 λ_ _=>rfl) λf cdv A outer s H E hr=>
  (ar (bq (bz j4 kK (eP (fb hr) (ag 0) aC (λ_ _=>rfl)) aj (a8 _)) (ar (aM (i:=2) d6.nd rfl (by trivial) (aJ d4 eY (eP (fb hr) (ag 0) aC (λ_ _=>rfl)) (ag 1)))
   (ar (dZ (aJ iN lR (eP (fb hr) (ag 0) aC (λ_ _=>rfl)) (ag 1)) (ag 0) aC (ni (fb hr)) oO)
   (ay (aP (ag 2))))) aS)
   (ar (aM (i:=3) d6.nd rfl (by trivial) (eP (fb hr) (ag 0) aC (λ_ _=>rfl)))
   (ar (dZ (aJ (bw (K:=K) rfl) bt (ag 3) aj) (ag 0) aC (ni (fb hr)) oO)
   (ar (aM (i:=4) d6.nd rfl (by trivial) (ag 3))
   (ar (bq (bz j4 kK (aD (eh (K:=K) rfl) dq rfl T.z_ dh (aa (eP (fb hr) (ag 0) aC (λ_ _=>rfl)) ah)) aj (a8 _)) (ay (aM (i:=4) d6.nd rfl (by trivial) (aK (ixK (K:=K) rfl) aN (eP (fb hr) (ag 0) aC (λ_ _=>rfl)) (aJ d4 eY (ag 3) (aD (eh (K:=K) rfl) dq rfl T.z_ dh (aa (eP (fb hr) (ag 0) aC (λ_ _=>rfl)) ah))) (λ_ _=>rfl)))) aS)
   (ar (bq (ZW.dt (yw (bz vF we (ag 4) (aJ xQ wX aj aj) (a8 _)) (uN (bz qD qJ (ag 3) (aD (eh (K:=K) rfl) dq rfl T.z_ dh (aa (eP (fb hr) (ag 0) aC (λ_ _=>rfl)) ah)) (a8 _))))) (ar (dZ (aJ iN lR (ag 4) (ag 1)) (ag 0) aC (ni (fb hr)) oO)
   (ay (aP (aJ d4 eY (ag 4) (ag 1))))) aS)
   (ar (aM (i:=5) d6.nd rfl (by trivial) (aJ d4 eY (aJ cG cF (aJ (bw (K:=K) rfl) bt (aJ (bw (K:=K) rfl) bt (aJ (bw (K:=K) rfl) bt (aJ d4 eY (ag 4) aj) (aJ cG cF (aJ cG cF aj (ag 3)) (ag 3))) (aJ cG cF aj (ag 3))) aj) aj) aj))
   (ay (aP (aJ d4 eY (aJ iN lR (aJ d4 eY (aJ cG cF (aJ d4 eY (aJ (bw (K:=K) rfl) bt (aJ cG cF (ag 5) aj) (aJ cG cF aj (ag 3))) aj) aj) aj) aj) (ag 1)))))))))))
def dI:PSt:=
 (aA (aR true 1 (br (af (aU (af (aq 0) (af (aq 1) ao))) (af (aU (af (aq 0) (af (aq 1) ao))) (af (aU (af (aq 3) (af (aq 1) ao))) (af (aU (af (aq 2) (af (aq 1) ao))) ao))))))
  (aA (aR false 2 (aB aF (af (ai 0) (af (aq 4) ao))))
  (aA (aR false 3 (pOp bIx (br (af (aU (af (aq 2) (af (aq 4) ao))) (af (aU (af (aq 1) (af (aq 0) ao))) (af (aU (af (aq 1) (af (pUn iU (aq 2)) ao))) (af (aq 5) (af kh (af (aQ "1") (af (aU (af (pBl true) (af (aq 1) ao))) (af (aU (af (aq 1) (af (aq 1) (af (aq 1) ao)))) (af (br (af (aq 1) (af (aq 1) ao))) (af (aU (af (aq 0) (af (aq 2) ao))) ao))))))))))) (aB aF (af (ai 0) (af (aq 10) ao)))))
  (aA (gX 1 seL (ai 2) (ai 3))
  (aA (xIf (qOf (pOp bEq (aB aF (af (ai 0) (af (aq 3) ao))) (aq 0))) (aA (aR true 1 (br (af (aU (af (aq 0) (af (aq 1) ao))) (af (aU (af (aq 0) (af (aq 1) ao))) (af (aU (af (aq 3) (af (aq 1) ao))) (af (aU (af (aq 2) (af (aq 1) ao))) ao))))))
  (gX 1 seL (pOp bp (aq 2) (aB aF (af (ai 0) (af (aq 2) ao)))) (pOp bIx (br (af (aU (af (aq 0) (af (aq 1) ao))) (af (aU (af (pUn iU (aq 1)) (af (aq 3) ao))) ao))) (aB aF (af (ai 0) (af (aq 2) ao)))))) xNx)
  (aA (aR true 4 (br (af (pFn gh (af (ai 1) ao)) (af (pFn gh (af (ai 1) ao)) (af (pFn gh (af (ai 1) ao)) (af (pFn kX (af (ai 1) ao)) (af (pFn gh (af (pSl (ai 1) oN (oS (aq 3))) ao)) (af (pFn gh (af (pOp bp (ai 1) (pSl (ai 1) oN (oS (aq 1)))) ao)) (af kh (af (aU ao) (af (aq 7) (af (aQ "room") ao))))))))))))
  (aA (gX 4 seL (aq 8) (aU (af (aU (af (aq 0) (af (aq 1) ao))) (af (aU (af (aq 0) (af (aq 1) ao))) (af (aU (af (pUn iU (aq 1)) (af (aq 3) ao))) (af (aU (af (pUn iU (aq 2)) (af (aq 1) ao))) ao))))))
  (aA (gX 4 seL (aq 3) (br (af (aU (af (aq 0) (af (aq 1) ao))) (af (aU (af (aq 0) (af (aq 1) ao))) (af (aU (af (aq 1) (af (aq 1) ao))) (af (aU (af (aq 1) (af (aq 1) ao))) ao))))))
  (aA (gX 4 seL (aq 4) (aU (af (aU (af (aq 0) (af (aq 1) ao))) (af (aU (af (aq 0) (af (aq 1) ao))) (af (aU (af (aq 1) (af (aq 1) ao))) ao)))))
  (aA (gX 4 seL (aq 5) (aU (af (aU (af (aq 0) (af (aq 1) ao))) (af (aU (af (aq 0) (af (aq 1) ao))) (af (aU (af (aq 1) (af (aq 1) ao))) (af (aU (af (aq 1) (af (aq 1) ao))) (af (aU (af (aq 1) (af (aq 1) ao))) ao)))))))
  (bg (pOp bIx (ai 4) (aB aF (af (ai 0) (af (aq 10) ao)))))))))))))))
def c6:PFn:=fnP [true] 5 dI
theorem nt:c6.ms=[true]:=rfl
theorem mL (T:Txt w K mg e_ a_ f_ g_ b_ c_ m_ k_ d_ j_ r_ i_ h_ o_ l_ p_) (D:Def K mg "_law_odd_room" gk) (s_:Callee P w K mg base "_law_draw" 1 ["_law_feed_here", "_law_many"] (spD K mg 2 aF.F)):Callee P w K mg base "_law_odd_room" (1 + 1) ["_law_feed_here"] (spD K mg 1 c6.F):=by
 unfold c6 dI
 exact okP D cH (λ_ _ _ _ _ _=>ar1 λ_=>rfl) λf cdv A outer s H E hr=>
  (ar (aM (i:=1) cH.nd rfl (by trivial) (ba (by refine aa (aH (aa aj (aa aj ah))) ?_;refine aa (aH (aa aj (aa aj ah))) ?_;refine aa (aH (aa aj (aa aj ah))) ?_;refine aa (aH (aa aj (aa aj ah))) ?_;exact ah)))
   (ar (aM (i:=2) cH.nd rfl (by trivial) (aw s_ (hr.mono (by omega)) rfl (au aE) (aa (ag 0) (aa aj ah))))
   (ar (aM (i:=3) cH.nd rfl (by trivial) (aK (ixK (K:=K) rfl) aN (ba (by refine aa (aH (aa aj (aa aj ah))) ?_;refine aa (aH (aa aj (aa aj ah))) ?_;refine aa (aH (aa aj (aa (h9 fJ fN aj) ah))) ?_;refine aa aj ?_;refine aa iV ?_;refine aa aC ?_;refine aa (aH (aa gA (aa aj ah))) ?_;refine aa (aH (by refine aa aj ?_;refine aa aj ?_;refine aa aj ?_;exact ah)) ?_;refine aa (ba (aa aj (aa aj ah))) ?_;refine aa (aH (aa aj (aa aj ah))) ?_;exact ah)) (aw s_ (hr.mono (by omega)) rfl (au aE) (aa (ag 0) (aa aj ah))) (λ_ _=>rfl)))
   (ar (dZ (ag 3) (ag 1) (ag 2) fo fX)
   (ar (bq (bz (gm (K:=K) rfl hr.units) eL (aw s_ (hr.mono (by omega)) rfl (au aE) (aa (ag 0) (aa aj ah))) aj (a8 _)) (ar (aM (i:=1) cH.nd rfl (by trivial) (ba (by refine aa (aH (aa aj (aa aj ah))) ?_;refine aa (aH (aa aj (aa aj ah))) ?_;refine aa (aH (aa aj (aa aj ah))) ?_;refine aa (aH (aa aj (aa aj ah))) ?_;exact ah)))
   (ay (dZ (aK (ixK (K:=K) rfl) aN (ba (aa (aH (aa aj (aa aj ah))) (aa (aH (aa (h9 fJ fN aj) (aa aj ah))) ah))) (aw s_ (hr.mono (by omega)) rfl (au aE) (aa (ag 0) (aa aj ah))) (λ_ _=>rfl)) (ag 1) (aJ (bw (K:=K) rfl) bt aj (aw s_ (hr.mono (by omega)) rfl (au aE) (aa (ag 0) (aa aj ah)))) fo fX))) aS)
   (ar (aM (i:=4) cH.nd rfl (by trivial) (ba (by refine aa (dn (jP (K:=K) rfl) iF rfl T.C_ eA (aa (ag 1) ah)) ?_;refine aa (dn (jP (K:=K) rfl) iF rfl T.C_ eA (aa (ag 1) ah)) ?_;refine aa (dn (jP (K:=K) rfl) iF rfl T.C_ eA (aa (ag 1) ah)) ?_;refine aa (dn (sE (K:=K) rfl) oQ rfl T.Lk l8 (aa (ag 1) ah)) ?_;refine aa (dn (jP (K:=K) rfl) iF rfl T.C_ eA (aa (fh rfl (ag 1) gq (gc aj)) ah)) ?_;refine aa (dn (jP (K:=K) rfl) iF rfl T.C_ eA (aa (aJ (bw (K:=K) rfl) bt (ag 1) (fh rfl (ag 1) gq (gc aj))) ah)) ?_;refine aa iV ?_;refine aa (aH ah) ?_;refine aa aj ?_;refine aa aC ?_;exact ah)))
   (ar (dZ (aH (by refine aa (aH (aa aj (aa aj ah))) ?_;refine aa (aH (aa aj (aa aj ah))) ?_;refine aa (aH (aa (h9 fJ fN aj) (aa aj ah))) ?_;refine aa (aH (aa (h9 fJ fN aj) (aa aj ah))) ?_;exact ah)) (ag 4) aj fo fX)
   (ar (dZ (ba (by refine aa (aH (aa aj (aa aj ah))) ?_;refine aa (aH (aa aj (aa aj ah))) ?_;refine aa (aH (aa aj (aa aj ah))) ?_;refine aa (aH (aa aj (aa aj ah))) ?_;exact ah)) (ag 4) aj fo fX)
   (ar (dZ (aH (by refine aa (aH (aa aj (aa aj ah))) ?_;refine aa (aH (aa aj (aa aj ah))) ?_;refine aa (aH (aa aj (aa aj ah))) ?_;exact ah)) (ag 4) aj fo fX)
   (ar (dZ (aH (by refine aa (aH (aa aj (aa aj ah))) ?_;refine aa (aH (aa aj (aa aj ah))) ?_;refine aa (aH (aa aj (aa aj ah))) ?_;refine aa (aH (aa aj (aa aj ah))) ?_;refine aa (aH (aa aj (aa aj ah))) ?_;exact ah)) (ag 4) aj fo fX)
   (ay (aP (aK (ixK (K:=K) rfl) aN (ag 4) (aw s_ (hr.mono (by omega)) rfl (au aE) (aa (ag 0) (aa aj ah))) (λ_ _=>rfl))))))))))))))
def cT:PSt:=
 (aA (aR true 1 (pLC (ml (af (pOp bp (aq 1) (aB aF (af (ai 0) (af (aq 5) ao)))) ao)) [none,some 0] (by decide) (gtN 0) qY (pOp bp (aq 1) (aB aF (af (ai 1) (af (aq 9) ao))))))
  (aA (aR false 2 (aB aF (af (ai 0) (af (pFn dH (af (ai 1) ao)) ao))))
  (aA (gX 1 seL (ai 2) (pOp bIx (br (af (aq 0) (af (pUn iU (aq 1)) (af (pBl true) (af kh (af (aQ "2") (af (aU (af (aq 1) ao)) (af (br (af (aq 1) ao)) (af (pUn iU (pOp oz (aq 10) (aq 20))) ao))))))))) (aB aF (af (ai 0) (af (aq 8) ao)))))
  (bg (pOp bIx (br (af (ai 1) (af (ai 1) (af (ai 1) (af (br ao) (af (aU (af (aq 1) (af (aq 2) ao))) (af kh (af (aq 3) (af (aQ "12") (af pD0 ao)))))))))) (aB aF (af (ai 0) (af (aq 9) ao))))))))
def cc:PFn:=fnP [true] 3 cT
theorem lB:cc.ms=[true]:=rfl
theorem kT (T:Txt w K mg e_ a_ f_ g_ b_ c_ m_ k_ d_ j_ r_ i_ h_ o_ l_ p_) (D:Def K mg "_law_odd_weights" dE) (s_:Callee P w K mg base "_law_draw" 1 ["_law_feed_here", "_law_many"] (spD K mg 2 aF.F)):Callee P w K mg base "_law_odd_weights" (1 + 1) ["_law_feed_here"] (spD K mg 1 cc.F):=by
 unfold cc cT
 exact okP D en (λ_ _ _ _ _ _=>ar1 λ_=>rfl) λf cdv A outer s H E hr=>
  (ar (wc (iT:=1) ["_law_feed_here", "_law_weights", "_law_at"] (av dE).names ["_law_k", "_law_feed_here"] [none,some 0] rfl en.nd rfl (by trivial) (jj rfl T.H_ (aa (aJ (bw (K:=K) rfl) bt aj (aw s_ (hr.mono (by omega)) rfl (au aE) (aa (ag 0) (aa aj ah)))) ah)) (λ_ _ _ _ _=>(aV (i:=0) (show List.Nodup (["_law_k", "_law_feed_here"]:List Str) from by decide) rfl (by trivial))) (λ_ _ _ _ _=>(aJ (bw (K:=K) rfl) bt aj (aw s_ (hr.mono (by omega)) rfl jW (aa (ag 1) (aa aj ah))))))
   (ar (aM (i:=2) en.nd rfl (by trivial) (aw s_ (hr.mono (by omega)) rfl (au aE) (aa (ag 0) (aa (aD (eh (K:=K) rfl) dq rfl T.z_ dh (aa (ag 1) ah)) ah))))
   (ar (dZ (aK (ixK (K:=K) rfl) aN (ba (by refine aa aj ?_;refine aa (h9 fJ fN aj) ?_;refine aa gA ?_;refine aa iV ?_;refine aa aC ?_;refine aa (aH (aa aj ah)) ?_;refine aa (ba (aa aj ah)) ?_;refine aa (h9 fJ fN (aJ xQ wX aj aj)) ?_;exact ah)) (aw s_ (hr.mono (by omega)) rfl (au aE) (aa (ag 0) (aa aj ah))) (λ_ _=>rfl)) (ag 1) (ag 2) fo fX)
   (ay (aP (aK (ixK (K:=K) rfl) aN (ba (by refine aa (ag 1) ?_;refine aa (ag 1) ?_;refine aa (ag 1) ?_;refine aa (ba ah) ?_;refine aa (aH (aa aj (aa aj ah))) ?_;refine aa iV ?_;refine aa aj ?_;refine aa aC ?_;refine aa KH ?_;exact ah)) (aw s_ (hr.mono (by omega)) rfl (au aE) (aa (ag 0) (aa aj ah))) (λ_ _=>rfl)))))))
def kq:PSt:=
 (bg (lO (pFn (az kits) (af (ai 0) (af (pTy "int") ao))) (pNot (pFn (az kits) (af (ai 0) (af (pTy "bool") ao))))))
def cB:PFn:=fnP [false] 1 kq
theorem tW:cB.ms=[false]:=rfl
theorem rS (T:Txt w K mg e_ a_ f_ g_ b_ c_ m_ k_ d_ j_ r_ i_ h_ o_ l_ p_) (D:Def K mg "is_whole" kJ)  : Callee P w K mg base "is_whole" (0 + 1) ["thing"] (spD K mg 1 cB.F):=by
 unfold cB kq
 exact okP D tT (λ_ _ _ _ _ _=>ar1 λ_=>rfl) λf cdv A outer s H E hr=>
  (ay (aP (jR (aD (bR (K:=K) rfl) (bG T.kits) rfl T.n_ aG (aa (ag 0) (aa (hX rfl T.MN yF) ah))) (jH (Iy (aD (bR (K:=K) rfl) (bG T.kits) rfl T.n_ aG (aa (ag 0) (aa (hX rfl T.Mr C0) ah))))))))
def cW:PSt:=
 (om 0 1 (af (ai 1) (af (pOp dB (ai 0) (ai 1)) ao)))
def fq:PSt:=
 (aA (om 0 1 (af (pFn qN (af (ai 0) ao)) (af (pFn qN (af (ai 1) ao)) ao)))
  (aA (xWh (qOf (pOp bNe (ai 1) (aq 0))) (cW))
  (bg (ai 0))))
def bC:PFn:=fnP [false,false] 2 fq
theorem mD:bC.ms=[false,false]:=rfl
theorem lj (T:Txt w K mg e_ a_ f_ g_ b_ c_ m_ k_ d_ j_ r_ i_ h_ o_ l_ p_) (D:Def K mg "common_divisor" fj)  : Callee P w K mg base "common_divisor" (0 + 1) ["one", "other"] (spD K mg 2 bC.F):=by
 unfold bC fq cW
 exact okP D eU (λ_ _ _ _ _ _=>ar2 λ_ _=>rfl) λf cdv A outer s H E hr=>
  (ar (rY (i:=0) (j:=1) rfl eU.nd rfl rfl (by decide) rfl rfl (aa (aD so yn rfl T.ML xD (aa (ag 0) ah)) (aa (aD so yn rfl T.ML xD (aa (ag 1) ah)) ah)) rfl)
   (ar (AS lK (bz (vm (K:=K) rfl hr.units) qG (ag 1) aj (a8 _)) (ay (rY (i:=0) (j:=1) rfl eU.nd rfl rfl (by decide) rfl rfl (aa (ag 1) (aa (aJ d4 eY (ag 0) (ag 1)) ah)) rfl)))
   (ay (aP (ag 0)))))
def gQ:PSt:=
 (aA (xIf (qO (qNo (qOf (pFn (az kits) (af (ai 0) (af (pTy "tuple") ao))))) (qOf (pOp bNe (pFn dH (af (ai 0) ao)) (aq 2)))) (bg (pBl false)) xNx)
  (aA (l9 (ai 0) (gtX (gtT 2 (dA (gtN 1) (dA (gtN 2) jo)))))
  (aA (xIf (qO (qNo (qOf (aB cB (af (ai 1) ao)))) (qNo (qOf (aB cB (af (ai 2) ao))))) (bg (pBl false)) xNx)
  (bg (lO (pOp bGe (ai 2) (aq 1)) (pOp bEq (aB bC (af (ai 1) (af (ai 2) ao))) (aq 1)))))))
def cq:PFn:=fnP [false] 3 gQ
theorem oW:cq.ms=[false]:=rfl
theorem n8 (T:Txt w K mg e_ a_ f_ g_ b_ c_ m_ k_ d_ j_ r_ i_ h_ o_ l_ p_) (D:Def K mg "is_fraction" gW) (K_:Callee P w K mg base "is_whole" 1 ["thing"] (spD K mg 1 cB.F)) (w_:Callee P w K mg base "common_divisor" 1 ["one", "other"] (spD K mg 2 bC.F)):Callee P w K mg base "is_fraction" (1 + 1) ["thing"] (spD K mg 1 cq.F):=by
 unfold cq gQ
 exact okP D gj (λ_ _ _ _ _ _=>ar1 λ_=>rfl) λf cdv A outer s H E hr=>
  (ar (bq (ZW.dt (ke (dJ (cU (aD (bR (K:=K) rfl) (bG T.kits) rfl T.n_ aG (aa (ag 0) (aa (hX rfl T.C_ eA) ah))))) (iI (bz (vm (K:=K) rfl hr.units) qG (aD (eh (K:=K) rfl) dq rfl T.z_ dh (aa (ag 0) ah)) aj (a8 _))))) (ay (aP gA)) aS)
   (ar (l6 (ag 0) (ZG.weak (k8 rfl rfl (bO (aV (i:=1) gj.nd rfl (by trivial)) (bO (aV (i:=2) gj.nd rfl (by trivial)) iu)))))
   (ar (bq (ZW.dt (ke (dJ (cU (aw K_ (hr.mono (by omega)) rfl (au aE) (aa (ag 1) ah)))) (iI (dJ (cU (aw K_ (hr.mono (by omega)) rfl (au aE) (aa (ag 2) ah))))))) (ay (aP gA)) aS)
   (ay (aP (jR (eW vF we (ag 2) aj (a8 _)) (jH (eW (gm (K:=K) rfl hr.units) eL (aw w_ (hr.mono (by omega)) rfl (au aE) (aa (ag 1) (aa (ag 2) ah))) aj (a8 _)))))))))
def mY:PSt:=
 (aA (xIf (qO (qNo (qOf (pFn (az kits) (af (ai 0) (af (pTy "tuple") ao))))) (qOf (pOp bNe (pFn dH (af (ai 0) ao)) (aq 4)))) (bg (pBl false)) xNx)
  (aA (xIf (qNo (qOf (pFn qF (af (pLC (dC (ai 0)) [none] (by decide) (gtN 0) qY (aB cq (af (ai 0) ao))) ao)))) (bg (pBl false)) xNx)
  (bg (lO (pOp bGt (pOp bIx (pOp bIx (ai 0) (aq 2)) (aq 0)) (aq 0)) (pOp bGt (pOp bIx (pOp bIx (ai 0) (aq 3)) (aq 0)) (aq 0))))))
def ft:PFn:=fnP [false] 1 mY
theorem yg:ft.ms=[false]:=rfl
theorem wO (T:Txt w K mg e_ a_ f_ g_ b_ c_ m_ k_ d_ j_ r_ i_ h_ o_ l_ p_) (D:Def K mg "is_box" kx) (LV:Callee P w K mg base "is_fraction" 2 ["thing"] (spD K mg 1 cq.F)):Callee P w K mg base "is_box" (2 + 1) ["thing"] (spD K mg 1 ft.F):=by
 unfold ft mY
 exact okP D xg (λ_ _ _ _ _ _=>ar1 λ_=>rfl) λf cdv A outer s H E hr=>
  (ar (bq (ZW.dt (ke (dJ (cU (aD (bR (K:=K) rfl) (bG T.kits) rfl T.n_ aG (aa (ag 0) (aa (hX rfl T.C_ eA) ah))))) (iI (bz (vm (K:=K) rfl hr.units) qG (aD (eh (K:=K) rfl) dq rfl T.z_ dh (aa (ag 0) ah)) aj (a8 _))))) (ay (aP gA)) aS)
   (ar (bq (dJ (cU (aD (allK (K:=K) rfl rfl) xE rfl T.MM xa (aa (j9 ["thing"] (av kx).names ["part"] [none] rfl (dO rfl (ag 0)) (λ_ _ _ _ _=>(aV (i:=0) (show List.Nodup (["part"]:List Str) from by decide) rfl (by trivial))) (λ_ _ _ _ _=>(aw LV (hr.mono (by omega)) rfl jW (aa (ag 0) ah)))) ah)))) (ay (aP gA)) aS)
   (ay (aP (jR (eW j4 kK (aK (ixK (K:=K) rfl) aN (aK (ixK (K:=K) rfl) aN (ag 0) aj (λ_ _=>rfl)) aj (λ_ _=>rfl)) aj (a8 _)) (jH (eW j4 kK (aK (ixK (K:=K) rfl) aN (aK (ixK (K:=K) rfl) aN (ag 0) aj (λ_ _=>rfl)) aj (λ_ _=>rfl)) aj (a8 _))))))))
def ju:PSt:=
 (xIf (qNo (qOf (aB ft (af (ai 0) ao)))) (eV "NoBox" (af (aQ "this is no box") ao)) xNx)
def bE:PFn:=fnP [false] 1 ju
theorem sJ:bE.ms=[false]:=rfl
theorem qy (T:Txt w K mg e_ a_ f_ g_ b_ c_ m_ k_ d_ j_ r_ i_ h_ o_ l_ p_) (D:Def K mg "check_box" jr) (M6:Callee P w K mg base "is_box" 3 ["thing"] (spD K mg 1 ft.F)):Callee P w K mg base "check_box" (3 + 1) ["thing"] (spD K mg 1 bE.F):=by
 unfold bE ju
 exact okP D tL (λ_ _ _ _ _ _=>ar1 λ_=>rfl) λf cdv A outer s H E hr=>
  (ay (bq (dJ (cU (aw M6 (hr.mono (by omega)) rfl (au aE) (aa (ag 0) ah)))) (ay (eF rfl rz1 rfl T.LJ T.L7 (aa aC ah))) aS))
def jA:PSt:=
 (bg (lO (aB cB (af (ai 0) ao)) (pOp bGe (ai 0) (aq 1))))
def c5:PFn:=fnP [false] 1 jA
theorem sV:c5.ms=[false]:=rfl
theorem qx (T:Txt w K mg e_ a_ f_ g_ b_ c_ m_ k_ d_ j_ r_ i_ h_ o_ l_ p_) (D:Def K mg "is_weight" jq) (K_:Callee P w K mg base "is_whole" 1 ["thing"] (spD K mg 1 cB.F)):Callee P w K mg base "is_weight" (1 + 1) ["thing"] (spD K mg 1 c5.F):=by
 unfold c5 jA
 exact okP D qZ (λ_ _ _ _ _ _=>ar1 λ_=>rfl) λf cdv A outer s H E hr=>
  (ay (aP (jR (aw K_ (hr.mono (by omega)) rfl (au aE) (aa (ag 0) ah)) (jH (eW vF we (ag 0) aj (a8 _))))))
def fT:PSt:=
 (aA (xIf (qO (qNo (qOf (pFn (az kits) (af (ai 0) (af (pTy "list") ao))))) (qOf (pOp bEq (pFn dH (af (ai 0) ao)) (aq 0)))) (eV "NoWeights" (af (aQ "this is no list of weights") ao)) xNx)
  (aA (xIf (qNo (qOf (pFn qF (af (pLC (dC (ai 0)) [none] (by decide) (gtN 0) qY (aB c5 (af (ai 0) ao))) ao)))) (eV "NoWeights" (af (aQ "a weight is a whole number from 1 on") ao)) xNx)
  (xIf (qOf (pOp bGt (pFn dH (af (ai 0) ao)) fO)) (eV "TooMany" (af (aQ "these are more weights than forty") ao)) xNx)))
def bx:PFn:=fnP [false] 1 fT
theorem nc:bx.ms=[false]:=rfl
theorem mE (T:Txt w K mg e_ a_ f_ g_ b_ c_ m_ k_ d_ j_ r_ i_ h_ o_ l_ p_) (D:Def K mg "check_weights" d8) (Mh:Callee P w K mg base "is_weight" 2 ["thing"] (spD K mg 1 c5.F)):Callee P w K mg base "check_weights" (2 + 1) ["thing"] (spD K mg 1 bx.F):=by
 unfold bx fT fO
 exact okP D m6 (λ_ _ _ _ _ _=>ar1 λ_=>rfl) λf cdv A outer s H E hr=>
  (ar (bq (ZW.dt (ke (dJ (cU (aD (bR (K:=K) rfl) (bG T.kits) rfl T.n_ aG (aa (ag 0) (aa (hX rfl T.Lk l8) ah))))) (iI (bz (gm (K:=K) rfl hr.units) eL (aD (eh (K:=K) rfl) dq rfl T.z_ dh (aa (ag 0) ah)) aj (a8 _))))) (ay (eF rfl rz1 rfl T.A_ T.F_ (aa aC ah))) aS)
   (ar (bq (dJ (cU (aD (allK (K:=K) rfl rfl) xE rfl T.MM xa (aa (j9 ["thing"] (av d8).names ["weight"] [none] rfl (dO rfl (ag 0)) (λ_ _ _ _ _=>(aV (i:=0) (show List.Nodup (["weight"]:List Str) from by decide) rfl (by trivial))) (λ_ _ _ _ _=>(aw Mh (hr.mono (by omega)) rfl jW (aa (ag 0) ah)))) ah)))) (ay (eF rfl rz1 rfl T.A_ T.F_ (aa aC ah))) aS)
   (ay (bq (bz j4 kK (aD (eh (K:=K) rfl) dq rfl T.z_ dh (aa (ag 0) ah)) (va rfl T.B_) (a8 _)) (ay (eF rfl rz1 rfl T.K9 T.Lf (aa aC ah))) aS))))
def iG:PSt:=
 (xIf (qO (qNo (qOf (pFn (az kits) (af (ai 0) (af (pTy "str") ao))))) (qOf (pOp (wb "MOST_THINGS" aX) (ai 0) (dS "MOST_THINGS")))) (eV "NoKind" (af (aQ "this is no kind of trees") ao)) xNx)
def b8:PFn:=fnP [false] 1 iG
theorem qh:b8.ms=[false]:=rfl
theorem oD (T:Txt w K mg e_ a_ f_ g_ b_ c_ m_ k_ d_ j_ r_ i_ h_ o_ l_ p_) (D:Def K mg "check_kind" iO)  : Callee P w K mg base "check_kind" (0 + 1) ["kind"] (spD K mg 1 b8.F):=by
 unfold b8 iG
 exact okP D ql (λ_ _ _ _ _ _=>ar1 λ_=>rfl) λf cdv A outer s H E hr=>
  (ay (bq (ZW.dt (ke (dJ (cU (aD (bR (K:=K) rfl) (bG T.kits) rfl T.n_ aG (aa (ag 0) (aa (hX rfl T.MP xf) ah))))) (iI (bz (CA rfl rfl rfl T.u_) C5 (ag 0) (cE rfl T.u_.ex) (by with_unfolding_all rfl))))) (ay (eF rfl rz1 rfl T.Lm T.LR (aa aC ah))) aS))
def cS:PSt:=
 (aA (dk (aB bE (af (ai 0) ao)))
  (aA (dk (aB bx (af (ai 1) ao)))
  (aA (dk (aB b8 (af (ai 2) ao)))
  (xIf (qOf (pOp bGt (pFn dH (af (ai 1) ao)) (pOp (nQ "MOST_THINGS" aX) (dS "MOST_THINGS") (ai 2)))) (eV "TooMany" (af (aQ "these are more things than the kind is asked of") ao)) xNx))))
def aY:PFn:=fnP [false,false,false] 3 cS
theorem oG:aY.ms=[false,false,false]:=rfl
theorem nJ (T:Txt w K mg e_ a_ f_ g_ b_ c_ m_ k_ d_ j_ r_ i_ h_ o_ l_ p_) (D:Def K mg "check_asked" gP) (x_:Callee P w K mg base "check_box" 4 ["thing"] (spD K mg 1 bE.F)) (y_:Callee P w K mg base "check_weights" 3 ["thing"] (spD K mg 1 bx.F)) (L9:Callee P w K mg base "check_kind" 1 ["kind"] (spD K mg 1 b8.F)):Callee P w K mg base "check_asked" (4 + 1) ["room", "weights", "kind"] (spD K mg 3 aY.F):=by
 unfold aY cS
 exact okP D pC (λ_ _ _ _ _ _=>ar3 λ_ _ _=>rfl) λf cdv A outer s H E hr=>
  (ar (cx (aw x_ (hr.mono (by omega)) rfl (au aE) (aa (ag 0) ah)))
   (ar (cx (aw y_ (hr.mono (by omega)) rfl (au aE) (aa (ag 1) ah)))
   (ar (cx (aw L9 (hr.mono (by omega)) rfl (au aE) (aa (ag 2) ah)))
   (ay (bq (bz j4 kK (aD (eh (K:=K) rfl) dq rfl T.z_ dh (aa (ag 1) ah)) (aK (CW rfl rfl rfl T.u_) B0 (cE rfl T.u_.ex) (ag 2) (λ_ _=>rfl)) (a8 _)) (ay (eF rfl rz1 rfl T.K9 T.Lf (aa aC ah))) aS)))))
def lE:PSt:=
 (bg (pOp bLt (pOp bZ (pOp bIx (ai 0) (aq 0)) (pOp bIx (ai 1) (aq 1))) (pOp bZ (pOp bIx (ai 1) (aq 0)) (pOp bIx (ai 0) (aq 1)))))
def bP:PFn:=fnP [false,false] 2 lE
theorem vU:bP.ms=[false,false]:=rfl
theorem uj (T:Txt w K mg e_ a_ f_ g_ b_ c_ m_ k_ d_ j_ r_ i_ h_ o_ l_ p_) (D:Def K mg "is_less" lI)  : Callee P w K mg base "is_less" (0 + 1) ["one", "other"] (spD K mg 2 bP.F):=by
 unfold bP lE
 exact okP D vd (λ_ _ _ _ _ _=>ar2 λ_ _=>rfl) λf cdv A outer s H E hr=>
  (ay (aP (eW qD qJ (aJ cG cF (aK (ixK (K:=K) rfl) aN (ag 0) aj (λ_ _=>rfl)) (aK (ixK (K:=K) rfl) aN (ag 1) aj (λ_ _=>rfl))) (aJ cG cF (aK (ixK (K:=K) rfl) aN (ag 1) aj (λ_ _=>rfl)) (aK (ixK (K:=K) rfl) aN (ag 0) aj (λ_ _=>rfl))) (a8 _))))
def kN:PSt:=
 (aA (dk (aB bE (af (ai 0) ao)))
  (aA (xIf (qOf (aB bP (af (pOp bIx (ai 0) (aq 2)) (af (pOp bIx (ai 0) (aq 3)) ao)))) (bg (aQ "down")) xNx)
  (bg (aQ "across"))))
def dW:PFn:=fnP [false] 1 kN
theorem uk:dW.ms=[false]:=rfl
theorem se (T:Txt w K mg e_ a_ f_ g_ b_ c_ m_ k_ d_ j_ r_ i_ h_ o_ l_ p_) (D:Def K mg "long_way" j5) (x_:Callee P w K mg base "check_box" 4 ["thing"] (spD K mg 1 bE.F)) (v_:Callee P w K mg base "is_less" 1 ["one", "other"] (spD K mg 2 bP.F)):Callee P w K mg base "long_way" (4 + 1) ["box"] (spD K mg 1 dW.F):=by
 unfold dW kN
 exact okP D uh (λ_ _ _ _ _ _=>ar1 λ_=>rfl) λf cdv A outer s H E hr=>
  (ar (cx (aw x_ (hr.mono (by omega)) rfl (au aE) (aa (ag 0) ah)))
   (ar (bq (cU (aw v_ (hr.mono (by omega)) rfl (au aE) (aa (aK (ixK (K:=K) rfl) aN (ag 0) aj (λ_ _=>rfl)) (aa (aK (ixK (K:=K) rfl) aN (ag 0) aj (λ_ _=>rfl)) ah)))) (ay (aP aC)) aS)
   (ay (aP aC))))
def kM:PSt:=
 (aA (xIf (qOf (pOp bEq (ai 1) (aq 0))) (eV "NoFraction" (af (aQ "a fraction has no bottom of 0") ao)) xNx)
  (aA (aR false 2 (aB bC (af (ai 0) (af (ai 1) ao))))
  (aA (xIf (qOf (pOp bLt (ai 1) (aq 0))) (aR false 2 (pUn iU (ai 2))) xNx)
  (bg (aU (af (pOp lg (ai 0) (ai 2)) (af (pOp lg (ai 1) (ai 2)) ao)))))))
def bH:PFn:=fnP [false,false] 3 kM
theorem tZ:bH.ms=[false,false]:=rfl
theorem sR (T:Txt w K mg e_ a_ f_ g_ b_ c_ m_ k_ d_ j_ r_ i_ h_ o_ l_ p_) (D:Def K mg "fraction" kO) (w_:Callee P w K mg base "common_divisor" 1 ["one", "other"] (spD K mg 2 bC.F)):Callee P w K mg base "fraction" (1 + 1) ["top", "bottom"] (spD K mg 2 bH.F):=by
 unfold bH kM
 exact okP D jy (λ_ _ _ _ _ _=>ar2 λ_ _=>rfl) λf cdv A outer s H E hr=>
  (ar (bq (bz (gm (K:=K) rfl hr.units) eL (ag 1) aj (a8 _)) (ay (eF rfl rz1 rfl T.D_ T.J_ (aa aC ah))) aS)
   (ar (aM (i:=2) jy.nd rfl (by trivial) (aw w_ (hr.mono (by omega)) rfl (au aE) (aa (ag 0) (aa (ag 1) ah))))
   (ar (bq (bz qD qJ (ag 1) aj (a8 _)) (ay (aM (i:=2) jy.nd rfl (by trivial) (h9 fJ fN (ag 2)))) aS)
   (ay (aP (aH (aa (aJ iN lR (ag 0) (ag 2)) (aa (aJ iN lR (ag 1) (ag 2)) ah))))))))
def rZ:PSt:=
 (bg (aB bH (af (pOp bZ (pOp bIx (ai 0) (aq 0)) (pOp bIx (ai 1) (aq 1))) (af (pOp bZ (pOp bIx (ai 0) (aq 1)) (pOp bIx (ai 1) (aq 0))) ao))))
def gL:PFn:=fnP [false,false] 2 rZ
theorem C3:gL.ms=[false,false]:=rfl
theorem z8 (T:Txt w K mg e_ a_ f_ g_ b_ c_ m_ k_ d_ j_ r_ i_ h_ o_ l_ p_) (D:Def K mg "over" rW) (t_:Callee P w K mg base "fraction" 2 ["top", "bottom"] (spD K mg 2 bH.F)):Callee P w K mg base "over" (2 + 1) ["one", "other"] (spD K mg 2 gL.F):=by
 unfold gL rZ
 exact okP D Ed (λ_ _ _ _ _ _=>ar2 λ_ _=>rfl) λf cdv A outer s H E hr=>
  (ay (aP (aw t_ (hr.mono (by omega)) rfl (au aE) (aa (aJ cG cF (aK (ixK (K:=K) rfl) aN (ag 0) aj (λ_ _=>rfl)) (aK (ixK (K:=K) rfl) aN (ag 1) aj (λ_ _=>rfl))) (aa (aJ cG cF (aK (ixK (K:=K) rfl) aN (ag 0) aj (λ_ _=>rfl)) (aK (ixK (K:=K) rfl) aN (ag 1) aj (λ_ _=>rfl))) ah)))))
def oF:PSt:=
 (aA (xIf (qOf (pOp bEq (aB dW (af (ai 0) ao)) (aQ "across"))) (bg (aB gL (af (pOp bIx (ai 0) (aq 2)) (af (pOp bIx (ai 0) (aq 3)) ao)))) xNx)
  (bg (aB gL (af (pOp bIx (ai 0) (aq 3)) (af (pOp bIx (ai 0) (aq 2)) ao)))))
def fA:PFn:=fnP [false] 1 oF
theorem zy:fA.ms=[false]:=rfl
theorem xj (T:Txt w K mg e_ a_ f_ g_ b_ c_ m_ k_ d_ j_ r_ i_ h_ o_ l_ p_) (D:Def K mg "shape" pv) (Mv:Callee P w K mg base "long_way" 5 ["box"] (spD K mg 1 dW.F)) (M9:Callee P w K mg base "over" 3 ["one", "other"] (spD K mg 2 gL.F)):Callee P w K mg base "shape" (5 + 1) ["box"] (spD K mg 1 fA.F):=by
 unfold fA oF
 exact okP D AN (λ_ _ _ _ _ _=>ar1 λ_=>rfl) λf cdv A outer s H E hr=>
  (ar (bq (bz (gm (K:=K) rfl hr.units) eL (aw Mv (hr.mono (by omega)) rfl (au aE) (aa (ag 0) ah)) aC (a8 _)) (ay (aP (aw M9 (hr.mono (by omega)) rfl (au aE) (aa (aK (ixK (K:=K) rfl) aN (ag 0) aj (λ_ _=>rfl)) (aa (aK (ixK (K:=K) rfl) aN (ag 0) aj (λ_ _=>rfl)) ah))))) aS)
   (ay (aP (aw M9 (hr.mono (by omega)) rfl (au aE) (aa (aK (ixK (K:=K) rfl) aN (ag 0) aj (λ_ _=>rfl)) (aa (aK (ixK (K:=K) rfl) aN (ag 0) aj (λ_ _=>rfl)) ah))))))
def kB:PSt:=
 (aR false 2 (pOp bp (ai 2) (pLC (dC (ai 2)) [none,some 3] (by decide) (gtN 0) qY (pOp bp (ai 0) (br (af (ai 1) ao))))))
def je:PSt:=
 (aA (xIf (qOf (pOp bEq (ai 1) (aQ "order"))) (bg (pLC (vK (af (aq 1) (af (pFn dH (af (ai 0) ao)) ao))) [none,some 0] (by decide) (gtN 0) qY (pSl (ai 1) oN (oS (ai 0))))) xNx)
  (aA (aR false 2 (br (af (pSl (ai 0) oN (oS (aq 1))) ao)))
  (aA (jZ (dC (pSl (ai 0) (oS (aq 1)) oN)) (gtN 3) (kB))
  (bg (pSl (ai 2) oN (oS (pUn iU (aq 1))))))))
def c4:PFn:=fnP [false,false] 4 je
theorem vE:c4.ms=[false,false]:=rfl
theorem um (T:Txt w K mg e_ a_ f_ g_ b_ c_ m_ k_ d_ j_ r_ i_ h_ o_ l_ p_) (D:Def K mg "lots_of" gG)  : Callee P w K mg base "lots_of" (0 + 1) ["numbers", "kind"] (spD K mg 2 c4.F):=by
 unfold c4 je kB
 exact okP D ij (λ_ _ _ _ _ _=>ar2 λ_ _=>rfl) λf cdv A outer s H E hr=>
  (ar (bq (bz (gm (K:=K) rfl hr.units) eL (ag 1) aC (a8 _)) (ay (aP (j9 ["numbers", "kind", "lots", "number"] (av gG).names ["many", "numbers"] [none,some 0] rfl (yp rfl T.H_ (aa aj (aa (aD (eh (K:=K) rfl) dq rfl T.z_ dh (aa (ag 0) ah)) ah))) (λ_ _ _ _ _=>(aV (i:=0) (show List.Nodup (["many", "numbers"]:List Str) from by decide) rfl (by trivial))) (λ_ _ _ _ _=>(fh rfl (ag 1) gq (gc (ag 0))))))) aS)
   (ar (aM (i:=2) ij.nd rfl (by trivial) (ba (aa (fh rfl (ag 0) gq (gc aj)) ah)))
   (ar (iD lK rfl (dO rfl (fh rfl (ag 0) (gc aj) gq)) (aV (i:=3) ij.nd rfl (by trivial)) (ay (aM (i:=2) ij.nd rfl (by trivial) (aJ (bw (K:=K) rfl) bt (ag 2) (j9 ["numbers", "kind", "lots", "number"] (av gG).names ["lot", "number"] [none,some 3] rfl (dO rfl (ag 2)) (λ_ _ _ _ _=>(aV (i:=0) (show List.Nodup (["lot", "number"]:List Str) from by decide) rfl (by trivial))) (λ_ _ _ _ _=>(aJ (bw (K:=K) rfl) bt (ag 0) (ba (aa (ag 1) ah)))))))))
   (ay (aP (fh rfl (ag 2) gq (gc (h9 fJ fN aj))))))))
def ia:PSt:=
 (dk (kj 2 dR (af (aU (af (ai 4) (af (pFn kX (af (ai 3) ao)) (af (pLC (dC (ai 0)) [none,some 3] (by decide) (gtN 0) (qOf (pOp o7 (ai 0) (ai 1))) (ai 0)) ao)))) ao)))
def fL:PSt:=
 (jZ (dC jD) (gtN 4) (ia))
def lQ:PSt:=
 (aA (aR true 2 (br ao))
  (aA (jZ (dC (aB c4 (af (ai 0) (af (ai 1) ao)))) (gtN 3) (fL))
  (bg (ai 2))))
def dP:PFn:=fnP [false,false] 5 lQ
theorem vo:dP.ms=[false,false]:=rfl
theorem tU (T:Txt w K mg e_ a_ f_ g_ b_ c_ m_ k_ d_ j_ r_ i_ h_ o_ l_ p_) (D:Def K mg "cuts_of" ji) (MU:Callee P w K mg base "lots_of" 1 ["numbers", "kind"] (spD K mg 2 c4.F)):Callee P w K mg base "cuts_of" (1 + 1) ["numbers", "kind"] (spD K mg 2 dP.F):=by
 unfold dP lQ fL ia jD
 exact okP D ie (λ_ _ _ _ _ _=>ar2 λ_ _=>rfl) λf cdv A outer s H E hr=>
  (ar (aM (i:=2) ie.nd rfl (by trivial) (ba ah))
   (ar (iD lK rfl (dO rfl (aw MU (hr.mono (by omega)) rfl (au aE) (aa (ag 0) (aa (ag 1) ah)))) (aV (i:=3) ie.nd rfl (by trivial)) (ay (iD lK rfl (dO rfl (va rfl T.L_)) (aV (i:=4) ie.nd rfl (by trivial)) (ay (cx (jb rfl PySem.F.slot_list_append PySem.F.type_list_append ez et (ag 2) (aa (aH (by refine aa (ag 4) ?_;refine aa (dn (sE (K:=K) rfl) oQ rfl T.Lk l8 (aa (ag 3) ah)) ?_;refine aa (Dx ["numbers", "kind", "cuts", "lot", "way"] (av ji).names ["number", "lot"] [none,some 3] rfl (dO rfl (ag 0)) (λ_ _ _ _ _=>(aV (i:=0) (show List.Nodup (["number", "lot"]:List Str) from by decide) rfl (by trivial))) (λ_ _ _ _ _=>(bz (G4 (K:=K) rfl) EG (ag 0) (ag 1) (by with_unfolding_all rfl))) (λ_ _ _ _ _=>(ag 0))) ?_;exact ah)) ah)))))))
   (ay (aP (ag 2)))))
def mX:PSt:=
 (bg (lO (pFn (az kits) (af (ai 0) (af (pTy "str") ao))) (pOp bIn (ai 0) jD)))
def fi:PFn:=fnP [false] 1 mX
theorem yS:fi.ms=[false]:=rfl
theorem wR (T:Txt w K mg e_ a_ f_ g_ b_ c_ m_ k_ d_ j_ r_ i_ h_ o_ l_ p_) (D:Def K mg "is_way" mQ)  : Callee P w K mg base "is_way" (0 + 1) ["thing"] (spD K mg 1 fi.F):=by
 unfold fi mX jD
 exact okP D yd (λ_ _ _ _ _ _=>ar1 λ_=>rfl) λf cdv A outer s H E hr=>
  (ay (aP (jR (aD (bR (K:=K) rfl) (bG T.kits) rfl T.n_ aG (aa (ag 0) (aa (hX rfl T.MP xf) ah))) (jH (eW (inK (K:=K) rfl) Ki (ag 0) (va rfl T.L_) (by with_unfolding_all rfl))))))
def jw:PSt:=
 (xIf (qNo (qOf (aB fi (af (ai 0) ao)))) (eV "NoWay" (af (aQ "this is no way") ao)) xNx)
def dw:PFn:=fnP [false] 1 jw
theorem tq:dw.ms=[false]:=rfl
theorem qw (T:Txt w K mg e_ a_ f_ g_ b_ c_ m_ k_ d_ j_ r_ i_ h_ o_ l_ p_) (D:Def K mg "check_way" jv) (M7:Callee P w K mg base "is_way" 1 ["thing"] (spD K mg 1 fi.F)):Callee P w K mg base "check_way" (1 + 1) ["way"] (spD K mg 1 dw.F):=by
 unfold dw jw
 exact okP D sg (λ_ _ _ _ _ _=>ar1 λ_=>rfl) λf cdv A outer s H E hr=>
  (ay (bq (dJ (cU (aw M7 (hr.mono (by omega)) rfl (au aE) (aa (ag 0) ah)))) (ay (eF rfl rz1 rfl T.LQ T.L8 (aa aC ah))) aS))
def og:PSt:=
 (bg (aB bH (af (pOp bp (pOp bZ (pOp bIx (ai 0) (aq 0)) (pOp bIx (ai 1) (aq 1))) (pOp bZ (pOp bIx (ai 1) (aq 0)) (pOp bIx (ai 0) (aq 1)))) (af (pOp bZ (pOp bIx (ai 0) (aq 1)) (pOp bIx (ai 1) (aq 1))) ao))))
def fW:PFn:=fnP [false,false] 2 og
theorem zc:fW.ms=[false,false]:=rfl
theorem xV (T:Txt w K mg e_ a_ f_ g_ b_ c_ m_ k_ d_ j_ r_ i_ h_ o_ l_ p_) (D:Def K mg "added" oM) (t_:Callee P w K mg base "fraction" 2 ["top", "bottom"] (spD K mg 2 bH.F)):Callee P w K mg base "added" (2 + 1) ["one", "other"] (spD K mg 2 fW.F):=by
 unfold fW og
 exact okP D z9 (λ_ _ _ _ _ _=>ar2 λ_ _=>rfl) λf cdv A outer s H E hr=>
  (ay (aP (aw t_ (hr.mono (by omega)) rfl (au aE) (aa (aJ (bw (K:=K) rfl) bt (aJ cG cF (aK (ixK (K:=K) rfl) aN (ag 0) aj (λ_ _=>rfl)) (aK (ixK (K:=K) rfl) aN (ag 1) aj (λ_ _=>rfl))) (aJ cG cF (aK (ixK (K:=K) rfl) aN (ag 1) aj (λ_ _=>rfl)) (aK (ixK (K:=K) rfl) aN (ag 0) aj (λ_ _=>rfl)))) (aa (aJ cG cF (aK (ixK (K:=K) rfl) aN (ag 0) aj (λ_ _=>rfl)) (aK (ixK (K:=K) rfl) aN (ag 1) aj (λ_ _=>rfl))) ah)))))
def oq:PSt:=
 (bg (aB bH (af (pOp bZ (pOp bIx (ai 0) (aq 0)) (pOp bIx (ai 1) (aq 0))) (af (pOp bZ (pOp bIx (ai 0) (aq 1)) (pOp bIx (ai 1) (aq 1))) ao))))
def fC:PFn:=fnP [false,false] 2 oq
theorem zK:fC.ms=[false,false]:=rfl
theorem ya (T:Txt w K mg e_ a_ f_ g_ b_ c_ m_ k_ d_ j_ r_ i_ h_ o_ l_ p_) (D:Def K mg "times" oj) (t_:Callee P w K mg base "fraction" 2 ["top", "bottom"] (spD K mg 2 bH.F)):Callee P w K mg base "times" (2 + 1) ["one", "other"] (spD K mg 2 fC.F):=by
 unfold fC oq
 exact okP D yX (λ_ _ _ _ _ _=>ar2 λ_ _=>rfl) λf cdv A outer s H E hr=>
  (ay (aP (aw t_ (hr.mono (by omega)) rfl (au aE) (aa (aJ cG cF (aK (ixK (K:=K) rfl) aN (ag 0) aj (λ_ _=>rfl)) (aK (ixK (K:=K) rfl) aN (ag 1) aj (λ_ _=>rfl))) (aa (aJ cG cF (aK (ixK (K:=K) rfl) aN (ag 0) aj (λ_ _=>rfl)) (aK (ixK (K:=K) rfl) aN (ag 1) aj (λ_ _=>rfl))) ah)))))
def gM:PSt:=
 (aA (aR false 7 (aB fW (af (ai 0) (af (aB fC (af (ai 1) (af (aB bH (af (ai 4) (af (ai 3) ao))) ao))) ao))))
  (aA (dk (kj 5 dR (af (aU (af (ai 7) (af (aB fC (af (ai 1) (af (aB bH (af (ai 6) (af (ai 3) ao))) ao))) ao))) ao)))
  (zH 4 AJ (ai 6))))
def mT:PSt:=
 (aA (aR false 3 (pFn qH (af (ai 2) ao)))
  (aA (aR false 4 (aq 0))
  (aA (aR true 5 (br ao))
  (aA (jZ (dC (ai 2)) (gtN 6) (gM))
  (bg (ai 5))))))
def eG:PFn:=fnP [false,false,false] 8 mT
theorem yU:eG.ms=[false,false,false]:=rfl
theorem wC (T:Txt w K mg e_ a_ f_ g_ b_ c_ m_ k_ d_ j_ r_ i_ h_ o_ l_ p_) (D:Def K mg "shares" m5) (M_:Callee P w K mg base "added" 3 ["one", "other"] (spD K mg 2 fW.F)) (M0:Callee P w K mg base "times" 3 ["one", "other"] (spD K mg 2 fC.F)) (t_:Callee P w K mg base "fraction" 2 ["top", "bottom"] (spD K mg 2 bH.F)):Callee P w K mg base "shares" (3 + 1) ["start", "length", "weights"] (spD K mg 3 eG.F):=by
 unfold eG mT gM
 exact okP D eu (λ_ _ _ _ _ _=>ar3 λ_ _ _=>rfl) λf cdv A outer s H E hr=>
  (ar (aM (i:=3) eu.nd rfl (by trivial) (aD (pQ (K:=K) rfl rfl) xp rfl T.MQ yA (aa (ag 2) ah)))
   (ar (aM (i:=4) eu.nd rfl (by trivial) aj)
   (ar (aM (i:=5) eu.nd rfl (by trivial) (ba ah))
   (ar (iD lK rfl (dO rfl (ag 2)) (aV (i:=6) eu.nd rfl (by trivial)) (ar (aM (i:=7) eu.nd rfl (by trivial) (aw M_ (hr.mono (by omega)) rfl (au aE) (aa (ag 0) (aa (aw M0 (hr.mono (by omega)) rfl (au aE) (aa (ag 1) (aa (aw t_ (hr.mono (by omega)) rfl (au aE) (aa (ag 4) (aa (ag 3) ah))) ah))) ah))))
   (ar (cx (jb rfl PySem.F.slot_list_append PySem.F.type_list_append ez et (ag 5) (aa (aH (aa (ag 7) (aa (aw M0 (hr.mono (by omega)) rfl (au aE) (aa (ag 1) (aa (aw t_ (hr.mono (by omega)) rfl (au aE) (aa (ag 6) (aa (ag 3) ah))) ah))) ah))) ah)))
   (ay (GZ (i:=4) eu.nd rfl (by trivial) (ag 6) GH Fw)))))
   (ay (aP (ag 5)))))))
def mO:PSt:=
 (aA (dk (aB bE (af (ai 0) ao)))
  (aA (dk (aB dw (af (ai 1) ao)))
  (aA (dk (aB bx (af (ai 2) ao)))
  (aA (l9 (ai 0) (gtX (gtT 4 (dA (gtN 3) (dA (gtN 4) (dA (gtN 5) (dA (gtN 6) jo)))))))
  (aA (xIf (qOf (pOp bEq (ai 1) (aQ "across"))) (bg (pLC (dC (aB eG (af (ai 3) (af (ai 5) (af (ai 2) ao))))) [none,none,some 4,some 6] (by decide) (gtT 2 (dA (gtN 0) (dA (gtN 1) jo))) qY (aU (af (ai 0) (af (ai 2) (af (ai 1) (af (ai 3) ao))))))) xNx)
  (bg (pLC (dC (aB eG (af (ai 4) (af (ai 6) (af (ai 2) ao))))) [none,none,some 3,some 5] (by decide) (gtT 2 (dA (gtN 0) (dA (gtN 1) jo))) qY (aU (af (ai 2) (af (ai 0) (af (ai 3) (af (ai 1) ao))))))))))))
def eB:PFn:=fnP [false,false,false] 7 mO
theorem xH:eB.ms=[false,false,false]:=rfl
theorem wB (T:Txt w K mg e_ a_ f_ g_ b_ c_ m_ k_ d_ j_ r_ i_ h_ o_ l_ p_) (D:Def K mg "parted" iK) (x_:Callee P w K mg base "check_box" 4 ["thing"] (spD K mg 1 bE.F)) (Mg:Callee P w K mg base "check_way" 2 ["way"] (spD K mg 1 dw.F)) (y_:Callee P w K mg base "check_weights" 3 ["thing"] (spD K mg 1 bx.F)) (Mw:Callee P w K mg base "shares" 4 ["start", "length", "weights"] (spD K mg 3 eG.F)):Callee P w K mg base "parted" (4 + 1) ["box", "way", "weights"] (spD K mg 3 eB.F):=by
 unfold eB mO
 exact okP D gK (λ_ _ _ _ _ _=>ar3 λ_ _ _=>rfl) λf cdv A outer s H E hr=>
  (ar (cx (aw x_ (hr.mono (by omega)) rfl (au aE) (aa (ag 0) ah)))
   (ar (cx (aw Mg (hr.mono (by omega)) rfl (au aE) (aa (ag 1) ah)))
   (ar (cx (aw y_ (hr.mono (by omega)) rfl (au aE) (aa (ag 2) ah)))
   (ar (l6 (ag 0) (ZG.weak (k8 rfl rfl (bO (aV (i:=3) gK.nd rfl (by trivial)) (bO (aV (i:=4) gK.nd rfl (by trivial)) (bO (aV (i:=5) gK.nd rfl (by trivial)) (bO (aV (i:=6) gK.nd rfl (by trivial)) iu)))))))
   (ar (bq (bz (gm (K:=K) rfl hr.units) eL (ag 1) aC (a8 _)) (ay (aP (j9 ["box", "way", "weights", "left", "top", "wide", "high"] (av iK).names ["begin", "length", "top", "high"] [none,none,some 4,some 6] rfl (dO rfl (aw Mw (hr.mono (by omega)) rfl (au aE) (by refine aa (ag 3) ?_;refine aa (ag 5) ?_;refine aa (ag 2) ?_;exact ah))) (λ_ _ _ _ _=>(k8 rfl rfl (bO (aV (i:=0) (show List.Nodup (["begin", "length", "top", "high"]:List Str) from by decide) rfl (by trivial)) (bO (aV (i:=1) (show List.Nodup (["begin", "length", "top", "high"]:List Str) from by decide) rfl (by trivial)) iu)))) (λ_ _ _ _ _=>(aH (by refine aa (ag 0) ?_;refine aa (ag 2) ?_;refine aa (ag 1) ?_;refine aa (ag 3) ?_;exact ah)))))) aS)
   (ay (aP (j9 ["box", "way", "weights", "left", "top", "wide", "high"] (av iK).names ["begin", "length", "left", "wide"] [none,none,some 3,some 5] rfl (dO rfl (aw Mw (hr.mono (by omega)) rfl (au aE) (by refine aa (ag 4) ?_;refine aa (ag 6) ?_;refine aa (ag 2) ?_;exact ah))) (λ_ _ _ _ _=>(k8 rfl rfl (bO (aV (i:=0) (show List.Nodup (["begin", "length", "left", "wide"]:List Str) from by decide) rfl (by trivial)) (bO (aV (i:=1) (show List.Nodup (["begin", "length", "left", "wide"]:List Str) from by decide) rfl (by trivial)) iu)))) (λ_ _ _ _ _=>(aH (by refine aa (ag 2) ?_;refine aa (ag 0) ?_;refine aa (ag 3) ?_;refine aa (ag 1) ?_;exact ah)))))))))))
def jn:PSt:=
 (bg (pFn qH (af (pLC (dC (ai 0)) [none,some 1] (by decide) (gtN 0) qY (pOp bIx (ai 1) (ai 0))) ao)))
def cA:PFn:=fnP [false,false] 2 jn
theorem sf:cA.ms=[false,false]:=rfl
theorem qt (T:Txt w K mg e_ a_ f_ g_ b_ c_ m_ k_ d_ j_ r_ i_ h_ o_ l_ p_) (D:Def K mg "weight_of" gD)  : Callee P w K mg base "weight_of" (0 + 1) ["numbers", "weights"] (spD K mg 2 cA.F):=by
 unfold cA jn
 exact okP D rH (λ_ _ _ _ _ _=>ar2 λ_ _=>rfl) λf cdv A outer s H E hr=>
  (ay (aP (aD (pQ (K:=K) rfl rfl) xp rfl T.MQ yA (aa (j9 ["numbers", "weights"] (av gD).names ["number", "weights"] [none,some 1] rfl (dO rfl (ag 0)) (λ_ _ _ _ _=>(aV (i:=0) (show List.Nodup (["number", "weights"]:List Str) from by decide) rfl (by trivial))) (λ_ _ _ _ _=>(aK (ixK (K:=K) rfl) aN (ag 1) (ag 0) (λ_ _=>rfl)))) ah))))
def kG:PSt:=
 (aA (l9 (ai 0) (gtX (gtT 3 (dA (gtN 3) (dA (gtN 4) (dA (gtN 5) jo))))))
  (bg (aB eB (af (ai 1) (af (ai 3) (af (br (af (aB cA (af (ai 4) (af (ai 2) ao))) (af (aB cA (af (ai 5) (af (ai 2) ao))) ao))) ao))))))
def cX:PFn:=fnP [false,false,false] 6 kG
theorem ua:cX.ms=[false,false,false]:=rfl
theorem rq (T:Txt w K mg e_ a_ f_ g_ b_ c_ m_ k_ d_ j_ r_ i_ h_ o_ l_ p_) (D:Def K mg "parts_by" kI) (M8:Callee P w K mg base "parted" 5 ["box", "way", "weights"] (spD K mg 3 eB.F)) (LS:Callee P w K mg base "weight_of" 1 ["numbers", "weights"] (spD K mg 2 cA.F)):Callee P w K mg base "parts_by" (5 + 1) ["cut", "room", "weights"] (spD K mg 3 cX.F):=by
 unfold cX kG
 exact okP D gy (λ_ _ _ _ _ _=>ar3 λ_ _ _=>rfl) λf cdv A outer s H E hr=>
  (ar (l6 (ag 0) (ZG.weak (k8 rfl rfl (bO (aV (i:=3) gy.nd rfl (by trivial)) (bO (aV (i:=4) gy.nd rfl (by trivial)) (bO (aV (i:=5) gy.nd rfl (by trivial)) iu))))))
   (ay (aP (aw M8 (hr.mono (by omega)) rfl (au aE) (by refine aa (ag 1) ?_;refine aa (ag 3) ?_;refine aa (ba (aa (aw LS (hr.mono (by omega)) rfl (au aE) (aa (ag 4) (aa (ag 2) ah))) (aa (aw LS (hr.mono (by omega)) rfl (au aE) (aa (ag 5) (aa (ag 2) ah))) ah))) ?_;exact ah)))))
def fY:PSt:=
 (xIf (qOf (aB bP (af (ai 1) (af (ai 2) ao)))) (aR false 1 (ai 2)) xNx)
def gY:PSt:=
 (aA (aR false 1 (pOp bIx (ai 0) (aq 0)))
  (aA (jZ (dC (ai 0)) (gtN 2) (fY))
  (bg (ai 1))))
def cj:PFn:=fnP [false] 3 gY
theorem ph:cj.ms=[false]:=rfl
theorem nV (T:Txt w K mg e_ a_ f_ g_ b_ c_ m_ k_ d_ j_ r_ i_ h_ o_ l_ p_) (D:Def K mg "greatest_of" gZ) (v_:Callee P w K mg base "is_less" 1 ["one", "other"] (spD K mg 2 bP.F)):Callee P w K mg base "greatest_of" (1 + 1) ["fractions"] (spD K mg 1 cj.F):=by
 unfold cj gY fY
 exact okP D eK (λ_ _ _ _ _ _=>ar1 λ_=>rfl) λf cdv A outer s H E hr=>
  (ar (aM (i:=1) eK.nd rfl (by trivial) (aK (ixK (K:=K) rfl) aN (ag 0) aj (λ_ _=>rfl)))
   (ar (iD lK rfl (dO rfl (ag 0)) (aV (i:=2) eK.nd rfl (by trivial)) (ay (bq (cU (aw v_ (hr.mono (by omega)) rfl (au aE) (aa (ag 1) (aa (ag 2) ah)))) (ay (aM (i:=1) eK.nd rfl (by trivial) (ag 2))) aS)))
   (ay (aP (ag 1)))))
def c7 (s:PFx [false,false,false,false]):PSt:=
 (aA (l9 (aB cX (af (ai 5) (af (ai 0) (af (ai 1) ao)))) (gtX (gtU 2 (dA (gtN 6) (dA (gtN 7) jo)))))
  (aA (aR false 8 (aB s.fn (af (ai 6) (af (ai 1) (af (ai 2) (af (pOp bIx (ai 5) (aq 1)) ao))))))
  (aA (xIf (qAn (qOf (pOp Ah (ai 4) kh)) (qNo (qOf (aB bP (af (pOp bIx (ai 8) (aq 0)) (af (pOp bIx (ai 4) (aq 0)) ao)))))) xCt xNx)
  (aA (aR false 9 (aB s.fn (af (ai 7) (af (ai 1) (af (ai 2) (af (pOp bIx (ai 5) (aq 2)) ao))))))
  (aA (aR false 10 (aB cj (af (br (af (pOp bIx (ai 8) (aq 0)) (af (pOp bIx (ai 9) (aq 0)) ao))) ao)))
  (xIf (qO (qOf (pOp bIs (ai 4) kh)) (qOf (aB bP (af (ai 10) (af (pOp bIx (ai 4) (aq 0)) ao))))) (aR false 4 (aU (af (ai 10) (af (aU (af (pOp bIx (ai 5) (aq 0)) (af (aU (af (pOp bIx (ai 8) (aq 1)) (af (pOp bIx (ai 9) (aq 1)) ao))) ao))) ao)))) xNx))))))
def d7 (s:PFx [false,false,false,false]):PSt:=
 (aA (xIf (qOf (pOp bEq (pFn dH (af (ai 3) ao)) (aq 1))) (bg (aU (af (aB fA (af (ai 0) ao)) (af (pOp bIx (ai 3) (aq 0)) ao)))) xNx)
  (aA (aR false 4 kh)
  (aA (jZ (dC (aB dP (af (ai 3) (af (ai 2) ao)))) (gtN 5) (c7 s))
  (bg (ai 4)))))
def bU:Nat->PFx [false,false,false,false]
 | 0=>PFx.none [false,false,false,false]
 | n + 1=>PFx.of [false,false,false,false] 11 (d7 (bU n))
theorem qg {n:Nat} (T:Txt w K mg e_ a_ f_ g_ b_ c_ m_ k_ d_ j_ r_ i_ h_ o_ l_ p_) (D:Def K mg "best_tree" gz) (LY:Callee P w K mg base "shape" 6 ["box"] (spD K mg 1 fA.F)) (Ln:Callee P w K mg base "cuts_of" 2 ["numbers", "kind"] (spD K mg 2 dP.F)) (Lg:Callee P w K mg base "parts_by" 6 ["cut", "room", "weights"] (spD K mg 3 cX.F)) (La:Callee P w K mg base "best_tree" (8 + n) ["room", "weights", "kind", "numbers"] (spD K mg 4 (bU n).F)) (v_:Callee P w K mg base "is_less" 1 ["one", "other"] (spD K mg 2 bP.F)) (Em:Callee P w K mg base "greatest_of" 2 ["fractions"] (spD K mg 1 cj.F)):Callee P w K mg base "best_tree" (8 + n + 1) ["room", "weights", "kind", "numbers"] (spD K mg 4 (bU (n + 1)).F):=by
 show Callee P w K mg base _ _ _ (spD K mg _ (PFx.of [false,false,false,false] 11 (d7 (bU n))).F)
 unfold d7 c7
 exact okX D bM (λ_ _ _ _ _ _=>ar4 λ_ _ _ _=>rfl) λf cdv A outer s H E hr=>
  (ar (bq (bz (gm (K:=K) rfl hr.units) eL (aD (eh (K:=K) rfl) dq rfl T.z_ dh (aa (ag 3) ah)) aj (a8 _)) (ay (aP (aH (aa (aw LY (hr.mono (by omega)) rfl (au aE) (aa (ag 0) ah)) (aa (aK (ixK (K:=K) rfl) aN (ag 3) aj (λ_ _=>rfl)) ah))))) aS)
   (ar (aM (i:=4) bM.nd rfl (by trivial) iV)
   (ar (iD lK rfl (dO rfl (aw Ln (hr.mono (by omega)) rfl (au aE) (aa (ag 3) (aa (ag 2) ah)))) (aV (i:=5) bM.nd rfl (by trivial)) (ar (l6 (aw Lg (hr.mono (by omega)) rfl (au aE) (by refine aa (ag 5) ?_;refine aa (ag 0) ?_;refine aa (ag 1) ?_;exact ah)) (ZG.weak (EI rfl rfl (bO (aV (i:=6) bM.nd rfl (by trivial)) (bO (aV (i:=7) bM.nd rfl (by trivial)) iu)))))
   (ar (aM (i:=8) bM.nd rfl (by trivial) (aw La (hr.mono (by omega)) rfl (au aE) (by refine aa (ag 6) ?_;refine aa (ag 1) ?_;refine aa (ag 2) ?_;refine aa (aK (ixK (K:=K) rfl) aN (ag 5) aj (λ_ _=>rfl)) ?_;exact ah)))
   (ar (bq (ZW.dt (yw (bz Cu ET (ag 4) iV (a8 _)) (uN (dJ (cU (aw v_ (hr.mono (by omega)) rfl (au aE) (aa (aK (ixK (K:=K) rfl) aN (ag 8) aj (λ_ _=>rfl)) (aa (aK (ixK (K:=K) rfl) aN (ag 4) aj (λ_ _=>rfl)) ah)))))))) (ay uf) aS)
   (ar (aM (i:=9) bM.nd rfl (by trivial) (aw La (hr.mono (by omega)) rfl (au aE) (by refine aa (ag 7) ?_;refine aa (ag 1) ?_;refine aa (ag 2) ?_;refine aa (aK (ixK (K:=K) rfl) aN (ag 5) aj (λ_ _=>rfl)) ?_;exact ah)))
   (ar (aM (i:=10) bM.nd rfl (by trivial) (aw Em (hr.mono (by omega)) rfl (au aE) (aa (ba (aa (aK (ixK (K:=K) rfl) aN (ag 8) aj (λ_ _=>rfl)) (aa (aK (ixK (K:=K) rfl) aN (ag 9) aj (λ_ _=>rfl)) ah))) ah)))
   (ay (bq (ZW.dt (ke (bz Gk Kf (ag 4) iV (a8 _)) (iI (cU (aw v_ (hr.mono (by omega)) rfl (au aE) (aa (ag 10) (aa (aK (ixK (K:=K) rfl) aN (ag 4) aj (λ_ _=>rfl)) ah))))))) (ay (aM (i:=4) bM.nd rfl (by trivial) (aH (aa (ag 10) (aa (aH (aa (aK (ixK (K:=K) rfl) aN (ag 5) aj (λ_ _=>rfl)) (aa (aH (aa (aK (ixK (K:=K) rfl) aN (ag 8) aj (λ_ _=>rfl)) (aa (aK (ixK (K:=K) rfl) aN (ag 9) aj (λ_ _=>rfl)) ah))) ah))) ah))))) aS))))))))
   (ay (aP (ag 4))))))
theorem jL (T:Txt w K mg e_ a_ f_ g_ b_ c_ m_ k_ d_ j_ r_ i_ h_ o_ l_ p_) (D:Def K mg "best_tree" gz) (LY:Callee P w K mg base "shape" 6 ["box"] (spD K mg 1 fA.F)) (Ln:Callee P w K mg base "cuts_of" 2 ["numbers", "kind"] (spD K mg 2 dP.F)) (Lg:Callee P w K mg base "parts_by" 6 ["cut", "room", "weights"] (spD K mg 3 cX.F)) (v_:Callee P w K mg base "is_less" 1 ["one", "other"] (spD K mg 2 bP.F)) (Em:Callee P w K mg base "greatest_of" 2 ["fractions"] (spD K mg 1 cj.F)):∀ n,Callee P w K mg base "best_tree" (8 + n) ["room", "weights", "kind", "numbers"] (spD K mg 4 (bU n).F)
 | 0=>ok0 D bM (λ_ _ _ _ _ _=>ar4 λ_ _ _ _=>rfl)
 | n + 1=>qg T D LY Ln Lg (jL T D LY Ln Lg v_ Em n) v_ Em
def cR:PSt:=
 (aA (dk (aB aY (af (ai 0) (af (ai 1) (af (ai 2) ao)))))
  (bg (aB (bU 7).fn (af (ai 0) (af (ai 1) (af (ai 2) (af (pFn qI (af (pFn dH (af (ai 1) ao)) ao)) ao)))))))
def aT:PFn:=fnP [false,false,false] 3 cR
theorem oT:aT.ms=[false,false,false]:=rfl
theorem nL (T:Txt w K mg e_ a_ f_ g_ b_ c_ m_ k_ d_ j_ r_ i_ h_ o_ l_ p_) (D:Def K mg "least_worst" gO) (LU:Callee P w K mg base "check_asked" 5 ["room", "weights", "kind"] (spD K mg 3 aY.F)) (La:Callee P w K mg base "best_tree" 15 ["room", "weights", "kind", "numbers"] (spD K mg 4 (bU 7).F)):Callee P w K mg base "least_worst" (15 + 1) ["room", "weights", "kind"] (spD K mg 3 aT.F):=by
 unfold aT cR
 exact okP D pk (λ_ _ _ _ _ _=>ar3 λ_ _ _=>rfl) λf cdv A outer s H E hr=>
  (ar (cx (aw LU (hr.mono (by omega)) rfl (au aE) (by refine aa (ag 0) ?_;refine aa (ag 1) ?_;refine aa (ag 2) ?_;exact ah)))
   (ay (aP (aw La (hr.mono (by omega)) rfl (au aE) (by refine aa (ag 0) ?_;refine aa (ag 1) ?_;refine aa (ag 2) ?_;refine aa (Ga rfl rfl T.Lk rfl T.H_ (aa (aD (eh (K:=K) rfl) dq rfl T.z_ dh (aa (ag 1) ah)) ah)) ?_;exact ah)))))
def eO:PSt:=
 (aA (aR false 1 (br (af (pFn (az kits) (af (ai 0) (af (dS "NoBox") ao))) (af (pFn (az kits) (af (ai 0) (af (dS "NoWeights") ao))) (af (pFn (az kits) (af (ai 0) (af (dS "TooMany") ao))) ao)))))
  (aA (aR false 1 (pOp bp (ai 1) (br (af (pFn (az kits) (af (ai 0) (af (dS "NoKind") ao))) (af (pFn (az kits) (af (ai 0) (af (dS "NoRule") ao))) (af (pFn (az kits) (af (ai 0) (af (dS "NoThing") ao))) ao))))))
  (aA (aR false 1 (pOp bp (ai 1) (br (af (pFn (az kits) (af (ai 0) (af (dS "NoCut") ao))) (af (pFn (az kits) (af (ai 0) (af (dS "NoText") ao))) (af (pFn (az kits) (af (ai 0) (af (dS "NoRow") ao))) ao))))))
  (aA (aR false 1 (pOp bp (ai 1) (br (af (pFn (az kits) (af (ai 0) (af (dS "NoName") ao))) (af (pFn (az kits) (af (ai 0) (af (dS "Taken") ao))) (af (pFn (az kits) (af (ai 0) (af (dS "Unknown") ao))) ao))))))
  (aA (aR false 1 (pOp bp (ai 1) (br (af (pFn (az kits) (af (ai 0) (af (dS "NoFraction") ao))) (af (pFn (az kits) (af (ai 0) (af (dS "NoWay") ao))) (af (pFn (az kits) (af (ai 0) (af (dS "NoTree") ao))) ao))))))
  (aA (aR false 2 (br (af (aQ "box") (af (aQ "weights") (af (aQ "many") (af (aQ "kind") (af (aQ "rule") (af (aQ "thing") (af (aQ "cut") (af (aQ "text") (af (aQ "row") (af (aQ "name") (af (aQ "taken") (af (aQ "unknown") ao))))))))))))))
  (aA (aR false 2 (pOp bp (ai 2) (br (af (aQ "fraction") (af (aQ "way") (af (aQ "tree") ao))))))
  (aA (xIf (qO (qOf (pOp bNe (qQ iw (ai 1) (af (pBl true) ao)) (aq 1))) (qNo (qOf (pFn (az kits) (af (ai 0) (af (pTy "ValueError") ao)))))) (bg (aQ "odd")) xNx)
  (bg (pOp bIx (ai 2) (qQ iq (ai 1) (af (pBl true) ao))))))))))))
def bI:PFn:=fnP [false] 3 eO
theorem ub:bI.ms=[false]:=rfl
theorem sy (T:Txt w K mg e_ a_ f_ g_ b_ c_ m_ k_ d_ j_ r_ i_ h_ o_ l_ p_) (D:Def K mg "_law_word" kL)  : CalleeU P w K mg base "_law_word" (0 + 1) ["_law_error"] (spD K mg 1 bI.F):=by
 unfold bI eO
 exact okPU D cZ (λ_ _ _ _ _ _=>ar1 λ_=>rfl) λf cdv A outer s H E hr=>
  (ar (aM (i:=1) cZ.nd rfl (by trivial) (ba (by refine aa (aD (bR (K:=K) rfl) (bG T.kits) rfl T.n_ aG (aa (ag 0) (aa (cE rfl ⟨_,T.LJ⟩) ah))) ?_;refine aa (aD (bR (K:=K) rfl) (bG T.kits) rfl T.n_ aG (aa (ag 0) (aa (cE rfl ⟨_,T.A_⟩) ah))) ?_;refine aa (aD (bR (K:=K) rfl) (bG T.kits) rfl T.n_ aG (aa (ag 0) (aa (cE rfl ⟨_,T.K9⟩) ah))) ?_;exact ah)))
   (ar (aM (i:=1) cZ.nd rfl (by trivial) (aJ (bw (K:=K) rfl) bt (ag 1) (ba (by refine aa (aD (bR (K:=K) rfl) (bG T.kits) rfl T.n_ aG (aa (ag 0) (aa (cE rfl ⟨_,T.Lm⟩) ah))) ?_;refine aa (aD (bR (K:=K) rfl) (bG T.kits) rfl T.n_ aG (aa (ag 0) (aa (cE rfl ⟨_,T.LN⟩) ah))) ?_;refine aa (aD (bR (K:=K) rfl) (bG T.kits) rfl T.n_ aG (aa (ag 0) (aa (cE rfl ⟨_,T.Lo⟩) ah))) ?_;exact ah))))
   (ar (aM (i:=1) cZ.nd rfl (by trivial) (aJ (bw (K:=K) rfl) bt (ag 1) (ba (by refine aa (aD (bR (K:=K) rfl) (bG T.kits) rfl T.n_ aG (aa (ag 0) (aa (cE rfl ⟨_,T.LZ⟩) ah))) ?_;refine aa (aD (bR (K:=K) rfl) (bG T.kits) rfl T.n_ aG (aa (ag 0) (aa (cE rfl ⟨_,T.LO⟩) ah))) ?_;refine aa (aD (bR (K:=K) rfl) (bG T.kits) rfl T.n_ aG (aa (ag 0) (aa (cE rfl ⟨_,T.L5⟩) ah))) ?_;exact ah))))
   (ar (aM (i:=1) cZ.nd rfl (by trivial) (aJ (bw (K:=K) rfl) bt (ag 1) (ba (by refine aa (aD (bR (K:=K) rfl) (bG T.kits) rfl T.n_ aG (aa (ag 0) (aa (cE rfl ⟨_,T.LK⟩) ah))) ?_;refine aa (aD (bR (K:=K) rfl) (bG T.kits) rfl T.n_ aG (aa (ag 0) (aa (cE rfl ⟨_,T.L6⟩) ah))) ?_;refine aa (aD (bR (K:=K) rfl) (bG T.kits) rfl T.n_ aG (aa (ag 0) (aa (cE rfl ⟨_,T.Lp⟩) ah))) ?_;exact ah))))
   (ar (aM (i:=1) cZ.nd rfl (by trivial) (aJ (bw (K:=K) rfl) bt (ag 1) (ba (by refine aa (aD (bR (K:=K) rfl) (bG T.kits) rfl T.n_ aG (aa (ag 0) (aa (cE rfl ⟨_,T.D_⟩) ah))) ?_;refine aa (aD (bR (K:=K) rfl) (bG T.kits) rfl T.n_ aG (aa (ag 0) (aa (cE rfl ⟨_,T.LQ⟩) ah))) ?_;refine aa (aD (bR (K:=K) rfl) (bG T.kits) rfl T.n_ aG (aa (ag 0) (aa (cE rfl ⟨_,T.LP⟩) ah))) ?_;exact ah))))
   (ar (aM (i:=2) cZ.nd rfl (by trivial) (ba (by refine aa aC ?_;refine aa aC ?_;refine aa aC ?_;refine aa aC ?_;refine aa aC ?_;refine aa aC ?_;refine aa aC ?_;refine aa aC ?_;refine aa aC ?_;refine aa aC ?_;refine aa aC ?_;refine aa aC ?_;exact ah)))
   (ar (aM (i:=2) cZ.nd rfl (by trivial) (aJ (bw (K:=K) rfl) bt (ag 2) (ba (by refine aa aC ?_;refine aa aC ?_;refine aa aC ?_;exact ah))))
   (ar (bq (ZW.dt (ke (bz (vm (K:=K) rfl hr.units) qG (uT rfl PySem.F.slot_list_count PySem.F.type_list_count (F2 (K:=K) rfl hr.u100) yP (ag 1) (aa gA ah)) aj (a8 _)) (iI (dJ (cU (aD (bR (K:=K) rfl) (bG T.kits) rfl T.n_ aG (aa (ag 0) (aa (hX rfl T.G_ qr) ah)))))))) (ay (aP aC)) aS)
   (ay (aP (aK (ixK (K:=K) rfl) aN (ag 2) (uT rfl PySem.F.slot_list_index PySem.F.type_list_index (G0 (K:=K) rfl hr.u100) zY (ag 1) (aa gA ah)) (λ_ _=>rfl))))))))))))
def gC:PSt:=
 (aA (zo ff 4 (aR false 3 (aB aT (af (ai 0) (af (ai 1) (af (ai 2) ao))))) (bg (aB bI (af (ai 4) ao))))
  (bg (pOp bIx (br (af (aQ "odd") (af (aQ "told") ao))) (pFn vN (af (lO (pFn (az kits) (af (ai 3) (af (pTy "tuple") ao))) (pOp bEq (pFn dH (af (ai 3) ao)) (aq 2))) ao)))))
def bW:PFn:=fnP [false,false,false] 5 gC
theorem sI:bW.ms=[false,false,false]:=rfl
theorem qp (T:Txt w K mg e_ a_ f_ g_ b_ c_ m_ k_ d_ j_ r_ i_ h_ o_ l_ p_) (D:Def K mg "_law_asked" jz) (LW:Callee P w K mg base "least_worst" 16 ["room", "weights", "kind"] (spD K mg 3 aT.F)) (Mu:CalleeU P w K mg base "_law_word" 1 ["_law_error"] (spD K mg 1 bI.F)):Callee P w K mg base "_law_asked" (16 + 1) ["_law_room", "_law_weights", "_law_kind"] (spD K mg 3 bW.F):=by
 unfold bW gC
 exact okP D iC (λ_ _ _ _ _ _=>ar3 λ_ _ _=>rfl) λf cdv A outer s H E hr=>
  (ar (Gz (i:=4) vW iC.nd rfl rfl rfl T.Lb T.M4 T.M5 (λ_ _ _ hx=>(ay (aM (i:=3) iC.nd rfl (by trivial) (aw LW (hr.mono (by omega)) rfl hx (by refine aa (ag 0) ?_;refine aa (ag 1) ?_;refine aa (ag 2) ?_;exact ah))))) (λ_=>(ay (aP (xy Mu (hr.toU _ (by omega)) rfl jW (aa (ag 4) ah))))))
   (ay (aP (aK (ixK (K:=K) rfl) aN (ba (aa aC (aa aC ah))) (dn xr E6 rfl T.MN yF (aa (jR (aD (bR (K:=K) rfl) (bG T.kits) rfl T.n_ aG (aa (ag 3) (aa (hX rfl T.C_ eA) ah))) (jH (eW (gm (K:=K) rfl hr.units) eL (aD (eh (K:=K) rfl) dq rfl T.z_ dh (aa (ag 3) ah)) aj (a8 _)))) ah)) (λ_ _=>rfl)))))
def gH:PSt:=
 (aA (BX 1 2 (aU (af (aU (af (aq 0) (af (aq 1) ao))) (af (aU (af (pUn iU (aq 1)) (af (aq 2) ao))) (af (aU (af (pOp bp (aq 1) (aB aF (af (ai 0) (af (aq 9) ao)))) (af (aq 1) ao))) (af (aU (af (aq 1) (af (aq 3) ao))) ao))))))
  (aA (xIf (qOf (pOp bEq (aB aF (af (ai 0) (af (aq 4) ao))) (aq 0))) (aA (aR false 1 (aB c6 (af (ai 0) ao)))
  (dk (kj 2 dR (af (aQ "box") ao)))) xNx)
  (aA (aR false 3 (pOp bIx (br (af (aQ "order") (af (aQ "any") ao))) (aB aF (af (ai 0) (af (aq 2) ao)))))
  (aA (aR false 4 (pOp eQ (qP ["order", "any"] (af (aq 6) (af (aq 5) ao))) (ai 3)))
  (aA (aR false 5 (pOp bIx (br (af (pOp bp (aq 1) (aB aF (af (ai 0) (af (aq 3) ao)))) (af (pOp bp (aq 1) (aB aF (af (ai 0) (af (aq 3) ao)))) (af (aq 1) (af (aq 2) (af (aq 3) (af (ai 4) ao))))))) (aB aF (af (ai 0) (af (aq 6) ao)))))
  (aA (aR false 6 (pLC (ml (af (ai 5) ao)) [none] (by decide) (gtN 0) qY (pOp bp (aq 1) (pOp dB (pOp bp (pOp bZ (aq 7) (ai 0)) (aq 3)) (aq 5)))))
  (aA (aR false 7 (aB aF (af (ai 0) (af (aq 8) ao))))
  (aA (xIf (qOf (pOp bLt (ai 7) (aq 2))) (aA (aR false 6 (aB cc (af (ai 0) ao)))
  (dk (kj 2 dR (af (aQ "weights") ao)))) xNx)
  (aA (xIf (qOf (pOp bEq (ai 7) (aq 2))) (aA (aR false 6 (pOp zR (br (af (aq 1) ao)) (pOp bp (aq 41) (aB aF (af (ai 0) (af (aq 2) ao))))))
  (dk (kj 2 dR (af (aQ "many") ao)))) xNx)
  (aA (aR false 8 (pOp bGt (ai 7) (aq 5)))
  (aA (xIf (qTr (ai 8)) (aR false 6 (pLC (ml (af (pOp bIx (br (af (pOp bp (ai 4) (aq 1)) (af (aq 40) ao))) (aB aF (af (ai 0) (af (aq 2) ao)))) ao)) [none] (by decide) (gtN 0) qY (pOp bp (aq 1) (ai 0)))) xNx)
  (aA (xIf (qOf (pOp bEq (aB aF (af (ai 0) (af (aq 4) ao))) (aq 0))) (aA (aR false 3 (pOp bIx (br (af (aQ "") (af (aQ "Order") (af (aQ "any ") (af (aQ "all") (af (aQ "across") (af (aQ "orders") (af (aQ "an") ao)))))))) (aB aF (af (ai 0) (af (aq 7) ao)))))
  (dk (kj 2 dR (af (aQ "kind") ao)))) xNx)
  (aA (xIf (qTr (ai 8)) (dk (kj 2 dR (af (aQ "many") ao))) xNx)
  (bg (pOp bEq (aB bW (af (ai 1) (af (ai 6) (af (ai 3) ao)))) (pOp bIx (pOp bp (ai 2) (br (af (aQ "told") ao))) (aq 0)))))))))))))))))
def fB:PFn:=fnP [true] 9 gH
theorem vB:fB.ms=[true]:=rfl
theorem uq (T:Txt w K mg e_ a_ f_ g_ b_ c_ m_ k_ d_ j_ r_ i_ h_ o_ l_ p_) (D:Def K mg "_law_one" gF) (s_:Callee P w K mg base "_law_draw" 1 ["_law_feed_here", "_law_many"] (spD K mg 2 aF.F)) (Ly:Callee P w K mg base "_law_odd_room" 2 ["_law_feed_here"] (spD K mg 1 c6.F)) (Lh:Callee P w K mg base "_law_odd_weights" 2 ["_law_feed_here"] (spD K mg 1 cc.F)) (Mi:Callee P w K mg base "_law_asked" 17 ["_law_room", "_law_weights", "_law_kind"] (spD K mg 3 bW.F)):Callee P w K mg base "_law_one" (17 + 1) ["_law_feed_here"] (spD K mg 1 fB.F):=by
 unfold fB gH
 exact okP D bL (λ_ _ _ _ _ _=>ar1 λ_=>rfl) λf cdv A outer s H E hr=>
  (ar (rY (i:=1) (j:=2) rfl bL.nd rfl rfl (by decide) rfl rfl (aa (aH (by refine aa (aH (aa aj (aa aj ah))) ?_;refine aa (aH (aa (h9 fJ fN aj) (aa aj ah))) ?_;refine aa (aH (aa (aJ (bw (K:=K) rfl) bt aj (aw s_ (hr.mono (by omega)) rfl (au aE) (aa (ag 0) (aa aj ah)))) (aa aj ah))) ?_;refine aa (aH (aa aj (aa aj ah))) ?_;exact ah)) (aa (ba ah) ah)) rfl)
   (ar (bq (bz (gm (K:=K) rfl hr.units) eL (aw s_ (hr.mono (by omega)) rfl (au aE) (aa (ag 0) (aa aj ah))) aj (a8 _)) (ar (aM (i:=1) bL.nd rfl (by trivial) (aw Ly (hr.mono (by omega)) rfl (au aE) (aa (ag 0) ah)))
   (ay (cx (jb rfl PySem.F.slot_list_append PySem.F.type_list_append ez et (ag 2) (aa aC ah))))) aS)
   (ar (aM (i:=3) bL.nd rfl (by trivial) (aK (ixK (K:=K) rfl) aN (ba (aa aC (aa aC ah))) (aw s_ (hr.mono (by omega)) rfl (au aE) (aa (ag 0) (aa aj ah))) (λ_ _=>rfl)))
   (ar (aM (i:=4) bL.nd rfl (by trivial) (eP (fb hr) (uM (iA aj (iA aj u3))) (ag 3) (λ_ _=>rfl)))
   (ar (aM (i:=5) bL.nd rfl (by trivial) (aK (ixK (K:=K) rfl) aN (ba (by refine aa (aJ (bw (K:=K) rfl) bt aj (aw s_ (hr.mono (by omega)) rfl (au aE) (aa (ag 0) (aa aj ah)))) ?_;refine aa (aJ (bw (K:=K) rfl) bt aj (aw s_ (hr.mono (by omega)) rfl (au aE) (aa (ag 0) (aa aj ah)))) ?_;refine aa aj ?_;refine aa aj ?_;refine aa aj ?_;refine aa (ag 4) ?_;exact ah)) (aw s_ (hr.mono (by omega)) rfl (au aE) (aa (ag 0) (aa aj ah))) (λ_ _=>rfl)))
   (ar (wc (iT:=6) ["_law_feed_here", "_law_room", "_law_due", "_law_kind", "_law_most", "_law_many", "_law_weights", "_law_way", "_law_wide"] (av gF).names ["_law_k"] [none] rfl bL.nd rfl (by trivial) (jj rfl T.H_ (aa (ag 5) ah)) (λ_ _ _ _ _=>(aV (i:=0) (show List.Nodup (["_law_k"]:List Str) from by decide) rfl (by trivial))) (λ_ _ _ _ _=>(aJ (bw (K:=K) rfl) bt aj (aJ d4 eY (aJ (bw (K:=K) rfl) bt (aJ cG cF aj (ag 0)) aj) aj))))
   (ar (aM (i:=7) bL.nd rfl (by trivial) (aw s_ (hr.mono (by omega)) rfl (au aE) (aa (ag 0) (aa aj ah))))
   (ar (bq (bz qD qJ (ag 7) aj (a8 _)) (ar (aM (i:=6) bL.nd rfl (by trivial) (aw Lh (hr.mono (by omega)) rfl (au aE) (aa (ag 0) ah)))
   (ay (cx (jb rfl PySem.F.slot_list_append PySem.F.type_list_append ez et (ag 2) (aa aC ah))))) aS)
   (ar (bq (bz (gm (K:=K) rfl hr.units) eL (ag 7) aj (a8 _)) (ar (aM (i:=6) bL.nd rfl (by trivial) (aJ Hl Ii (ba (aa aj ah)) (aJ (bw (K:=K) rfl) bt aj (aw s_ (hr.mono (by omega)) rfl (au aE) (aa (ag 0) (aa aj ah))))))
   (ay (cx (jb rfl PySem.F.slot_list_append PySem.F.type_list_append ez et (ag 2) (aa aC ah))))) aS)
   (ar (aM (i:=8) bL.nd rfl (by trivial) (eW j4 kK (ag 7) aj (a8 _)))
   (ar (bq (sv rfl (ag 8)) (ay (wc (iT:=6) ["_law_feed_here", "_law_room", "_law_due", "_law_kind", "_law_most", "_law_many", "_law_weights", "_law_way", "_law_wide"] (av gF).names ["_law_k"] [none] rfl bL.nd rfl (by trivial) (jj rfl T.H_ (aa (aK (ixK (K:=K) rfl) aN (ba (aa (aJ (bw (K:=K) rfl) bt (ag 4) aj) (aa aj ah))) (aw s_ (hr.mono (by omega)) rfl (au aE) (aa (ag 0) (aa aj ah))) (λ_ _=>rfl)) ah)) (λ_ _ _ _ _=>(aV (i:=0) (show List.Nodup (["_law_k"]:List Str) from by decide) rfl (by trivial))) (λ_ _ _ _ _=>(aJ (bw (K:=K) rfl) bt aj (ag 0))))) aS)
   (ar (bq (bz (gm (K:=K) rfl hr.units) eL (aw s_ (hr.mono (by omega)) rfl (au aE) (aa (ag 0) (aa aj ah))) aj (a8 _)) (ar (aM (i:=3) bL.nd rfl (by trivial) (aK (ixK (K:=K) rfl) aN (ba (by refine aa aC ?_;refine aa aC ?_;refine aa aC ?_;refine aa aC ?_;refine aa aC ?_;refine aa aC ?_;refine aa aC ?_;exact ah)) (aw s_ (hr.mono (by omega)) rfl (au aE) (aa (ag 0) (aa aj ah))) (λ_ _=>rfl)))
   (ay (cx (jb rfl PySem.F.slot_list_append PySem.F.type_list_append ez et (ag 2) (aa aC ah))))) aS)
   (ar (bq (sv rfl (ag 8)) (ay (cx (jb rfl PySem.F.slot_list_append PySem.F.type_list_append ez et (ag 2) (aa aC ah)))) aS)
   (ay (aP (eW (gm (K:=K) rfl hr.units) eL (aw Mi (hr.mono (by omega)) rfl (au aE) (by refine aa (ag 1) ?_;refine aa (ag 6) ?_;refine aa (ag 3) ?_;exact ah)) (aK (ixK (K:=K) rfl) aN (aJ (bw (K:=K) rfl) bt (ag 2) (ba (aa aC ah))) aj (λ_ _=>rfl)) (a8 _)))))))))))))))))
def lA:PSt:=
 (xIf (qNo (qOf (aB fB (af (ai 1) ao)))) (bg (pBl false)) xNx)
def vz:PSt:=
 (aA (aR true 1 (aB dQ (af (ai 0) ao)))
  (aA (jZ (ml (af (pOp bp (aq 4) (pFn tD (af (aq 5) (af (pFn dH (af (ai 0) ao)) ao)))) ao)) (gtN 2) (lA))
  (bg (pBl true))))
def oa:PFn:=fnP [false] 3 vz
theorem DK (T:Txt w K mg e_ a_ f_ g_ b_ c_ m_ k_ d_ j_ r_ i_ h_ o_ l_ p_) (D:Def K mg "law" qM) (Ms:Callee P w K mg base "_law_feed" 1 ["_law_script"] (spD K mg 1 dQ.F)) (MR:Callee P w K mg base "_law_one" 18 ["_law_feed_here"] (spD K mg 1 fB.F)):Callee P w K mg base "law" (18 + 1) ["_law_script"] (spD K mg 1 oa.F):=by
 unfold oa vz lA
 exact okP D rK (λ_ _ _ _ _ _=>ar1 λ_=>rfl) λf cdv A outer s H E hr=>
  (ar (aM (i:=1) rK.nd rfl (by trivial) (aw Ms (hr.mono (by omega)) rfl (au aE) (aa (ag 0) ah)))
   (ar (iD lK rfl (jj rfl T.H_ (aa (aJ (bw (K:=K) rfl) bt aj (aD (xW rfl) DR rfl T.M3 GI (aa aj (aa (aD (eh (K:=K) rfl) dq rfl T.z_ dh (aa (ag 0) ah)) ah)))) ah)) (aV (i:=2) rK.nd rfl (by trivial)) (ay (bq (dJ (cU (aw MR (hr.mono (by omega)) rfl (au aE) (aa (ag 1) ah)))) (ay (aP gA)) aS)))
   (ay (aP gA))))
end
def fdD (cs:List Int) (a l:Int):Val:=.dct [(.inr "cells",.lst (cs.map .int)),(.inr "at",.int a),(.inr "left",.int l)]
def Fd (n:Nat) (v:Val):Prop:=∃ cs a l,v=fdD cs a l/\0<=a/\a<=n
theorem Fd.mono {n m:Nat}{v:Val} (h:Fd n v) (q:n<=m):Fd m v:=by
 obtain⟨cs,a,l,e,h0,h1⟩:=h
 exact⟨cs,a,l,e,h0,by omega⟩
theorem iW (cs:List Int) (a l:Int):eQ.G (fdD cs a l) (.str "cells")=.val (.lst (cs.map .int)):=rfl
theorem nB (cs:List Int) (a l:Int):eQ.G (fdD cs a l) (.str "at")=.val (.int a):=rfl
theorem jN (cs:List Int) (a l:Int):eQ.G (fdD cs a l) (.str "left")=.val (.int l):=rfl
theorem jG (cs:List Int) (a l x:Int):seD.G (fdD cs a l) (.str "at") (.int x)=some (fdD cs x l):=rfl
theorem ja (cs:List Int) (a l x:Int):seD.G (fdD cs a l) (.str "left") (.int x)=some (fdD cs a x):=rfl
theorem qS:oz.G (.int 10) (.int 18)=.val (.int (10 ^ 18)):=BY ⟨by decide,by decide,by decide⟩
theorem j7 {a m:Int} (h:0 < m):0<=a.fmod m/\a.fmod m < m:=⟨Int.fmod_nonneg_of_pos a h,Int.fmod_lt_of_pos a h⟩
set_option hygiene false in
local macro_rules | `(tactic| simp![$args,*])=>`(tactic| simp only[ek,KQ,G7,Jp,Jy,Jm,FR,nX,IG,AK,vf,HR,GB,Gb,HE,Ia,GY,HI,Fy,CV,AF,FU,G8,Fv,Hk,CD,HW,Kr,Jt,v_bl,JY,Jb,v_ty,K2,v_un,v_op,IM,F8,v_fn,JE,JZ,Jj,c_of,c_tr,c_an,c_o,c_no,x_nx,x_ct,JO,DP,B9,D4,HZ,BK,x_if,Jr,IH,KR,JH,Dr,zl,AU,g_n,g_sn,g_sc,g_t,g_x,FD,Ja,Kj,Kl,DZ,II,JI,J9,Jn,KO,HA,Hd,JT,IS,Ad,Ex,Jh,G1,GN,GA,Io,JW,IL,Jv,lU,v_lc,El,GG,FA,o_n,o_s,v_sl,v_d0,KY,fx_G,K5,k_lt,k_gt,k_ge,Ka,JU,k_ix,IC,wZ,JJ,k_eq,k_ne,J8,k_is,Jc,Jw,Kz,Ju,KN,J3,Fc,DB,Fi,Af,p8,List.getElem?_cons_zero,List.getElem?_cons_succ,List.set_cons_zero,List.set_cons_succ,List.length_cons,List.length_nil,Option.bind_some,Option.map_some,Option.isSome_some,if_true,if_false,Bool.not_true,Bool.not_false,Bool.and_true,Bool.true_and,Bool.and_false,Bool.false_and,Bool.or_true,Bool.true_or,Bool.or_false,Nat.reduceLeDiff,Nat.reduceLT,Nat.reduceAdd,Nat.reduceSub,Nat.zero_add,Nat.sub_self,List.cons_append,List.nil_append,List.append_nil,List.replicate,reduceCtorEq,Bool.false_eq_true,List.all_cons,List.all_nil,List.isEmpty_nil,List.map_cons,List.map_nil,Int.reduceBEq,Int.reduceLT,Int.reduceAdd,Int.reduceSub,Int.cast_ofNat_Int,Ht,CJ,Gg,Hz,Ei,zu,Hu,w9,Dl,EH,Ct,wW,Dn,FC,Aw,HU,B2,HY,AW,Ij,Gr,Eh,KG,J1,IU,KL,yK,yW,xq,fQ,eZ,lJ,AQ,qc,xI,lb,ati0,ati1,ati2,ati3,ati4,ati5,ati6,ati7,ixn0,ixn1,ixn2,ixn3,Jx,cN,Fb,Hj,Int.reduceNeg,CB,xn,g_uL,n4,IX,tX,t5,nt,lB,tW,mD,oW,yg,sJ,sV,nc,qh,oG,vU,uk,tZ,C3,zy,vE,vo,yS,tq,zc,zK,yU,xH,sf,ua,ph,oT,ub,sI,vB,n6,CT,$args,*])
theorem D6 {ns:List Int} (hl:ns.length<=63):∃ v,dQ.G [.kl (ns.map .int)]=.ok (.new v) []/\Fd 0 v:=by
 refine⟨fdD ns 0 0,?_,ns,0,0,rfl,by omega,by omega⟩
 unfold dQ
 rw[bh]
 unfold j8
 have e:aSl (.kl (ns.map Val.int)) none (some 63)=.new (.lst (ns.map Val.int)):=by
  have:=JP (ns.map Val.int) none (some ((63:Nat):Int))
  rw[qX,List.take_of_length_le (by rw[List.length_map];exact hl)] at this
  exact this
 have c:Val.items (.lst (ns.map Val.int))=some (ns.map Val.int):=rfl
 simp![n4,e,c]
 rfl
theorem bB {n:Nat}{v:Val}{m:Int} (f:Fd n v) (hn:n<=1000000000) (h0:0 < m) (hm:Sm 8000 m):∃ r v',aF.G [v,.int m]=.ok (.val (.int r)) [v']/\Fd (n + 1) v'/\0<=r/\r < m:=by
 obtain⟨cs,a,l,rfl,a0,a1⟩:=f
 have m0:m ≠ 0:=by omega
 have d1:=λi=>jd (i:=i) m0
 have d2:=λi=>qE (i:=i) (CDivB.of m0 hm)
 unfold aF
 rw[bh]
 unfold kA
 have x1:bZ.G (.int 61) (.int a)=.val (.int (61 * a)):=du (CMulA.left (by decide) (by decide))
 have x2:bZ.G (.int (61 * a)) (.int a)=.val (.int (61 * a * a)):=du (CMulA.right (by omega) (by omega))
 have x3:bZ.G (.int 7) (.int a)=.val (.int (7 * a)):=du (CMulA.left (by decide) (by decide))
 have x4:∀ x:Int,bZ.G (.int x) (.int 48271)=.val (.int (x * 48271)):=λx=>du (CMulA.right (by decide) (by decide))
 have x5:∀ x:Int,bZ.G (.int x) (.int 69623)=.val (.int (x * 69623)):=λx=>du (CMulA.right (by decide) (by decide))
 have x6:bZ.G (.int 7919) (.int a)=.val (.int (7919 * a)):=du (CMulA.left (by decide) (by decide))
 have x7:∀ x:Int,bZ.G (.int x) (.int 16811)=.val (.int (x * 16811)):=λx=>du (CMulA.right (by decide) (by decide))
 have y1:∀ x:Int,dB.G (.int x) (.int 1000003)=.val (.int (x.fmod 1000003)):=λx=>jd (by decide)
 have y2:∀ x:Int,dB.G (.int x) (.int 999983)=.val (.int (x.fmod 999983)):=λx=>jd (by decide)
 have y3:∀ x:Int,dB.G (.int x) (.int 1999993)=.val (.int (x.fmod 1999993)):=λx=>jd (by decide)
 have y4:∀ x:Int,dB.G (.int x) (.int 524287)=.val (.int (x.fmod 524287)):=λx=>jd (by decide)
 have y5:∀ x:Int,lg.G (.int x) (.int 5)=.val (.int (x.fdiv 5)):=λx=>qE (CDivB.of (by decide) (sm8 (by decide)))
 by_cases hc:0 < l
 ·have hc':decide (0 < l)=true:=decide_eq_true hc
  refine⟨l.fmod m,fdD cs a (l.fdiv m),?_,⟨cs,a,_,rfl,a0,by omega⟩,j7 h0⟩
  simp![hc',d1,d2,iW,nB,jN,jG,ja]
 ·have hc':decide (0 < l)=false:=decide_eq_false hc
  have fin:∀ x:Int,∃ r v',(R3F.ok (Rt.val (.int (x.fmod m))) [fdD cs (a + 1) l]:R3F)=.ok (.val (.int r)) [v']/\Fd (n + 1) v'/\0<=r/\r < m:=λx=>⟨_,_,rfl,⟨cs,_,_,rfl,by omega,by omega⟩,j7 h0⟩
  have z18:((10:Int) ^ 18)=1000000000000000000:=by decide
  by_cases hl:0 < cs.length
  ·have r:=j7 (a:=a) (m:=(cs.length:Nat)) (by omega)
   have hi:(a.fmod (cs.length:Nat)).toNat < cs.length:=by omega
   have at1:atI (cs.map Val.int) (a.fmod (cs.length:Nat))=some (.int cs[(a.fmod (cs.length:Nat)).toNat]):=gx r.1 (by rw[List.getElem?_map,List.getElem?_eq_getElem hi];rfl)
   have l1:decide ((0:Int) < ((cs.length:Nat):Int))=true:=decide_eq_true (by omega)
   have e1:dB.G (.int a) (.int (cs.length:Nat))=.val (.int (a.fmod (cs.length:Nat))):=jd (by omega)
   by_cases hb:(10 ^ 18:Int)<=cs[(a.fmod (cs.length:Nat)).toNat]
   ·have hb':=decide_eq_true hb
    by_cases ha:a < (cs.length:Nat)
    ·have ha':=decide_eq_true ha
     refine⟨(cs[(a.fmod (cs.length:Nat)).toNat]).fmod m,fdD cs (a + 1) ((cs[(a.fmod (cs.length:Nat)).toNat]).fdiv m),?_,⟨cs,_,_,rfl,by omega,by omega⟩,j7 h0⟩
     simp![hc',d1,d2,iW,nB,jN,jG,ja,List.length_map,l1,e1,at1,qS,hb',ha']
    ·have ha':=decide_eq_false ha
     simp![hc',d1,d2,iW,nB,jN,jG,ja,List.length_map,l1,e1,at1,qS,hb',ha',x1,x2,x3,x4,x5,x6,x7,y1,y2,y3,y4,y5]
     exact fin _
   ·have hb':=decide_eq_false hb
    simp![hc',d1,d2,iW,nB,jN,jG,ja,List.length_map,l1,e1,at1,qS,hb',x1,x2,x3,x4,x5,x6,x7,y1,y2,y3,y4,y5]
    exact fin _
  ·have l1:decide ((0:Int) < ((cs.length:Nat):Int))=false:=decide_eq_false (by omega)
   have hb':decide ((10 ^ 18:Int)<=a)=false:=decide_eq_false (by rw[z18];omega)
   simp![hc',d1,d2,iW,nB,jN,jG,ja,List.length_map,l1,qS,hb',x1,x2,x3,x4,x5,x6,x7,y1,y2,y3,y4,y5]
   exact fin _
theorem Dp (a:Int):(if a < 0 then -a else a)=((a.natAbs:Nat):Int):=by split <;> omega
theorem rh:∀ (n one dL:Nat),dL<=n->(xWh (qOf (pOp bNe (ai 1) (aq 0))) cW).G [.sh (.int (one:Nat)),.sh (.int (dL:Nat))]=.nx [.sh (.int (Nat.gcd one dL:Nat)),.sh (.int 0)]
 |
  n,one,0,_=>by
  rw[x_wh]
  simp![ek]
  rw[Nat.gcd_zero_right]
  try rfl
 | 0,one,dL + 1,hl=>absurd hl (by omega)
 |
  n + 1,one,dL + 1,hl=>by
  rw[x_wh]
  have e:((((dL + 1:Nat):Int) == 0))=false:=by rw[beq_eq_false_iff_ne];omega
  have e1:dB.G (.int (one:Nat)) (.int ((dL + 1:Nat):Int))=.val (.int (((one:Nat):Int).fmod ((dL + 1:Nat):Int))):=jd (by omega)
  have e2:((one:Nat):Int).fmod ((dL + 1:Nat):Int)=((one % (dL + 1):Nat):Int):=by
   rw[Int.fmod_eq_emod_of_nonneg _ (by omega)];rfl
  have ih:=rh n (dL + 1) (one % (dL + 1)) (by have:=Nat.mod_lt one (show dL + 1 > 0 by omega);omega)
  rw[Fr.euc] at ih
  rw[e2] at e1
  have bb:cW.G [.sh (.int (one:Nat)),.sh (.int ((dL + 1:Nat):Int))]=.nx [.sh (.int ((dL + 1:Nat):Int)),.sh (.int ((one % (dL + 1):Nat):Int))]:=by
   unfold cW
   simp![e1]
  simp![e,bb,ih]
theorem dF (a b:Int):bC.G [.int a,.int b]=.ok (.val (.int (Int.gcd a b:Nat))) []:=by
 unfold bC
 rw[bh]
 unfold fq
 have:=rh b.natAbs a.natAbs b.natAbs (Nat.le_refl _)
 simp![Dp,this]
 rfl
theorem eX {a b:Int} (hb:b ≠ 0) (hs:Sm 8000 b):bH.G [.int a,.int b]=.ok (.val (fV ((a:Rat) / (b:Rat)))) []:=by
 unfold bH
 rw[bh]
 unfold kM
 have e:(b == 0)=false:=by rw[beq_eq_false_iff_ne];exact hb
 have c:∀ x,CDivB x (Fr.dv a b):=λx=>CDivB.of (Fr.dv_ne hb) (hs.of_le (by
  rw[Fr.dv_abs]
  exact Nat.le_of_dvd (by omega) (Nat.gcd_dvd_right a.natAbs b.natAbs)))
 have k1:=qE (c a)
 have k2:=qE (c b)
 have hh:=qL (a:=a) hb
 have fin:Val.tup [.int (a.fdiv (Fr.dv a b)),.int (b.fdiv (Fr.dv a b))]=fV ((a:Rat) / (b:Rat)):=by
  unfold fV
  rw[<- hh.1,<- hh.2]
  rfl
 by_cases hn:b < 0
 ·have hd:Fr.dv a b=-((Int.gcd a b:Nat):Int):=by unfold Fr.dv;rw[if_pos hn]
  rw[hd] at k1 k2 fin
  simp![e,dF,decide_eq_true hn,k1,k2,fin]
 ·have hd:Fr.dv a b=((Int.gcd a b:Nat):Int):=by unfold Fr.dv;rw[if_neg hn]
  rw[hd] at k1 k2 fin
  simp![e,dF,decide_eq_false hn,k1,k2,fin]
theorem Bo {p q:Rat}{n m:Nat} (hp:Sz n p) (hq:Sz m q) (h:n + m<=8000):fW.G [fV p,fV q]=.ok (.val (fV (p + q))) []:=by
 have c1:=du (CMulA.of hp.top hq.bot (by omega) (by omega))
 have c2:=du (CMulA.of hq.top hp.bot (by omega) (by omega))
 have c3:=du (CMulA.of hp.bot hq.bot (by omega) (by omega))
 have fe:=eX (a:=p.num * q.den + q.num * p.den) (b:=p.den * q.den) (Int.mul_ne_zero (cV p) (cV q)) ((hp.bot.mul hq.bot).mono h)
 rw[<- uy] at fe
 unfold fW
 rw[bh]
 unfold og
 rw[show fV p=.tup [.int p.num,.int p.den] from rfl,show fV q=.tup [.int q.num,.int q.den] from rfl]
 simp![c1,c2,c3,fe]
theorem sH {p q:Rat}{n m:Nat} (hp:Sz n p) (hq:Sz m q) (h:n + m<=8000):fC.G [fV p,fV q]=.ok (.val (fV (p * q))) []:=by
 have c1:=du (CMulA.of hp.top hq.top (by omega) (by omega))
 have c2:=du (CMulA.of hp.bot hq.bot (by omega) (by omega))
 have fe:=eX (a:=p.num * q.num) (b:=p.den * q.den) (Int.mul_ne_zero (cV p) (cV q)) ((hp.bot.mul hq.bot).mono h)
 rw[<- uA] at fe
 unfold fC
 rw[bh]
 unfold oq
 rw[show fV p=.tup [.int p.num,.int p.den] from rfl,show fV q=.tup [.int q.num,.int q.den] from rfl]
 simp![c1,c2,fe]
theorem fM {p q:Rat}{n m:Nat} (hp:Sz n p) (hq:Sz m q) (h1:n<=100000) (h2:m<=100000):bP.G [fV p,fV q]=.ok (.val (.bl (decide (p < q)))) []:=by
 have c1:=du (CMulA.of hp.top hq.bot h1 h2)
 have c2:=du (CMulA.of hq.top hp.bot h2 h1)
 unfold bP
 rw[bh]
 unfold lE
 rw[show fV p=.tup [.int p.num,.int p.den] from rfl,show fV q=.tup [.int q.num,.int q.den] from rfl]
 simp![c1,c2]
 rw[show decide (p.num * (q.den:Int) < q.num * (p.den:Int))=decide (p < q) from decide_eq_decide.mpr (ER p q).symm]
theorem md {v:Val} (hk:knV v=true):(az kits).G [v,.ty "tuple"]=.val (.bl (fK v)):=by
 cases v <;> first | rfl | cases hk
theorem jt {v:Val} (hk:knV v=true):cB.G [v]=.ok (.val (.bl (kQ v))) []:=by
 unfold cB
 rw[bh]
 unfold kq
 cases v <;> first | rfl | cases hk
theorem sj (v:Val):fK v=false\/∃ xs,v=.tup xs:=by
 cases v <;> first | exact .inr ⟨_,rfl⟩ | exact .inl rfl
theorem m8 (v:Val):kQ v=false\/∃ i,v=.int i:=by
 cases v <;> first | exact .inr ⟨_,rfl⟩ | exact .inl rfl
theorem Ku {v:Val} (h:fK v=false):bf v=false:=by
 cases v <;> first | rfl | cases h
theorem JN {v:Val} (h:fK v=false):bQ v=false:=by
 cases v <;> first | rfl | cases h
theorem EO {a b:Val} (h:kQ a=false):bf (.tup [a,b])=false:=by
 cases a <;> first | rfl | cases h
theorem Ew {i:Int}{b:Val} (h:kQ b=false):bf (.tup [.int i,b])=false:=by
 cases b <;> first | rfl | cases h
theorem JA {xs:List Val} (hl:xs.length ≠ 2):bf (.tup xs)=false:=by
 unfold bf
 split
 ·rename_i e;injection e with e;subst e;exact absurd rfl hl
 ·rfl
theorem Jk {xs:List Val} (hl:xs.length ≠ 4):bQ (.tup xs)=false:=by
 unfold bQ
 split
 ·rename_i e;injection e with e;subst e;exact absurd rfl hl
 ·rfl
theorem BI {k:Nat}{v:Val} (ha:de k v=true) (h:fK v=false):knV v=true:=by
 cases v with
 | tup xs=>cases h
 | _=>cases k <;> exact ha
theorem o8 {v:Val} (ha:de 1 v=true):cq.G [v]=.ok (.val (.bl (bf v))) []:=by
 unfold cq
 rw[bh]
 unfold gQ
 rcases sj v with ht | ⟨xs,rfl⟩
 ·have it:=md (BI ha ht)
  rw[ht] at it
  simp![it,Ku ht]
 have it:=md (v:=.tup xs) rfl
 by_cases hl:xs.length=2
 ·match xs,hl,ha with
  |
   [a,b],_,ha=>
   have ha':(knV a && (knV b && true))=true:=by simpa [de] using ha
   simp only[Bool.and_eq_true] at ha'
   have w1:=jt ha'.1
   have w2:=jt ha'.2.1
   rcases m8 a with h1 | ⟨i,rfl⟩
   ·rw[h1] at w1
    simp![it,fK,w1,EO h1]
   rcases m8 b with h2 | ⟨j,rfl⟩
   ·rw[h2] at w2
    simp![it,fK,w1,kQ,w2,Ew h2]
   have f:bf (.tup [.int i,.int j])=(decide (1<=j) && decide (Int.gcd i j=1)):=rfl
   have g:((((Int.gcd i j:Nat):Int) == 1):Bool)=decide (Int.gcd i j=1):=by
    rw[Bool.eq_iff_iff,beq_iff_eq,decide_eq_true_eq];omega
   by_cases hj:1<=j
   ·simp![it,fK,w1,w2,kQ,dF,decide_eq_true hj,f,g]
   ·simp![it,fK,w1,w2,kQ,dF,decide_eq_false hj,f,g]
 ·have e:(((xs.length:Nat):Int) == 2)=false:=by rw[beq_eq_false_iff_ne];omega
  simp![it,fK,e,JA hl]
theorem pH {v:Val} (ha:de 2 v=true):ft.G [v]=.ok (.val (.bl (bQ v))) []:=by
 unfold ft
 rw[bh]
 unfold mY
 rcases sj v with ht | ⟨xs,rfl⟩
 ·have it:=md (BI ha ht)
  rw[ht] at it
  simp![it,JN ht]
 have it:=md (v:=.tup xs) rfl
 by_cases hl:xs.length=4
 ·match
   xs,hl,ha with
  |
   [a,b,c,d],_,ha=>
   have e1:bQ (.tup [a,b,c,d])=(bf a && (bf b && (bf c && (bf d && (ko c && ko d))))):=rfl
   have bl4:∀ x y z w:Bool,lz [.bl x,.bl y,.bl z,.bl w]=some [x,y,z,w]:=λ_ _ _ _=>rfl
   obtain⟨e',⟨s',rfl,_⟩,lc⟩:=oX (g:=(gtN 0).G) (F:=(aB cq (af (ai 0) ao)).G) (f:=λv=>.bl (bf v)) (λe=>∃ s,e=[s]/\s.pl=true) [a,b,c,d] [] [.no] ⟨.no,rfl,rfl⟩ (by
    rintro v hv e ⟨s,rfl,hs⟩
    have hv':de 1 v=true:=List.all_eq_true.mp (by simpa [de] using ha) v hv
    refine⟨[.sh v],.val (.bl (bf v)),[.sh v],?_,?_,rfl,⟨_,rfl,rfl⟩⟩
    ·simp![hs]
    ·simp![o8 hv']) (by simp)
   have cy:cY=qY.G:=rfl
   rw[cy,List.nil_append] at lc
   simp only[List.map_cons,List.map_nil] at lc
   cases hA:(bf a && (bf b && (bf c && bf d))) with
   |
    true=>
    simp only[Bool.and_eq_true] at hA
    obtain⟨p,rfl⟩:=yj hA.2.2.1
    obtain⟨q,rfl⟩:=yj hA.2.2.2
    rw[hA.1,hA.2.1,hA.2.2.1,hA.2.2.2] at e1 lc
    have e2:bQ (.tup [a,b,fV p,fV q])=(decide (0 < p.num) && decide (0 < q.num)):=by rw[e1];rfl
    rw[e2]
    have i1:(fV p).items=some [.int p.num,.int p.den]:=rfl
    have i2:(fV q).items=some [.int q.num,.int q.den]:=rfl
    by_cases hp:0 < p.num
    ·simp![it,fK,lc,cN,bl4,id,i1,i2,decide_eq_true hp]
    ·simp![it,fK,lc,cN,bl4,id,i1,decide_eq_false hp]
   |
    false=>
    have e2:bQ (.tup [a,b,c,d])=false:=by
     rw[e1]
     revert hA
     generalize bf a=a',bf b=b',bf c=c',bf d=d',(ko c && ko d)=z
     revert a' b' c' d' z
     decide
    rw[e2]
    simp![it,fK,lc,cN,bl4,id,hA]
 ·have e:(((xs.length:Nat):Int) == 4)=false:=by rw[beq_eq_false_iff_ne];omega
  simp![it,fK,e,Jk hl]
theorem lL {v:Val} (ha:de 2 v=true):bE.G [v]=if bQ v=true then .ok (.val .non) [] else .exc "NoBox" []:=by
 unfold bE
 rw[bh]
 unfold ju
 cases h:bQ v with
 | true=>simp![pH ha,h]
 | false=>simp![pH ha,h]
theorem dM {b:Bx} (hb:b.Ok):bE.G [bV b]=.ok (.val .non) []:=by rw[lL (GX b),Bj hb];rfl
theorem Jl {v:Val} (h:kQ v=false):fH v=false:=by
 cases v <;> first | rfl | cases h
theorem zW (v:Val):eR v=false\/∃ xs,v=.lst xs:=by
 cases v <;> first | exact .inr ⟨_,rfl⟩ | exact .inl rfl
theorem rj {v:Val} (hk:knV v=true):c5.G [v]=.ok (.val (.bl (fH v))) []:=by
 have w:=jt hk
 unfold c5
 rw[bh]
 unfold jA
 rcases m8 v with h | ⟨i,rfl⟩
 ·rw[h] at w
  simp![w,Jl h]
 ·simp![w,kQ];rfl
theorem uO {v:Val} (hk:knV v=true):(az kits).G [v,.ty "list"]=.val (.bl (eR v)):=by
 cases v <;> first | rfl | cases hk
def iL (v:Val):R3F:=match v with
 | .lst xs=>if xs=[] then .exc "NoWeights" [] else if xs.all fH=true then (if xs.length<=40 then .ok (.val .non) [] else .exc "TooMany" []) else .exc "NoWeights" []
 | _=>.exc "NoWeights" []
theorem Hv {v:Val} (h:eR v=false):iL v=.exc "NoWeights" []:=by
 cases v <;> first | rfl | cases h
def iR:Val->Bool
 | .lst xs=>decide (xs.length<=1000) && xs.all knV
 | v=>knV v
theorem CS {v:Val} (h:iR v=true) (hl:eR v=false):knV v=true:=by cases v <;> first | (cases hl;done) | exact h
theorem j6 (f:Val->Bool):∀ xs:List Val,lz (xs.map λv=>.bl (f v))=some (xs.map f)
 | []=>rfl
 | x :: xs=>by show (lz (xs.map λv=>.bl (f v))).map (f x :: ·)=_;rw[j6 f xs];rfl
theorem kr (f:Val->Bool) (xs:List Val):(xs.map f).all id=xs.all f:=by rw[List.all_map];rfl
theorem iX {v:Val} (ha:iR v=true):bx.G [v]=iL v:=by
 unfold bx
 rw[bh]
 unfold fT
 rcases zW v with hv | ⟨xs,rfl⟩
 ·have il:=uO (CS ha hv)
  rw[hv] at il
  rw[Hv hv]
  simp![il]
 ·have ha':xs.length<=1000/\xs.all knV=true:=by simpa [iR] using ha
  have il:=uO (v:=.lst xs) rfl
  unfold iL
  dsimp only
  by_cases h0:xs=[]
  ·subst h0
   simp![il]
  ·have e0:(((xs.length:Nat):Int) == 0)=false:=by
    rw[beq_eq_false_iff_ne]
    intro z
    exact h0 (List.length_eq_zero_iff.mp (by omega))
   rw[if_neg h0]
   obtain⟨e',p',lc⟩:=oX (g:=(gtN 0).G) (F:=(aB c5 (af (ai 0) ao)).G) (f:=λv=>.bl (fH v)) (λe=>∃ s,e=[s]/\s.pl=true) xs [] [.no] ⟨.no,rfl,rfl⟩ (by
    rintro v hv e ⟨s,rfl,hs⟩
    refine⟨[.sh v],.val (.bl (fH v)),[.sh v],?_,?_,rfl,⟨_,rfl,rfl⟩⟩
    ·simp![hs]
    ·simp![rj (List.all_eq_true.mp ha'.2 v hv)]) (by simp;omega)
   obtain⟨s',rfl,_⟩:=p'
   have cy:cY=qY.G:=rfl
   rw[cy,List.nil_append] at lc
   have be:(xs.map λv=>Val.bl (fH v)).length<=16777216:=by rw[List.length_map];omega
   by_cases hw:xs.all fH=true
   ·rw[if_pos hw]
    by_cases h40:xs.length<=40
    ·have hd:decide ((40:Int) < ((xs.length:Nat):Int))=false:=decide_eq_false (by omega)
     rw[if_pos h40]
     simp![il,e0,cN,lc,be,j6,kr,hw,hd]
    ·have hd:decide ((40:Int) < ((xs.length:Nat):Int))=true:=decide_eq_true (by omega)
     rw[if_neg h40]
     simp![il,e0,cN,lc,be,j6,kr,hw,hd]
   ·have hw':xs.all fH=false:=Bool.eq_false_iff.mpr hw
    rw[if_neg hw]
    simp![il,e0,cN,lc,be,j6,kr,hw']
theorem nY {ws:List Int} (h0:ws ≠ []) (h1:∀ w ∈ ws,1<=w) (h2:ws.length<=40):bx.G [.lst (ws.map .int)]=.ok (.val .non) []:=by
 have ha:iR (.lst (ws.map .int))=true:=by
  simp only[iR,Bool.and_eq_true,decide_eq_true_eq,List.length_map]
  exact⟨by omega,by rw[List.all_eq_true];intro v hv;obtain⟨w,_,rfl⟩:=List.mem_map.mp hv;rfl⟩
 rw[iX ha]
 unfold iL
 dsimp only
 rw[if_neg (by intro z;exact h0 (List.map_eq_nil_iff.mp z)),if_pos (by
  rw[List.all_eq_true];intro v hv
  obtain⟨w,hw,rfl⟩:=List.mem_map.mp hv
  exact decide_eq_true (h1 w hw)),if_pos (by rw[List.length_map];exact h2)]
theorem sA {p q:Rat} (hq:q ≠ 0):p / q=((p.num * q.den:Int):Rat) / ((p.den * q.num:Int):Rat):=by
 have h1:=jc (cV p)
 have h2:=jc (cV q)
 have h3:q.num ≠ 0:=λz=>hq (Rat.num_eq_zero.mp z)
 have h4:=jc h3
 conv=>lhs;rw[iy p,iy q]
 rw[Rat.intCast_mul,Rat.intCast_mul]
 simp only[Rat.div_def,Rat.inv_mul_rev,Rat.inv_inv]
 rw[Rat.mul_assoc,Rat.mul_assoc,Rat.mul_comm (((p.den:Int):Rat))⁻¹,Rat.mul_assoc]
theorem uG {p q:Rat}{n m:Nat} (hp:Sz n p) (hq:Sz m q) (h0:0 < q) (h:n + m<=8000):gL.G [fV p,fV q]=.ok (.val (fV (p / q))) []:=by
 have c1:=du (CMulA.of hp.top hq.bot (by omega) (by omega))
 have c2:=du (CMulA.of hp.bot hq.top (by omega) (by omega))
 have hq0:q ≠ 0:=λz=>by rw[z] at h0;exact absurd h0 (by decide)
 have hn:q.num ≠ 0:=λz=>hq0 (Rat.num_eq_zero.mp z)
 have fe:=eX (a:=p.num * q.den) (b:=p.den * q.num) (Int.mul_ne_zero (cV p) hn) ((hp.bot.mul hq.top).mono h)
 rw[<- sA hq0] at fe
 unfold gL
 rw[bh]
 unfold rZ
 rw[show fV p=.tup [.int p.num,.int p.den] from rfl,show fV q=.tup [.int q.num,.int q.den] from rfl]
 simp![c1,c2,fe]
def Am (b:Bx):Str:=if b.w < b.h then "down" else "across"
theorem t9 {b:Bx}{n:Nat} (hb:b.Ok) (hs:b.Sz n) (h:n<=8000):dW.G [bV b]=.ok (.val (.str (Am b))) []:=by
 have cb:=dM hb
 have il:=fM hs.w hs.h (by omega) (by omega)
 have ib:(bV b).items=some [fV b.l,fV b.t,fV b.w,fV b.h]:=rfl
 unfold dW Am
 rw[bh]
 unfold kN
 by_cases hl:b.w < b.h
 ·rw[if_pos hl]
  rw[decide_eq_true hl] at il
  simp![cb,ib,il]
 ·rw[if_neg hl]
  rw[decide_eq_false hl] at il
  simp![cb,ib,il]
theorem xu:eS (.str "down") (.str "across")=some false:=by rw[L3.eq_str (by decide) (by decide)];exact congrArg some (by decide)
theorem yb:eS (.str "across") (.str "across")=some true:=by rw[L3.eq_str (by decide) (by decide)];exact congrArg some (by decide)
theorem AM {b:Bx}{n:Nat} (hb:b.Ok) (hs:b.Sz n) (h:n + n<=8000):fA.G [bV b]=.ok (.val (fV (lq b))) []:=by
 have lw:=t9 hb hs (by omega)
 have ib:(bV b).items=some [fV b.l,fV b.t,fV b.w,fV b.h]:=rfl
 have o1:=uG hs.w hs.h hb.2 h
 have o2:=uG hs.h hs.w hb.1 h
 unfold fA lq
 rw[bh]
 unfold oF
 unfold Am at lw
 by_cases hl:b.w < b.h
 ·rw[if_pos hl] at lw ⊢
  simp![lw,ib,o1,o2,xu]
 ·rw[if_neg hl] at lw ⊢
  simp![lw,ib,o1,o2,yb]
theorem Sz.over {p q:Rat}{n m:Nat} (hp:Sz n p) (hq:Sz m q) (h0:0 < q):Sz (n + m) (p / q):=by
 have hq0:q ≠ 0:=λz=>by rw[z] at h0;exact absurd h0 (by decide)
 have hn:q.num ≠ 0:=λz=>hq0 (Rat.num_eq_zero.mp z)
 rw[sA hq0]
 exact Sz.div (Int.mul_ne_zero (cV p) hn) (hp.top.mul hq.bot) (hp.bot.mul hq.top) (n + m) (Nat.le_refl _) (Nat.le_refl _)
theorem Fh {b:Bx}{n:Nat} (hb:b.Ok) (hs:b.Sz n):Sz (n + n) (lq b):=by
 unfold lq
 split
 ·exact Sz.over hs.h hs.w hb.1
 ·exact Sz.over hs.w hs.h hb.2
theorem rM {p q:Rat}{n m:Nat} (hp:Sz n p) (hq:Sz m q) (h1:n<=100000) (h2:m<=100000):cj.G [.lst [fV p,fV q]]=.ok (.val (fV (if p < q then q else p))) []:=by
 have l1:=fM hp hp h1 h1
 have l2:=fM hp hq h1 h2
 rw[decide_eq_false (Rat.lt_irrefl:¬ p < p)] at l1
 unfold cj
 rw[bh]
 unfold gY fY
 by_cases hl:p < q
 ·rw[decide_eq_true hl] at l2
  rw[if_pos hl]
  simp![fm,l1,l2]
 ·rw[decide_eq_false hl] at l2
  rw[if_neg hl]
  simp![fm,l1,l2]
def prV (p:Rat×Rat):Val:=.tup [fV p.1,fV p.2]
theorem u6 {s l:Rat}{n m:Nat}{W:Int}{wv:Val} (hs:Sz n s) (hl:Sz n l) (hW:0 < W) (mW:Sm m W) (h:n + n + m<=8000):∀ (ws:List Int) (a:Int) (acc:List (Rat×Rat)) (s6 s7:Sl),s6.pl=true->s7.pl=true->0<=a->(∀ w ∈ ws,0<=w)->a + ws.sum<=W->acc.length + ws.length<=16777216->∃ s6' s7',fI (gtN 6).G gM.G (ws.map .int) [.sh (fV s),.sh (fV l),.sh wv,.sh (.int W),.sh (.int a),.ow (.lst (acc.map prV)),s6,s7]=.nx [.sh (fV s),.sh (fV l),.sh wv,.sh (.int W),.sh (.int (a + ws.sum)),.ow (.lst ((acc++shL s l W a ws).map prV)),s6',s7']
 | [],a,acc,s6,s7,h6,h7,ha,hw,hsum,be=>⟨s6,s7,by rw[List.map_nil,lU,List.sum_nil,Int.add_zero];unfold shL;rw[List.append_nil]⟩
 |
  w :: ws,a,acc,s6,s7,h6,h7,ha,hw,hsum,be=>by
  have hw0:=hw w (List.mem_cons_self ..)
  have hws:0<=ws.sum:=by
   have:∀ l:List Int,(∀ w ∈ l,0<=w)->0<=l.sum:=by
    intro l
    induction l with
    | nil=>intro _;simp
    | cons x l ih=>intro hx;rw[List.sum_cons];have:=hx x (List.mem_cons_self ..);have:=ih λw hw=>hx w (List.mem_cons_of_mem _ hw);omega
   exact this ws λx hx=>hw x (List.mem_cons_of_mem _ hx)
  rw[List.sum_cons] at hsum
  rw[List.length_cons] at be
  have sa:Sm m a:=mW.of_le (by omega)
  have sw:Sm m w:=mW.of_le (by omega)
  have f1:=eX (a:=a) (b:=W) (by omega) (mW.mono (by omega))
  have f2:=eX (a:=w) (b:=W) (by omega) (mW.mono (by omega))
  have z1:Sz m ((a:Rat) / (W:Rat)):=Sz.div (by omega) sa mW m (Nat.le_refl _) (Nat.le_refl _)
  have z2:Sz m ((w:Rat) / (W:Rat)):=Sz.div (by omega) sw mW m (Nat.le_refl _) (Nat.le_refl _)
  have t1:=sH hl z1 (by omega)
  have t2:=sH hl z2 (by omega)
  have ad:=Bo hs (hl.mul z1) (by omega)
  have ll:(acc.map prV).length < 16777216:=by rw[List.length_map];omega
  obtain⟨t6,t7,ih⟩:=u6 (wv:=wv) hs hl hW mW h ws (a + w) (acc++[(s + l * ((a:Rat) / (W:Rat)),l * ((w:Rat) / (W:Rat)))]) (.sh (.int w)) (.sh (fV (s + l * ((a:Rat) / (W:Rat))))) rfl rfl (by omega) (λx hx=>hw x (List.mem_cons_of_mem _ hx)) (by omega) (by simp;omega)
  refine⟨t6,t7,?_⟩
  have g1:(gtN 6).G (.int w) [.sh (fV s),.sh (fV l),.sh wv,.sh (.int W),.sh (.int a),.ow (.lst (acc.map prV)),s6,s7]=some [.sh (fV s),.sh (fV l),.sh wv,.sh (.int W),.sh (.int a),.ow (.lst (acc.map prV)),.sh (.int w),s7]:=by
   simp![h6]
  have b1:gM.G [.sh (fV s),.sh (fV l),.sh wv,.sh (.int W),.sh (.int a),.ow (.lst (acc.map prV)),.sh (.int w),s7]=.nx [.sh (fV s),.sh (fV l),.sh wv,.sh (.int W),.sh (.int (a + w)),.ow (.lst ((acc++[(s + l * ((a:Rat) / (W:Rat)),l * ((w:Rat) / (W:Rat)))]).map prV)),.sh (.int w),.sh (fV (s + l * ((a:Rat) / (W:Rat))))]:=by
   unfold gM
   rw[List.map_append]
   simp![h7,f1,f2,t1,t2,ad,ll,prV]
  rw[List.map_cons,fm,g1]
  simp only[b1,nX]
  rw[ih,List.sum_cons]
  rw[show shL s l W a (w :: ws)=(s + l * ((a:Rat) / (W:Rat)),l * ((w:Rat) / (W:Rat))) :: shL s l W (a + w) ws from rfl,List.append_assoc,show a + w + ws.sum=a + (w + ws.sum) by omega]
  rfl
theorem pO {s l:Rat}{n m:Nat}{ws:List Int} (hs:Sz n s) (hl:Sz n l) (hw:∀ w ∈ ws,0<=w) (h0:0 < ws.sum) (mW:Sm m ws.sum) (h:n + n + m<=8000) (be:ws.length<=1000):eG.G [fV s,fV l,.lst (ws.map .int)]=.ok (.new (.lst ((shL s l ws.sum 0 ws).map prV))) []:=by
 obtain⟨s6,s7,lo⟩:=u6 (wv:=.lst (ws.map .int)) hs hl h0 mW h ws 0 [] .no .no rfl rfl (by omega) hw (by omega) (by simp;omega)
 rw[List.nil_append,List.map_nil] at lo
 unfold eG
 rw[bh]
 unfold mT
 simp![lo]
theorem GS {way:Str} (hw:way="across" \/ way="down"):dw.G [.str way]=.ok (.val .non) []:=by
 have i1:∀ x:Str,(az kits).G [.str x,.ty "str"]=.val (.bl true):=λ_=>rfl
 have i2:bIn.G (.str way) (.tup [.str "across",.str "down"])=.val (.bl true):=by
  rcases hw with rfl | rfl <;> rfl
 have e1:fi.G [.str way]=.ok (.val (.bl true)) []:=by
  unfold fi
  rw[bh]
  unfold mX
  simp![i1,i2]
 unfold dw
 rw[bh]
 unfold jw
 simp![e1]
theorem yN {b:Bx}{n m:Nat}{way:Str}{ws:List Int} (hb:b.Ok) (hs:b.Sz n) (hway:way="across" \/ way="down") (h0:ws ≠ []) (hw:∀ w ∈ ws,1<=w) (mW:Sm m ws.sum) (h:n + n + m<=8000) (be:ws.length<=40):eB.G [bV b,.str way,.lst (ws.map .int)]=.ok (.new (.lst ((gE b way ws).map bV))) []:=by
 have cw:=nY h0 hw be
 have cy:=GS hway
 have sp:0 < ws.sum:=by
  cases ws with
  | nil=>exact absurd rfl h0
  |
   cons x l=>
   rw[List.sum_cons]
   have:=hw x (List.mem_cons_self ..)
   have:∀ l:List Int,(∀ w ∈ l,1<=w)->0<=l.sum:=by
    intro l
    induction l with
    | nil=>intro _;simp
    | cons x l ih=>intro hx;rw[List.sum_cons];have:=hx x (List.mem_cons_self ..);have:=ih λw hw=>hx w (List.mem_cons_of_mem _ hw);omega
   have:=this l λx hx=>hw x (List.mem_cons_of_mem _ hx)
   omega
 have cb:bE.G [.tup [fV b.l,fV b.t,fV b.w,fV b.h]]=.ok (.val .non) []:=dM hb
 have sh1:=pO hs.l hs.w (λw z=>by have:=hw w z;omega) sp mW h (by omega)
 have sh2:=pO hs.t hs.h (λw z=>by have:=hw w z;omega) sp mW h (by omega)
 show eB.G [.tup [fV b.l,fV b.t,fV b.w,fV b.h],.str way,.lst (ws.map .int)]=_
 unfold eB gE
 rw[bh]
 unfold mO
 rcases hway with rfl | rfl
 ·rw[if_pos (rfl:("across" : Str)="across")]
  have ln:=pf b.l b.w ws.sum ws 0
  obtain⟨e',⟨s,t,rfl,_,_⟩,lc⟩:=eI (g:=(gtT 2 (dA (gtN 0) (dA (gtN 1) jo))).G) (F:=(aU (af (ai 0) (af (ai 2) (af (ai 1) (af (ai 3) ao))))).G) prV (λp=>bV ⟨p.1,b.t,p.2,b.h⟩) (λe=>∃ s t,e=[s,t,.sh (fV b.t),.sh (fV b.h)]/\s.pl=true/\t.pl=true) (shL b.l b.w ws.sum 0 ws) [] [.no,.no,.sh (fV b.t),.sh (fV b.h)] ⟨.no,.no,rfl,rfl,rfl⟩ (by
   rintro p hp e ⟨s,t,rfl,hs,ht⟩
   refine⟨[.sh (fV p.1),.sh (fV p.2),.sh (fV b.t),.sh (fV b.h)],.val (bV ⟨p.1,b.t,p.2,b.h⟩),[.sh (fV p.1),.sh (fV p.2),.sh (fV b.t),.sh (fV b.h)],?_,?_,rfl,⟨_,_,rfl,rfl,rfl⟩⟩
   ·simp![prV,hs,ht]
   ·simp![bV]) (by rw[ln,List.length_nil];omega)
  rw[List.nil_append] at lc
  have ll:((shL b.l b.w ws.sum 0 ws).map λp=>bV ⟨p.1,b.t,p.2,b.h⟩).length<=16777216:=by rw[List.length_map,ln];omega
  rw[List.map_map,show (bV ∘ λp:Rat×Rat=>(⟨p.1,b.t,p.2,b.h⟩:Bx))=λp=>bV ⟨p.1,b.t,p.2,b.h⟩ from rfl]
  simp![cb,cy,cw,yb,sh1,lc,ll]
 ·have hne:¬ (("down" : Str)="across"):=by decide
  rw[if_neg hne]
  have ln:=pf b.t b.h ws.sum ws 0
  obtain⟨e',⟨s,t,rfl,_,_⟩,lc⟩:=eI (g:=(gtT 2 (dA (gtN 0) (dA (gtN 1) jo))).G) (F:=(aU (af (ai 2) (af (ai 0) (af (ai 3) (af (ai 1) ao))))).G) prV (λp=>bV ⟨b.l,p.1,b.w,p.2⟩) (λe=>∃ s t,e=[s,t,.sh (fV b.l),.sh (fV b.w)]/\s.pl=true/\t.pl=true) (shL b.t b.h ws.sum 0 ws) [] [.no,.no,.sh (fV b.l),.sh (fV b.w)] ⟨.no,.no,rfl,rfl,rfl⟩ (by
   rintro p hp e ⟨s,t,rfl,hs,ht⟩
   refine⟨[.sh (fV p.1),.sh (fV p.2),.sh (fV b.l),.sh (fV b.w)],.val (bV ⟨b.l,p.1,b.w,p.2⟩),[.sh (fV p.1),.sh (fV p.2),.sh (fV b.l),.sh (fV b.w)],?_,?_,rfl,⟨_,_,rfl,rfl,rfl⟩⟩
   ·simp![prV,hs,ht]
   ·simp![bV]) (by rw[ln,List.length_nil];omega)
  rw[List.nil_append] at lc
  have ll:((shL b.t b.h ws.sum 0 ws).map λp=>bV ⟨b.l,p.1,b.w,p.2⟩).length<=16777216:=by rw[List.length_map,ln];omega
  rw[List.map_map,show (bV ∘ λp:Rat×Rat=>(⟨b.l,p.1,b.w,p.2⟩:Bx))=λp=>bV ⟨b.l,p.1,b.w,p.2⟩ from rfl]
  simp![cb,cy,cw,xu,sh2,lc,ll]
theorem K3 {ws nums:List Int} (hr:Inr ws nums) (hl:nums.length<=1000):∃ s,lcV (gtN 0).G qY.G (pOp bIx (ai 1) (ai 0)).G (nums.map .int) [] [.no,.sh (.lst (ws.map .int))]=.ok ((nums.map (fg ws)).map Val.int) [s,.sh (.lst (ws.map .int))]:=by
 obtain⟨e',⟨s,rfl,_⟩,lc⟩:=eI (g:=(gtN 0).G) (F:=(pOp bIx (ai 1) (ai 0)).G) Val.int (λi=>.int (fg ws i)) (λe=>∃ s,e=[s,.sh (.lst (ws.map .int))]/\s.pl=true) nums [] [.no,.sh (.lst (ws.map .int))] ⟨.no,rfl,rfl⟩ (by
  rintro i hi e ⟨s,rfl,hs⟩
  have a1:=Kq (hr i hi).1 (hr i hi).2
  refine⟨[.sh (.int i),.sh (.lst (ws.map .int))],.val (.int (fg ws i)),[.sh (.int i),.sh (.lst (ws.map .int))],?_,?_,rfl,⟨_,rfl,rfl⟩⟩
  ·simp![hs]
  ·simp![a1]) (by simp;omega)
 rw[List.nil_append,show nums.map (λi=>Val.int (fg ws i))=(nums.map (fg ws)).map Val.int by rw[List.map_map];rfl] at lc
 exact⟨s,lc⟩
theorem lp {ws nums:List Int} (hr:Inr ws nums) (hl:nums.length<=1000):cA.G [liV nums,liV ws]=.ok (.val (.int (wt ws nums))) []:=by
 obtain⟨s,lc⟩:=K3 hr hl
 have ll:((nums.map (fg ws)).map Val.int).length<=16777216:=by rw[List.length_map,List.length_map];omega
 show cA.G [.lst (nums.map .int),.lst (ws.map .int)]=_
 unfold cA wt
 rw[bh]
 unfold jn
 simp![cN,lc,ll]
theorem pW {B:PSt} (hB:B=(aR false 2 (pOp bp (ai 2) (pLC (dC (ai 2)) [none,some 3] (by decide) (gtN 0) qY (pOp bp (ai 0) (br (af (ai 1) ao))))))) {nv kv:Val}:∀ (rest:List Int) (L:List (List Int)) (s3:Sl),s3.pl=true->L.length * 2 ^ rest.length<=1000000->(∀ l ∈ L,l.length + rest.length<=1000)->∃ s3',fI (gtN 3).G B.G (rest.map .int) [.sh nv,.sh kv,.sh (.lst (L.map liV)),s3]=.nx [.sh nv,.sh kv,.sh (.lst ((gB L rest).map liV)),s3']
 | [],L,s3,h3,hb,hl=>⟨s3,by rw[List.map_nil,lU];rfl⟩
 |
  x :: rest,L,s3,h3,hb,hl=>by
  rw[List.length_cons,Nat.pow_succ] at hb
  have hpow:1<=2 ^ rest.length:=Nat.one_le_two_pow
  have hb1:L.length<=1000000:=Nat.le_trans (Nat.le_mul_of_pos_right _ (Nat.mul_pos hpow (by decide))) hb
  have hll:(L++L.map λl=>l++[x]).length=L.length + L.length:=by rw[List.length_append,List.length_map]
  obtain⟨s',ih⟩:=pW hB (nv:=nv) (kv:=kv) rest (L++L.map λl=>l++[x]) (.sh (.int x)) rfl (by
   rw[hll,<- Nat.two_mul,Nat.mul_comm 2,Nat.mul_assoc,Nat.mul_comm 2]
   exact hb) (λl h=>by
   rcases List.mem_append.mp h with h | h
   ·have:=hl l h
    rw[List.length_cons] at this
    omega
   ·obtain⟨l',h',rfl⟩:=List.mem_map.mp h
    have:=hl l' h'
    rw[List.length_cons] at this
    rw[List.length_append]
    show l'.length + 1 + _<=_
    omega)
  refine⟨s',?_⟩
  have g1:(gtN 3).G (.int x) [.sh nv,.sh kv,.sh (.lst (L.map liV)),s3]=some [.sh nv,.sh kv,.sh (.lst (L.map liV)),.sh (.int x)]:=by
   simp![h3]
  obtain⟨e',⟨s,rfl,_⟩,lc⟩:=eI (g:=(gtN 0).G) (F:=(pOp bp (ai 0) (br (af (ai 1) ao))).G) liV (λl=>liV (l++[x])) (λe=>∃ s,e=[s,.sh (.int x)]/\s.pl=true) L [] [.no,.sh (.int x)] ⟨.no,rfl,rfl⟩ (by
   rintro l h e ⟨s,rfl,hs⟩
   have ll:=hl l h
   have cl:(l.map Val.int).length + 1<=16777216:=by rw[List.length_map];omega
   have e2:liV (l++[x])=.lst (l.map .int++[.int x]):=by unfold liV;rw[List.map_append];rfl
   refine⟨[.sh (liV l),.sh (.int x)],.new (liV (l++[x])),[.sh (liV l),.sh (.int x)],?_,?_,rfl,⟨_,rfl,rfl⟩⟩
   ·simp![hs]
   ·rw[e2]
    simp![liV,cl]) (by rw[List.length_nil];omega)
  rw[List.nil_append] at lc
  have c1:(L.map λl=>liV (l++[x])).length<=16777216:=by rw[List.length_map];omega
  have c2:(L.map liV).length + (L.map λl=>liV (l++[x])).length<=16777216:=by rw[List.length_map,List.length_map];omega
  have hcat:L.map liV++(L.map λl=>liV (l++[x]))=(L++L.map λl=>l++[x]).map liV:=by simp
  have b1:B.G [.sh nv,.sh kv,.sh (.lst (L.map liV)),.sh (.int x)]=.nx [.sh nv,.sh kv,.sh (.lst (L.map liV++(L.map λl=>liV (l++[x])))),.sh (.int x)]:=by
   rw[hB]
   simp![cN,lc,c1,c2]
  rw[hcat] at b1
  rw[List.map_cons,fm,g1]
  simp only[b1,nX]
  exact ih
theorem Ep:eS (.str "order") (.str "order")=some true:=by rw[L3.eq_str (by decide) (by decide)];exact congrArg some (by decide)
theorem GR:eS (.str "any") (.str "order")=some false:=by rw[L3.eq_str (by decide) (by decide)];exact congrArg some (by decide)
theorem Dc {n:Nat} (h:n<=1000):oi [.int 1,.int (n:Nat)]=some ((List.range' 1 (n - 1)).map λi=>Val.int (i:Nat)):=by
 unfold oi
 dsimp only
 rw[if_pos ⟨⟨by decide,by decide⟩,⟨by omega,by omega⟩⟩]
 unfold o3
 rw[List.range'_eq_map_range,List.map_map,show (((n:Nat):Int) - 1).toNat=n - 1 by omega]
 congr 1
theorem CN {nums:List Int} (hl:nums.length<=1000):∃ s,lcV (gtN 0).G qY.G (pSl (ai 1) oN (oS (ai 0))).G ((List.range' 1 (nums.length - 1)).map λi=>Val.int (i:Nat)) [] [.no,.sh (.lst (nums.map .int))]=.ok ((dG "order" nums).map liV) [s,.sh (.lst (nums.map .int))]:=by
 obtain⟨e',⟨s,rfl,_⟩,lc⟩:=eI (g:=(gtN 0).G) (F:=(pSl (ai 1) oN (oS (ai 0))).G) (λi:Nat=>Val.int (i:Nat)) (λi=>liV (nums.take i)) (λe=>∃ s,e=[s,.sh (.lst (nums.map .int))]/\s.pl=true) (List.range' 1 (nums.length - 1)) [] [.no,.sh (.lst (nums.map .int))] ⟨.no,rfl,rfl⟩ (by
  rintro i hi e ⟨s,rfl,hs⟩
  have sl:aSl (.lst (nums.map Val.int)) none (some ((i:Nat):Int))=.new (.lst ((nums.take i).map .int)):=by
   rw[nu,qX,List.map_take]
  refine⟨[.sh (.int (i:Nat)),.sh (.lst (nums.map .int))],.new (liV (nums.take i)),[.sh (.int (i:Nat)),.sh (.lst (nums.map .int))],?_,?_,rfl,⟨_,rfl,rfl⟩⟩
  ·simp![hs]
  ·simp![liV,sl]) (by simp;omega)
 rw[List.nil_append] at lc
 refine⟨s,?_⟩
 rw[lc]
 unfold dG
 rw[if_pos rfl,List.map_map]
 rfl
theorem vR {nums:List Int}{kind:Str} (hk:kind="order" \/ kind="any") (h2:nums ≠ []) (hl:nums.length<=10):c4.G [liV nums,.str kind]=.ok (.new (.lst ((dG kind nums).map liV))) []:=by
 have be:=tJ (kind:=kind) hl
 rcases hk with rfl | rfl
 ·obtain⟨s,lc⟩:=CN (nums:=nums) (by omega)
  have rg:=Dc (n:=nums.length) (by omega)
  have ll:((dG "order" nums).map liV).length<=16777216:=by rw[List.length_map];omega
  have lm:((nums.map Val.int).length:Nat)=nums.length:=List.length_map ..
  show c4.G [.lst (nums.map .int),.str "order"]=_
  unfold c4
  rw[bh]
  unfold je
  simp![Ep,lm,rg,cN,lc,ll]
 ·match nums,h2 with
  |
   x :: rest,h2=>
   rw[List.length_cons] at hl
   obtain⟨s',q4⟩:=pW (B:=kB) rfl (nv:=.lst ((x :: rest).map .int)) (kv:=.str "any") rest [[x]] .no rfl (by
    have:2 ^ rest.length<=2 ^ 9:=Nat.pow_le_pow_right (by decide) (by omega)
    simp
    omega) (by intro l hl';rw[List.mem_singleton] at hl';subst hl';simp;omega)
   have s1:aSl (.lst (Val.int x :: rest.map .int)) none (some 1)=.new (liV [x]):=by
    rw[nu,show (some 1:Option Int)=some ((1:Nat):Int) from rfl,qX]
    rfl
   have s2:aSl (.lst (Val.int x :: rest.map .int)) (some 1) none=.new (.lst (rest.map .int)):=by
    rw[nu,show (some 1:Option Int)=some ((1:Nat):Int) from rfl,zX]
    rfl
   have s3:aSl (.lst ((gB [[x]] rest).map liV)) none (some (-1))=.new (.lst ((dG "any" (x :: rest)).map liV)):=by
    rw[nu,Dk]
    unfold dG
    rw[if_neg (by decide),List.map_dropLast]
   show c4.G [.lst ((x :: rest).map .int),.str "any"]=_
   unfold c4
   rw[bh]
   unfold je
   rw[show [[x]].map liV=[liV [x]] from rfl,show (x :: rest).map Val.int=Val.int x :: rest.map Val.int from rfl] at q4
   simp![GR,s1,s2,q4,s3]
theorem Hm (nums l:List Int) (hl:nums.length<=1000):∃ s,lcV (gtN 0).G (qOf (pOp o7 (ai 0) (ai 1))).G (ai 0).G (nums.map .int) [] [.no,.sh (liV l)]=.ok ((rst nums l).map .int) [s,.sh (liV l)]:=by
 obtain⟨e',⟨s,rfl,_⟩,lc⟩:=pj (g:=(gtN 0).G) (c:=(qOf (pOp o7 (ai 0) (ai 1))).G) (F:=(ai 0).G) (λx=>!l.contains x) Val.int Val.int (λe=>∃ s,e=[s,.sh (liV l)]/\s.pl=true) nums [] [.no,.sh (liV l)] ⟨.no,rfl,rfl⟩ (by
  rintro x hx e ⟨s,rfl,hs⟩
  have k1:o7.G (.int x) (liV l)=.val (.bl (!l.contains x)):=ym l x
  refine⟨[.sh (.int x),.sh (liV l)],[.sh (.int x),.sh (liV l)],?_,?_,⟨_,rfl,rfl⟩,λ_=>⟨.val (.int x),[.sh (.int x),.sh (liV l)],?_,rfl,⟨_,rfl,rfl⟩⟩⟩
  ·simp![hs]
  ·simp![k1]
  ·simp![ek]) (by rw[List.length_nil];omega)
 rw[List.nil_append] at lc
 exact⟨s,lc⟩
theorem E1 {nums l:List Int}{kv:Val}{acc:List (Str×List Int×List Int)}{s4:Sl} (h4:s4.pl=true) (hl:nums.length<=1000) (ha:acc.length<=1000000):fL.G [.sh (liV nums),.sh kv,.ow (.lst (acc.map cuV)),.sh (liV l),s4]=.nx [.sh (liV nums),.sh kv,.ow (.lst ((acc++ip nums l).map cuV)),.sh (liV l),.sh (.str "down")]:=by
 obtain⟨s,lc⟩:=Hm nums l hl
 have lr:((rst nums l).map Val.int).length<=16777216:=by
  rw[List.length_map]
  have:=List.length_filter_le (λx=>!l.contains x) nums
  show (nums.filter _).length<=_
  omega
 have it:(liV l).items=some (l.map .int):=rfl
 have sq:jU (.val (.lst (nums.map .int)))=jU (.val (liV nums)):=rfl
 have b1:∀ (acc:List (Str×List Int×List Int)) (way:Str),acc.length<=1000001->ia.G [.sh (liV nums),.sh kv,.ow (.lst (acc.map cuV)),.sh (liV l),.sh (.str way)]=.nx [.sh (liV nums),.sh kv,.ow (.lst ((acc++[(way,l,rst nums l)]).map cuV)),.sh (liV l),.sh (.str way)]:=by
  intro acc way ha
  have la:(acc.map cuV).length < 16777216:=by rw[List.length_map];omega
  have e2:(acc++[(way,l,rst nums l)]).map cuV=acc.map cuV++[.tup [.str way,.lst (l.map .int),.lst ((rst nums l).map .int)]]:=by rw[List.map_append];rfl
  rw[e2]
  unfold ia
  unfold liV at lc ⊢
  simp![wZ,cN,lc,lr,la]
 unfold fL
 have e3:acc++ip nums l=(acc++[(("across" : Str),l,rst nums l)])++[(("down" : Str),l,rst nums l)]:=by unfold ip;simp
 rw[e3]
 have c1:=b1 acc "across" (by omega)
 have c2:=b1 (acc++[(("across" : Str),l,rst nums l)]) "down" (by rw[List.length_append];show acc.length + 1<=_;omega)
 simp![fm,h4,c1,c2]
theorem wJ {nums:List Int}{kind:Str} (hk:kind="order" \/ kind="any") (h2:nums ≠ []) (hl:nums.length<=10):dP.G [liV nums,.str kind]=.ok (.new (.lst ((jg kind nums).map cuV))) []:=by
 have lo:=vR hk h2 hl
 have ln:=tJ (kind:=kind) hl
 have fold:∀ (ls:List (List Int)) (acc:List (Str×List Int×List Int)) (s3 s4:Sl),s3.pl=true->s4.pl=true->acc.length + 2 * ls.length<=1000000->∃ s3' s4',fI (gtN 3).G fL.G (ls.map liV) [.sh (liV nums),.sh (.str kind),.ow (.lst (acc.map cuV)),s3,s4]=.nx [.sh (liV nums),.sh (.str kind),.ow (.lst ((acc++ls.flatMap (ip nums)).map cuV)),s3',s4']:=by
  intro ls
  induction ls with
  | nil=>intro acc s3 s4 _ _ _;exact⟨s3,s4,by rw[List.map_nil,lU,List.flatMap_nil,List.append_nil]⟩
  |
   cons l ls ih=>
   intro acc s3 s4 h3 h4 hb
   rw[List.length_cons] at hb
   have g1:(gtN 3).G (liV l) [.sh (liV nums),.sh (.str kind),.ow (.lst (acc.map cuV)),s3,s4]=some [.sh (liV nums),.sh (.str kind),.ow (.lst (acc.map cuV)),.sh (liV l),s4]:=by
    simp![h3]
   have b2:=E1 (kv:=.str kind) (nums:=nums) (l:=l) (acc:=acc) h4 (by omega) (by omega)
   obtain⟨t3,t4,q⟩:=ih (acc++ip nums l) (.sh (liV l)) (.sh (.str "down")) rfl rfl (by rw[List.length_append];show acc.length + 2 + _<=_;omega)
   refine⟨t3,t4,?_⟩
   rw[List.map_cons,fm,g1]
   simp only[b2,nX]
   rw[q,List.flatMap_cons,List.append_assoc]
 obtain⟨s3,s4,fr⟩:=fold (dG kind nums) [] .no .no rfl rfl (by rw[List.length_nil];omega)
 rw[List.nil_append,List.map_nil] at fr
 unfold dP jg
 rw[bh]
 unfold lQ
 simp![lo,fr]
theorem uc {c:Str×List Int×List Int}{b:Bx}{ws:List Int}{n m:Nat} (hb:b.Ok) (hs:b.Sz n) (hway:c.1="across" \/ c.1="down") (r1:Inr ws c.2.1) (r2:Inr ws c.2.2) (l1:c.2.1.length<=1000) (l2:c.2.2.length<=1000) (h1:1<=wt ws c.2.1) (h2:1<=wt ws c.2.2) (mW:Sm m (wt ws c.2.1 + wt ws c.2.2)) (h:n + n + m<=8000):cX.G [cuV c,bV b,liV ws]=.ok (.new (.lst [bV (gi b c.1 (wt ws c.2.1) (wt ws c.2.2)),bV (gR b c.1 (wt ws c.2.1) (wt ws c.2.2))])) []:=by
 have w1:=lp r1 l1
 have w2:=lp r2 l2
 have pe:=yN (ws:=[wt ws c.2.1,wt ws c.2.2]) hb hs hway (by simp) (by intro w hw;simp at hw;omega) (m:=m) (by simpa using mW) h (by simp)
 rw[rJ,List.map_cons,List.map_cons,List.map_nil,List.map_cons,List.map_cons,List.map_nil] at pe
 show cX.G [.tup [.str c.1,liV c.2.1,liV c.2.2],bV b,liV ws]=_
 unfold cX
 rw[bh]
 unfold kG
 simp![w1,w2,pe]
structure Ok51 (ws nums:List Int) (b:Bx) (n m:Nat):Prop where
 ne:nums ≠ []
 nd:nums.Nodup
 inr:Inr ws nums
 len:nums.length<=10
 mw:Sm m (wt ws nums)
 ok:b.Ok
 sz:b.Sz n
 bd:(n + m + 1) * 2 ^ nums.length<=4000
theorem Ok51.nm {ws nums:List Int}{b:Bx}{n m:Nat} (h:Ok51 ws nums b n m):n + m + 1<=2000:=by
 have h1:=List.length_pos_iff.mpr h.ne
 have h2:2 ^ 1<=2 ^ nums.length:=Nat.pow_le_pow_right (by decide) h1
 have h3:=h.bd
 have:(n + m + 1) * 2 ^ 1<=4000:=Nat.le_trans (Nat.mul_le_mul_left _ h2) h3
 omega
structure Sub51 (ws nums:List Int) (b:Bx) (n m:Nat) (c:Str×List Int×List Int):Prop where
 w1:1<=wt ws c.2.1
 w2:1<=wt ws c.2.2
 sm:Sm m (wt ws c.2.1 + wt ws c.2.2)
 o1:Ok51 ws c.2.1 (gi b c.1 (wt ws c.2.1) (wt ws c.2.2)) (n + (n + m) + 1) m
 o2:Ok51 ws c.2.2 (gR b c.1 (wt ws c.2.1) (wt ws c.2.2)) (n + (n + m) + 1) m
theorem Ok51.cut {ws nums:List Int}{b:Bx}{n m:Nat} (h:Ok51 ws nums b n m) (hw:∀ w ∈ ws,1<=w) {c:Str×List Int×List Int} (hc:CutOk nums c):Sub51 ws nums b n m c:=by
 have r1:Inr ws c.2.1:=λi hi=>h.inr i (hc.one.sub.subset hi)
 have r2:Inr ws c.2.2:=λi hi=>h.inr i (hc.two.sub.subset hi)
 have l1:=List.length_pos_iff.mpr hc.one.ne
 have l2:=List.length_pos_iff.mpr hc.two.ne
 have g1:=Bu hw r1
 have g2:=Bu hw r2
 have es:wt ws c.2.1 + wt ws c.2.2=wt ws nums:=by
  rw[<- E5]
  have p:=mU hc.one.sub h.nd
  rw[<- hc.rest] at p
  exact jM p
 have sm:Sm m (wt ws c.2.1 + wt ws c.2.2):=by rw[es];exact h.mw
 have k1:=C7 (way:=c.1) h.ok h.sz (by omega:1<=wt ws c.2.1) (by omega:1<=wt ws c.2.2) sm
 have k2:=CK (way:=c.1) h.ok h.sz (by omega:1<=wt ws c.2.1) (by omega:1<=wt ws c.2.2) sm
 have bd:∀ l:List Int,Lot nums l->(n + (n + m) + 1 + m + 1) * 2 ^ l.length<=4000:=by
  intro l hl
  have h1:=hl.lt
  have h2:2 ^ (l.length + 1)<=2 ^ nums.length:=Nat.pow_le_pow_right (by decide) h1
  have h3:=h.bd
  have h4:(n + m + 1) * 2 ^ (l.length + 1)<=4000:=Nat.le_trans (Nat.mul_le_mul_left _ h2) h3
  rw[Nat.pow_succ,Nat.mul_comm (2 ^ l.length),<- Nat.mul_assoc] at h4
  rw[show n + (n + m) + 1 + m + 1=(n + m + 1) * 2 by omega]
  exact h4
 have hl:=h.len
 have q1:=hc.one.lt
 have q2:=hc.two.lt
 exact⟨by omega,by omega,sm,⟨hc.one.ne,h.nd.sublist hc.one.sub,r1,by omega,sm.of_le (by omega),k1.1,k1.2,bd _ hc.one⟩,⟨hc.two.ne,h.nd.sublist hc.two.sub,r2,by omega,sm.of_le (by omega),k2.1,k2.2,bd _ hc.two⟩⟩
theorem xm {nums:List Int} (nd:nums.Nodup) {c:Str×List Int×List Int} (h:c ∈ jg "order" nums):c.2.1++c.2.2=nums:=by
 have hc:=uZ nd h
 obtain⟨l,hl,hc'⟩:=List.mem_flatMap.mp h
 unfold dG at hl
 rw[if_pos rfl] at hl
 obtain⟨i,_,rfl⟩:=List.mem_map.mp hl
 have e:c.2.1=nums.take i:=by
  unfold ip at hc'
  rcases List.mem_cons.mp hc' with rfl | hc'
  ·rfl
  ·rw[List.mem_singleton] at hc'
   subst hc'
   rfl
 rw[hc.rest,e,zG nd,List.take_append_drop]
def E2 (kind:Str) (ws nums:List Int) (b:Bx) (o:Option Rat) (bv:Val):Prop:=match o with
 | none=>bv=.non
 | some q=>∃ t ls,bv=.tup [fV q,t]/\Sz 4000 q/\ls.Perm nums/\(kind="order"->ls=nums)/\Tr ws b ls t q
theorem BN (q:Rat):L3.flatV (fV q)=true:=by unfold fV;simp [lb,eZ,fQ,lJ]
theorem JC {x y:Rat}{n:Nat} (hx:Sz n x) (hy:Sz n y):Sz n (mx x y):=by
 unfold mx
 split
 ·exact hy
 ·exact hx
theorem IW {x y:Rat}:¬ mx x y < x:=by
 unfold mx
 split
 ·rename_i h
  exact Rat.not_lt.mpr (Rat.le_of_lt h)
 ·exact Rat.lt_irrefl
theorem oJ {kind:Str}{ws:List Int}{m:Nat} (hk:kind="order" \/ kind="any") (hw:∀ w ∈ ws,1<=w):∀ (k:Nat) (nums:List Int) (b:Bx) (n:Nat),Ok51 ws nums b n m->nums.length<=k->∃ t ls,(bU k).G [bV b,liV ws,.str kind,liV nums]=.ok (.val (.tup [fV (bst kind ws k b nums),t])) []/\Sz 4000 (bst kind ws k b nums)/\ls.Perm nums/\(kind="order"->ls=nums)/\Tr ws b ls t (bst kind ws k b nums)
 | 0,nums,b,n,H,hl=>absurd (List.length_pos_iff.mpr H.ne) (by omega)
 |
  k + 1,nums,b,n,H,hl=>by
  have nm:=H.nm
  show ∃ t ls,(PFx.of [false,false,false,false] 11 (d7 (bU k))).G [bV b,liV ws,.str kind,liV nums]=_/\_
  by_cases h1:nums.length=1
  ·have eb:bst kind ws (k + 1) b nums=lq b:=by unfold bst;rw[if_pos h1]
   rw[eb]
   match nums,h1 with
   |
    [i],_=>
    have sh:=AM H.ok H.sz (by omega)
    refine⟨.int i,[i],?_,(Fh H.ok H.sz).mono (by omega),List.Perm.refl _,λ_=>rfl,.leaf b i⟩
    rw[BP]
    unfold d7
    show (if _ then _ else _)=_
    have it:(liV [i])=.lst [.int i]:=rfl
    rw[it]
    simp![sh]
  ·have hl2:2<=nums.length:=by have:=List.length_pos_iff.mpr H.ne;omega
   have hne:((((nums.map Val.int).length:Nat):Int) == 1)=false:=by
    rw[beq_eq_false_iff_ne,List.length_map]
    omega
   have ce:=wJ hk H.ne H.len
   obtain⟨q,eq⟩:=Ef (λc=>kU (bst kind ws k) ws b c) (C2 (kind:=kind) hl2)
   have eb:bst kind ws (k + 1) b nums=q:=by
    unfold bst
    rw[if_neg h1,eq]
    rfl
   obtain⟨e',⟨bv,s5,s6,s7,s8,s9,s10,rfl,_,hbv⟩,fr⟩:=pE (g:=(gtN 5).G) (B:=(c7 (bU k)).G) cuV (λo c=>hZ o (kU (bst kind ws k) ws b c)) (λo e=>∃ bv s5 s6 s7 s8 s9 s10,e=[.sh (bV b),.sh (liV ws),.sh (.str kind),.sh (liV nums),.sh bv,s5,s6,s7,s8,s9,s10]/\(s5.pl=true/\s6.pl=true/\s7.pl=true/\s8.pl=true/\s9.pl=true/\s10.pl=true)/\E2 kind ws nums b o bv) (jg kind nums) none [.sh (bV b),.sh (liV ws),.sh (.str kind),.sh (liV nums),.sh .non,.no,.no,.no,.no,.no,.no] ⟨_,_,_,_,_,_,_,rfl,⟨rfl,rfl,rfl,rfl,rfl,rfl⟩,rfl⟩ (by
    rintro c hc o e ⟨bv,s5,s6,s7,s8,s9,s10,rfl,⟨g5,g6,g7,g8,g9,g10⟩,hbv⟩
    have co:=uZ H.nd hc
    have su:=H.cut hw co
    have be:=H.len
    have q1:=co.one.lt
    have q2:=co.two.lt
    have pb:=uc (c:=c) H.ok H.sz co.way su.o1.inr su.o2.inr (by omega) (by omega) su.w1 su.w2 su.sm (by omega)
    obtain⟨t1,l1,e1,z1,p1,c1,r1⟩:=oJ hk hw k c.2.1 _ _ su.o1 (by omega)
    obtain⟨t2,l2,e2,z2,p2,c2,r2⟩:=oJ hk hw k c.2.2 _ _ su.o2 (by omega)
    have ic:(cuV c).items=some [.str c.1,liV c.2.1,liV c.2.2]:=rfl
    have fl1:L3.flatVs [fV (bst kind ws k (gi b c.1 (wt ws c.2.1) (wt ws c.2.2)) c.2.1),t1]=true:=by simp [eZ,fQ,BN,r1.flat]
    have fl2:L3.flatVs [fV (bst kind ws k (gR b c.1 (wt ws c.2.1) (wt ws c.2.2)) c.2.2),t2]=true:=by simp [eZ,fQ,BN,r2.flat]
    have tr:Tr ws b (l1++l2) (.tup [.str c.1,.tup [t1,t2]]) (kU (bst kind ws k) ws b c):=by
     refine Tr.node co.way ?_ ?_
     ·rw[jM p1,jM p2];exact r1
     ·rw[jM p1,jM p2];exact r2
    have pm:(l1++l2).Perm nums:=by
     have p:=mU co.one.sub H.nd
     rw[<- co.rest] at p
     exact (p1.append p2).trans p
    have oc:kind="order"->l1++l2=nums:=λz=>by
     rw[c1 z,c2 z]
     subst z
     exact xm H.nd hc
    have zz:Sz 4000 (kU (bst kind ws k) ws b c):=JC z1 z2
    have gr:=rM z1 z2 (by omega) (by omega)
    rw[show (if bst kind ws k (gi b c.1 (wt ws c.2.1) (wt ws c.2.2)) c.2.1 < bst kind ws k (gR b c.1 (wt ws c.2.1) (wt ws c.2.2)) c.2.2 then bst kind ws k (gR b c.1 (wt ws c.2.1) (wt ws c.2.2)) c.2.2 else bst kind ws k (gi b c.1 (wt ws c.2.1) (wt ws c.2.2)) c.2.1)=kU (bst kind ws k) ws b c from rfl] at gr
    have hge:¬ kU (bst kind ws k) ws b c < bst kind ws k (gi b c.1 (wt ws c.2.1) (wt ws c.2.2)) c.2.1:=IW
    generalize hb1:gi b c.1 (wt ws c.2.1) (wt ws c.2.2)=b1 at *
    generalize hb2:gR b c.1 (wt ws c.2.1) (wt ws c.2.2)=b2 at *
    generalize hx1:bst kind ws k b1 c.2.1=x1 at *
    generalize hx2:bst kind ws k b2 c.2.2=x2 at *
    generalize j':kU (bst kind ws k) ws b c=cd at *
    refine⟨[.sh (bV b),.sh (liV ws),.sh (.str kind),.sh (liV nums),.sh bv,.sh (cuV c),s6,s7,s8,s9,s10],?_⟩
    have gg:(gtN 5).G (cuV c) [.sh (bV b),.sh (liV ws),.sh (.str kind),.sh (liV nums),.sh bv,s5,s6,s7,s8,s9,s10]=some [.sh (bV b),.sh (liV ws),.sh (.str kind),.sh (liV nums),.sh bv,.sh (cuV c),s6,s7,s8,s9,s10]:=by
     simp![g5]
    cases o with
    |
     none=>
     have hbv':bv=.non:=hbv
     subst hbv'
     refine⟨[.sh (bV b),.sh (liV ws),.sh (.str kind),.sh (liV nums),.sh (.tup [fV cd,.tup [.str c.1,.tup [t1,t2]]]),.sh (cuV c),.sh (bV b1),.sh (bV b2),.sh (.tup [fV x1,t1]),.sh (.tup [fV x2,t2]),.sh (fV cd)],gg,.inl ?_,_,_,_,_,_,_,_,rfl,⟨rfl,rfl,rfl,rfl,rfl,rfl⟩,_,_,rfl,zz,pm,oc,tr⟩
     unfold c7
     simp![pb,e1,e2,gr,ic,fl1,fl2,g6,g7,g8,g9,g10]
    |
     some p=>
     obtain⟨t0,l0,rfl,z0,p0,c0,r0⟩:=hbv
     have il:=fM z1 z0 (by omega) (by omega)
     by_cases hx:x1 < p
     ·rw[decide_eq_true hx] at il
      have ig:=fM zz z0 (by omega) (by omega)
      by_cases hy:cd < p
      ·rw[decide_eq_true hy] at ig
       have ms:hZ (some p) cd=some cd:=if_pos hy
       rw[ms]
       refine⟨[.sh (bV b),.sh (liV ws),.sh (.str kind),.sh (liV nums),.sh (.tup [fV cd,.tup [.str c.1,.tup [t1,t2]]]),.sh (cuV c),.sh (bV b1),.sh (bV b2),.sh (.tup [fV x1,t1]),.sh (.tup [fV x2,t2]),.sh (fV cd)],gg,.inl ?_,_,_,_,_,_,_,_,rfl,⟨rfl,rfl,rfl,rfl,rfl,rfl⟩,_,_,rfl,zz,pm,oc,tr⟩
       unfold c7
       simp![pb,e1,e2,gr,ic,fl1,fl2,il,ig,g6,g7,g8,g9,g10]
      ·rw[decide_eq_false hy] at ig
       have ms:hZ (some p) cd=some p:=if_neg hy
       rw[ms]
       refine⟨[.sh (bV b),.sh (liV ws),.sh (.str kind),.sh (liV nums),.sh (.tup [fV p,t0]),.sh (cuV c),.sh (bV b1),.sh (bV b2),.sh (.tup [fV x1,t1]),.sh (.tup [fV x2,t2]),.sh (fV cd)],gg,.inl ?_,_,_,_,_,_,_,_,rfl,⟨rfl,rfl,rfl,rfl,rfl,rfl⟩,_,_,rfl,z0,p0,c0,r0⟩
       unfold c7
       simp![pb,e1,e2,gr,ic,fl1,fl2,il,ig,g6,g7,g8,g9,g10]
     ·rw[decide_eq_false hx] at il
      have hy:¬ cd < p:=Rat.not_lt.mpr (Rat.le_trans (Rat.not_lt.mp hx) (Rat.not_lt.mp hge))
      have ms:hZ (some p) cd=some p:=if_neg hy
      rw[ms]
      refine⟨[.sh (bV b),.sh (liV ws),.sh (.str kind),.sh (liV nums),.sh (.tup [fV p,t0]),.sh (cuV c),.sh (bV b1),.sh (bV b2),.sh (.tup [fV x1,t1]),s9,s10],gg,.inr ?_,_,_,_,_,_,_,_,rfl,⟨rfl,rfl,rfl,rfl,g9,g10⟩,_,_,rfl,z0,p0,c0,r0⟩
      unfold c7
      simp![pb,e1,ic,fl1,il,g6,g7,g8])
   rw[eq] at hbv
   obtain⟨t,ls,rfl,z,pm,oc,tr⟩:=hbv
   rw[eb]
   refine⟨t,ls,?_,z,pm,oc,tr⟩
   rw[BP]
   unfold d7
   have it:(liV nums)=.lst (nums.map .int):=rfl
   rw[it] at fr ce ⊢
   simp![hne,ce,fr]
theorem oU (k:Str):b8.G [.str k]=if (lkS aX k).isSome=true then .ok (.val .non) [] else .exc "NoKind" []:=by
 have i1:(az kits).G [.str k,.ty "str"]=.val (.bl true):=rfl
 unfold b8
 rw[bh]
 unfold iG
 cases h:(lkS aX k).isSome with
 |
  true=>
  simp![i1,yO,h]
 |
  false=>
  simp![i1,yO,h]
theorem yQ {r w k:Val} (ha:de 2 r=true) (hb:bQ r=false):aT.G [r,w,k]=.exc "NoBox" []:=by
 have cb:=lL ha
 rw[hb,if_neg Bool.false_ne_true] at cb
 have ca:aY.G [r,w,k]=.exc "NoBox" []:=by
  unfold aY
  rw[bh]
  unfold cS
  simp![cb]
 unfold aT
 rw[bh]
 unfold cR
 simp![ca]
theorem yk {b:Bx}{w k:Val}{c:Str} (hb:b.Ok) (ha:iR w=true) (hc:iL w=.exc c []):aT.G [bV b,w,k]=.exc c []:=by
 have cb:=dM hb
 have cw:=iX ha
 rw[hc] at cw
 have ca:aY.G [bV b,w,k]=.exc c []:=by
  unfold aY
  rw[bh]
  unfold cS
  simp![cb,cw]
 unfold aT
 rw[bh]
 unfold cR
 simp![ca]
theorem wj {b:Bx}{ws:List Int}{k:Str} (hb:b.Ok) (h0:ws ≠ []) (h1:∀ w ∈ ws,1<=w) (h2:ws.length<=40) (hk:(lkS aX k).isSome=false):aT.G [bV b,liV ws,.str k]=.exc "NoKind" []:=by
 have cb:=dM hb
 have cw:=nY h0 h1 h2
 have ck:=oU k
 rw[hk,if_neg Bool.false_ne_true] at ck
 have ca:aY.G [bV b,.lst (ws.map .int),.str k]=.exc "NoKind" []:=by
  unfold aY
  rw[bh]
  unfold cS
  simp![cb,cw,ck]
 unfold aT
 rw[bh]
 unfold cR
 unfold liV
 simp![ca]
theorem wI {b:Bx}{ws:List Int}{k:Str}{n:Int} (hb:b.Ok) (h0:ws ≠ []) (h1:∀ w ∈ ws,1<=w) (h2:ws.length<=40) (hk:lkS aX k=some n) (hn:n < (ws.length:Nat)):aT.G [bV b,liV ws,.str k]=.exc "TooMany" []:=by
 have cb:=dM hb
 have cw:=nY h0 h1 h2
 have ck:=oU k
 rw[hk] at ck
 have ck':b8.G [.str k]=.ok (.val .non) []:=ck
 have kg:(nQ "MOST_THINGS" aX).G (.glb "MOST_THINGS") (.str k)=.val (.int n):=yt hk
 have lw:((ws.map Val.int).length:Nat)=ws.length:=List.length_map ..
 have hd:decide (n < ((ws.length:Nat):Int))=true:=decide_eq_true hn
 have ca:aY.G [bV b,.lst (ws.map .int),.str k]=.exc "TooMany" []:=by
  unfold aY
  rw[bh]
  unfold cS
  simp![cb,cw,ck',kg,lw,hd]
 unfold aT
 rw[bh]
 unfold cR
 unfold liV
 simp![ca]
def dU (n:Nat):List Int:=(List.range n).map λi=>((i:Nat):Int)
theorem DJ (n:Nat):rgV n=(dU n).map Val.int:=by unfold dU rgV;rw[List.map_map];rfl
theorem Bm {b:Bx}{ws:List Int}{k:Str}{n:Int}{nn m:Nat} (h0:ws ≠ []) (h1:∀ w ∈ ws,1<=w) (h2:ws.length<=6) (hk:lkS aX k=some n) (hn:(ws.length:Nat)<=n) (hkk:k="order" \/ k="any") (H:Ok51 ws (dU ws.length) b nn m):∃ q t,aT.G [bV b,liV ws,.str k]=.ok (.val (.tup [fV q,t])) []:=by
 have nl:(dU ws.length).length=ws.length:=by unfold dU;rw[List.length_map,List.length_range]
 obtain⟨t,ls,e,z,_,oc,tr⟩:=oJ hkk h1 7 (dU ws.length) b nn H (by omega)
 refine⟨bst k ws 7 b (dU ws.length),t,?_⟩
 have cb:=dM H.ok
 have cw:=nY h0 h1 (by omega)
 have ck:=oU k
 rw[hk] at ck
 have ck':b8.G [.str k]=.ok (.val .non) []:=ck
 have kg:(nQ "MOST_THINGS" aX).G (.glb "MOST_THINGS") (.str k)=.val (.int n):=yt hk
 have lw:((ws.map Val.int).length:Nat)=ws.length:=List.length_map ..
 have hd:decide (n < ((ws.length:Nat):Int))=false:=decide_eq_false (by omega)
 have ca:aY.G [bV b,.lst (ws.map .int),.str k]=.ok (.val .non) []:=by
  unfold aY
  rw[bh]
  unfold cS
  simp![cb,cw,ck',kg,lw,hd]
 have lr:qI.G [.int (ws.length:Nat)]=.new (.lst ((dU ws.length).map Val.int)):=by rw[KJ ⟨by omega,by omega⟩,<- DJ];rfl
 unfold aT
 rw[bh]
 unfold cR
 unfold liV at e ⊢
 simp![ca,lw,lr,e]
theorem A4:bI.G [.exc "NoBox"]=.ok (.val (.str "box")) []:=by
 have i0:(az kits).G [.exc "NoBox",.glb "NoBox"]=.val (.bl true):=rfl
 have i1:(az kits).G [.exc "NoBox",.glb "NoWeights"]=.val (.bl false):=rfl
 have i2:(az kits).G [.exc "NoBox",.glb "TooMany"]=.val (.bl false):=rfl
 have i3:(az kits).G [.exc "NoBox",.glb "NoKind"]=.val (.bl false):=rfl
 have i4:(az kits).G [.exc "NoBox",.glb "NoRule"]=.val (.bl false):=rfl
 have i5:(az kits).G [.exc "NoBox",.glb "NoThing"]=.val (.bl false):=rfl
 have i6:(az kits).G [.exc "NoBox",.glb "NoCut"]=.val (.bl false):=rfl
 have i7:(az kits).G [.exc "NoBox",.glb "NoText"]=.val (.bl false):=rfl
 have i8:(az kits).G [.exc "NoBox",.glb "NoRow"]=.val (.bl false):=rfl
 have i9:(az kits).G [.exc "NoBox",.glb "NoName"]=.val (.bl false):=rfl
 have MV:(az kits).G [.exc "NoBox",.glb "Taken"]=.val (.bl false):=rfl
 have MW:(az kits).G [.exc "NoBox",.glb "Unknown"]=.val (.bl false):=rfl
 have MX:(az kits).G [.exc "NoBox",.glb "NoFraction"]=.val (.bl false):=rfl
 have MY:(az kits).G [.exc "NoBox",.glb "NoWay"]=.val (.bl false):=rfl
 have MZ:(az kits).G [.exc "NoBox",.glb "NoTree"]=.val (.bl false):=rfl
 have iv:(az kits).G [.exc "NoBox",.ty "ValueError"]=.val (.bl true):=rfl
 have ct:iw.G (.lst [.bl true,.bl false,.bl false,.bl false,.bl false,.bl false,.bl false,.bl false,.bl false,.bl false,.bl false,.bl false,.bl false,.bl false,.bl false]) [.bl true]=.val (.int 1):=rfl
 have ix:iq.G (.lst [.bl true,.bl false,.bl false,.bl false,.bl false,.bl false,.bl false,.bl false,.bl false,.bl false,.bl false,.bl false,.bl false,.bl false,.bl false]) [.bl true]=.val (.int 0):=rfl
 unfold bI
 rw[bh]
 unfold eO
 simp![i0,i1,i2,i3,i4,i5,i6,i7,i8,i9,MV,MW,MX,MY,MZ,iv,ct,ix]
theorem tK:bI.G [.exc "NoWeights"]=.ok (.val (.str "weights")) []:=by
 have i0:(az kits).G [.exc "NoWeights",.glb "NoBox"]=.val (.bl false):=rfl
 have i1:(az kits).G [.exc "NoWeights",.glb "NoWeights"]=.val (.bl true):=rfl
 have i2:(az kits).G [.exc "NoWeights",.glb "TooMany"]=.val (.bl false):=rfl
 have i3:(az kits).G [.exc "NoWeights",.glb "NoKind"]=.val (.bl false):=rfl
 have i4:(az kits).G [.exc "NoWeights",.glb "NoRule"]=.val (.bl false):=rfl
 have i5:(az kits).G [.exc "NoWeights",.glb "NoThing"]=.val (.bl false):=rfl
 have i6:(az kits).G [.exc "NoWeights",.glb "NoCut"]=.val (.bl false):=rfl
 have i7:(az kits).G [.exc "NoWeights",.glb "NoText"]=.val (.bl false):=rfl
 have i8:(az kits).G [.exc "NoWeights",.glb "NoRow"]=.val (.bl false):=rfl
 have i9:(az kits).G [.exc "NoWeights",.glb "NoName"]=.val (.bl false):=rfl
 have MV:(az kits).G [.exc "NoWeights",.glb "Taken"]=.val (.bl false):=rfl
 have MW:(az kits).G [.exc "NoWeights",.glb "Unknown"]=.val (.bl false):=rfl
 have MX:(az kits).G [.exc "NoWeights",.glb "NoFraction"]=.val (.bl false):=rfl
 have MY:(az kits).G [.exc "NoWeights",.glb "NoWay"]=.val (.bl false):=rfl
 have MZ:(az kits).G [.exc "NoWeights",.glb "NoTree"]=.val (.bl false):=rfl
 have iv:(az kits).G [.exc "NoWeights",.ty "ValueError"]=.val (.bl true):=rfl
 have ct:iw.G (.lst [.bl false,.bl true,.bl false,.bl false,.bl false,.bl false,.bl false,.bl false,.bl false,.bl false,.bl false,.bl false,.bl false,.bl false,.bl false]) [.bl true]=.val (.int 1):=rfl
 have ix:iq.G (.lst [.bl false,.bl true,.bl false,.bl false,.bl false,.bl false,.bl false,.bl false,.bl false,.bl false,.bl false,.bl false,.bl false,.bl false,.bl false]) [.bl true]=.val (.int 1):=rfl
 unfold bI
 rw[bh]
 unfold eO
 simp![i0,i1,i2,i3,i4,i5,i6,i7,i8,i9,MV,MW,MX,MY,MZ,iv,ct,ix]
theorem xo:bI.G [.exc "TooMany"]=.ok (.val (.str "many")) []:=by
 have i0:(az kits).G [.exc "TooMany",.glb "NoBox"]=.val (.bl false):=rfl
 have i1:(az kits).G [.exc "TooMany",.glb "NoWeights"]=.val (.bl false):=rfl
 have i2:(az kits).G [.exc "TooMany",.glb "TooMany"]=.val (.bl true):=rfl
 have i3:(az kits).G [.exc "TooMany",.glb "NoKind"]=.val (.bl false):=rfl
 have i4:(az kits).G [.exc "TooMany",.glb "NoRule"]=.val (.bl false):=rfl
 have i5:(az kits).G [.exc "TooMany",.glb "NoThing"]=.val (.bl false):=rfl
 have i6:(az kits).G [.exc "TooMany",.glb "NoCut"]=.val (.bl false):=rfl
 have i7:(az kits).G [.exc "TooMany",.glb "NoText"]=.val (.bl false):=rfl
 have i8:(az kits).G [.exc "TooMany",.glb "NoRow"]=.val (.bl false):=rfl
 have i9:(az kits).G [.exc "TooMany",.glb "NoName"]=.val (.bl false):=rfl
 have MV:(az kits).G [.exc "TooMany",.glb "Taken"]=.val (.bl false):=rfl
 have MW:(az kits).G [.exc "TooMany",.glb "Unknown"]=.val (.bl false):=rfl
 have MX:(az kits).G [.exc "TooMany",.glb "NoFraction"]=.val (.bl false):=rfl
 have MY:(az kits).G [.exc "TooMany",.glb "NoWay"]=.val (.bl false):=rfl
 have MZ:(az kits).G [.exc "TooMany",.glb "NoTree"]=.val (.bl false):=rfl
 have iv:(az kits).G [.exc "TooMany",.ty "ValueError"]=.val (.bl true):=rfl
 have ct:iw.G (.lst [.bl false,.bl false,.bl true,.bl false,.bl false,.bl false,.bl false,.bl false,.bl false,.bl false,.bl false,.bl false,.bl false,.bl false,.bl false]) [.bl true]=.val (.int 1):=rfl
 have ix:iq.G (.lst [.bl false,.bl false,.bl true,.bl false,.bl false,.bl false,.bl false,.bl false,.bl false,.bl false,.bl false,.bl false,.bl false,.bl false,.bl false]) [.bl true]=.val (.int 2):=rfl
 unfold bI
 rw[bh]
 unfold eO
 simp![i0,i1,i2,i3,i4,i5,i6,i7,i8,i9,MV,MW,MX,MY,MZ,iv,ct,ix]
theorem yL:bI.G [.exc "NoKind"]=.ok (.val (.str "kind")) []:=by
 have i0:(az kits).G [.exc "NoKind",.glb "NoBox"]=.val (.bl false):=rfl
 have i1:(az kits).G [.exc "NoKind",.glb "NoWeights"]=.val (.bl false):=rfl
 have i2:(az kits).G [.exc "NoKind",.glb "TooMany"]=.val (.bl false):=rfl
 have i3:(az kits).G [.exc "NoKind",.glb "NoKind"]=.val (.bl true):=rfl
 have i4:(az kits).G [.exc "NoKind",.glb "NoRule"]=.val (.bl false):=rfl
 have i5:(az kits).G [.exc "NoKind",.glb "NoThing"]=.val (.bl false):=rfl
 have i6:(az kits).G [.exc "NoKind",.glb "NoCut"]=.val (.bl false):=rfl
 have i7:(az kits).G [.exc "NoKind",.glb "NoText"]=.val (.bl false):=rfl
 have i8:(az kits).G [.exc "NoKind",.glb "NoRow"]=.val (.bl false):=rfl
 have i9:(az kits).G [.exc "NoKind",.glb "NoName"]=.val (.bl false):=rfl
 have MV:(az kits).G [.exc "NoKind",.glb "Taken"]=.val (.bl false):=rfl
 have MW:(az kits).G [.exc "NoKind",.glb "Unknown"]=.val (.bl false):=rfl
 have MX:(az kits).G [.exc "NoKind",.glb "NoFraction"]=.val (.bl false):=rfl
 have MY:(az kits).G [.exc "NoKind",.glb "NoWay"]=.val (.bl false):=rfl
 have MZ:(az kits).G [.exc "NoKind",.glb "NoTree"]=.val (.bl false):=rfl
 have iv:(az kits).G [.exc "NoKind",.ty "ValueError"]=.val (.bl true):=rfl
 have ct:iw.G (.lst [.bl false,.bl false,.bl false,.bl true,.bl false,.bl false,.bl false,.bl false,.bl false,.bl false,.bl false,.bl false,.bl false,.bl false,.bl false]) [.bl true]=.val (.int 1):=rfl
 have ix:iq.G (.lst [.bl false,.bl false,.bl false,.bl true,.bl false,.bl false,.bl false,.bl false,.bl false,.bl false,.bl false,.bl false,.bl false,.bl false,.bl false]) [.bl true]=.val (.int 3):=rfl
 unfold bI
 rw[bh]
 unfold eO
 simp![i0,i1,i2,i3,i4,i5,i6,i7,i8,i9,MV,MW,MX,MY,MZ,iv,ct,ix]
def rD (c:Str):Str:=if c="NoBox" then "box" else if c="NoWeights" then "weights" else if c="TooMany" then "many" else "kind"
theorem jk {r w k:Val}{c:Str} (h:aT.G [r,w,k]=.exc c []) (hc:c="NoBox" \/ c="NoWeights" \/ c="TooMany" \/ c="NoKind"):bW.G [r,w,k]=.ok (.val (.str (rD c))) []:=by
 have m:∀ x:Str,x="NoBox" \/ x="NoWeights" \/ x="TooMany" \/ x="NoKind"->x ∈ ff:=by
  rintro x (rfl | rfl | rfl | rfl) <;> decide +kernel
 have w1:bI.G [.exc c]=.ok (.val (.str (rD c))) []:=by
  rcases hc with rfl | rfl | rfl | rfl
  ·exact A4
  ·exact tK
  ·exact xo
  ·exact yL
 have mc:=m c hc
 unfold bW
 rw[bh]
 unfold gC
 simp![oA,h,mc,w1]
theorem vA {r w k:Val}{q:Rat}{t:Val} (h:aT.G [r,w,k]=.ok (.val (.tup [fV q,t])) []):bW.G [r,w,k]=.ok (.val (.str "told")) []:=by
 have i1:∀ xs:List Val,(az kits).G [.tup xs,.ty "tuple"]=.val (.bl true):=λ_=>rfl
 unfold bW
 rw[bh]
 unfold gC
 simp![oA,h,i1]
theorem bx_a {a b c d:Val} (h:bf a=false):bQ (.tup [a,b,c,d])=false:=by simp [bQ,h]
theorem bx_b {a b c d:Val} (h:bf b=false):bQ (.tup [a,b,c,d])=false:=by simp [bQ,h]
theorem bx_c {a b c d:Val} (h:bf c=false):bQ (.tup [a,b,c,d])=false:=by simp [bQ,h]
theorem bx_d {a b c d:Val} (h:bf d=false):bQ (.tup [a,b,c,d])=false:=by simp [bQ,h]
def fV0 (i j:Int):Val:=.tup [.int i,.int j]
structure Odd4 (a b c d:Val):Prop where
 ka:de 1 a=true
 kb:de 1 b=true
 kc:de 1 c=true
 kd:de 1 d=true
 no:bQ (.tup [a,b,c,d])=false
def orQ (n:Nat) (r:SR3):Prop:=∃ x v' rt,(rt=.val x\/rt=.new x)/\Fd (n + 6) v'/\de 2 x=true/\bQ x=false/\sC [true] r=.ok rt [v']
theorem uo {n:Nat}{v:Val} (f:Fd n v) (hn:n<=1000000):∃ x v' rt,(rt=.val x\/rt=.new x)/\Fd (n + 6) v'/\de 2 x=true/\bQ x=false/\c6.G [v]=.ok rt [v']:=by
 show ∃ x v' rt,(rt=.val x\/rt=.new x)/\Fd (n + 6) v'/\de 2 x=true/\bQ x=false/\(fnP [true] 5 dI).G [v]=.ok rt [v']
 rw[wo rfl]
 show orQ n (dI.G _)
 unfold dI
 rw[show sls [true] [v]++List.replicate (5 - [v].length) .no=[.mu v,.no,.no,.no,.no] from rfl]
 have i01:∀ i j:Int,fV0 i j=.tup [.int i,.int j]:=λ_ _=>rfl
 refine bA (λe=>e=[.mu v,.ow (.lst [fV0 0 1,fV0 0 1,fV0 3 1,fV0 2 1]),.no,.no,.no]) ⟨_,by simp![i01],rfl⟩ ?_
 rintro _ rfl
 obtain⟨a,v1,e1,f1,a0,a1⟩:=bB (m:=4) f (by omega) (by decide) (sm8 (by decide))
 refine bA (λe=>e=[.mu v1,.ow (.lst [fV0 0 1,fV0 0 1,fV0 3 1,fV0 2 1]),.sh (.int a),.no,.no]) ⟨_,by simp![e1],rfl⟩ ?_
 rintro _ rfl
 obtain⟨b,v2,e2,f2,b0,b1⟩:=bB (m:=10) f1 (by omega) (by decide) (sm8 (by decide))
 refine bA (λe=>∃ bad,de 1 bad=true/\bf bad=false/\e=[.mu v2,.ow (.lst [fV0 0 1,fV0 0 1,fV0 3 1,fV0 2 1]),.sh (.int a),.sh bad,.no]) ?_ ?_
 ·have at8:∀ (q w e r t y u i o p:Val),atI [q,w,e,r,t,y,u,i,o,p] 8=some o:=λ_ _ _ _ _ _ _ _ _ _=>rfl
  have at9:∀ (q w e r t y u i o p:Val),atI [q,w,e,r,t,y,u,i,o,p] 9=some p:=λ_ _ _ _ _ _ _ _ _ _=>rfl
  obtain rfl | rfl | rfl | rfl | rfl | rfl | rfl | rfl | rfl | rfl:b=0\/b=1\/b=2\/b=3\/b=4\/b=5\/b=6\/b=7\/b=8\/b=9:=by omega
  ·exact⟨_,by simp![e2],.tup [.int 2,.int 4],rfl,rfl,rfl⟩
  ·exact⟨_,by simp![e2],.tup [.int 1,.int 0],rfl,rfl,rfl⟩
  ·exact⟨_,by simp![e2],.tup [.int 1,.int (-2)],rfl,rfl,rfl⟩
  ·exact⟨_,by simp![e2],.int 5,rfl,rfl,rfl⟩
  ·exact⟨_,by simp![e2],.non,rfl,rfl,rfl⟩
  ·exact⟨_,by simp![e2],.str "1",rfl,rfl,rfl⟩
  ·exact⟨_,by simp![e2],.tup [.bl true,.int 1],rfl,rfl,rfl⟩
  ·exact⟨_,by simp![e2],.tup [.int 1,.int 1,.int 1],rfl,rfl,rfl⟩
  ·exact⟨_,by simp![e2,at8],.lst [.int 1,.int 1],rfl,rfl,rfl⟩
  ·exact⟨_,by simp![e2,at9],.tup [.int 0,.int 2],rfl,rfl,rfl⟩
 rintro _ ⟨bad,kb,nb,rfl⟩
 refine bA (λe=>∃ p q r s,Odd4 p q r s/\e=[.mu v2,.ow (.lst [p,q,r,s]),.sh (.int a),.sh bad,.no]) ?_ ?_
 ·obtain rfl | rfl | rfl | rfl:a=0\/a=1\/a=2\/a=3:=by omega
  ·exact⟨_,by simp![ek],bad,(fV0 0 1),(fV0 3 1),(fV0 2 1),⟨kb,rfl,rfl,rfl,bx_a nb⟩,rfl⟩
  ·exact⟨_,by simp![ek],(fV0 0 1),bad,(fV0 3 1),(fV0 2 1),⟨rfl,kb,rfl,rfl,bx_b nb⟩,rfl⟩
  ·exact⟨_,by simp![ek],(fV0 0 1),(fV0 0 1),bad,(fV0 2 1),⟨rfl,rfl,kb,rfl,bx_c nb⟩,rfl⟩
  ·exact⟨_,by simp![ek],(fV0 0 1),(fV0 0 1),(fV0 3 1),bad,⟨rfl,rfl,rfl,kb,bx_d nb⟩,rfl⟩
 rintro _ ⟨p,q,r,s,od,rfl⟩
 obtain⟨c,v3,e3,f3,c0,c1⟩:=bB (m:=3) f2 (by omega) (by decide) (sm8 (by decide))
 refine bA (λe=>∃ v p q r s,Fd (n + 5) v/\Odd4 p q r s/\e=[.mu v,.ow (.lst [p,q,r,s]),.sh (.int a),.sh bad,.no]) ?_ ?_
 ·by_cases hc:c=0
  ·subst hc
   obtain⟨g,v4,e4,f4,g0,g1⟩:=bB (m:=2) f3 (by omega) (by decide) (sm8 (by decide))
   obtain⟨h,v5,e5,f5,h0,h1⟩:=bB (m:=2) f4 (by omega) (by decide) (sm8 (by decide))
   obtain rfl | rfl:g=0\/g=1:=by omega
   ·obtain rfl | rfl:h=0\/h=1:=by omega
    ·exact⟨_,by simp![e3,e4,e5,i01],v5,fV0 0 1,fV0 0 1,fV0 0 1,fV0 2 1,f5,⟨rfl,rfl,rfl,rfl,rfl⟩,rfl⟩
    ·exact⟨_,by simp![e3,e4,e5,i01],v5,fV0 0 1,fV0 0 1,fV0 3 1,fV0 0 1,f5,⟨rfl,rfl,rfl,rfl,rfl⟩,rfl⟩
   ·obtain rfl | rfl:h=0\/h=1:=by omega
    ·exact⟨_,by simp![e3,e4,e5,i01],v5,fV0 0 1,fV0 0 1,fV0 (-1) 3,fV0 2 1,f5,⟨rfl,rfl,rfl,rfl,rfl⟩,rfl⟩
    ·exact⟨_,by simp![e3,e4,e5,i01],v5,fV0 0 1,fV0 0 1,fV0 3 1,fV0 (-1) 3,f5,⟨rfl,rfl,rfl,rfl,rfl⟩,rfl⟩
  ·have hc':(c == 0)=false:=by rw[beq_eq_false_iff_ne];exact hc
   exact⟨_,by simp![e3,hc'],v3,p,q,r,s,f3.mono (by omega),od,rfl⟩
 rintro _ ⟨v,p,q,r,s,f,od,rfl⟩
 have s3:aSl (.lst [p,q,r,s]) none (some 3)=.new (.lst [p,q,r]):=rfl
 have s1:aSl (.lst [p,q,r,s]) none (some 1)=.new (.lst [p]):=rfl
 have x8:ixN 10 8=some 8:=rfl
 have x3:ixN 10 3=some 3:=rfl
 have x4:ixN 10 4=some 4:=rfl
 have x5:ixN 10 5=some 5:=rfl
 have itl:∀ xs:List Val,(Val.lst xs).items=some xs:=λ_=>rfl
 refine bA (λe=>e=[.mu v,.ow (.lst [p,q,r,s]),.sh (.int a),.sh bad,.ow (.lst [.tup [p,q,r,s],.tup [p,q,r,s],.tup [p,q,r,s],.lst [p,q,r,s],.tup [p,q,r],.tup [p,q,r,s,p],.non,.tup [],.int 7,.str "room"])]) ⟨_,by simp![s3,s1,itl],rfl⟩ ?_
 rintro _ rfl
 refine bA (λe=>e=[.mu v,.ow (.lst [p,q,r,s]),.sh (.int a),.sh bad,.ow (.lst [.tup [p,q,r,s],.tup [p,q,r,s],.tup [p,q,r,s],.lst [p,q,r,s],.tup [p,q,r],.tup [p,q,r,s,p],.non,.tup [],.tup [fV0 0 1,fV0 0 1,fV0 (-1) 3,fV0 (-2) 1],.str "room"])]) ⟨_,by simp![x8,i01],rfl⟩ ?_
 rintro _ rfl
 refine bA (λe=>e=[.mu v,.ow (.lst [p,q,r,s]),.sh (.int a),.sh bad,.ow (.lst [.tup [p,q,r,s],.tup [p,q,r,s],.tup [p,q,r,s],.lst [fV0 0 1,fV0 0 1,fV0 1 1,fV0 1 1],.tup [p,q,r],.tup [p,q,r,s,p],.non,.tup [],.tup [fV0 0 1,fV0 0 1,fV0 (-1) 3,fV0 (-2) 1],.str "room"])]) ⟨_,by simp![x3,i01],rfl⟩ ?_
 rintro _ rfl
 refine bA (λe=>e=[.mu v,.ow (.lst [p,q,r,s]),.sh (.int a),.sh bad,.ow (.lst [.tup [p,q,r,s],.tup [p,q,r,s],.tup [p,q,r,s],.lst [fV0 0 1,fV0 0 1,fV0 1 1,fV0 1 1],.tup [fV0 0 1,fV0 0 1,fV0 1 1],.tup [p,q,r,s,p],.non,.tup [],.tup [fV0 0 1,fV0 0 1,fV0 (-1) 3,fV0 (-2) 1],.str "room"])]) ⟨_,by simp![x4,i01],rfl⟩ ?_
 rintro _ rfl
 refine bA (λe=>e=[.mu v,.ow (.lst [p,q,r,s]),.sh (.int a),.sh bad,.ow (.lst [.tup [p,q,r,s],.tup [p,q,r,s],.tup [p,q,r,s],.lst [fV0 0 1,fV0 0 1,fV0 1 1,fV0 1 1],.tup [fV0 0 1,fV0 0 1,fV0 1 1],.tup [fV0 0 1,fV0 0 1,fV0 1 1,fV0 1 1,fV0 1 1],.non,.tup [],.tup [fV0 0 1,fV0 0 1,fV0 (-1) 3,fV0 (-2) 1],.str "room"])]) ⟨_,by simp![x5,i01],rfl⟩ ?_
 rintro _ rfl
 obtain⟨d,v6,e6,f6,d0,d1⟩:=bB (m:=10) f (by omega) (by decide) (sm8 (by decide))
 have at8:∀ (q w e r t y u i o p:Val),atI [q,w,e,r,t,y,u,i,o,p] 8=some o:=λ_ _ _ _ _ _ _ _ _ _=>rfl
 have at9:∀ (q w e r t y u i o p:Val),atI [q,w,e,r,t,y,u,i,o,p] 9=some p:=λ_ _ _ _ _ _ _ _ _ _=>rfl
 have kt:de 2 (.tup [p,q,r,s])=true:=by
  show [p,q,r,s].all (de 1)=true
  simp [od.ka,od.kb,od.kc,od.kd]
 obtain rfl | rfl | rfl | rfl | rfl | rfl | rfl | rfl | rfl | rfl:d=0\/d=1\/d=2\/d=3\/d=4\/d=5\/d=6\/d=7\/d=8\/d=9:=by omega
 ·exact⟨.tup [p,q,r,s],v6,_,.inl rfl,f6,kt,od.no,by simp![e6,cJ]⟩
 ·exact⟨.tup [p,q,r,s],v6,_,.inl rfl,f6,kt,od.no,by simp![e6,cJ]⟩
 ·exact⟨.tup [p,q,r,s],v6,_,.inl rfl,f6,kt,od.no,by simp![e6,cJ]⟩
 ·exact⟨.lst [fV0 0 1,fV0 0 1,fV0 1 1,fV0 1 1],v6,_,.inl rfl,f6,rfl,rfl,by simp![e6,cJ]⟩
 ·exact⟨.tup [fV0 0 1,fV0 0 1,fV0 1 1],v6,_,.inl rfl,f6,rfl,rfl,by simp![e6,cJ]⟩
 ·exact⟨.tup [fV0 0 1,fV0 0 1,fV0 1 1,fV0 1 1,fV0 1 1],v6,_,.inl rfl,f6,rfl,rfl,by simp![e6,cJ]⟩
 ·exact⟨.non,v6,_,.inl rfl,f6,rfl,rfl,by simp![e6,cJ]⟩
 ·exact⟨.tup [],v6,_,.inl rfl,f6,rfl,rfl,by simp![e6,cJ]⟩
 ·exact⟨.tup [fV0 0 1,fV0 0 1,fV0 (-1) 3,fV0 (-2) 1],v6,_,.inl rfl,f6,rfl,rfl,by simp![e6,at8,cJ]⟩
 ·exact⟨.str "room",v6,_,.inl rfl,f6,rfl,rfl,by simp![e6,at9,cJ]⟩
theorem p20:oz.G (.int 10) (.int 20)=.val (.int 100000000000000000000):=BY ⟨by decide,by decide,by decide⟩
def owQ (n:Nat) (r:SR3):Prop:=∃ x v' rt,(rt=.val x\/rt=.new x)/\Fd (n + 20) v'/\iR x=true/\iL x=.exc "NoWeights" []/\sC [true] r=.ok rt [v']
theorem lc9:∀ (vs acc:List Val) (n:Nat) (v:Val) (s:Sl),Fd n v->s.pl=true->n + vs.length<=100000000->acc.length + vs.length<=16777216->∃ (ws:List Int) (s':Sl) (v':Val),ws.length=vs.length/\(∀ w ∈ ws,1<=w/\w<=9)/\Fd (n + vs.length) v'/\s'.pl=true/\lcV (gtN 0).G qY.G (pOp bp (aq 1) (aB aF (af (ai 1) (af (aq 9) ao)))).G vs acc [s,.mu v]=.ok (acc++ws.map .int) [s',.mu v']
 | [],acc,n,v,s,f,hs,_,_=>⟨[],s,v,rfl,(λ_ h=>nomatch h),f,hs,by simp [lcV]⟩
 |
  x :: vs,acc,n,v,s,f,hs,hn,hl=>by
  rw[List.length_cons] at hn hl
  obtain⟨a,v1,e1,f1,a0,a1⟩:=bB (m:=9) f (by omega) (by decide) (sm8 (by decide))
  obtain⟨ws,s',v',q1,q2,q3,q4,q5⟩:=lc9 vs (acc++[.int (1 + a)]) (n + 1) v1 (.sh x) f1 rfl (by omega) (by rw[List.length_append];show acc.length + 1 + _<=_;omega)
  refine⟨(1 + a) :: ws,s',v',by rw[List.length_cons,List.length_cons,q1],?_,by rw[List.length_cons,show n + (vs.length + 1)=n + 1 + vs.length by omega];exact q3,q4,?_⟩
  ·intro w hw
   rcases List.mem_cons.mp hw with rfl | hw
   ·omega
   ·exact q2 w hw
  ·have g1:(gtN 0).G x [s,.mu v]=some [.sh x,.mu v]:=by
    simp![hs]
   have F1:(pOp bp (aq 1) (aB aF (af (ai 1) (af (aq 9) ao)))).G [.sh x,.mu v]=.ok (.val (.int (1 + a))) [.sh x,.mu v1]:=by
    simp![e1]
   have d1:cM [.sh x,.mu v1] (.val (.int (1 + a)))=some ([.sh x,.mu v1],.int (1 + a)):=rfl
   unfold lcV
   have cy:qY.G=cY:=rfl
   rw[cy] at q5 ⊢
   rw[if_pos (by omega),g1]
   simp only[cY,ek,if_true,F1,d1,q5]
   simp
theorem Jd {xs:List Val}{x:Val} (h:x ∈ xs) (hx:fH x=false):iL (.lst xs)=.exc "NoWeights" []:=by
 have h1:xs ≠ []:=λz=>by rw[z] at h;exact nomatch h
 have h2:¬ xs.all fH=true:=λz=>by
  rw[List.all_eq_true] at z
  rw[z x h] at hx
  cases hx
 unfold iL
 dsimp only
 rw[if_neg h1,if_neg h2]
theorem oK {n:Nat}{v:Val} (f:Fd n v) (hn:n<=1000000):∃ x v' rt,(rt=.val x\/rt=.new x)/\Fd (n + 20) v'/\iR x=true/\iL x=.exc "NoWeights" []/\cc.G [v]=.ok rt [v']:=by
 show ∃ x v' rt,(rt=.val x\/rt=.new x)/\Fd (n + 20) v'/\iR x=true/\iL x=.exc "NoWeights" []/\(fnP [true] 3 cT).G [v]=.ok rt [v']
 rw[wo rfl]
 show owQ n (cT.G _)
 unfold cT
 rw[show sls [true] [v]++List.replicate (3 - [v].length) .no=[.mu v,.no,.no] from rfl]
 obtain⟨a,v1,e1,f1,a0,a1⟩:=bB (m:=5) f (by omega) (by decide) (sm8 (by decide))
 have rg:=jI (i:=1 + a) (by omega) (by omega)
 obtain⟨ws,s',v2,wl,wr,f2,_,lc⟩:=lc9 (rgV (1 + a).toNat) [] (n + 1) v1 .no f1 rfl (by rw[lT];omega) (by rw[lT,List.length_nil];omega)
 rw[lT] at wl f2
 rw[List.nil_append] at lc
 have lw:(ws.map Val.int).length<=16777216:=by rw[List.length_map];omega
 refine bA (λe=>e=[.mu v2,.ow (.lst (ws.map .int)),.no]) ⟨_,by simp![e1,rg,cN,lc,lw],rfl⟩ ?_
 rintro _ rfl
 have lm:((ws.map Val.int).length:Nat)=ws.length:=List.length_map ..
 obtain⟨b,v3,e3,f3,b0,b1⟩:=bB (m:=(ws.length:Nat)) f2 (by omega) (by omega) (sm8 (by omega))
 refine bA (λe=>e=[.mu v3,.ow (.lst (ws.map .int)),.sh (.int b)]) ⟨_,by simp![lm,e3],rfl⟩ ?_
 rintro _ rfl
 obtain⟨c,v4,e4,f4,c0,c1⟩:=bB (m:=8) f3 (by omega) (by decide) (sm8 (by decide))
 have ixb:ixN (ws.map Val.int).length b=some b.toNat:=lM b0 (by rw[List.length_map];omega)
 refine bA (λe=>∃ bad,knV bad=true/\fH bad=false/\e=[.mu v4,.ow (.lst ((ws.map .int).set b.toNat bad)),.sh (.int b)]) ?_ ?_
 ·obtain rfl | rfl | rfl | rfl | rfl | rfl | rfl | rfl:c=0\/c=1\/c=2\/c=3\/c=4\/c=5\/c=6\/c=7:=by omega
  ·exact⟨_,by simp![e4,p20,ixb],.int 0,rfl,rfl,rfl⟩
  ·exact⟨_,by simp![e4,p20,ixb],.int (-1),rfl,rfl,rfl⟩
  ·exact⟨_,by simp![e4,p20,ixb],.bl true,rfl,rfl,rfl⟩
  ·exact⟨_,by simp![e4,p20,ixb],.non,rfl,rfl,rfl⟩
  ·exact⟨_,by simp![e4,p20,ixb],.str "2",rfl,rfl,rfl⟩
  ·exact⟨_,by simp![e4,p20,ixb],.tup [.int 1],rfl,rfl,rfl⟩
  ·exact⟨_,by simp![e4,p20,ixb],.lst [.int 1],rfl,rfl,rfl⟩
  ·exact⟨_,by simp![e4,p20,ixb],.int (-100000000000000000000),rfl,rfl,rfl⟩
 rintro _ ⟨bad,kb,nb,rfl⟩
 have hb:bad ∈ (ws.map Val.int).set b.toNat bad:=List.mem_set (by rw[List.length_map];omega) _
 have ka:iR (.lst ((ws.map Val.int).set b.toNat bad))=true:=by
  show (decide (((ws.map Val.int).set b.toNat bad).length<=1000) && ((ws.map Val.int).set b.toNat bad).all knV)=true
  rw[List.length_set,List.length_map,decide_eq_true (by omega),Bool.true_and,List.all_eq_true]
  intro x hx
  rcases List.mem_or_eq_of_mem_set hx with hx | rfl
  ·obtain⟨w,_,rfl⟩:=List.mem_map.mp hx
   rfl
  ·exact kb
 have na:=Jd hb nb
 generalize (ws.map Val.int).set b.toNat bad=L at *
 obtain⟨d,v5,e5,f5,d0,d1⟩:=bB (m:=9) f4 (by omega) (by decide) (sm8 (by decide))
 have f6:Fd (n + 20) v5:=f5.mono (by omega)
 have at8:∀ (q w e r t y u i o:Val),atI [q,w,e,r,t,y,u,i,o] 8=some o:=λ_ _ _ _ _ _ _ _ _=>rfl
 obtain rfl | rfl | rfl | rfl | rfl | rfl | rfl | rfl | rfl:d=0\/d=1\/d=2\/d=3\/d=4\/d=5\/d=6\/d=7\/d=8:=by omega
 ·exact⟨.lst L,v5,_,.inl rfl,f6,ka,na,by simp![e5,cJ]⟩
 ·exact⟨.lst L,v5,_,.inl rfl,f6,ka,na,by simp![e5,cJ]⟩
 ·exact⟨.lst L,v5,_,.inl rfl,f6,ka,na,by simp![e5,cJ]⟩
 ·exact⟨.lst [],v5,_,.inl rfl,f6,rfl,rfl,by simp![e5,cJ]⟩
 ·exact⟨.tup [.int 1,.int 2],v5,_,.inl rfl,f6,rfl,rfl,by simp![e5,cJ]⟩
 ·exact⟨.non,v5,_,.inl rfl,f6,rfl,rfl,by simp![e5,cJ]⟩
 ·exact⟨.int 3,v5,_,.inl rfl,f6,rfl,rfl,by simp![e5,cJ]⟩
 ·exact⟨.str "12",v5,_,.inl rfl,f6,rfl,rfl,by simp![e5,cJ]⟩
 ·exact⟨.dct [],v5,_,.inl rfl,f6,rfl,rfl,by simp![e5,at8,cJ]⟩
abbrev s1 (x:Str):List Str:=[x]
def RmI (r:Val) (D:List Str):Prop:=(D=[]/\∃ b:Bx,b.Ok/\b.Sz 10/\r=bV b)\/(D=s1 "box" /\ de 2 r=true/\bQ r=false)
def WtI (w:Val) (most:Int) (io:Bool) (D:List Str):Prop:=(∃ c:Str,(c="NoWeights" \/ c="TooMany")/\iR w=true/\iL w=.exc c []/\D=[rD c])\/(D=[]/\∃ ws:List Int,w=liV ws/\ws ≠ []/\(∀ x ∈ ws,1<=x)/\ws.length<=40/\((io=true/\most < (ws.length:Nat))\/(io=false/\ws.length<=6/\(ws.length:Nat)<=most/\∀ x ∈ ws,x<=5)))
def KdI (k:Str) (most:Int) (D:List Str):Prop:=(D=[]/\((k="order" /\ most=6)\/(k="any" /\ most=5)))\/(D=s1 "kind" /\ lkS aX k=none)
theorem C1 (n:Nat):(dU n).Nodup:=by
 unfold dU
 rw[List.nodup_iff_pairwise_ne,List.pairwise_map]
 exact List.nodup_range.imp λh z=>h (Int.ofNat.inj z)
theorem BS {ws:List Int} (h1:∀ x ∈ ws,1<=x) (h5:∀ x ∈ ws,x<=5):∀ l:List Int,Inr ws l->0<=wt ws l/\wt ws l<=5 * (l.length:Nat)
 | [],_=>⟨by simp [wt],by simp [wt]⟩
 |
  i :: l,h=>by
  obtain⟨p1,p2⟩:=BS h1 h5 l λj hj=>h j (List.mem_cons_of_mem _ hj)
  have hi:=h i (List.mem_cons_self ..)
  have hm:fg ws i ∈ ws:=by
   unfold fg
   rw[List.getD_eq_getElem?_getD,List.getElem?_eq_getElem (by omega)]
   exact List.getElem_mem _
  have a:=h1 _ hm
  have b:=h5 _ hm
  rw[show wt ws (i :: l)=fg ws i + wt ws l from by unfold wt;simp,List.length_cons]
  omega
theorem Dh {r w:Val}{k:Str}{most:Int}{io:Bool}{D1 D2 D3:List Str} (hr:RmI r D1) (hw:WtI w most io D2) (hk:KdI k most D3):∃ x rest,D1++D2++D3++(if io=true then s1 "many" else [])++s1 "told"=x :: rest/\bW.G [r,w,.str k]=.ok (.val (.str x)) []/\PyData.strOk x=true:=by
 rcases hr with ⟨rfl,b,hb,hs,rfl⟩ | ⟨rfl,ha,hb⟩
 ·rcases hw with ⟨c,hc,ha,hw,rfl⟩ | ⟨rfl,ws,rfl,h0,h1,h2,hl⟩
  ·exact⟨_,_,rfl,jk (yk hb ha hw) (by rcases hc with rfl | rfl;exact .inr (.inl rfl);exact .inr (.inr (.inl rfl))),by rcases hc with rfl | rfl <;> decide +kernel⟩
  ·rcases hk with ⟨rfl,hk⟩ | ⟨rfl,hk⟩
   ·have hkk:k="order" \/ k="any":=by rcases hk with ⟨h,_⟩ | ⟨h,_⟩;exact .inl h;exact .inr h
    have hkm:lkS aX k=some most:=by rcases hk with ⟨rfl,rfl⟩ | ⟨rfl,rfl⟩ <;> rfl
    rcases hl with ⟨rfl,hl⟩ | ⟨rfl,h6,hl,h5⟩
    ·exact⟨_,_,rfl,jk (wI hb h0 h1 h2 hkm hl) (.inr (.inr (.inl rfl))),by decide⟩
    ·have nl:(dU ws.length).length=ws.length:=by unfold dU;rw[List.length_map,List.length_range]
     have hin:Inr ws (dU ws.length):=λi hi=>by
      obtain⟨j,hj,rfl⟩:=List.mem_map.mp hi
      rw[List.mem_range] at hj
      omega
     have hwt:=BS h1 h5 _ hin
     rw[nl] at hwt
     have H:Ok51 ws (dU ws.length) b 10 6:=⟨by
      intro z
      rw[z,List.length_nil] at nl
      exact h0 (List.length_eq_zero_iff.mp nl.symm),C1 _,hin,by omega,by
      show (wt ws (dU ws.length)).natAbs < 2 ^ 6
      omega,hb,hs,by
      rw[nl]
      have:2 ^ ws.length<=2 ^ 6:=Nat.pow_le_pow_right (by decide) h6
      omega⟩
     obtain⟨q,t,e⟩:=Bm h0 h1 h6 hkm hl hkk H
     exact⟨_,_,rfl,vA e,by decide⟩
   ·exact⟨_,_,rfl,jk (wj hb h0 h1 h2 (by rw[hk];rfl)) (.inr (.inr (.inr rfl))),by decide⟩
 ·exact⟨_,_,rfl,jk (yQ ha hb) (.inl rfl),by decide⟩
theorem CP {a:Int} (h0:0<=a) (h1:a < 9):RmI (.tup [.tup [.int 0,.int 1],.tup [.int (-1),.int 2],.tup [.int (1 + a),.int 1],.tup [.int 1,.int 3]]) []:=by
 refine .inl ⟨rfl,⟨⟨0,1,by decide,by decide⟩,⟨-1,2,by decide,by decide⟩,⟨1 + a,1,by decide,Nat.coprime_one_right _⟩,⟨1,3,by decide,by decide⟩⟩,⟨?_,?_⟩,⟨⟨?_,?_⟩,⟨?_,?_⟩,⟨?_,?_⟩,⟨?_,?_⟩⟩,rfl⟩
 ·exact (Rat.lt_iff _ _).mpr (by show (0:Int) * 1 < (1 + a) * 1;omega)
 ·exact (Rat.lt_iff _ _).mpr (by show (0:Int) * 3 < 1 * 1;decide)
 all_goals (simp only[Sm];omega)
theorem Aj (m:Nat) (hm:m<=1000):∃ s,lcV (gtN 0).G qY.G (pOp bp (aq 1) (pOp dB (pOp bp (pOp bZ (aq 7) (ai 0)) (aq 3)) (aq 5))).G (rgV m) [] [.no]=.ok (((List.range m).map λi:Nat=>1 + (7 * (i:Int) + 3).fmod 5).map .int) [s]:=by
 obtain⟨e',⟨s,rfl,_⟩,lc⟩:=eI (g:=(gtN 0).G) (F:=(pOp bp (aq 1) (pOp dB (pOp bp (pOp bZ (aq 7) (ai 0)) (aq 3)) (aq 5))).G) (λi:Nat=>Val.int (i:Nat)) (λi:Nat=>Val.int (1 + (7 * (i:Int) + 3).fmod 5)) (λe=>∃ s:Sl,e=[s]/\s.pl=true) (List.range m) [] [.no] ⟨.no,rfl,rfl⟩ (by
  rintro i hi _ ⟨s,rfl,hs⟩
  rw[List.mem_range] at hi
  have m1:bZ.G (.int 7) (.int (i:Nat))=.val (.int (7 * (i:Int))):=du (CMulA.left (by decide) (by decide))
  have m2:∀ x:Int,dB.G (.int x) (.int 5)=.val (.int (x.fmod 5)):=λx=>jd (by decide)
  refine⟨[.sh (.int (i:Nat))],.val (.int (1 + (7 * (i:Int) + 3).fmod 5)),[.sh (.int (i:Nat))],?_,?_,rfl,_,rfl,rfl⟩
  ·simp![hs]
  ·simp![m1,m2]) (by rw[List.length_range];simp;omega)
 refine⟨s,?_⟩
 rw[List.map_map]
 exact lc
theorem yM (m:Nat) (hm:m<=1000):∃ s,lcV (gtN 0).G qY.G (pOp bp (aq 1) (ai 0)).G (rgV m) [] [.no]=.ok (((List.range m).map λi:Nat=>1 + (i:Int)).map .int) [s]:=by
 obtain⟨e',⟨s,rfl,_⟩,lc⟩:=eI (g:=(gtN 0).G) (F:=(pOp bp (aq 1) (ai 0)).G) (λi:Nat=>Val.int (i:Nat)) (λi:Nat=>Val.int (1 + (i:Int))) (λe=>∃ s:Sl,e=[s]/\s.pl=true) (List.range m) [] [.no] ⟨.no,rfl,rfl⟩ (by
  rintro i hi _ ⟨s,rfl,hs⟩
  refine⟨[.sh (.int (i:Nat))],.val (.int (1 + (i:Int))),[.sh (.int (i:Nat))],?_,?_,rfl,_,rfl,rfl⟩
  ·simp![hs]
  ·simp![ek]) (by rw[List.length_range];simp;omega)
 refine⟨s,?_⟩
 rw[List.map_map]
 exact lc
def oneQ (n:Nat) (r:SR3):Prop:=∃ v',Fd (n + 60) v'/\sC [true] r=.ok (.val (.bl true)) [v']
theorem F7 {n:Nat}{v:Val} (f:Fd n v) (hn:n<=500000):∃ v',Fd (n + 60) v'/\fB.G [v]=.ok (.val (.bl true)) [v']:=by
 show ∃ v',Fd (n + 60) v'/\(fnP [true] 9 gH).G [v]=.ok (.val (.bl true)) [v']
 rw[wo rfl]
 show oneQ n (gH.G _)
 unfold gH
 rw[show sls [true] [v]++List.replicate (9 - [v].length) .no=[.mu v,.no,.no,.no,.no,.no,.no,.no,.no] from rfl]
 obtain⟨a,v1,e1,f1,a0,a1⟩:=bB (m:=9) f (by omega) (by decide) (sm8 (by decide))
 refine bA (λe=>∃ r,RmI r []/\e=[.mu v1,.sh r,.ow (.lst []),.no,.no,.no,.no,.no,.no]) ⟨_,by simp![Gh,e1],_,CP a0 a1,rfl⟩ ?_
 rintro _ ⟨r0,hr0,rfl⟩
 obtain⟨b,v2,e2,f2,b0,b1⟩:=bB (m:=4) f1 (by omega) (by decide) (sm8 (by decide))
 refine bA (λe=>∃ v r D,Fd (n + 8) v/\RmI r D/\D.length<=1/\e=[.mu v,.sh r,.ow (.lst (D.map .str)),.no,.no,.no,.no,.no,.no]) ?_ ?_
 ·by_cases hb:b=0
  ·subst hb
   obtain⟨x,v3,rt,hrt,f3,ax,nx,e3⟩:=uo f2 (by omega)
   rcases hrt with rfl | rfl
   ·exact⟨_,by simp![e2,e3],v3,x,["box"],f3,.inr ⟨rfl,ax,nx⟩,by decide,rfl⟩
   ·exact⟨_,by simp![e2,e3],v3,x,["box"],f3,.inr ⟨rfl,ax,nx⟩,by decide,rfl⟩
  ·have hb':(b == 0)=false:=by rw[beq_eq_false_iff_ne];exact hb
   exact⟨_,by simp![e2,hb'],v2,r0,[],f2.mono (by omega),hr0,by decide,rfl⟩
 rintro _ ⟨v3,r,D1,f3,hr,l1,rfl⟩
 obtain⟨c,v4,e4,f4,c0,c1⟩:=bB (m:=2) f3 (by omega) (by decide) (sm8 (by decide))
 refine bA (λe=>∃ k:Str,(k="order" \/ k="any")/\e=[.mu v4,.sh r,.ow (.lst (D1.map .str)),.sh (.str k),.no,.no,.no,.no,.no]) ?_ ?_
 ·obtain rfl | rfl:c=0\/c=1:=by omega
  ·exact⟨_,by simp![e4],"order",.inl rfl,rfl⟩
  ·exact⟨_,by simp![e4],"any",.inr rfl,rfl⟩
 rintro _ ⟨k,hk,rfl⟩
 refine bA (λe=>∃ most:Int,((k="order" /\ most=6)\/(k="any" /\ most=5))/\e=[.mu v4,.sh r,.ow (.lst (D1.map .str)),.sh (.str k),.sh (.int most),.no,.no,.no,.no]) ?_ ?_
 ·have d1:eQ.G (.dct [(.inr "order",.int 6),(.inr "any",.int 5)]) (.str "order")=.val (.int 6):=rfl
  have d2:eQ.G (.dct [(.inr "order",.int 6),(.inr "any",.int 5)]) (.str "any")=.val (.int 5):=rfl
  rcases hk with rfl | rfl
  ·exact⟨_,by simp![n4,d1];try rfl,6,.inl ⟨rfl,rfl⟩,rfl⟩
  ·exact⟨_,by simp![n4,d2];try rfl,5,.inr ⟨rfl,rfl⟩,rfl⟩
 rintro _ ⟨most,hm,rfl⟩
 have hm6:5<=most/\most<=6:=by rcases hm with ⟨_,rfl⟩ | ⟨_,rfl⟩ <;> decide
 obtain⟨g1,w1,i1,j1,g10,g11⟩:=bB (m:=3) f4 (by omega) (by decide) (sm8 (by decide))
 obtain⟨g2,w2,i2,j2,g20,g21⟩:=bB (m:=3) j1 (by omega) (by decide) (sm8 (by decide))
 obtain⟨g3,w3,i3,j3,g30,g31⟩:=bB (m:=6) j2 (by omega) (by decide) (sm8 (by decide))
 refine bA (λe=>∃ m:Int,1<=m/\m<=most/\e=[.mu w3,.sh r,.ow (.lst (D1.map .str)),.sh (.str k),.sh (.int most),.sh (.int m),.no,.no,.no]) ?_ ?_
 ·obtain rfl | rfl | rfl | rfl | rfl | rfl:g3=0\/g3=1\/g3=2\/g3=3\/g3=4\/g3=5:=by omega
  ·exact⟨_,by simp![i1,i2,i3],1 + g1,by omega,by omega,rfl⟩
  ·exact⟨_,by simp![i1,i2,i3],1 + g2,by omega,by omega,rfl⟩
  ·exact⟨_,by simp![i1,i2,i3],1,by omega,by omega,rfl⟩
  ·exact⟨_,by simp![i1,i2,i3],2,by omega,by omega,rfl⟩
  ·exact⟨_,by simp![i1,i2,i3],3,by omega,by omega,rfl⟩
  ·exact⟨_,by simp![i1,i2,i3],most,by omega,by omega,rfl⟩
 rintro _ ⟨m,m1,mm,rfl⟩
 obtain⟨m,rfl⟩:∃ k:Nat,m=k:=⟨m.toNat,by omega⟩
 have rg:iM [.int (m:Nat)]=some (rgV m):=jI (i:=(m:Nat)) (by omega) (by omega)
 obtain⟨s,lc⟩:=Aj m (by omega)
 have lw:(((List.range m).map λi:Nat=>1 + (7 * (i:Int) + 3).fmod 5).map Val.int).length<=16777216:=by simp;omega
 refine bA (λe=>∃ w,WtI w most false []/\e=[.mu w3,.sh r,.ow (.lst (D1.map .str)),.sh (.str k),.sh (.int most),.sh (.int (m:Nat)),.sh w,.no,.no]) ⟨_,by simp![rg,cN,lc,lw],.lst (((List.range m).map λi:Nat=>1 + (7 * (i:Int) + 3).fmod 5).map .int),.inr ⟨rfl,_,rfl,?_,?_,?_,.inr ⟨rfl,?_,?_,?_⟩⟩,rfl⟩ ?_
 ·intro z
  have:=congrArg List.length z
  simp at this
  omega
 ·intro x hx
  obtain⟨i,_,rfl⟩:=List.mem_map.mp hx
  rw[Int.fmod_eq_emod_of_nonneg _ (by decide)]
  omega
 ·simp
  omega
 ·simp
  omega
 ·simp
  omega
 ·intro x hx
  obtain⟨i,_,rfl⟩:=List.mem_map.mp hx
  rw[Int.fmod_eq_emod_of_nonneg _ (by decide)]
  omega
 rintro _ ⟨w0,hw0,rfl⟩
 obtain⟨y,v5,e5,f5,y0,y1⟩:=bB (m:=8) j3 (by omega) (by decide) (sm8 (by decide))
 refine bA (λe=>e=[.mu v5,.sh r,.ow (.lst (D1.map .str)),.sh (.str k),.sh (.int most),.sh (.int (m:Nat)),.sh w0,.sh (.int y),.no]) ⟨_,by simp![e5],rfl⟩ ?_
 rintro _ rfl
 have lD:∀ D:List Str,D.length<=10->(D.map Val.str).length<=16777214:=λD h=>by rw[List.length_map];omega
 have sn:∀ (D:List Str) (x:Str),D.map Val.str++[.str x]=(D++[x]).map .str:=λD x=>by rw[List.map_append];rfl
 have ln1:(D1.map Val.str).length < 16777216:=by have:=lD D1 (by omega);omega
 refine bA (λe=>∃ v w D2,Fd (n + 40) v/\D2.length<=1/\(y < 2->∀ q u,WtI w q u D2)/\(¬ y < 2->w=w0/\D2=[])/\e=[.mu v,.sh r,.ow (.lst ((D1++D2).map .str)),.sh (.str k),.sh (.int most),.sh (.int (m:Nat)),.sh w,.sh (.int y),.no]) ?_ ?_
 ·by_cases hy:y < 2
  ·obtain⟨x,v6,rt,hrt,f6,ax,nx,e6⟩:=oK f5 (by omega)
   have wi:∀ q u,WtI x q u ["weights"]:=λq u=>.inl ⟨"NoWeights",.inl rfl,ax,nx,rfl⟩
   have hy':decide (y < 2)=true:=decide_eq_true hy
   rcases hrt with rfl | rfl
   ·exact⟨_,by simp![hy',e6,sn,ln1],v6,x,["weights"],f6.mono (by omega),by decide,λ_=>wi,λh=>absurd hy h,rfl⟩
   ·exact⟨_,by simp![hy',e6,sn,ln1],v6,x,["weights"],f6.mono (by omega),by decide,λ_=>wi,λh=>absurd hy h,rfl⟩
  ·have hy':decide (y < 2)=false:=decide_eq_false hy
   exact⟨_,by simp![hy',List.append_nil],v5,w0,[],f5.mono (by omega),by decide,λh=>absurd h hy,λ_=>⟨rfl,rfl⟩,rfl⟩
 rintro _ ⟨v6,w,D2,f6,l2,hw1,hw2,rfl⟩
 obtain⟨z,v7,e7,f7,z0,z1⟩:=bB (m:=2) f6 (by omega) (by decide) (sm8 (by decide))
 have ln2:((D1++D2).map Val.str).length < 16777216:=by have:=lD (D1++D2) (by rw[List.length_append];omega);omega
 refine bA (λe=>∃ v w D2,Fd (n + 41) v/\D2.length<=1/\(y<=5->WtI w most false D2)/\(5 < y->D2=[])/\e=[.mu v,.sh r,.ow (.lst ((D1++D2).map .str)),.sh (.str k),.sh (.int most),.sh (.int (m:Nat)),.sh w,.sh (.int y),.no]) ?_ ?_
 ·by_cases hy:y=2
  ·subst hy
   obtain⟨rfl,rfl⟩:=hw2 (by decide)
   have rp:zR.G (.lst [.int 1]) (.int (41 + z))=.new (.lst ((List.replicate (41 + z).toNat (1:Int)).map .int)):=by
    obtain rfl | rfl:z=0\/z=1:=by omega
    ·rfl
    ·rfl
   have wi:WtI (.lst ((List.replicate (41 + z).toNat (1:Int)).map .int)) most false ["many"]:=.inl ⟨"TooMany",.inr rfl,by
    obtain rfl | rfl:z=0\/z=1:=by omega
    ·rfl
    ·rfl,by
    obtain rfl | rfl:z=0\/z=1:=by omega
    ·rfl
    ·rfl,rfl⟩
   exact⟨_,by simp![e7,rp,sn,ln1,List.append_nil],v7,_,["many"],f7,by decide,λ_=>wi,λh=>absurd h (by decide),rfl⟩
  ·have hy':(y == 2)=false:=by rw[beq_eq_false_iff_ne];exact hy
   refine⟨_,by simp![hy'],v6,w,D2,f6.mono (by omega),l2,λ_=>?_,λh=>(hw2 (by omega)).2,rfl⟩
   by_cases h2:y < 2
   ·exact hw1 h2 _ _
   ·obtain⟨rfl,rfl⟩:=hw2 h2
    exact hw0
 clear hw1 hw2 f6 e7 f7 ln2 v7
 rintro _ ⟨v7,w,D2,f7,l2,hw1,hw2,rfl⟩
 refine bA (λe=>e=[.mu v7,.sh r,.ow (.lst ((D1++D2).map .str)),.sh (.str k),.sh (.int most),.sh (.int (m:Nat)),.sh w,.sh (.int y),.sh (.bl (decide (5 < y)))]) ⟨_,by simp![ek],rfl⟩ ?_
 rintro _ rfl
 refine bA (λe=>∃ v w io,Fd (n + 42) v/\WtI w most io D2/\e=[.mu v,.sh r,.ow (.lst ((D1++D2).map .str)),.sh (.str k),.sh (.int most),.sh (.int (m:Nat)),.sh w,.sh (.int y),.sh (.bl io)]) ?_ ?_
 ·by_cases hy:5 < y
  ·have hy':decide (5 < y)=true:=decide_eq_true hy
   obtain rfl:=hw2 hy
   obtain⟨z,v8,e8,f8,z0,z1⟩:=bB (m:=2) f7 (by omega) (by decide) (sm8 (by decide))
   have key:∀ q:Nat,1<=q->q<=40->most < q->WtI (.lst (((List.range q).map λi:Nat=>1 + (i:Int)).map .int)) most true []:=λq q1 q4 qm=>.inr ⟨rfl,_,rfl,by
    intro z
    have:=congrArg List.length z
    simp at this
    omega,by
    intro x hx
    obtain⟨i,_,rfl⟩:=List.mem_map.mp hx
    omega,by simp;omega,.inl ⟨rfl,by simp;omega⟩⟩
   obtain rfl | rfl:z=0\/z=1:=by omega
   ·obtain⟨s,lc⟩:=yM (most + 1).toNat (by omega)
    have lw:(((List.range (most + 1).toNat).map λi:Nat=>1 + (i:Int)).map Val.int).length<=16777216:=by simp;omega
    have rg:iM [.int (most + 1)]=some (rgV (most + 1).toNat):=jI (by omega) (by omega)
    exact⟨_,by simp![hy',lC,e8,rg,cN,lc,lw],v8,_,true,f8,key (most + 1).toNat (by omega) (by omega) (by omega),rfl⟩
   ·obtain⟨s,lc⟩:=yM 40 (by omega)
    have lw:(((List.range 40).map λi:Nat=>1 + (i:Int)).map Val.int).length<=16777216:=by simp
    have rg:iM [.int 40]=some (rgV 40):=jI (i:=40) (by omega) (by omega)
    exact⟨_,by simp![hy',lC,e8,rg,cN,lc,lw],v8,_,true,f8,key 40 (by omega) (by omega) (by omega),rfl⟩
  ·have hy':decide (5 < y)=false:=decide_eq_false hy
   exact⟨_,by simp![hy',lC],v7,w,false,f7.mono (by omega),hw1 (by omega),rfl⟩
 clear hw1 hw2 f7 v7 w
 rintro _ ⟨v8,w,io,f8,hw,rfl⟩
 obtain⟨b,v9,e9,f9,b0,b1⟩:=bB (m:=4) f8 (by omega) (by decide) (sm8 (by decide))
 have ln2:((D1++D2).map Val.str).length < 16777216:=by have:=lD (D1++D2) (by rw[List.length_append];omega);omega
 refine bA (λe=>∃ v k D3,Fd (n + 60) v/\KdI k most D3/\D3.length<=1/\e=[.mu v,.sh r,.ow (.lst ((D1++D2++D3).map .str)),.sh (.str k),.sh (.int most),.sh (.int (m:Nat)),.sh w,.sh (.int y),.sh (.bl io)]) ?_ ?_
 ·by_cases hb:b=0
  ·subst hb
   obtain⟨c,v10,e10,f10,c0,c1⟩:=bB (m:=7) f9 (by omega) (by decide) (sm8 (by decide))
   have f11:Fd (n + 60) v10:=f10.mono (by omega)
   obtain rfl | rfl | rfl | rfl | rfl | rfl | rfl:c=0\/c=1\/c=2\/c=3\/c=4\/c=5\/c=6:=by omega
   ·exact⟨_,by simp![e9,e10,sn,ln2],v10,"",["kind"],f11,.inr ⟨rfl,by rfl⟩,by decide,rfl⟩
   ·exact⟨_,by simp![e9,e10,sn,ln2],v10,"Order",["kind"],f11,.inr ⟨rfl,by rfl⟩,by decide,rfl⟩
   ·exact⟨_,by simp![e9,e10,sn,ln2],v10,"any ",["kind"],f11,.inr ⟨rfl,by rfl⟩,by decide,rfl⟩
   ·exact⟨_,by simp![e9,e10,sn,ln2],v10,"all",["kind"],f11,.inr ⟨rfl,by rfl⟩,by decide,rfl⟩
   ·exact⟨_,by simp![e9,e10,sn,ln2],v10,"across",["kind"],f11,.inr ⟨rfl,by rfl⟩,by decide,rfl⟩
   ·exact⟨_,by simp![e9,e10,sn,ln2],v10,"orders",["kind"],f11,.inr ⟨rfl,by rfl⟩,by decide,rfl⟩
   ·exact⟨_,by simp![e9,e10,sn,ln2],v10,"an",["kind"],f11,.inr ⟨rfl,by rfl⟩,by decide,rfl⟩
  ·have hb':(b == 0)=false:=by rw[beq_eq_false_iff_ne];exact hb
   exact⟨_,by simp![e9,hb',List.append_nil],v9,k,[],f9.mono (by omega),.inl ⟨rfl,hm⟩,by decide,rfl⟩
 clear hk hm k
 rintro _ ⟨v10,k,D3,f10,hk,l3,rfl⟩
 have ln3:((D1++D2++D3).map Val.str).length < 16777216:=by have:=lD (D1++D2++D3) (by simp only[List.length_append];omega);omega
 refine bA (λe=>e=[.mu v10,.sh r,.ow (.lst ((D1++D2++D3++(if io=true then s1 "many" else [])).map .str)),.sh (.str k),.sh (.int most),.sh (.int (m:Nat)),.sh w,.sh (.int y),.sh (.bl io)]) ?_ ?_
 ·cases io with
  | true=>exact⟨_,by simp![lC,sn,ln3],rfl⟩
  | false=>exact⟨_,by simp![lC,List.append_nil],rfl⟩
 rintro _ rfl
 obtain⟨x,rest,hx,ha,hxo⟩:=Dh hr hw hk
 have ap:bp.G (.lst ((D1++D2++D3++(if io=true then s1 "many" else [])).map .str)) (.lst [.str "told"])=.new (.lst (.str x :: rest.map .str)):=by
  rw[xn,if_pos,sn,hx]
  ·rfl
  ·have:=lD (D1++D2++D3++(if io=true then s1 "many" else [])) (by cases io <;> simp only[List.length_append,if_true,Bool.false_eq_true,if_false,List.length_nil,List.length_cons] <;> omega)
   simp only[List.length_cons,List.length_nil]
   omega
 refine⟨v10,f10,?_⟩
 generalize (D1++D2++D3++(if io=true then s1 "many" else [])).map Val.str=L at *
 have es:eS (.str x) (.str x)=some true:=by rw[eq_str hxo hxo,beq_self_eq_true]
 simp![ha,ap,es,cJ]
theorem qV {e:E3}:∀ (vs:List Val) (v s:Val) (t:Sl) (n:Nat),Fd n v->n + 60 * vs.length<=400000->t.pl=true->e=[.sh s,.ow v,t]->∃ v' t',fI (gtN 2).G lA.G vs e=.nx [.sh s,.ow v',t']
 | [],v,s,t,n,_,_,_,h=>⟨v,t,by rw[h];rfl⟩
 |
  x :: vs,v,s,t,n,f,hn,ht,h=>by
  subst h
  rw[List.length_cons] at hn
  obtain⟨v1,f1,e1⟩:=F7 f (by omega)
  obtain⟨v',t',e2⟩:=qV vs v1 s (.sh x) (n + 60) f1 (by omega) rfl rfl
  refine⟨v',t',?_⟩
  unfold fI
  have g1:(gtN 2).G x [.sh s,.ow v,t]=some [.sh s,.ow v,.sh x]:=by
   simp![ht]
  have b1:lA.G [.sh s,.ow v,.sh x]=.nx [.sh s,.ow v1,.sh x]:=by
   unfold lA
   simp![e1]
  rw[g1]
  dsimp only
  rw[b1]
  exact e2
theorem Iv (ns:List Int) (hl:ns.length<=63):oa.G [.kl (ns.map .int)]=.ok (.val (.bl true)) []:=by
 obtain⟨v,e1,f⟩:=D6 hl
 have ln:((ns.map Val.int).length:Int)=(ns.length:Nat):=by rw[List.length_map]
 have rg:iM [.int (4 + if ((ns.length:Nat):Int) < 5 then ((ns.length:Nat):Int) else 5)]=some (rgV (4 + if ((ns.length:Nat):Int) < 5 then ((ns.length:Nat):Int) else 5).toNat):=jI (i:=4 + if ((ns.length:Nat):Int) < 5 then ((ns.length:Nat):Int) else 5) (by split <;> omega) (by split <;> omega)
 obtain⟨v',t',e2⟩:=qV (rgV (4 + if ((ns.length:Nat):Int) < 5 then ((ns.length:Nat):Int) else 5).toNat) v (.kl (ns.map .int)) .no 0 f (by rw[lT];split <;> omega) rfl rfl
 unfold oa
 rw[bh]
 unfold vz
 simp![e1,ln,rg,e2]
theorem HB {w:World}{K:W.Frag}{h:Heap}{mg:Str->Option Value}{e_:Addr}{a_:Addr}{f_:Addr}{g_:Addr}{b_:Addr}{c_:Addr}{m_:Addr}{k_:Addr}{d_:Addr}{j_:Addr}{r_:Addr}{i_:Addr}{h_:Addr}{o_:Addr}{l_:Addr}{p_:Addr} (X:K.In h) (G:h.Ns mainGlobals mg)
 (LJ:W.nsIn K mainGlobals "NoBox"=some (some (.ref f_)))
 (LZ:W.nsIn K mainGlobals "NoCut"=some (some (.ref o_)))
 (D_:W.nsIn K mainGlobals "NoFraction"=some (some (.ref a_)))
 (Lm:W.nsIn K mainGlobals "NoKind"=some (some (.ref d_)))
 (LK:W.nsIn K mainGlobals "NoName"=some (some (.ref j_)))
 (L5:W.nsIn K mainGlobals "NoRow"=some (some (.ref p_)))
 (LN:W.nsIn K mainGlobals "NoRule"=some (some (.ref k_)))
 (LO:W.nsIn K mainGlobals "NoText"=some (some (.ref l_)))
 (Lo:W.nsIn K mainGlobals "NoThing"=some (some (.ref h_)))
 (LP:W.nsIn K mainGlobals "NoTree"=some (some (.ref m_)))
 (LQ:W.nsIn K mainGlobals "NoWay"=some (some (.ref g_)))
 (A_:W.nsIn K mainGlobals "NoWeights"=some (some (.ref b_)))
 (Lb:W.nsIn K mainGlobals "RoomError"=some (some (.ref e_)))
 (L6:W.nsIn K mainGlobals "Taken"=some (some (.ref r_)))
 (K9:W.nsIn K mainGlobals "TooMany"=some (some (.ref c_)))
 (Lp:W.nsIn K mainGlobals "Unknown"=some (some (.ref i_)))
 (G_:W.nsIn K mainGlobals "ValueError"=some none)
 (ML:W.nsIn K mainGlobals "abs"=some none)
 (MM:W.nsIn K mainGlobals "all"=some none)
 (Mr:W.nsIn K mainGlobals "bool"=some none)
 (MN:W.nsIn K mainGlobals "int"=some none)
 (n_:W.nsIn K mainGlobals "isinstance"=some none)
 (z_:W.nsIn K mainGlobals "len"=some none)
 (Lk:W.nsIn K mainGlobals "list"=some none)
 (M3:W.nsIn K mainGlobals "min"=some none)
 (H_:W.nsIn K mainGlobals "range"=some none)
 (MP:W.nsIn K mainGlobals "str"=some none)
 (MQ:W.nsIn K mainGlobals "sum"=some none)
 (C_:W.nsIn K mainGlobals "tuple"=some none)
 (u_:KDict w K mg "MOST_THINGS" aX)
 (B_:GC K mg "MOST_WEIGHTS" fZ)
 (L_:GC K mg "WAYS" tG)
 (Na:W.specialIn K (.builtin "object.__class__") "__get__"=some (some (.builtin "getset_descriptor.__get__")))
 (Nb:W.takesIn K (.builtin "object.__class__")=some true)
 (LA:W.typeIn K (.ref e_)=some (.type "type"))
 (Lq:(W.clsIn K e_).isSome=true)
 (Lz:W.mroIn K e_ (.type "BaseException")=some true)
 (J_:W.excIn K a_ eJ "ValueError.__new__"=true)
 (Ll:(W.clsIn K a_).isSome=true)
 (Ls:W.findIn K (.ref a_) "__getattribute__"=some (some (.builtin "BaseException.__getattribute__")))
 (Lu:W.findIn K (.ref a_) "__getattr__"=some none)
 (Lr:W.findIn K (.ref a_) "__class__"=some (some (.builtin "object.__class__")))
 (Lw:W.mroIn K a_ (.type "object")=some true)
 (Lv:W.mroIn K a_ (.type "BaseException")=some true)
 (L7:W.excIn K f_ eJ "ValueError.__new__"=true)
 (Mj:(W.clsIn K f_).isSome=true)
 (My:W.findIn K (.ref f_) "__getattribute__"=some (some (.builtin "BaseException.__getattribute__")))
 (Mz:W.findIn K (.ref f_) "__getattr__"=some none)
 (Mx:W.findIn K (.ref f_) "__class__"=some (some (.builtin "object.__class__")))
 (MC:W.mroIn K f_ (.type "object")=some true)
 (MB:W.mroIn K f_ (.type "BaseException")=some true)
 (L8:W.excIn K g_ eJ "ValueError.__new__"=true)
 (Mq:(W.clsIn K g_).isSome=true)
 (MF:W.findIn K (.ref g_) "__getattribute__"=some (some (.builtin "BaseException.__getattribute__")))
 (MH:W.findIn K (.ref g_) "__getattr__"=some none)
 (MD:W.findIn K (.ref g_) "__class__"=some (some (.builtin "object.__class__")))
 (MK:W.mroIn K g_ (.type "object")=some true)
 (MJ:W.mroIn K g_ (.type "BaseException")=some true)
 (F_:W.excIn K b_ eJ "ValueError.__new__"=true)
 (Lx:(W.clsIn K b_).isSome=true)
 (LC:W.findIn K (.ref b_) "__getattribute__"=some (some (.builtin "BaseException.__getattribute__")))
 (LD:W.findIn K (.ref b_) "__getattr__"=some none)
 (LB:W.findIn K (.ref b_) "__class__"=some (some (.builtin "object.__class__")))
 (LH:W.mroIn K b_ (.type "object")=some true)
 (LG:W.mroIn K b_ (.type "BaseException")=some true)
 (Lf:W.excIn K c_ eJ "ValueError.__new__"=true)
 (LX:(W.clsIn K c_).isSome=true)
 (Mc:W.findIn K (.ref c_) "__getattribute__"=some (some (.builtin "BaseException.__getattribute__")))
 (Md:W.findIn K (.ref c_) "__getattr__"=some none)
 (Mb:W.findIn K (.ref c_) "__class__"=some (some (.builtin "object.__class__")))
 (Mf:W.mroIn K c_ (.type "object")=some true)
 (Me:W.mroIn K c_ (.type "BaseException")=some true)
 (LR:W.excIn K d_ eJ "ValueError.__new__"=true)
 (Ma:(W.clsIn K d_).isSome=true)
 (Mm:W.findIn K (.ref d_) "__getattribute__"=some (some (.builtin "BaseException.__getattribute__")))
 (Mn:W.findIn K (.ref d_) "__getattr__"=some none)
 (Ml:W.findIn K (.ref d_) "__class__"=some (some (.builtin "object.__class__")))
 (Mp:W.mroIn K d_ (.type "object")=some true)
 (Mo:W.mroIn K d_ (.type "BaseException")=some true)
 (E_:W.mroIn K a_ (.ref e_)=some true)
 (Li:W.mroIn K f_ (.ref e_)=some true)
 (Lj:W.mroIn K g_ (.ref e_)=some true)
 (I_:W.mroIn K b_ (.ref e_)=some true)
 (Lc:W.mroIn K c_ (.ref e_)=some true)
 (Ld:W.mroIn K d_ (.ref e_)=some true)
 (i0:W.kitOne K (.ref a_) (.ref f_)=some false)
 (i1:W.kitOne K (.ref f_) (.ref f_)=some true)
 (i2:W.kitOne K (.ref g_) (.ref f_)=some false)
 (i3:W.kitOne K (.ref b_) (.ref f_)=some false)
 (i4:W.kitOne K (.ref c_) (.ref f_)=some false)
 (i5:W.kitOne K (.ref d_) (.ref f_)=some false)
 (i6:W.kitOne K (.ref a_) (.ref o_)=some false)
 (i7:W.kitOne K (.ref f_) (.ref o_)=some false)
 (i8:W.kitOne K (.ref g_) (.ref o_)=some false)
 (i9:W.kitOne K (.ref b_) (.ref o_)=some false)
 (MV:W.kitOne K (.ref c_) (.ref o_)=some false)
 (MW:W.kitOne K (.ref d_) (.ref o_)=some false)
 (MX:W.kitOne K (.ref a_) (.ref a_)=some true)
 (MY:W.kitOne K (.ref f_) (.ref a_)=some false)
 (MZ:W.kitOne K (.ref g_) (.ref a_)=some false)
 (NM:W.kitOne K (.ref b_) (.ref a_)=some false)
 (NN:W.kitOne K (.ref c_) (.ref a_)=some false)
 (NO:W.kitOne K (.ref d_) (.ref a_)=some false)
 (NP:W.kitOne K (.ref a_) (.ref d_)=some false)
 (NQ:W.kitOne K (.ref f_) (.ref d_)=some false)
 (NR:W.kitOne K (.ref g_) (.ref d_)=some false)
 (NS:W.kitOne K (.ref b_) (.ref d_)=some false)
 (NT:W.kitOne K (.ref c_) (.ref d_)=some false)
 (NU:W.kitOne K (.ref d_) (.ref d_)=some true)
 (NV:W.kitOne K (.ref a_) (.ref j_)=some false)
 (NW:W.kitOne K (.ref f_) (.ref j_)=some false)
 (NX:W.kitOne K (.ref g_) (.ref j_)=some false)
 (NY:W.kitOne K (.ref b_) (.ref j_)=some false)
 (NZ:W.kitOne K (.ref c_) (.ref j_)=some false)
 (N0:W.kitOne K (.ref d_) (.ref j_)=some false)
 (N1:W.kitOne K (.ref a_) (.ref p_)=some false)
 (N2:W.kitOne K (.ref f_) (.ref p_)=some false)
 (N3:W.kitOne K (.ref g_) (.ref p_)=some false)
 (N4:W.kitOne K (.ref b_) (.ref p_)=some false)
 (N5:W.kitOne K (.ref c_) (.ref p_)=some false)
 (N6:W.kitOne K (.ref d_) (.ref p_)=some false)
 (N7:W.kitOne K (.ref a_) (.ref k_)=some false)
 (N8:W.kitOne K (.ref f_) (.ref k_)=some false)
 (N9:W.kitOne K (.ref g_) (.ref k_)=some false)
 (N_:W.kitOne K (.ref b_) (.ref k_)=some false)
 (Oa:W.kitOne K (.ref c_) (.ref k_)=some false)
 (Od:W.kitOne K (.ref d_) (.ref k_)=some false)
 (Oe:W.kitOne K (.ref a_) (.ref l_)=some false)
 (Of:W.kitOne K (.ref f_) (.ref l_)=some false)
 (Og:W.kitOne K (.ref g_) (.ref l_)=some false)
 (Oh:W.kitOne K (.ref b_) (.ref l_)=some false)
 (Oi:W.kitOne K (.ref c_) (.ref l_)=some false)
 (Oj:W.kitOne K (.ref d_) (.ref l_)=some false)
 (Ol:W.kitOne K (.ref a_) (.ref h_)=some false)
 (Om:W.kitOne K (.ref f_) (.ref h_)=some false)
 (Oo:W.kitOne K (.ref g_) (.ref h_)=some false)
 (Oq:W.kitOne K (.ref b_) (.ref h_)=some false)
 (Ot:W.kitOne K (.ref c_) (.ref h_)=some false)
 (Ou:W.kitOne K (.ref d_) (.ref h_)=some false)
 (Ov:W.kitOne K (.ref a_) (.ref m_)=some false)
 (Ow:W.kitOne K (.ref f_) (.ref m_)=some false)
 (Ox:W.kitOne K (.ref g_) (.ref m_)=some false)
 (Oy:W.kitOne K (.ref b_) (.ref m_)=some false)
 (Oz:W.kitOne K (.ref c_) (.ref m_)=some false)
 (OA:W.kitOne K (.ref d_) (.ref m_)=some false)
 (OB:W.kitOne K (.ref a_) (.ref g_)=some false)
 (OC:W.kitOne K (.ref f_) (.ref g_)=some false)
 (OD:W.kitOne K (.ref g_) (.ref g_)=some true)
 (OE:W.kitOne K (.ref b_) (.ref g_)=some false)
 (OF:W.kitOne K (.ref c_) (.ref g_)=some false)
 (OG:W.kitOne K (.ref d_) (.ref g_)=some false)
 (OH:W.kitOne K (.ref a_) (.ref b_)=some false)
 (OI:W.kitOne K (.ref f_) (.ref b_)=some false)
 (OJ:W.kitOne K (.ref g_) (.ref b_)=some false)
 (OK:W.kitOne K (.ref b_) (.ref b_)=some true)
 (OL:W.kitOne K (.ref c_) (.ref b_)=some false)
 (OM:W.kitOne K (.ref d_) (.ref b_)=some false)
 (ON:W.kitOne K (.ref a_) (.ref r_)=some false)
 (OO:W.kitOne K (.ref f_) (.ref r_)=some false)
 (OP:W.kitOne K (.ref g_) (.ref r_)=some false)
 (OQ:W.kitOne K (.ref b_) (.ref r_)=some false)
 (OR:W.kitOne K (.ref c_) (.ref r_)=some false)
 (OS:W.kitOne K (.ref d_) (.ref r_)=some false)
 (OT:W.kitOne K (.ref a_) (.ref c_)=some false)
 (OU:W.kitOne K (.ref f_) (.ref c_)=some false)
 (OV:W.kitOne K (.ref g_) (.ref c_)=some false)
 (OW:W.kitOne K (.ref b_) (.ref c_)=some false)
 (OX:W.kitOne K (.ref c_) (.ref c_)=some true)
 (OY:W.kitOne K (.ref d_) (.ref c_)=some false)
 (OZ:W.kitOne K (.ref a_) (.ref i_)=some false)
 (O0:W.kitOne K (.ref f_) (.ref i_)=some false)
 (O1:W.kitOne K (.ref g_) (.ref i_)=some false)
 (O2:W.kitOne K (.ref b_) (.ref i_)=some false)
 (O3:W.kitOne K (.ref c_) (.ref i_)=some false)
 (O4:W.kitOne K (.ref d_) (.ref i_)=some false)
 (O5:W.kitOne K (.ref a_) (.type "ValueError")=some true)
 (O6:W.kitOne K (.ref f_) (.type "ValueError")=some true)
 (O7:W.kitOne K (.ref g_) (.type "ValueError")=some true)
 (O8:W.kitOne K (.ref b_) (.type "ValueError")=some true)
 (O9:W.kitOne K (.ref c_) (.type "ValueError")=some true)
 (O_:W.kitOne K (.ref d_) (.type "ValueError")=some true)
 (Pa:W.kitOne K (.type "NoneType") (.type "bool")=some false)
 (Pb:W.kitOne K (.type "bool") (.type "bool")=some true)
 (Pc:W.kitOne K (.type "int") (.type "bool")=some false)
 (Pd:W.kitOne K (.type "str") (.type "bool")=some false)
 (Nc:W.kitOne K (.type "tuple") (.type "bool")=some false)
 (Nd:W.kitOne K (.type "list") (.type "bool")=some false)
 (Nf:W.kitOne K (.type "dict") (.type "bool")=some false)
 (Ng:W.kitOne K (.type "NoneType") (.type "int")=some false)
 (Nh:W.kitOne K (.type "bool") (.type "int")=some true)
 (Ni:W.kitOne K (.type "int") (.type "int")=some true)
 (Nj:W.kitOne K (.type "str") (.type "int")=some false)
 (Nk:W.kitOne K (.type "tuple") (.type "int")=some false)
 (Nl:W.kitOne K (.type "list") (.type "int")=some false)
 (Nm:W.kitOne K (.type "dict") (.type "int")=some false)
 (Nn:W.kitOne K (.type "NoneType") (.type "list")=some false)
 (Np:W.kitOne K (.type "bool") (.type "list")=some false)
 (Nq:W.kitOne K (.type "int") (.type "list")=some false)
 (Nr:W.kitOne K (.type "str") (.type "list")=some false)
 (Nt:W.kitOne K (.type "tuple") (.type "list")=some false)
 (Nu:W.kitOne K (.type "list") (.type "list")=some true)
 (Nv:W.kitOne K (.type "dict") (.type "list")=some false)
 (Nw:W.kitOne K (.type "NoneType") (.type "str")=some false)
 (Ny:W.kitOne K (.type "bool") (.type "str")=some false)
 (Nz:W.kitOne K (.type "int") (.type "str")=some false)
 (NA:W.kitOne K (.type "str") (.type "str")=some true)
 (NB:W.kitOne K (.type "tuple") (.type "str")=some false)
 (NC:W.kitOne K (.type "list") (.type "str")=some false)
 (ND:W.kitOne K (.type "dict") (.type "str")=some false)
 (NF:W.kitOne K (.type "NoneType") (.type "tuple")=some false)
 (NG:W.kitOne K (.type "bool") (.type "tuple")=some false)
 (NH:W.kitOne K (.type "int") (.type "tuple")=some false)
 (NI:W.kitOne K (.type "str") (.type "tuple")=some false)
 (NJ:W.kitOne K (.type "tuple") (.type "tuple")=some true)
 (NK:W.kitOne K (.type "list") (.type "tuple")=some false)
 (NL:W.kitOne K (.type "dict") (.type "tuple")=some false)
 : Txt w K mg e_ a_ f_ g_ b_ c_ m_ k_ d_ j_ r_ i_ h_ o_ l_ p_:=by
 have mNoBox:=W.mg_of X G LJ
 have mNoCut:=W.mg_of X G LZ
 have mNoFraction:=W.mg_of X G D_
 have mNoKind:=W.mg_of X G Lm
 have mNoName:=W.mg_of X G LK
 have mNoRow:=W.mg_of X G L5
 have mNoRule:=W.mg_of X G LN
 have mNoText:=W.mg_of X G LO
 have mNoThing:=W.mg_of X G Lo
 have mNoTree:=W.mg_of X G LP
 have mNoWay:=W.mg_of X G LQ
 have mNoWeights:=W.mg_of X G A_
 have mRoomError:=W.mg_of X G Lb
 have mTaken:=W.mg_of X G L6
 have mTooMany:=W.mg_of X G K9
 have mUnknown:=W.mg_of X G Lp
 have w_NoBox:=my mNoBox ⟨Mj,My,Mz,Mx,Na,Nb,MC,MB⟩
 have w_NoFraction:=my mNoFraction ⟨Ll,Ls,Lu,Lr,Na,Nb,Lw,Lv⟩
 have w_NoKind:=my mNoKind ⟨Ma,Mm,Mn,Ml,Na,Nb,Mp,Mo⟩
 have w_NoWay:=my mNoWay ⟨Mq,MF,MH,MD,Na,Nb,MK,MJ⟩
 have w_NoWeights:=my mNoWeights ⟨Lx,LC,LD,LB,Na,Nb,LH,LG⟩
 have w_TooMany:=my mTooMany ⟨LX,Mc,Md,Mb,Na,Nb,Mf,Me⟩
 exact {
 u_:=u_,
 B_:=B_,
 LJ:=mNoBox,
 LZ:=mNoCut,
 D_:=mNoFraction,
 Lm:=mNoKind,
 LK:=mNoName,
 L5:=mNoRow,
 LN:=mNoRule,
 LO:=mNoText,
 Lo:=mNoThing,
 LP:=mNoTree,
 LQ:=mNoWay,
 A_:=mNoWeights,
 Lb:=mRoomError,
 L6:=mTaken,
 K9:=mTooMany,
 Lp:=mUnknown,
 G_:=W.mg_none_of X G G_,
 L_:=L_,
 ML:=W.mg_none_of X G ML,
 MM:=W.mg_none_of X G MM,
 Mr:=W.mg_none_of X G Mr,
 MN:=W.mg_none_of X G MN,
 n_:=W.mg_none_of X G n_,
 z_:=W.mg_none_of X G z_,
 Lk:=W.mg_none_of X G Lk,
 M3:=W.mg_none_of X G M3,
 H_:=W.mg_none_of X G H_,
 MP:=W.mg_none_of X G MP,
 MQ:=W.mg_none_of X G MQ,
 C_:=W.mg_none_of X G C_,
 M4:=⟨LA,Lq,Lz⟩,
 M5:=by
  intro c hc Ce e
  simp only[ff,List.mem_cons,List.not_mem_nil,or_false] at hc
  rcases hc with rfl | rfl | rfl | rfl | rfl | rfl
  ·rw[mNoFraction] at e;cases e;exact E_
  ·rw[mNoBox] at e;cases e;exact Li
  ·rw[mNoWay] at e;cases e;exact Lj
  ·rw[mNoWeights] at e;cases e;exact I_
  ·rw[mTooMany] at e;cases e;exact Lc
  ·rw[mNoKind] at e;cases e;exact Ld,
 J_:=J_,
 L7:=L7,
 L8:=L8,
 F_:=F_,
 Lf:=Lf,
 LR:=LR,
 kits:=(ak i0 mNoFraction mNoBox w_NoFraction
  (ak i1 mNoBox mNoBox w_NoBox
  (ak i2 mNoWay mNoBox w_NoWay
  (ak i3 mNoWeights mNoBox w_NoWeights
  (ak i4 mTooMany mNoBox w_TooMany
  (ak i5 mNoKind mNoBox w_NoKind
  (ak i6 mNoFraction mNoCut w_NoFraction
  (ak i7 mNoBox mNoCut w_NoBox
  (ak i8 mNoWay mNoCut w_NoWay
  (ak i9 mNoWeights mNoCut w_NoWeights
  (ak MV mTooMany mNoCut w_TooMany
  (ak MW mNoKind mNoCut w_NoKind
  (ak MX mNoFraction mNoFraction w_NoFraction
  (ak MY mNoBox mNoFraction w_NoBox
  (ak MZ mNoWay mNoFraction w_NoWay
  (ak NM mNoWeights mNoFraction w_NoWeights
  (ak NN mTooMany mNoFraction w_TooMany
  (ak NO mNoKind mNoFraction w_NoKind
  (ak NP mNoFraction mNoKind w_NoFraction
  (ak NQ mNoBox mNoKind w_NoBox
  (ak NR mNoWay mNoKind w_NoWay
  (ak NS mNoWeights mNoKind w_NoWeights
  (ak NT mTooMany mNoKind w_TooMany
  (ak NU mNoKind mNoKind w_NoKind
  (ak NV mNoFraction mNoName w_NoFraction
  (ak NW mNoBox mNoName w_NoBox
  (ak NX mNoWay mNoName w_NoWay
  (ak NY mNoWeights mNoName w_NoWeights
  (ak NZ mTooMany mNoName w_TooMany
  (ak N0 mNoKind mNoName w_NoKind
  (ak N1 mNoFraction mNoRow w_NoFraction
  (ak N2 mNoBox mNoRow w_NoBox
  (ak N3 mNoWay mNoRow w_NoWay
  (ak N4 mNoWeights mNoRow w_NoWeights
  (ak N5 mTooMany mNoRow w_TooMany
  (ak N6 mNoKind mNoRow w_NoKind
  (ak N7 mNoFraction mNoRule w_NoFraction
  (ak N8 mNoBox mNoRule w_NoBox
  (ak N9 mNoWay mNoRule w_NoWay
  (ak N_ mNoWeights mNoRule w_NoWeights
  (ak Oa mTooMany mNoRule w_TooMany
  (ak Od mNoKind mNoRule w_NoKind
  (ak Oe mNoFraction mNoText w_NoFraction
  (ak Of mNoBox mNoText w_NoBox
  (ak Og mNoWay mNoText w_NoWay
  (ak Oh mNoWeights mNoText w_NoWeights
  (ak Oi mTooMany mNoText w_TooMany
  (ak Oj mNoKind mNoText w_NoKind
  (ak Ol mNoFraction mNoThing w_NoFraction
  (ak Om mNoBox mNoThing w_NoBox
  (ak Oo mNoWay mNoThing w_NoWay
  (ak Oq mNoWeights mNoThing w_NoWeights
  (ak Ot mTooMany mNoThing w_TooMany
  (ak Ou mNoKind mNoThing w_NoKind
  (ak Ov mNoFraction mNoTree w_NoFraction
  (ak Ow mNoBox mNoTree w_NoBox
  (ak Ox mNoWay mNoTree w_NoWay
  (ak Oy mNoWeights mNoTree w_NoWeights
  (ak Oz mTooMany mNoTree w_TooMany
  (ak OA mNoKind mNoTree w_NoKind
  (ak OB mNoFraction mNoWay w_NoFraction
  (ak OC mNoBox mNoWay w_NoBox
  (ak OD mNoWay mNoWay w_NoWay
  (ak OE mNoWeights mNoWay w_NoWeights
  (ak OF mTooMany mNoWay w_TooMany
  (ak OG mNoKind mNoWay w_NoKind
  (ak OH mNoFraction mNoWeights w_NoFraction
  (ak OI mNoBox mNoWeights w_NoBox
  (ak OJ mNoWay mNoWeights w_NoWay
  (ak OK mNoWeights mNoWeights w_NoWeights
  (ak OL mTooMany mNoWeights w_TooMany
  (ak OM mNoKind mNoWeights w_NoKind
  (ak ON mNoFraction mTaken w_NoFraction
  (ak OO mNoBox mTaken w_NoBox
  (ak OP mNoWay mTaken w_NoWay
  (ak OQ mNoWeights mTaken w_NoWeights
  (ak OR mTooMany mTaken w_TooMany
  (ak OS mNoKind mTaken w_NoKind
  (ak OT mNoFraction mTooMany w_NoFraction
  (ak OU mNoBox mTooMany w_NoBox
  (ak OV mNoWay mTooMany w_NoWay
  (ak OW mNoWeights mTooMany w_NoWeights
  (ak OX mTooMany mTooMany w_TooMany
  (ak OY mNoKind mTooMany w_NoKind
  (ak OZ mNoFraction mUnknown w_NoFraction
  (ak O0 mNoBox mUnknown w_NoBox
  (ak O1 mNoWay mUnknown w_NoWay
  (ak O2 mNoWeights mUnknown w_NoWeights
  (ak O3 mTooMany mUnknown w_TooMany
  (ak O4 mNoKind mUnknown w_NoKind
  (ak O5 mNoFraction rfl w_NoFraction
  (ak O6 mNoBox rfl w_NoBox
  (ak O7 mNoWay rfl w_NoWay
  (ak O8 mNoWeights rfl w_NoWeights
  (ak O9 mTooMany rfl w_TooMany
  (ak O_ mNoKind rfl w_NoKind
  (ak Pa rfl rfl bo
  (ak Pb rfl rfl bo
  (ak Pc rfl rfl bo
  (ak Pd rfl rfl bo
  (ak Nc rfl rfl bo
  (ak Nd rfl rfl bo
  (ak Nf rfl rfl bo
  (ak Ng rfl rfl bo
  (ak Nh rfl rfl bo
  (ak Ni rfl rfl bo
  (ak Nj rfl rfl bo
  (ak Nk rfl rfl bo
  (ak Nl rfl rfl bo
  (ak Nm rfl rfl bo
  (ak Nn rfl rfl bo
  (ak Np rfl rfl bo
  (ak Nq rfl rfl bo
  (ak Nr rfl rfl bo
  (ak Nt rfl rfl bo
  (ak Nu rfl rfl bo
  (ak Nv rfl rfl bo
  (ak Nw rfl rfl bo
  (ak Ny rfl rfl bo
  (ak Nz rfl rfl bo
  (ak NA rfl rfl bo
  (ak NB rfl rfl bo
  (ak NC rfl rfl bo
  (ak ND rfl rfl bo
  (ak NF rfl rfl bo
  (ak NG rfl rfl bo
  (ak NH rfl rfl bo
  (ak NI rfl rfl bo
  (ak NJ rfl rfl bo
  (ak NK rfl rfl bo
  (ak NL rfl rfl bo
  AB)))))))))))))))))))))))))))))))))))))))))))))))))))))))))))))))))))))))))))))))))))))))))))))))))))))))))))))))))))))))))))))))))))
 }
end KK
namespace PySem.W.Fast
def tw10033828898843004728:=()
def tw10101046575023469111:=()
def tw10129665727411837794:=()
def tw10201878921962003606:=()
def tw10235948755038955423:=()
def tw10257850010226048840:=()
def tw10459405344438945959:=()
def tw10479801896926639768:=()
def tw10488374358949414373:=()
def tw10526033492014305765:=()
def tw10538410085042441912:=()
def tw10568140493166714188:=()
def tw10608980016134997651:=()
def tw10668423240658639604:=()
def tw10682790295802587527:=()
def tw10758407281925649002:=()
def tw10785462068404539519:=()
def tw10826770841788725393:=()
def tw10910995356400888569:=()
def tw10930976575295305328:=()
def tw10972578493384903235:=()
def tw10992809466942650725:=()
def tw11080562816454764074:=()
def tw11111906746907605551:=()
def tw11125713293425573076:=()
def tw11126787193951705846:=()
def tw11131742603687213288:=()
def tw11148198726014579097:=()
def tw11151998502523983911:=()
def tw11194457208668050915:=()
def tw11196025605489304684:=()
def tw1124258200477766719:=()
def tw11292212228176496251:=()
def tw11294593596824401301:=()
def tw11296462827851983294:=()
def tw11299156245313758025:=()
def tw11376921438230862936:=()
def tw11391160950924591149:=()
def tw11421030704620455636:=()
def tw11425192434664645150:=()
def tw11427316548419512415:=()
def tw11433738667683523998:=()
def tw11523525481992592915:=()
def tw11530234253758871081:=()
def tw11545475043849049022:=()
def tw11552214803690332451:=()
def tw11624591073308330522:=()
def tw11657099253820941155:=()
def tw11687328156969455734:=()
def tw11727108880716084211:=()
def tw11728959793766431706:=()
def tw11776918390525576643:=()
def tw11853964639181858094:=()
def tw11858771535047148849:=()
def tw11936019136867208502:=()
def tw11991194071413207920:=()
def tw12040954542500345915:=()
def tw12059553170695356923:=()
def tw12111751003349805179:=()
def tw12134706328997167237:=()
def tw12180985111650111157:=()
def tw12207576149519604559:=()
def tw12272838765836421282:=()
def tw12333626771925171741:=()
def tw12383391832738076105:=()
def tw12394888152008510436:=()
def tw12480781818212204867:=()
def tw12493621344721100087:=()
def tw12610161533815408365:=()
def tw12621184523803753107:=()
def tw1262543793223090527:=()
def tw12654728821863677792:=()
def tw12654928041616031409:=()
def tw12656271604465815930:=()
def tw12658202217675754828:=()
def tw12659434558350950941:=()
def tw12662883114045823818:=()
def tw12730656607679253353:=()
def tw12888180470246600847:=()
def tw12893842886237923929:=()
def tw12920299653035866453:=()
def tw12956385264212019604:=()
def tw12968329168920715900:=()
def tw13027981648157952818:=()
def tw13086348951223720868:=()
def tw13136764248956513595:=()
def tw13173001963361964330:=()
def tw13181130112095624303:=()
def tw1327887407055752457:=()
def tw13334816241662137643:=()
def tw13437345621157985182:=()
def tw13530232487585756159:=()
def tw13531517260593959537:=()
def tw13559378509986891725:=()
def tw13569560463382256024:=()
def tw13575126397764633289:=()
def tw1360468824277476292:=()
def tw13644320584746385327:=()
def tw13657924969666822420:=()
def tw13688259049277394626:=()
def tw13729434477013743197:=()
def tw13783420114665442243:=()
def tw13793039926054525251:=()
def tw13805305741087679275:=()
def tw13810933981043369150:=()
def tw13813337536236897689:=()
def tw13852399186215738828:=()
def tw13886910798021925679:=()
def tw13959116454192684331:=()
def tw13960341663808903198:=()
def tw1397288431986237468:=()
def tw13997884381262820199:=()
def tw14042177025119228968:=()
def tw14119757158517369297:=()
def tw1412505256934268061:=()
def tw14134275001365422299:=()
def tw14156049545368938204:=()
def tw14159793955846465162:=()
def tw14197090952269241940:=()
def tw14206226055085284793:=()
def tw14280285663260405815:=()
def tw14461799246373161122:=()
def tw14466228550614619035:=()
def tw14467720406318830703:=()
def tw14485505041662571891:=()
def tw14527057325103735924:=()
def tw145965174623648168:=()
def tw14634685362166354948:=()
def tw14658066434874736372:=()
def tw14679504965991822058:=()
def tw1477737178062474702:=()
def tw14798266463211440182:=()
def tw1480218442160062759:=()
def tw14818019608493347325:=()
def tw14910718173467096546:=()
def tw14935285730428403437:=()
def tw14935412797796078864:=()
def tw1496997889611594355:=()
def tw14990479155725500622:=()
def tw15041088526770991233:=()
def tw1509714597498059819:=()
def tw15126037209720794201:=()
def tw15141644872135978786:=()
def tw15202682026284344890:=()
def tw15219874591525062530:=()
def tw15274823584938057356:=()
def tw15324509082555156653:=()
def tw15355149798120107002:=()
def tw15363931421740673202:=()
def tw15403062091986840958:=()
def tw1545390038090361571:=()
def tw15525219738089649035:=()
def tw15562118442020383012:=()
def tw15609982211992954901:=()
def tw15661382097295142730:=()
def tw15668126696251700440:=()
def tw15672245785915768920:=()
def tw15720540804589816507:=()
def tw15752795917535906474:=()
def tw15862717015584007413:=()
def tw15950294980808647549:=()
def tw16033896425014338424:=()
def tw16049115963036361335:=()
def tw16085556109424922327:=()
def tw16089628608388982197:=()
def tw16139300204660755013:=()
def tw16158611093383428561:=()
def tw16163353242852327293:=()
def tw16177694335428531775:=()
def tw16207232017239160384:=()
def tw16236849792940469874:=()
def tw16315878715309329509:=()
def tw16345882869368518239:=()
def tw16368833442699737842:=()
def tw16368884473642937902:=()
def tw16380397963420719642:=()
def tw16390470153082082509:=()
def tw16395624179275589259:=()
def tw16464965134335652722:=()
def tw16518978901662785364:=()
def tw16558081439780749780:=()
def tw16630089018226538134:=()
def tw16685171757063230115:=()
def tw16708464203139040798:=()
def tw16722196322899538996:=()
def tw16728138073988521484:=()
def tw16753483928323882476:=()
def tw16768654133316321861:=()
def tw16770331531646393568:=()
def tw16852980832086370033:=()
def tw16904787102523394729:=()
def tw16953706463224100168:=()
def tw1702004937112698499:=()
def tw17023144501821422326:=()
def tw17027263334184271708:=()
def tw17084834761383836745:=()
def tw17087815107249045535:=()
def tw17104905513292662699:=()
def tw17214489378092515750:=()
def tw17219617383479513207:=()
def tw17300732040021650986:=()
def tw17325596281044861068:=()
def tw17340978349649562282:=()
def tw17437908475908117674:=()
def tw17508380313375280263:=()
def tw17520339658255030563:=()
def tw17531593376569098274:=()
def tw17538129432599672604:=()
def tw17569743016101742088:=()
def tw17584468348212837239:=()
def tw17588602578273444130:=()
def tw17596107945600707053:=()
def tw17616920883508348452:=()
def tw17633843200193526275:=()
def tw17696460080840539483:=()
def tw17752697217305849022:=()
def tw17816656004735236271:=()
def tw17898874668245285067:=()
def tw17913675272225001133:=()
def tw17931604365875177173:=()
def tw17955667422646023604:=()
def tw17968823231588180720:=()
def tw18001317151409908764:=()
def tw18004398093016376288:=()
def tw18071181355570292375:=()
def tw18127233246051262410:=()
def tw18130311832316913488:=()
def tw18160758447385631692:=()
def tw18197308777175884513:=()
def tw18216157360239352918:=()
def tw1824063296161386174:=()
def tw18271422997750825636:=()
def tw18319868124723971474:=()
def tw18350369315886152055:=()
def tw18377413708841140175:=()
def tw18379285909779186890:=()
def tw1865731185886031143:=()
def tw1895992876820613501:=()
def tw1896222359279758692:=()
def tw1898442568597607713:=()
def tw1938729256266309190:=()
def tw2001624235277606148:=()
def tw2013923009203676962:=()
def tw2049201302219686785:=()
def tw2091605588195448210:=()
def tw2111585752892338796:=()
def tw2150370845022874954:=()
def tw2219041998533338951:=()
def tw2259859078263423988:=()
def tw2269635555221643524:=()
def tw2307292791065075740:=()
def tw2319648348266821381:=()
def tw2386344093059407993:=()
def tw2396510783814794628:=()
def tw2396686737585202221:=()
def tw2431156401528003404:=()
def tw2449878473045199331:=()
def tw2469089970691217954:=()
def tw2514540460722948927:=()
def tw2533621599430028338:=()
def tw253495929408478502:=()
def tw2582611416957533994:=()
def tw2648455339274862118:=()
def tw2661870345032501010:=()
def tw2895825836840080961:=()
def tw2960156959471065098:=()
def tw2973771315679558266:=()
def tw3019599477684897514:=()
def tw3066670049210186642:=()
def tw3097158908052301783:=()
def tw3122596781135835391:=()
def tw312330723202770308:=()
def tw3124411104857384530:=()
def tw3178488794821651492:=()
def tw3209681026228660146:=()
def tw3341145976503067421:=()
def tw3341870781262808056:=()
def tw3361309514263719717:=()
def tw34346293994528334:=()
def tw3464368018949497865:=()
def tw3531199906688973082:=()
def tw3537558109217034626:=()
def tw3612005560623154660:=()
def tw3612728917520655133:=()
def tw3615226304472932886:=()
def tw3627023267864940829:=()
def tw362843868934302648:=()
def tw3733373176387311921:=()
def tw3797269266959218656:=()
def tw3809437307120530814:=()
def tw3823544527032580706:=()
def tw3844332010277733808:=()
def tw3858602114253505084:=()
def tw3881907270665732926:=()
def tw3897510365666004699:=()
def tw3932504015562982515:=()
def tw3977767246932242706:=()
def tw405132013506892988:=()
def tw4069646978355756004:=()
def tw4072004219342207301:=()
def tw4079851418216781391:=()
def tw4093886684219711606:=()
def tw4115307695803761023:=()
def tw4115554994410219611:=()
def tw4131103951400182484:=()
def tw4194095041092581512:=()
def tw4262872319001314084:=()
def tw4299178547705940939:=()
def tw4571620873741310372:=()
def tw4583599528361986291:=()
def tw4651467123110361256:=()
def tw4652300502942754724:=()
def tw4667022926326926505:=()
def tw4698071540809361474:=()
def tw4749944255288740451:=()
def tw4752194560719157802:=()
def tw4825962374178010940:=()
def tw4825984443822914757:=()
def tw4826365990867690639:=()
def tw4872586456709184407:=()
def tw4875416993434812452:=()
def tw491897780614455204:=()
def tw4944876287993207453:=()
def tw4958799187971310249:=()
def tw5030608712968481167:=()
def tw5042515546832573583:=()
def tw506461016282752522:=()
def tw5112516311976550899:=()
def tw5142278751682339881:=()
def tw515322908136986021:=()
def tw5173010070260610997:=()
def tw5225005405344456414:=()
def tw5278552106578544737:=()
def tw5278582489257003051:=()
def tw5325227843469387620:=()
def tw5408389008028534658:=()
def tw5412605939186662637:=()
def tw5501083590535419413:=()
def tw5525002733730003968:=()
def tw554581943962345272:=()
def tw5567614093406075517:=()
def tw5569734027577782462:=()
def tw5635636057736919483:=()
def tw5664446146419667007:=()
def tw5743359997996183222:=()
def tw5827271268259500447:=()
def tw5837896257393817071:=()
def tw5873731517908185209:=()
def tw5882118481488059209:=()
def tw5953385712142907407:=()
def tw6046753820859913574:=()
def tw6046865542423612770:=()
def tw6148395661506959536:=()
def tw6183219428850488263:=()
def tw6238959651743170099:=()
def tw6241860236590988030:=()
def tw628139999872199209:=()
def tw631032866546990135:=()
def tw6374265821570714375:=()
def tw6377116632064046713:=()
def tw6396801406185063361:=()
def tw6429257052019005698:=()
def tw6438168261371165983:=()
def tw6468890435265145607:=()
def tw6536422806445540211:=()
def tw6540984333747865764:=()
def tw6548611855555113906:=()
def tw6552697800891518367:=()
def tw656161031821046351:=()
def tw6597734494449711128:=()
def tw6626769077649620083:=()
def tw6636920238884007429:=()
def tw6734642478024674064:=()
def tw6790489713235812462:=()
def tw6847109904513163693:=()
def tw6867861321014654215:=()
def tw6936000927846398546:=()
def tw6964868316077448731:=()
def tw7067137273187422954:=()
def tw7080828219406261930:=()
def tw7166150043178177998:=()
def tw7222576361761949641:=()
def tw7229926915970505775:=()
def tw7320647426275299850:=()
def tw7341653451631421060:=()
def tw7364852267821948334:=()
def tw7427564225019251978:=()
def tw7430244774310328223:=()
def tw7465042056931372554:=()
def tw7478978055740666127:=()
def tw7524625843534272643:=()
def tw7547825104830873829:=()
def tw7628784932481770112:=()
def tw7633631285391081721:=()
def tw7711306115991616218:=()
def tw7738635406030022824:=()
def tw7755331675020306589:=()
def tw782817744958073658:=()
def tw7839384869261715820:=()
def tw7870557233087427080:=()
def tw7875384050635320576:=()
def tw789075309446932550:=()
def tw796132009451437338:=()
def tw8012502419022657428:=()
def tw8126652928651352010:=()
def tw8163302116275979199:=()
def tw8170547583050121691:=()
def tw8171864464774516966:=()
def tw8178605596352056124:=()
def tw8309684224825131767:=()
def tw8317439873391610886:=()
def tw8342954684069811006:=()
def tw8344008543263089252:=()
def tw8346464288956421855:=()
def tw8350153597968699839:=()
def tw847518482447663355:=()
def tw8479397002738976996:=()
def tw8485265022031628305:=()
def tw860074080213067787:=()
def tw86268994455142209:=()
def tw8628198317948574501:=()
def tw8628542211114678056:=()
def tw8640268612499304126:=()
def tw8738303963669569844:=()
def tw879742716386307119:=()
def tw8834541795542811920:=()
def tw8879439509998475199:=()
def tw8879450244257579923:=()
def tw8920766085571717914:=()
def tw892167057897078211:=()
def tw8933282032034813013:=()
def tw8960637129026386147:=()
def tw9008259242479839027:=()
def tw9014911476384328286:=()
def tw9016506430347870551:=()
def tw9047295563013975459:=()
def tw9101191714797598820:=()
def tw9127462438070882218:=()
def tw926186385909391137:=()
def tw933926792117555:=()
def tw9348033810360592862:=()
def tw9354054578290069617:=()
def tw9366166685014502763:=()
def tw9380215712944659776:=()
def tw9405074155724874288:=()
def tw9414862877278242854:=()
def tw9428911618066946675:=()
def tw9476228226425915324:=()
def tw9523161903017708028:=()
def tw9549503078068484653:=()
def tw9560951648706370201:=()
def tw9582308898979153088:=()
def tw9603073676082426437:=()
def tw9611481279128843288:=()
def tw96319338331968145:=()
def tw9702852522381754137:=()
def tw9723618311120956505:=()
def tw9844735542511609729:=()
def tw9861586297973016770:=()
def tw9883741928355741420:=()
def tw9899947409111071189:=()
def tw9986307670605786564:=()
end PySem.W.Fast
open PySem PySem.W PyProof.Rows L2 L3 KK
set_option maxRecDepth 100000 in
set_option maxHeartbeats 0 in
theorem PySem.Challenge.cw_weightrooms_k53_least_worst_refused_holds : PySem.Challenge.rw_weightrooms_k53_least_worst_refused.Holds := by
 w_on;o_law;k_head;(case hw=>w_witness2)
 k_fill
 refine L2.walk_lawD (l:=PySem.Challenge.rw_weightrooms_k53_least_worst_refused) (x:="_law_script") (k:=19) rfl rfl ⟨rfl,by decide,by decide⟩ (λw h Y=>W.kIn_of Y) ?F ?D
 case F=>
  intro w mg h KX G base kb nb
  have TT:=by
   refine' HB KX G ?LJ ?LZ ?D_ ?Lm ?LK ?L5 ?LN ?LO ?Lo ?LP ?LQ ?A_ ?Lb ?L6 ?K9 ?Lp ?G_ ?ML ?MM ?Mr ?MN ?n_ ?z_ ?Lk ?M3 ?H_ ?MP ?MQ ?C_ ?u_ ?B_ ?L_ ?Na ?Nb ?LA ?Lq ?Lz ?J_ ?Ll ?Ls ?Lu ?Lr ?Lw ?Lv ?L7 ?Mj ?My ?Mz ?Mx ?MC ?MB ?L8 ?Mq ?MF ?MH ?MD ?MK ?MJ ?F_ ?Lx ?LC ?LD ?LB ?LH ?LG ?Lf ?LX ?Mc ?Md ?Mb ?Mf ?Me ?LR ?Ma ?Mm ?Mn ?Ml ?Mp ?Mo ?E_ ?Li ?Lj ?I_ ?Lc ?Ld ?i0 ?i1 ?i2 ?i3 ?i4 ?i5 ?i6 ?i7 ?i8 ?i9 ?MV ?MW ?MX ?MY ?MZ ?NM ?NN ?NO ?NP ?NQ ?NR ?NS ?NT ?NU ?NV ?NW ?NX ?NY ?NZ ?N0 ?N1 ?N2 ?N3 ?N4 ?N5 ?N6 ?N7 ?N8 ?N9 ?N_ ?Oa ?Od ?Oe ?Of ?Og ?Oh ?Oi ?Oj ?Ol ?Om ?Oo ?Oq ?Ot ?Ou ?Ov ?Ow ?Ox ?Oy ?Oz ?OA ?OB ?OC ?OD ?OE ?OF ?OG ?OH ?OI ?OJ ?OK ?OL ?OM ?ON ?OO ?OP ?OQ ?OR ?OS ?OT ?OU ?OV ?OW ?OX ?OY ?OZ ?O0 ?O1 ?O2 ?O3 ?O4 ?O5 ?O6 ?O7 ?O8 ?O9 ?O_ ?Pa ?Pb ?Pc ?Pd ?Nc ?Nd ?Nf ?Ng ?Nh ?Ni ?Nj ?Nk ?Nl ?Nm ?Nn ?Np ?Nq ?Nr ?Nt ?Nu ?Nv ?Nw ?Ny ?Nz ?NA ?NB ?NC ?ND ?NF ?NG ?NH ?NI ?NJ ?NK ?NL
   (case LJ=>k_is)
   (case LZ=>k_is)
   (case D_=>k_is)
   (case Lm=>k_is)
   (case LK=>k_is)
   (case L5=>k_is)
   (case LN=>k_is)
   (case LO=>k_is)
   (case Lo=>k_is)
   (case LP=>k_is)
   (case LQ=>k_is)
   (case A_=>k_is)
   (case Lb=>k_is)
   (case L6=>k_is)
   (case K9=>k_is)
   (case Lp=>k_is)
   (case G_=>k_is)
   (case ML=>k_is)
   (case MM=>k_is)
   (case Mr=>k_is)
   (case MN=>k_is)
   (case n_=>k_is)
   (case z_=>k_is)
   (case Lk=>k_is)
   (case M3=>k_is)
   (case H_=>k_is)
   (case MP=>k_is)
   (case MQ=>k_is)
   (case C_=>k_is)
   (case u_=>exact (by refine' zL (kvs:=aX) KX G ?a9 ?b9 ?c9 ?d9 ?e9;(case a9=>exact rfl);(case b9=>exact rfl);(case c9=>exact rfl);(case d9=>exact (.cons rfl rfl rfl (.cons rfl rfl rfl .nil)));(case e9=>decide)))
   (case B_=>exact (by refine' FF KX G ?a;(case a=>k_is)))
   (case L_=>exact (by refine' FH (vs:=[.str "across",.str "down"]) (ds:=[.str "across",.str "down"]) KX G ?a ?l ?s ?v ?r;(case a=>k_is);(case l=>k_is);(case s=>decide);(case v=>exact (.cons ⟨_,rfl⟩ (.cons ⟨_,rfl⟩ .nil)));(case r=>exact λ_ _=>(.cons (.str _) (.cons (.str _) .nil)))))
   (case Na=>k_is)
   (case Nb=>k_is)
   (case LA=>k_is)
   (case Lq=>exact Option.isSome_iff_exists.mpr ⟨_,by k_is⟩)
   (case Lz=>k_is)
   (case J_=>k_exc)
   (case Ll=>exact Option.isSome_iff_exists.mpr ⟨_,by k_is⟩)
   (case Ls=>k_is)
   (case Lu=>k_is)
   (case Lr=>k_is)
   (case Lw=>k_is)
   (case Lv=>k_is)
   (case L7=>k_exc)
   (case Mj=>exact Option.isSome_iff_exists.mpr ⟨_,by k_is⟩)
   (case My=>k_is)
   (case Mz=>k_is)
   (case Mx=>k_is)
   (case MC=>k_is)
   (case MB=>k_is)
   (case L8=>k_exc)
   (case Mq=>exact Option.isSome_iff_exists.mpr ⟨_,by k_is⟩)
   (case MF=>k_is)
   (case MH=>k_is)
   (case MD=>k_is)
   (case MK=>k_is)
   (case MJ=>k_is)
   (case F_=>k_exc)
   (case Lx=>exact Option.isSome_iff_exists.mpr ⟨_,by k_is⟩)
   (case LC=>k_is)
   (case LD=>k_is)
   (case LB=>k_is)
   (case LH=>k_is)
   (case LG=>k_is)
   (case Lf=>k_exc)
   (case LX=>exact Option.isSome_iff_exists.mpr ⟨_,by k_is⟩)
   (case Mc=>k_is)
   (case Md=>k_is)
   (case Mb=>k_is)
   (case Mf=>k_is)
   (case Me=>k_is)
   (case LR=>k_exc)
   (case Ma=>exact Option.isSome_iff_exists.mpr ⟨_,by k_is⟩)
   (case Mm=>k_is)
   (case Mn=>k_is)
   (case Ml=>k_is)
   (case Mp=>k_is)
   (case Mo=>k_is)
   (case E_=>k_is)
   (case Li=>k_is)
   (case Lj=>k_is)
   (case I_=>k_is)
   (case Lc=>k_is)
   (case Ld=>k_is)
   (case i0=>kit_is)
   (case i1=>kit_is)
   (case i2=>kit_is)
   (case i3=>kit_is)
   (case i4=>kit_is)
   (case i5=>kit_is)
   (case i6=>kit_is)
   (case i7=>kit_is)
   (case i8=>kit_is)
   (case i9=>kit_is)
   (case MV=>kit_is)
   (case MW=>kit_is)
   (case MX=>kit_is)
   (case MY=>kit_is)
   (case MZ=>kit_is)
   (case NM=>kit_is)
   (case NN=>kit_is)
   (case NO=>kit_is)
   (case NP=>kit_is)
   (case NQ=>kit_is)
   (case NR=>kit_is)
   (case NS=>kit_is)
   (case NT=>kit_is)
   (case NU=>kit_is)
   (case NV=>kit_is)
   (case NW=>kit_is)
   (case NX=>kit_is)
   (case NY=>kit_is)
   (case NZ=>kit_is)
   (case N0=>kit_is)
   (case N1=>kit_is)
   (case N2=>kit_is)
   (case N3=>kit_is)
   (case N4=>kit_is)
   (case N5=>kit_is)
   (case N6=>kit_is)
   (case N7=>kit_is)
   (case N8=>kit_is)
   (case N9=>kit_is)
   (case N_=>kit_is)
   (case Oa=>kit_is)
   (case Od=>kit_is)
   (case Oe=>kit_is)
   (case Of=>kit_is)
   (case Og=>kit_is)
   (case Oh=>kit_is)
   (case Oi=>kit_is)
   (case Oj=>kit_is)
   (case Ol=>kit_is)
   (case Om=>kit_is)
   (case Oo=>kit_is)
   (case Oq=>kit_is)
   (case Ot=>kit_is)
   (case Ou=>kit_is)
   (case Ov=>kit_is)
   (case Ow=>kit_is)
   (case Ox=>kit_is)
   (case Oy=>kit_is)
   (case Oz=>kit_is)
   (case OA=>kit_is)
   (case OB=>kit_is)
   (case OC=>kit_is)
   (case OD=>kit_is)
   (case OE=>kit_is)
   (case OF=>kit_is)
   (case OG=>kit_is)
   (case OH=>kit_is)
   (case OI=>kit_is)
   (case OJ=>kit_is)
   (case OK=>kit_is)
   (case OL=>kit_is)
   (case OM=>kit_is)
   (case ON=>kit_is)
   (case OO=>kit_is)
   (case OP=>kit_is)
   (case OQ=>kit_is)
   (case OR=>kit_is)
   (case OS=>kit_is)
   (case OT=>kit_is)
   (case OU=>kit_is)
   (case OV=>kit_is)
   (case OW=>kit_is)
   (case OX=>kit_is)
   (case OY=>kit_is)
   (case OZ=>kit_is)
   (case O0=>kit_is)
   (case O1=>kit_is)
   (case O2=>kit_is)
   (case O3=>kit_is)
   (case O4=>kit_is)
   (case O5=>kit_is)
   (case O6=>kit_is)
   (case O7=>kit_is)
   (case O8=>kit_is)
   (case O9=>kit_is)
   (case O_=>kit_is)
   (case Pa=>kit_is)
   (case Pb=>kit_is)
   (case Pc=>kit_is)
   (case Pd=>kit_is)
   (case Nc=>kit_is)
   (case Nd=>kit_is)
   (case Nf=>kit_is)
   (case Ng=>kit_is)
   (case Nh=>kit_is)
   (case Ni=>kit_is)
   (case Nj=>kit_is)
   (case Nk=>kit_is)
   (case Nl=>kit_is)
   (case Nm=>kit_is)
   (case Nn=>kit_is)
   (case Np=>kit_is)
   (case Nq=>kit_is)
   (case Nr=>kit_is)
   (case Nt=>kit_is)
   (case Nu=>kit_is)
   (case Nv=>kit_is)
   (case Nw=>kit_is)
   (case Ny=>kit_is)
   (case Nz=>kit_is)
   (case NA=>kit_is)
   (case NB=>kit_is)
   (case NC=>kit_is)
   (case ND=>kit_is)
   (case NF=>kit_is)
   (case NG=>kit_is)
   (case NH=>kit_is)
   (case NI=>kit_is)
   (case NJ=>kit_is)
   (case NK=>kit_is)
   (case NL=>kit_is)
  have D_law_feed:=by
   refine' aW (x:="_law_feed") (st:=kD) KX G ?a ?l ?c ?k
   (case a=>k_is);(case l=>k_is);(case c=>k_is);(case k=>k_is)
  have D_law_draw:=by
   refine' aW (x:="_law_draw") (st:=kF) KX G ?a ?l ?c ?k
   (case a=>k_is);(case l=>k_is);(case c=>k_is);(case k=>k_is)
  have D_law_odd_room:=by
   refine' aW (x:="_law_odd_room") (st:=gk) KX G ?a ?l ?c ?k
   (case a=>k_is);(case l=>k_is);(case c=>k_is);(case k=>k_is)
  have D_law_odd_weights:=by
   refine' aW (x:="_law_odd_weights") (st:=dE) KX G ?a ?l ?c ?k
   (case a=>k_is);(case l=>k_is);(case c=>k_is);(case k=>k_is)
  have D_is_whole:=by
   refine' aW (x:="is_whole") (st:=kJ) KX G ?a ?l ?c ?k
   (case a=>k_is);(case l=>k_is);(case c=>k_is);(case k=>k_is)
  have D_common_divisor:=by
   refine' aW (x:="common_divisor") (st:=fj) KX G ?a ?l ?c ?k
   (case a=>k_is);(case l=>k_is);(case c=>k_is);(case k=>k_is)
  have D_is_fraction:=by
   refine' aW (x:="is_fraction") (st:=gW) KX G ?a ?l ?c ?k
   (case a=>k_is);(case l=>k_is);(case c=>k_is);(case k=>k_is)
  have D_is_box:=by
   refine' aW (x:="is_box") (st:=kx) KX G ?a ?l ?c ?k
   (case a=>k_is);(case l=>k_is);(case c=>k_is);(case k=>k_is)
  have D_check_box:=by
   refine' aW (x:="check_box") (st:=jr) KX G ?a ?l ?c ?k
   (case a=>k_is);(case l=>k_is);(case c=>k_is);(case k=>k_is)
  have D_is_weight:=by
   refine' aW (x:="is_weight") (st:=jq) KX G ?a ?l ?c ?k
   (case a=>k_is);(case l=>k_is);(case c=>k_is);(case k=>k_is)
  have D_check_weights:=by
   refine' aW (x:="check_weights") (st:=d8) KX G ?a ?l ?c ?k
   (case a=>k_is);(case l=>k_is);(case c=>k_is);(case k=>k_is)
  have D_check_kind:=by
   refine' aW (x:="check_kind") (st:=iO) KX G ?a ?l ?c ?k
   (case a=>k_is);(case l=>k_is);(case c=>k_is);(case k=>k_is)
  have D_check_asked:=by
   refine' aW (x:="check_asked") (st:=gP) KX G ?a ?l ?c ?k
   (case a=>k_is);(case l=>k_is);(case c=>k_is);(case k=>k_is)
  have D_is_less:=by
   refine' aW (x:="is_less") (st:=lI) KX G ?a ?l ?c ?k
   (case a=>k_is);(case l=>k_is);(case c=>k_is);(case k=>k_is)
  have D_long_way:=by
   refine' aW (x:="long_way") (st:=j5) KX G ?a ?l ?c ?k
   (case a=>k_is);(case l=>k_is);(case c=>k_is);(case k=>k_is)
  have D_fraction:=by
   refine' aW (x:="fraction") (st:=kO) KX G ?a ?l ?c ?k
   (case a=>k_is);(case l=>k_is);(case c=>k_is);(case k=>k_is)
  have D_over:=by
   refine' aW (x:="over") (st:=rW) KX G ?a ?l ?c ?k
   (case a=>k_is);(case l=>k_is);(case c=>k_is);(case k=>k_is)
  have D_shape:=by
   refine' aW (x:="shape") (st:=pv) KX G ?a ?l ?c ?k
   (case a=>k_is);(case l=>k_is);(case c=>k_is);(case k=>k_is)
  have D_lots_of:=by
   refine' aW (x:="lots_of") (st:=gG) KX G ?a ?l ?c ?k
   (case a=>k_is);(case l=>k_is);(case c=>k_is);(case k=>k_is)
  have D_cuts_of:=by
   refine' aW (x:="cuts_of") (st:=ji) KX G ?a ?l ?c ?k
   (case a=>k_is);(case l=>k_is);(case c=>k_is);(case k=>k_is)
  have D_is_way:=by
   refine' aW (x:="is_way") (st:=mQ) KX G ?a ?l ?c ?k
   (case a=>k_is);(case l=>k_is);(case c=>k_is);(case k=>k_is)
  have D_check_way:=by
   refine' aW (x:="check_way") (st:=jv) KX G ?a ?l ?c ?k
   (case a=>k_is);(case l=>k_is);(case c=>k_is);(case k=>k_is)
  have D_added:=by
   refine' aW (x:="added") (st:=oM) KX G ?a ?l ?c ?k
   (case a=>k_is);(case l=>k_is);(case c=>k_is);(case k=>k_is)
  have D_times:=by
   refine' aW (x:="times") (st:=oj) KX G ?a ?l ?c ?k
   (case a=>k_is);(case l=>k_is);(case c=>k_is);(case k=>k_is)
  have D_shares:=by
   refine' aW (x:="shares") (st:=m5) KX G ?a ?l ?c ?k
   (case a=>k_is);(case l=>k_is);(case c=>k_is);(case k=>k_is)
  have D_parted:=by
   refine' aW (x:="parted") (st:=iK) KX G ?a ?l ?c ?k
   (case a=>k_is);(case l=>k_is);(case c=>k_is);(case k=>k_is)
  have D_weight_of:=by
   refine' aW (x:="weight_of") (st:=gD) KX G ?a ?l ?c ?k
   (case a=>k_is);(case l=>k_is);(case c=>k_is);(case k=>k_is)
  have D_parts_by:=by
   refine' aW (x:="parts_by") (st:=kI) KX G ?a ?l ?c ?k
   (case a=>k_is);(case l=>k_is);(case c=>k_is);(case k=>k_is)
  have D_greatest_of:=by
   refine' aW (x:="greatest_of") (st:=gZ) KX G ?a ?l ?c ?k
   (case a=>k_is);(case l=>k_is);(case c=>k_is);(case k=>k_is)
  have D_best_tree:=by
   refine' aW (x:="best_tree") (st:=gz) KX G ?a ?l ?c ?k
   (case a=>k_is);(case l=>k_is);(case c=>k_is);(case k=>k_is)
  have D_least_worst:=by
   refine' aW (x:="least_worst") (st:=gO) KX G ?a ?l ?c ?k
   (case a=>k_is);(case l=>k_is);(case c=>k_is);(case k=>k_is)
  have D_law_word:=by
   refine' aW (x:="_law_word") (st:=kL) KX G ?a ?l ?c ?k
   (case a=>k_is);(case l=>k_is);(case c=>k_is);(case k=>k_is)
  have D_law_asked:=by
   refine' aW (x:="_law_asked") (st:=jz) KX G ?a ?l ?c ?k
   (case a=>k_is);(case l=>k_is);(case c=>k_is);(case k=>k_is)
  have D_law_one:=by
   refine' aW (x:="_law_one") (st:=gF) KX G ?a ?l ?c ?k
   (case a=>k_is);(case l=>k_is);(case c=>k_is);(case k=>k_is)
  have D_law:=by
   refine' aW (x:="law") (st:=qM) KX G ?a ?l ?c ?k
   (case a=>k_is);(case l=>k_is);(case c=>k_is);(case k=>k_is)
  have Ms:=sP (P:=PySem.Challenge.rw_weightrooms_k53_least_worst_refused.prog) (w:=w) (base:=base) TT D_law_feed
  have s_:=sS (P:=PySem.Challenge.rw_weightrooms_k53_least_worst_refused.prog) (w:=w) (base:=base) TT D_law_draw
  have Ly:=mL (P:=PySem.Challenge.rw_weightrooms_k53_least_worst_refused.prog) (w:=w) (base:=base) TT D_law_odd_room s_
  have Lh:=kT (P:=PySem.Challenge.rw_weightrooms_k53_least_worst_refused.prog) (w:=w) (base:=base) TT D_law_odd_weights s_
  have K_:=rS (P:=PySem.Challenge.rw_weightrooms_k53_least_worst_refused.prog) (w:=w) (base:=base) TT D_is_whole
  have w_:=lj (P:=PySem.Challenge.rw_weightrooms_k53_least_worst_refused.prog) (w:=w) (base:=base) TT D_common_divisor
  have LV:=n8 (P:=PySem.Challenge.rw_weightrooms_k53_least_worst_refused.prog) (w:=w) (base:=base) TT D_is_fraction K_ w_
  have M6:=wO (P:=PySem.Challenge.rw_weightrooms_k53_least_worst_refused.prog) (w:=w) (base:=base) TT D_is_box LV
  have x_:=qy (P:=PySem.Challenge.rw_weightrooms_k53_least_worst_refused.prog) (w:=w) (base:=base) TT D_check_box M6
  have Mh:=qx (P:=PySem.Challenge.rw_weightrooms_k53_least_worst_refused.prog) (w:=w) (base:=base) TT D_is_weight K_
  have y_:=mE (P:=PySem.Challenge.rw_weightrooms_k53_least_worst_refused.prog) (w:=w) (base:=base) TT D_check_weights Mh
  have L9:=oD (P:=PySem.Challenge.rw_weightrooms_k53_least_worst_refused.prog) (w:=w) (base:=base) TT D_check_kind
  have LU:=nJ (P:=PySem.Challenge.rw_weightrooms_k53_least_worst_refused.prog) (w:=w) (base:=base) TT D_check_asked x_ y_ L9
  have v_:=uj (P:=PySem.Challenge.rw_weightrooms_k53_least_worst_refused.prog) (w:=w) (base:=base) TT D_is_less
  have Mv:=se (P:=PySem.Challenge.rw_weightrooms_k53_least_worst_refused.prog) (w:=w) (base:=base) TT D_long_way x_ v_
  have t_:=sR (P:=PySem.Challenge.rw_weightrooms_k53_least_worst_refused.prog) (w:=w) (base:=base) TT D_fraction w_
  have M9:=z8 (P:=PySem.Challenge.rw_weightrooms_k53_least_worst_refused.prog) (w:=w) (base:=base) TT D_over t_
  have LY:=xj (P:=PySem.Challenge.rw_weightrooms_k53_least_worst_refused.prog) (w:=w) (base:=base) TT D_shape Mv M9
  have MU:=um (P:=PySem.Challenge.rw_weightrooms_k53_least_worst_refused.prog) (w:=w) (base:=base) TT D_lots_of
  have Ln:=tU (P:=PySem.Challenge.rw_weightrooms_k53_least_worst_refused.prog) (w:=w) (base:=base) TT D_cuts_of MU
  have M7:=wR (P:=PySem.Challenge.rw_weightrooms_k53_least_worst_refused.prog) (w:=w) (base:=base) TT D_is_way
  have Mg:=qw (P:=PySem.Challenge.rw_weightrooms_k53_least_worst_refused.prog) (w:=w) (base:=base) TT D_check_way M7
  have M_:=xV (P:=PySem.Challenge.rw_weightrooms_k53_least_worst_refused.prog) (w:=w) (base:=base) TT D_added t_
  have M0:=ya (P:=PySem.Challenge.rw_weightrooms_k53_least_worst_refused.prog) (w:=w) (base:=base) TT D_times t_
  have Mw:=wC (P:=PySem.Challenge.rw_weightrooms_k53_least_worst_refused.prog) (w:=w) (base:=base) TT D_shares M_ M0 t_
  have M8:=wB (P:=PySem.Challenge.rw_weightrooms_k53_least_worst_refused.prog) (w:=w) (base:=base) TT D_parted x_ Mg y_ Mw
  have LS:=qt (P:=PySem.Challenge.rw_weightrooms_k53_least_worst_refused.prog) (w:=w) (base:=base) TT D_weight_of
  have Lg:=rq (P:=PySem.Challenge.rw_weightrooms_k53_least_worst_refused.prog) (w:=w) (base:=base) TT D_parts_by M8 LS
  have Em:=nV (P:=PySem.Challenge.rw_weightrooms_k53_least_worst_refused.prog) (w:=w) (base:=base) TT D_greatest_of v_
  have La:=jL (P:=PySem.Challenge.rw_weightrooms_k53_least_worst_refused.prog) (w:=w) (base:=base) TT D_best_tree LY Ln Lg v_ Em 7
  have LW:=nL (P:=PySem.Challenge.rw_weightrooms_k53_least_worst_refused.prog) (w:=w) (base:=base) TT D_least_worst LU La
  have Mu:=sy (P:=PySem.Challenge.rw_weightrooms_k53_least_worst_refused.prog) (w:=w) (base:=base) TT D_law_word
  have Mi:=qp (P:=PySem.Challenge.rw_weightrooms_k53_least_worst_refused.prog) (w:=w) (base:=base) TT D_law_asked LW Mu
  have MR:=uq (P:=PySem.Challenge.rw_weightrooms_k53_least_worst_refused.prog) (w:=w) (base:=base) TT D_law_one s_ Ly Lh Mi
  have Pe:=DK (P:=PySem.Challenge.rw_weightrooms_k53_least_worst_refused.prog) (w:=w) (base:=base) TT D_law Ms MR
  exact Ap Pe (law3 oa rfl Iv)
 case D=>
  intro w mg h KX G
  refine⟨qM,?_,(λ_ _ _ _ _ _=>ar1 λ_=>rfl)⟩
  refine' aW KX G ?a ?l ?c ?k
  (case a=>k_is);(case l=>k_is);(case c=>k_is);(case k=>k_is)
