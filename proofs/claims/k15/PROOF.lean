import PyProof.Rows.All
import Wide.All
import OpenK.AllK
import Wide.FinOn
import Lean
import PyProof.EqAt
import PyProof.EqKinds
import PyProof.TupleCall
import PyProof.Rows.SumAny
import PyProof.EnumMake
import PyProof.Draws
import PyProof.ZipIter
import KE.KUnpack
import KE.KxIndex
import PySem.Challenge.RW_weightrooms_k15_relations
local macro_rules|`(tactic|trivial)=>`(tactic|first|exact Or.inl rfl|exact Or.inr rfl)
local macro_rules|`(tactic|decide)=>`(tactic|decide +kernel)
set_option genSizeOf false
set_option genInjectivity false
set_option bootstrap.genMatcherCode false
noncomputable section
set_option Elab.async false
set_option linter.all false
set_option maxRecDepth 100000
namespace L2
open PySem PySem.Spec PyProof.Rows
abbrev Key:=Sum Int Str
def ir:Key->Value->Bool
 | .inl k,v=>Value.isInt k v
 | .inr x,v=>Value.isStrOf x v
def keyH (w:World):Key->Int
 | .inl k=>hashInt k
 | .inr x=>hashStr w x
theorem bo:∀ {k:Key}{v:Value},ir k v=true->(∃ i t,k=Sum.inl i/\v=Value.int i t)\/(∃ x t,k=Sum.inr x/\v=Value.str x t)
 |
  .inl i,v,h=>by
  obtain⟨t,e⟩:=Value.isInt_shape (k:=i) (v:=v) h
  exact .inl ⟨i,t,rfl,e⟩
 |
  .inr x,v,h=>by
  obtain⟨t,e⟩:=Value.isStrOf_shape (x:=x) (v:=v) h
  exact .inr ⟨x,t,rfl,e⟩
theorem rV (i:Int) (t:Tok):ir (.inl i) (.int i t)=true:=by simp [ir,Value.isInt]
theorem pQ (x:Str) (t:Tok):ir (.inr x) (.str x t)=true:=by simp [ir,Value.isStrOf]
theorem yT (a b:Int):decide ((Sum.inl a:Key)=Sum.inl b)=(a == b):=by
 by_cases e:a=b
 ·subst e;simp
 ·have h:¬ (Sum.inl a:Key)=Sum.inl b:=λq=>e (Sum.inl.inj q)
  rw[decide_eq_false h]
  exact (beq_eq_false_iff_ne.mpr e).symm
theorem yB (a b:Str):decide ((Sum.inr a:Key)=Sum.inr b)=decide (a=b):=by
 by_cases e:a=b
 ·subst e;simp
 ·have h:¬ (Sum.inr a:Key)=Sum.inr b:=λq=>e (Sum.inr.inj q)
  rw[decide_eq_false h,decide_eq_false e]
theorem AG (a:Int) (b:Str):decide ((Sum.inl a:Key)=Sum.inr b)=false:=decide_eq_false (λq=>nomatch q)
theorem AN (a:Str) (b:Int):decide ((Sum.inr a:Key)=Sum.inl b)=false:=decide_eq_false (λq=>nomatch q)
def bh (prog:Program) (w:World):PySem.KeyKind prog w Key where
 is:=ir
 hash:=keyH w
 inj
  := λv a b ha hb=>by
  rcases bo ha with ⟨i,t,rfl,rfl⟩ | ⟨x,t,rfl,rfl⟩
  ·rcases bo hb with ⟨j,u,rfl,e⟩ | ⟨y,u,rfl,e⟩
   ·injection e with e1 _;rw[e1]
   ·exact nomatch e
  ·rcases bo hb with ⟨j,u,rfl,e⟩ | ⟨y,u,rfl,e⟩
   ·exact nomatch e
   ·injection e with e1 _;rw[e1]
 byValue:=λk v h=>by
  rcases bo h with ⟨i,t,rfl,rfl⟩ | ⟨x,t,rfl,rfl⟩ <;> rfl
 pyHash:=λhv h=>by
  rcases bo hv with ⟨i,t,rfl,rfl⟩ | ⟨x,t,rfl,rfl⟩
  ·exact wpAny_pyHash_int h
  ·exact wpAny_pyHash_str h
 eqBool:=λhu hv h=>by
  rcases bo hu with ⟨i,t,rfl,rfl⟩ | ⟨x,t,rfl,rfl⟩
  ·rcases bo hv with ⟨j,u,rfl,rfl⟩ | ⟨y,u,rfl,rfl⟩
   ·rw[yT] at h;exact wpAny_eqBool_int h
   ·rw[AG] at h;exact SeqAt.EqAt.int_str i t y u _ _ _ _ h
  ·rcases bo hv with ⟨j,u,rfl,rfl⟩ | ⟨y,u,rfl,rfl⟩
   ·rw[AN] at h;exact SeqAt.EqAt.str_int x t j u _ _ _ _ h
   ·rw[yB] at h;exact wpAny_eqBool_str h
 «strs»:=λk x t v h=>by
  rcases bo h with ⟨i,u,rfl,e⟩ | ⟨y,u,rfl,e⟩
  ·exact nomatch e
  ·injection e with e1 _
   subst e1
   cases v <;> rfl
theorem mU (prog:Program) (w:World) (i:Int) (t:Tok):(bh prog w).is (.inl i) (.int i t)=true:=rV i t
theorem mT (prog:Program) (w:World) (x:Str) (t:Tok):(bh prog w).is (.inr x) (.str x t)=true:=pQ x t
end L2
namespace L2
open PySem PySem.Spec PyProof.Rows
inductive V where
 | non | bl (b:Bool) | int (i:Int) | str (x:Str) | byt (b:Array UInt8) | flt (b:UInt64) | ref (a:Addr) | ty (n:String)
 deriving DecidableEq
def RelV:V->Value->Prop
 | .non,u=>u=Value.none
 | .bl b,u=>u=Value.bool b
 | .int i,u=>∃ t,u=Value.int i t
 | .str x,u=>∃ t,u=Value.str x t
 | .byt b,u=>∃ t,u=Value.bytes b t
 | .flt b,u=>∃ t,u=Value.float b t
 | .ref a,u=>u=Value.ref a
 | .ty n,u=>u=Value.type n
abbrev Vals:List V->List Value->Prop:=Paired RelV
theorem Vals.length {xs:List V}{us:List Value} (r:Vals xs us):xs.length=us.length:=Paired.length r
theorem Vals.get {xs:List V}{us:List Value}{i:Nat}{x:V} (r:Vals xs us) (e:xs[i]?=some x):∃ u,us[i]?=some u/\RelV x u:=by
 induction r generalizing i with
 | nil=>rw[List.getElem?_nil] at e;cases e
 |
  cons r t ih=>
  cases i with
  | zero=>cases e;exact⟨_,rfl,r⟩
  | succ i=>exact ih (i:=i) e
theorem Vals.set {x:V}{u:Value} (r:RelV x u) {xs:List V}{us:List Value} (i:Nat) (q:Vals xs us):Vals (xs.set i x) (us.set i u):=by
 induction q generalizing i with
 | nil=>exact .nil
 |
  cons q t ih=>
  cases i with
  | zero=>exact .cons r t
  | succ i=>exact .cons q (ih i)
theorem Vals.append {xs ys:List V}{us ws:List Value} (r:Vals xs us) (s:Vals ys ws):Vals (xs++ys) (us++ws):=by
 induction r with
 | nil=>exact s
 | cons r t ih=>exact .cons r ih
theorem Vals.take {xs:List V}{us:List Value} (n:Nat) (r:Vals xs us):Vals (xs.take n) (us.take n):=by
 induction r generalizing n with
 | nil=>rw[List.take_nil,List.take_nil];exact .nil
 |
  cons r t ih=>
  cases n with
  | zero=>exact .nil
  | succ n=>exact .cons r (ih n)
theorem Vals.drop {xs:List V}{us:List Value} (n:Nat) (r:Vals xs us):Vals (xs.drop n) (us.drop n):=by
 induction r generalizing n with
 | nil=>rw[List.drop_nil,List.drop_nil];exact .nil
 |
  cons r t ih=>
  cases n with
  | zero=>exact .cons r t
  | succ n=>exact ih n
def RelO:Option V->Option Value->Prop
 | some v,some u=>RelV v u
 | none,none=>True
 | _,_=>False
def KV {κ:Type}:List (κ×V)->List (κ×Value)->Prop:=Paired λ(p:κ×V) (q:κ×Value)=>p.1=q.1/\RelV p.2 q.2
def kV:Key->V
 | .inl i=>.int i
 | .inr x=>.str x
inductive HO where
 | lst (xs:List V)
 | tup (xs:List V)
 | dK (kvs:List (Key×V)) | dT (kvs:List (List Key×V))
 | set (S:Int->Bool) (n:Nat)
 | ins (C dx:Addr) (fs:List (Str×V))
 | own (x:Addr)
 | xd (fs:List (Str×V))
 | met (f x:Addr)
 | rng (lo hi:Int)
 | frz (o:Obj) (u:HO)
 | tbl (ps:Array Value)
 | ext (φ:Heap->Prop)
abbrev Hp:=Addr->Option HO
def upd (H:Hp) (a:Addr) (o:HO):Hp:=λb=>if b=a then some o else H b
theorem bH {H:Hp}{a:Addr}{o:HO}:upd H a o a=some o:=by unfold upd;rw[if_pos rfl]
theorem aB {H:Hp}{a b:Addr}{o:HO} (h:b ≠ a):upd H a o b=H b:=by unfold upd;rw[if_neg h]
theorem br {H:Hp}{a b:Addr}{o:HO} (h:H a=some o) (h':H b=none):a ≠ b:=by
 intro e;subst e;rw[h] at h';cases h'
section
variable (P:Program) (w:World)
def ObjOk (H:Hp) (h:Heap) (a:Addr):HO->Prop
 | .lst xs=>xs.length<=sizeLine/\∃ (its:List Value) (n:Nat),Vals xs its/\h.get? a=some { cls:=.type "list",data:=.seq its.toArray n }
 | .tup xs=>xs.length<=sizeLine/\∃ its:List Value,Vals xs its/\IsTup h a its.toArray
 | .dK kvs=>kvs.length<=sizeLine/\(a == sysModules)=false/\∃ vs,KV kvs vs/\h.DictOf (bh P w) a vs
 | .dT kvs=>kvs.length<=sizeLine/\(a == sysModules)=false/\∃ xs:List (List Key×Addr×Value),
  Paired (λ(p:List Key×V) (q:List Key×Addr×Value)=>p.1=q.1/\H q.2.1=some (.tup (p.1.map kV))/\RelV p.2 q.2.2) kvs xs/\
  ∃ o es ep,h.get? a=some o/\o.ExactDict/\o.data=.dict es ep/\es.toList=xs.map (entryOfKey (tupleKind (bh P w)))/\(xs.map (·.1)).Nodup
 | .set S n=>h.SetOf (intKind P w) a S n
 | .ins C dx fs=>H dx=some (.own a)/\fs.length<=1000/\dx ≠ a/\h.get? a=some (W.instObj C dx)/\
  ∃ mA,h.Ns1 dx mA/\(∀ f,RelO (fs.lookup f) (mA f))/\PySem.Within mA (fs.map (·.1))
 | .own _=>∃ o,h.get? a=some o
 | .xd fs=>∃ mA,h.Ns1 a mA/\∀ f,RelO (fs.lookup f) (mA f)
 | .rng lo hi=>∃ t u v,h.get? a=some { cls:=.type "range",data:=.fields #[.int lo t,.int hi u,.int 1 v] }
 | .frz o u=>h.get? a=some o/\ObjOk H h a u
 | .tbl ps=>h.get? a=some { cls:=.none,data:=.fields ps }
 | .met f x=>h.get? a=some (W.methodObj (.ref f) (.ref x))
 | .ext φ=>φ h/\(∃ o,h.get? a=some o)/\∀ h1 h2:Heap,φ h1->(∀ o,h1.get? a=some o->h2.get? a=some o)->φ h2
def HOk (H:Hp) (h:Heap):Prop:=∀ a o,H a=some o->ObjOk P w H h a o
end
section
variable {P:Program}{w:World}{H H':Hp}{h h':Heap}{a:Addr}{o:HO}
theorem ObjOk.lt (x:ObjOk P w H h a o):a < h.objs.size:=by
 cases o with
 | lst xs=>obtain⟨_,_,_,_,e⟩:=x;exact Heap.lt_size e
 | tup xs=>obtain⟨_,_,_,p⟩:=x;exact p.lt
 | dK kvs=>obtain⟨_,_,_,_,o,_,_,e,_⟩:=x;exact Heap.lt_size e
 | dT kvs=>obtain⟨_,_,_,_,o,_,_,e,_⟩:=x;exact Heap.lt_size e
 | set S n=>obtain⟨o,_,_,_,e,_⟩:=x;exact Heap.lt_size e
 | ins C dx fs=>obtain⟨_,_,_,e,_⟩:=x;exact Heap.lt_size e
 | own y=>obtain⟨_,e⟩:=x;exact Heap.lt_size e
 | xd fs=>obtain⟨_,⟨_,_,_,e,_⟩,_⟩:=x;exact Heap.lt_size e
 | rng lo hi=>obtain⟨_,_,_,e⟩:=x;exact Heap.lt_size e
 | frz ob u=>obtain⟨e,_⟩:=x;exact Heap.lt_size e
 | tbl ps=>exact Heap.lt_size (show h.get? a=some _ from x)
 | met f y=>exact Heap.lt_size (show h.get? a=some _ from x)
 | ext φ=>obtain⟨_,⟨_,e⟩,_⟩:=x;exact Heap.lt_size e
theorem Paired.mapP {α β:Type}{F G:α->β->Prop}{l₁:List α}{l₂:List β} (r:Paired F l₁ l₂) (f:∀ a b,F a b->G a b):Paired G l₁ l₂:=by
 induction r with
 | nil=>exact .nil
 | cons r t ih=>exact .cons (f _ _ r) ih
theorem ObjOk.stay (x:ObjOk P w H h a o) (k:∀ b u,(b=a\/H b=some (.own a))->h.get? b=some u->h'.get? b=some u)
 (ho:∀ b,H b=some (.own a)->H' b=some (.own a)) (ht:∀ b xs,H b=some (.tup xs)->H' b=some (.tup xs)):ObjOk P w H' h' a o:=by
 induction o with
 | lst xs=>obtain⟨z,its,n,r,e⟩:=x;exact⟨z,its,n,r,k _ _ (.inl rfl) e⟩
 | tup xs=>obtain⟨z,its,r,ob,e,c⟩:=x;exact⟨z,its,r,ob,k _ _ (.inl rfl) e,c⟩
 | dK kvs=>obtain⟨z,y,vs,r,ob,es,ep,e,c⟩:=x;exact⟨z,y,vs,r,ob,es,ep,k _ _ (.inl rfl) e,c⟩
 |
  dT kvs=>
  obtain⟨z,y,xs,r,ob,es,ep,e,c⟩:=x
  exact⟨z,y,xs,Paired.mapP r λp q z=>⟨z.1,ht _ _ z.2.1,z.2.2⟩,ob,es,ep,k _ _ (.inl rfl) e,c⟩
 | set S n=>obtain⟨ob,es,ep,t,e,c⟩:=x;exact⟨ob,es,ep,t,k _ _ (.inl rfl) e,c⟩
 |
  ins C dx fs=>
  obtain⟨d,z,ne,e,mA,⟨od,es,ep,e2,c⟩,r⟩:=x
  exact⟨ho _ d,z,ne,k _ _ (.inl rfl) e,mA,⟨od,es,ep,k _ _ (.inr d) e2,c⟩,r⟩
 | own y=>obtain⟨ob,e⟩:=x;exact⟨ob,k _ _ (.inl rfl) e⟩
 | xd fs=>obtain⟨mA,⟨od,es,ep,e,c⟩,r⟩:=x;exact⟨mA,⟨od,es,ep,k _ _ (.inl rfl) e,c⟩,r⟩
 | rng lo hi=>obtain⟨t,u,v,e⟩:=x;exact⟨t,u,v,k _ _ (.inl rfl) e⟩
 | frz ob u ih=>obtain⟨e,q⟩:=x;exact⟨k _ _ (.inl rfl) e,ih q⟩
 |
  tbl ps=>
  have e:h.get? a=some { cls:=.none,data:=.fields ps }:=x
  show h'.get? a=some { cls:=.none,data:=.fields ps }
  exact k a _ (.inl rfl) e
 |
  met f y=>
  have e:h.get? a=some (W.methodObj (.ref f) (.ref y)):=x
  show h'.get? a=some (W.methodObj (.ref f) (.ref y))
  exact k a _ (.inl rfl) e
 | ext φ=>obtain⟨p,⟨o,e⟩,st⟩:=x;exact⟨st _ _ p λo q=>k _ _ (.inl rfl) q,⟨o,k _ _ (.inl rfl) e⟩,st⟩
theorem HOk.lt (x:HOk P w H h) (e:H a=some o):a < h.objs.size:=(x a o e).lt
theorem HOk.fresh (x:HOk P w H h) (e:h.objs.size<=a):H a=none:=by
 cases q:H a with
 | none=>rfl
 | some u=>exact absurd (Nat.lt_of_lt_of_le (x.lt q) e) (Nat.lt_irrefl _)
theorem HOk.kept (x:HOk P w H h) (k:∀ b u,h.get? b=some u->h'.get? b=some u):HOk P w H h':=λa o e=>
 (x a o e).stay (λb u _ q=>k b u q) (λ_ q=>q) λ_ _ q=>q
theorem HOk.laid (x:HOk P w H h) (k:∀ b u,h.get? b=some u->h'.get? b=some u) (hp:h.objs.size<=a) (new:ObjOk P w (upd H a o) h' a o):HOk P w (upd H a o) h':=λb u e=>by
 have hn:=x.fresh hp
 by_cases hb:b=a
 ·subst hb;rw[bH] at e;cases e;exact new
 ·rw[aB hb] at e
  exact (x b u e).stay (λc v _ q=>k c v q) (λc q=>by rw[aB (br q hn)];exact q) λc xs q=>by rw[aB (br q hn)];exact q
end
def Rd (H:Hp) (a:Addr) (u:HO):Prop:=H a=some u\/∃ o,H a=some (.frz o u)
theorem Rd.ok {P:Program}{w:World}{H:Hp}{h:Heap}{a:Addr}{u:HO} (r:Rd H a u) (x:HOk P w H h):ObjOk P w H h a u:=by
 rcases r with r | ⟨o,r⟩
 ·exact x a u r
 ·obtain⟨_,q⟩:=x a _ r
  exact q
def Mut:Option HO->Prop
 | some (.lst _)=>True
 | some (.dK _)=>True
 | some (.dT _)=>True
 | some (.set _ _)=>True
 | some (.ins _ _ _)=>True
 | some (.ext _)=>True
 | _=>False
section
variable {P:Program}{w:World}{H:Hp}{h h':Heap}{x e:Addr}{o':HO}
theorem HOk.write (ok:HOk P w H h) (mu:Mut (H x)) (he:e=x\/H e=some (.own x)) (k:∀ b u,b ≠ e->h.get? b=some u->h'.get? b=some u) (heo:∃ u,h'.get? e=some u)
 (new:ObjOk P w (upd H x o') h' x o'):HOk P w (upd H x o') h':=λb u q=>by
 have nown:∀ c y,H c=some (.own y)->c ≠ x:=λc y r z=>by subst z;rw[r] at mu;exact mu
 have ntup:∀ c xs,H c=some (.tup xs)->c ≠ x:=λc xs r z=>by subst z;rw[r] at mu;exact mu
 by_cases hb:b=x
 ·subst hb;rw[bH] at q;cases q;exact new
 ·rw[aB hb] at q
  by_cases hbe:b=e
  ·have q':H b=some (.own x):=by
    rcases he with z | z
    ·exact absurd (hbe.trans z) hb
    ·rw[hbe];exact z
   rw[q] at q';cases q'
   obtain⟨v,hv⟩:=heo
   exact⟨v,by rw[hbe];exact hv⟩
  ·refine (ok b u q).stay (λc v hc r=>k c v ?_ r) (λc r=>by rw[aB (nown c b r)];exact r) λc xs r=>by rw[aB (ntup c xs r)];exact r
   rcases hc with rfl | hc
   ·exact hbe
   ·rintro rfl
    rcases he with z | z
    ·exact nown c b hc z
    ·rw[hc] at z;cases z;exact hb rfl
end
structure Un (fs ex:List Addr) (H H':Hp) (h h':Heap):Prop where
 keep:∀ b o,h.get? b=some o->H b=none->b ∉ fs->b ∉ ex->h'.get? b=some o
 slot:∀ b o,h.get? b=some o->H b=none->b ∈ fs->b ∉ ex->∃ sl,h'.get? b=some { o with slots:=sl }
 free:∀ b o,h.get? b=some o->H b=none->b ∉ ex->H' b=none
 there:∀ b o,h.get? b=some o->b ∉ ex->∃ o',h'.get? b=some o'
 tups:∀ b xs,H b=some (.tup xs)->H' b=some (.tup xs)
 frzs:∀ b o u,H b=some (.frz o u)->H' b=some (.frz o u)
 tbls:∀ b ps,H b=some (.tbl ps)->∃ more,H' b=some (.tbl (ps++more))
section
variable {fs fs' ex ex':List Addr}{H H1 H2:Hp}{h h1 h2 h':Heap}{a x e:Addr}{o:HO}
theorem Un.any (u:Un fs ex H H1 h h1) {b:Addr}{ob:Obj} (q:h.get? b=some ob) (n:H b=none) (hx:b ∉ ex):∃ sl,h1.get? b=some { ob with slots:=sl }:=by
 by_cases hb:b ∈ fs
 ·exact u.slot b ob q n hb hx
 ·exact⟨ob.slots,u.keep b ob q n hb hx⟩
theorem Un.kept (k:∀ b u,h.get? b=some u->h'.get? b=some u):Un fs ex H H h h':=
 ⟨λb ob q _ _ _=>k b ob q,λb ob q _ _ _=>⟨ob.slots,k b ob q⟩,λ_ _ _ n _=>n,λb ob q _=>⟨ob,k b ob q⟩,λ_ _ q=>q,λ_ _ _ q=>q,λ_ ps q=>⟨#[],by rw[q];simp⟩⟩
theorem Un.refl:Un fs ex H H h h:=Un.kept λ_ _ q=>q
theorem Un.laid (k:∀ b u,h.get? b=some u->h'.get? b=some u) (hp:h.objs.size<=a) (hn:H a=none):Un fs ex H (upd H a o) h h' where
 keep:=λb u q _ _ _=>k b u q
 slot:=λb u q _ _ _=>⟨u.slots,k b u q⟩
 free:=λb u q n _=>by rw[aB (Nat.ne_of_lt (Nat.lt_of_lt_of_le (Heap.lt_size q) hp))];exact n
 there:=λb u q _=>⟨u,k b u q⟩
 tups:=λb xs q=>by rw[aB (br q hn)];exact q
 frzs:=λb u xs q=>by rw[aB (br q hn)];exact q
 tbls:=λb ps q=>⟨#[],by rw[aB (br q hn),q];simp⟩
theorem Un.write (mu:Mut (H x)) (he:e=x\/H e=some (.own x)) (k:∀ b u,b ≠ e->h.get? b=some u->h'.get? b=some u) (heo:∃ u,h'.get? e=some u):Un fs ex H (upd H x o) h h':=by
 have hx:∀ b,H b=none->b ≠ x:=λb n z=>by subst z;rw[n] at mu;exact mu
 have hb:∀ b,H b=none->b ≠ e:=λb n z=>by
  subst z
  rcases he with r | r
  ·exact hx b n r
  ·rw[n] at r;cases r
 have hm:∀ b u,H b=some u->¬ Mut (some u)->b ≠ x:=λb u q nm z=>by subst z;rw[q] at mu;exact nm mu
 refine⟨λb u q n _ _=>k b u (hb b n) q,λb u q n _ _=>⟨u.slots,k b u (hb b n) q⟩,λb u q n _=>by rw[aB (hx b n)];exact n,λb u q _=>?_,
  λb xs q=>by rw[aB (hm b _ q λz=>z)];exact q,λb u xs q=>by rw[aB (hm b _ q λz=>z)];exact q,λb ps q=>⟨#[],by rw[aB (hm b _ q λz=>z),q];simp⟩⟩
 by_cases hbe:b=e
 ·subst hbe;exact heo
 ·exact⟨u,k b u hbe q⟩
end
def trk (h:Heap) (H:Hp):List Addr:=(List.range h.objs.size).filter λa=>(H a).isSome
def gk (h:Heap) (H:Hp):Heap:=W.hideAll h (trk h H)
theorem rB (h:Heap) (H:Hp):(gk h H).objs.size=h.objs.size:=W.hideAll_size _ _
theorem uc {h:Heap}{H:Hp}{b:Addr}{o:Obj} (e:h.get? b=some o) (n:H b=none):(gk h H).get? b=some o:=
 W.hideAll_get _ e λhm=>by
  have q:(H b).isSome=true:=(List.mem_filter.mp hm).2
  rw[n] at q;simp at q
theorem xM {h:Heap}{H:Hp}{b:Addr}{o:Obj} (e:(gk h H).get? b=some o):h.get? b=some o/\H b=none:=by
 have e':h.get? b=some o:=W.of_hideAll (trk h H) e
 refine⟨e',?_⟩
 cases q:H b with
 | none=>rfl
 |
  some x=>
  have hm:b ∈ trk h H:=List.mem_filter.mpr ⟨List.mem_range.mpr (Heap.lt_size e'),by simp [q]⟩
  have z:(gk h H).get? b=none:=W.hideAll_none (trk h H) hm
  rw[z] at e;cases e
def wb (g h:Heap) (L:Addr):List (Addr×Obj):=(List.range h.objs.size).filterMap λa=>if a=L\/(g.get? a).isSome=true then none else (h.get? a).map λo=>(a,o)
def bj (g h:Heap) (L d:Addr):List (Addr×Obj):=(wb g h L).filter λp=>decide (p.1 ≠ d)
end L2
namespace L2
open PySem PySem.Spec PyProof.Rows
structure Mod (K:W.Frag) (mg:Str->Option Value) (base:Heap):Prop where
 kin:K.In base
 glob:base.Ns mainGlobals mg
 blt:∃ mb,base.Ns builtinsNs mb/\∀ x:Str,x ≠ "__name__"->mb x=bootBuiltins x
 nolimit:base.NoLimit
structure Cx where
 prog:Program
 w:World
 K:W.Frag
 mg:Str->Option Value
 base:Heap
 A:Around
 N:List Str
 s₀:Shared
 H₀:Hp
 env:Env
 outer:List Env
 stack:List Env
 ex:List Addr
 fn:Str->Bool
 calm:Bool
 pn:List (Addr×Obj)
 xe:Value->Shared->Prop
def frs (l:List Env):List Addr:=l.filterMap (·.frame)
abbrev Cx.fs (X:Cx):List Addr:=frs X.outer
def Vis (sc:Scope) (x:Str):Prop:=sc.names.lookup x=some .local\/sc.names.lookup x=some .cell\/sc.names.lookup x=some .free
def Loc (sc:Scope) (x:Str):Prop:=sc.names.lookup x=some .local\/sc.names.lookup x=some .cell
def sG (env:Env) (h:Heap) (m:Str->Option Value) (x:Str) (u:Value):Prop:=
 (env.kindOf x=some .local/\m x=some u)\/((env.kindOf x=some .cell\/env.kindOf x=some .free)/\∃ c,env.cells.lookup x=some c/\h.IsCell c (some u))
structure Cx.Ok (X:Cx):Prop where
 mod:Mod X.K X.mg X.base
 kind:X.env.scope.kind=.function
 glob:X.env.globals=mainGlobals
 blt:X.env.builtins=builtinsNs
 above:X.s₀.heap.objs.size<=X.env.locals
 inj:∀ x y c,X.env.cells.lookup x=some c->X.env.cells.lookup y=some c->x=y
 has:∀ x,(X.env.kindOf x=some .cell\/X.env.kindOf x=some .free)->∃ c,X.env.cells.lookup x=some c
 cab:∀ x c,X.fn x=true->X.env.cells.lookup x=some c->X.s₀.heap.objs.size<=c
 hd:X.calm=true->X.A.handled=none
 frames:X.A.frames=some X.stack
 stk:X.stack=X.outer\/(X.stack=X.env :: X.outer/\X.env.frame=some X.env.locals)
 exf:∀ b ∈ X.ex,b ≠ X.env.locals/\∀ x c,X.env.cells.lookup x=some c->c ≠ b
 bs:∀ b o,X.base.get? b=some o->X.s₀.heap.get? b=some o/\X.H₀ b=none
 bsz:X.base.objs.size<=X.s₀.heap.objs.size
 noex:∀ b o,X.base.get? b=some o->b ∉ X.ex
 exfs:∀ b ∈ X.ex,b ∉ X.fs
 funs:X.s₀.heap.FunFrames X.base X.outer
 frf:∀ b ∈ X.fs,X.H₀ b=none
structure Inv (X:Cx) (pins:List (Addr×Obj)) (σ:List (Option V)) (H:Hp) (s:Shared):Prop where
 ok:X.Ok
 os:s.os=X.s₀.os
 bare:AllBare s.gens
 base:Un X.fs X.ex X.H₀ H X.s₀.heap s.heap
 loc:∃ m,s.heap.Ns X.env.locals m/\∀ (i:Nat) (x:Str) (v:V),X.N[i]?=some x->σ[i]?=some (some v)->Vis X.env.scope x->∃ u,RelV v u/\sG X.env s.heap m x u
 cell:∀ x c,X.env.cells.lookup x=some c->∃ v,s.heap.IsCell c v
 free:H X.env.locals=none
 freeC:∀ x c,X.env.cells.lookup x=some c->H c=none
 pin:∀ p ∈ X.pn++pins,s.heap.get? p.1=some p.2/\H p.1=none/\p.1 ≠ X.env.locals/\p.1 ∉ X.fs/\∀ v,p.2.data ≠ .cell v
 hok:HOk X.prog X.w H s.heap
 len:σ.length=X.N.length
section
variable {X:Cx}{pins:List (Addr×Obj)}{σ:List (Option V)}{H H':Hp}{s:Shared}{h':Heap}
theorem Cx.Ok.nofr (ok:X.Ok) {b:Addr}{o:Obj} (e:X.base.get? b=some o):b ∉ X.fs:=λhb=>by
 have:=(ok.funs.mem hb).1
 rw[e] at this;cases this
theorem Inv.bs (I:Inv X pins σ H s):∀ b o,X.base.get? b=some o->s.heap.get? b=some o/\H b=none:=λb o e=>
 ⟨I.base.keep b o (I.ok.bs b o e).1 (I.ok.bs b o e).2 (I.ok.nofr e) (I.ok.noex b o e),I.base.free b o (I.ok.bs b o e).1 (I.ok.bs b o e).2 (I.ok.noex b o e)⟩
theorem Inv.bk (I:Inv X pins σ H s):∀ b o,X.base.get? b=some o->s.heap.get? b=some o:=λb o e=>(I.bs b o e).1
theorem Inv.mod (I:Inv X pins σ H s):Mod X.K X.mg X.base:=I.ok.mod
theorem Inv.kIn (I:Inv X pins σ H s):X.K.In s.heap:=I.ok.mod.kin.keeps I.bk
theorem Inv.lt (I:Inv X pins σ H s):X.env.locals < s.heap.objs.size:=let ⟨_,hn,_⟩:=I.loc;hn.lt
theorem Inv.sz (I:Inv X pins σ H s):X.s₀.heap.objs.size<=s.heap.objs.size:=Nat.le_trans I.ok.above (Nat.le_of_lt I.lt)
theorem Inv.nofs (I:Inv X pins σ H s) {a:Addr} (h:s.heap.objs.size<=a):a ∉ X.fs:=λhb=>by
 obtain⟨_,o,ho,_⟩:=I.ok.funs.mem hb
 exact absurd (Nat.lt_of_lt_of_le (Heap.lt_size ho) (Nat.le_trans I.sz h)) (Nat.lt_irrefl _)
theorem Inv.cne (I:Inv X pins σ H s):∀ x c,X.env.cells.lookup x=some c->c ≠ X.env.locals:=λx c e z=>by
 obtain⟨v,o,ho,hd⟩:=I.cell x c e
 obtain⟨m,⟨o',es,ep,ho',hd',_⟩,_⟩:=I.loc
 rw[z,ho'] at ho;cases ho;rw[hd'] at hd;cases hd
theorem Inv.funs (I:Inv X pins σ H s):s.heap.FunFrames X.base X.outer:=by
 have all:∀ (l:List Env),(∀ b ∈ frs l,b ∈ X.fs)->X.s₀.heap.FunFrames X.base l->s.heap.FunFrames X.base l:=by
  intro l
  induction l with
  | nil=>intro _ _;trivial
  |
   cons env r ih=>
   intro hs hl
   obtain⟨hk,⟨L,o,hf,hn,ho,hd⟩,hr⟩:=hl
   have hL:L ∈ X.fs:=hs L (by unfold frs;rw[List.filterMap_cons,hf];exact List.mem_cons_self)
   obtain⟨sl,e⟩:=I.base.slot L o ho (I.ok.frf L hL) hL λz=>I.ok.exfs L z hL
   exact⟨hk,⟨L,_,hf,hn,e,hd⟩,ih (λb hb=>hs b (by unfold frs;rw[List.filterMap_cons,hf];exact List.mem_cons_of_mem _ hb)) hr⟩
 exact all X.outer (λ_ hb=>hb) I.ok.funs
theorem Inv.stack (I:Inv X pins σ H s):s.heap.FunFrames X.base X.stack:=by
 rcases I.ok.stk with e | ⟨e,hf⟩
 ·rw[e];exact I.funs
 ·rw[e]
  obtain⟨m,hn,_⟩:=I.loc
  refine .cons (by rw[I.ok.kind];decide) hf hn ?_ I.funs
  exact Heap.get?_none_of_le (Nat.le_trans I.ok.bsz I.ok.above)
theorem Inv.stkSub (I:Inv X pins σ H s):∀ b ∈ frs X.stack,b ∈ X.env.locals :: X.fs:=λb hb=>by
 rcases I.ok.stk with e | ⟨e,hf⟩
 ·rw[e] at hb;exact List.mem_cons_of_mem _ hb
 ·rw[e] at hb
  unfold frs at hb
  rw[List.filterMap_cons,hf] at hb
  exact hb
theorem Inv.stkFree (I:Inv X pins σ H s):∀ b ∈ frs X.stack,H b=none:=λb hb=>by
 rcases List.mem_cons.mp (I.stkSub b hb) with e | hb
 ·rw[e];exact I.free
 ·obtain⟨_,o,ho,_⟩:=I.ok.funs.mem hb
  exact I.base.free b o ho (I.ok.frf b hb) λz=>I.ok.exfs b z hb
theorem Inv.step {g':Array GenState}{t':Nat}{d':Drawn}{ch:List Addr} (I:Inv X pins σ H s)
 (hch:∀ b ∈ ch,(b ∈ X.ex\/X.s₀.heap.objs.size<=b)/\b ≠ X.env.locals/\(∀ x c,X.env.cells.lookup x=some c->c ≠ b)/\∀ p ∈ X.pn++pins,p.1 ≠ b)
 (keep:∀ b o,b ≠ X.env.locals->b ∉ X.fs->b ∉ ch->s.heap.get? b=some o->H b=none->h'.get? b=some o)
 (slot:∀ b o,b ≠ X.env.locals->b ∈ X.fs->b ∉ ch->s.heap.get? b=some o->H b=none->∃ sl,h'.get? b=some { o with slots:=sl }) (free:∀ b o,b ∉ ch->s.heap.get? b=some o->H b=none->H' b=none)
 (there:∀ b o,b ∉ ch->s.heap.get? b=some o->∃ o',h'.get? b=some o')
 (tups:∀ b xs,H b=some (.tup xs)->H' b=some (.tup xs)) (frzs:∀ b o u,H b=some (.frz o u)->H' b=some (.frz o u)) (tbls:∀ b ps,H b=some (.tbl ps)->∃ more,H' b=some (.tbl (ps++more)))
 (ns:∀ m,s.heap.Ns X.env.locals m->h'.Ns X.env.locals m) (hok:HOk X.prog X.w H' h') (hg:AllBare g'):
 Inv X pins σ H' { s with heap:=h',gens:=g',drawn:=d',toks:=t' }:=by
 have neL:∀ b o,X.s₀.heap.get? b=some o->b ≠ X.env.locals:=λb o e=>Nat.ne_of_lt (Nat.lt_of_lt_of_le (Heap.lt_size e) I.ok.above)
 have neC:∀ b o,X.s₀.heap.get? b=some o->b ∉ X.ex->b ∉ ch:=λb o e hx hb=>by
  rcases (hch b hb).1 with z | z
  ·exact hx z
  ·exact absurd (Nat.lt_of_lt_of_le (Heap.lt_size e) z) (Nat.lt_irrefl _)
 have cellK:∀ x c,X.env.cells.lookup x=some c->∀ v,s.heap.IsCell c v->h'.IsCell c v:=λx c e v ⟨o,ho,hd⟩=>by
  have nch:c ∉ ch:=λz=>(hch c z).2.2.1 x c e rfl
  by_cases hc:c ∈ X.fs
  ·obtain⟨sl,q⟩:=slot c o (I.cne x c e) hc nch ho (I.freeC x c e)
   exact⟨_,q,hd⟩
  ·exact⟨o,keep c o (I.cne x c e) hc nch ho (I.freeC x c e),hd⟩
 refine⟨I.ok,I.os,hg,⟨λb o e n hb hx=>?_,λb o e n hb hx=>?_,λb o e n hx=>?_,λb o e hx=>?_,λb xs e=>tups b xs (I.base.tups b xs e),λb o xs e=>frzs b o xs (I.base.frzs b o xs e),λb ps e=>?_⟩,?_,λx c e=>?_,?_,λx c e=>?_,λp hp=>?_,hok,I.len⟩
 ·exact keep b o (neL b o e) hb (neC b o e hx) (I.base.keep b o e n hb hx) (I.base.free b o e n hx)
 ·obtain⟨sl,e1⟩:=I.base.slot b o e n hb hx
  obtain⟨sl',e2⟩:=slot b _ (neL b o e) hb (neC b o e hx) e1 (I.base.free b o e n hx)
  exact⟨sl',e2⟩
 ·obtain⟨o',e1⟩:=I.base.there b o e hx
  exact free b o' (neC b o e hx) e1 (I.base.free b o e n hx)
 ·obtain⟨o',e1⟩:=I.base.there b o e hx
  exact there b o' (neC b o e hx) e1
 ·obtain⟨m1,e1⟩:=I.base.tbls b ps e
  obtain⟨m2,e2⟩:=tbls b _ e1
  exact⟨m1++m2,by rw[e2,Array.append_assoc]⟩
 ·obtain⟨m,hn,hl⟩:=I.loc
  refine⟨m,ns m hn,λi x v e1 e2 e3=>?_⟩
  obtain⟨u,r,l⟩:=hl i x v e1 e2 e3
  refine⟨u,r,?_⟩
  rcases l with l | ⟨k,c,e,z⟩
  ·exact .inl l
  ·exact .inr ⟨k,c,e,cellK x c e _ z⟩
 ·obtain⟨v,z⟩:=I.cell x c e
  exact⟨v,cellK x c e v z⟩
 ·obtain⟨m,⟨o,_,_,ho,_⟩,_⟩:=I.loc
  exact free _ o (λz=>(hch _ z).2.1 rfl) ho I.free
 ·obtain⟨v,o,ho,hd⟩:=I.cell x c e
  exact free c o (λz=>(hch c z).2.2.1 x c e rfl) ho (I.freeC x c e)
 ·obtain⟨e,n,ne,nf,d⟩:=I.pin p hp
  have nch:p.1 ∉ ch:=λz=>(hch p.1 z).2.2.2 p hp rfl
  exact⟨keep p.1 p.2 ne nf nch e n,free p.1 p.2 nch e n,ne,nf,d⟩
theorem Inv.un {t':Nat} (I:Inv X pins σ H s) (u:Un X.fs [] H H' s.heap h') (hok:HOk X.prog X.w H' h'):Inv X pins σ H' { s with heap:=h',toks:=t' }:=by
 obtain⟨m,⟨o,es,ep,ho,r⟩,_⟩:=id I.loc
 obtain⟨sl,hL⟩:=u.any ho I.free (by simp)
 exact I.step (g':=s.gens) (d':=s.drawn) (ch:=[]) (λ_ z=>nomatch z) (λb o _ hb _ e n=>u.keep b o e n hb (by simp)) (λb o _ hb _ e n=>u.slot b o e n hb (by simp)) (λb o _ e n=>u.free b o e n (by simp)) (λb o _ e=>u.there b o e (by simp)) u.tups u.frzs u.tbls (λm' hm=>by
  obtain⟨o',es',ep',ho',r'⟩:=hm
  rw[ho] at ho';cases ho'
  exact⟨_,es',ep',hL,r'⟩) hok I.bare
theorem Inv.call {g':Array GenState}{t':Nat}{d':Drawn}{ch:List Addr} (I:Inv X pins σ H s) (u:Un (frs X.stack) ch H H' s.heap h') (hok:HOk X.prog X.w H' h') (hg:AllBare g')
 (hch:∀ b ∈ ch,(b ∈ X.ex\/X.s₀.heap.objs.size<=b)/\b ≠ X.env.locals/\(∀ x c,X.env.cells.lookup x=some c->c ≠ b)/\∀ p ∈ X.pn++pins,p.1 ≠ b):
 Inv X pins σ H' { s with heap:=h',gens:=g',drawn:=d',toks:=t' }:=by
 obtain⟨m,⟨o,es,ep,ho,r⟩,_⟩:=id I.loc
 obtain⟨sl,hL⟩:=u.any ho I.free λz=>(hch _ z).2.1 rfl
 exact I.step (ch:=ch) hch (λb o hL hb hc e n=>u.keep b o e n (λz=>(List.mem_cons.mp (I.stkSub b z)).elim hL hb) hc) (λb o _ _ hc e n=>u.any e n hc) (λb o hc e n=>u.free b o e n hc) (λb o hc e=>u.there b o e hc) u.tups u.frzs u.tbls (λm' hm=>by
  obtain⟨o',es',ep',ho',r'⟩:=hm
  rw[ho] at ho';cases ho'
  exact⟨_,es',ep',hL,r'⟩) hok hg
theorem Inv.turned {t':Nat}{it:Addr} (I:Inv X pins σ H s) (k:∀ b o,b ≠ it->s.heap.get? b=some o->h'.get? b=some o) (hn:H it=none) (hL:it ≠ X.env.locals)
 (h1:it ∈ X.ex\/X.s₀.heap.objs.size<=it) (h2:∀ x c,X.env.cells.lookup x=some c->c ≠ it) (h3:∀ p ∈ X.pn++pins,p.1 ≠ it):Inv X pins σ H { s with heap:=h',toks:=t' }:=by
 have nit:∀ b u,H b=some u->b ≠ it:=λb u e z=>by rw[z,hn] at e;cases e
 refine I.step (g':=s.gens) (d':=s.drawn) (ch:=[it]) (λb hb=>?_) (λb o _ _ hc e _=>k b o (λz=>hc (by simp [z])) e) (λb o _ _ hc e _=>⟨o.slots,k b o (λz=>hc (by simp [z])) e⟩) (λ_ _ _ _ n=>n)
  (λb o hc e=>⟨o,k b o (λz=>hc (by simp [z])) e⟩) (λ_ _ e=>e) (λ_ _ _ e=>e) (λb ps e=>⟨#[],by rw[e];simp⟩) (λm hm=>?_) (λb u e=>?_) I.bare
 ·have e:b=it:=by simpa using hb
  subst e
  exact⟨h1,hL,h2,h3⟩
 ·obtain⟨o,es,ep,ho,r⟩:=hm
  exact⟨o,es,ep,k _ o (Ne.symm hL) ho,r⟩
 ·refine (I.hok b u e).stay (λc v hc q=>k c v ?_ q) (λ_ q=>q) λ_ _ q=>q
  rcases hc with z | z
  ·rw[z];exact nit b u e
  ·exact nit c _ z
theorem Inv.tok (I:Inv X pins σ H s) (t:Nat):Inv X pins σ H { s with toks:=t }:=I.un (h':=s.heap) (t':=t) Un.refl I.hok
theorem Inv.kept {t':Nat} (I:Inv X pins σ H s) (k:∀ b u,s.heap.get? b=some u->h'.get? b=some u):Inv X pins σ H { s with heap:=h',toks:=t' }:=I.un (Un.kept k) (I.hok.kept k)
theorem Inv.laid {a:Addr}{o:HO}{t':Nat} (I:Inv X pins σ H s) (k:∀ b u,s.heap.get? b=some u->h'.get? b=some u) (hp:s.heap.objs.size<=a) (new:ObjOk X.prog X.w (upd H a o) h' a o):
 Inv X pins σ (upd H a o) { s with heap:=h',toks:=t' }:=I.un (Un.laid k hp (I.hok.fresh hp)) (I.hok.laid k hp new)
theorem Inv.write {x e:Addr}{o:HO}{t':Nat} (I:Inv X pins σ H s) (mu:Mut (H x)) (he:e=x\/H e=some (.own x)) (k:∀ b u,b ≠ e->s.heap.get? b=some u->h'.get? b=some u) (heo:∃ u,h'.get? e=some u)
 (new:ObjOk X.prog X.w (upd H x o) h' x o):Inv X pins σ (upd H x o) { s with heap:=h',toks:=t' }:=I.un (Un.write mu he k heo) (I.hok.write mu he k heo new)
theorem Inv.pins_of {pins':List (Addr×Obj)} (I:Inv X pins σ H s) (h:∀ p ∈ pins',s.heap.get? p.1=some p.2/\H p.1=none/\p.1 ≠ X.env.locals/\p.1 ∉ X.fs/\∀ v,p.2.data ≠ .cell v):Inv X pins' σ H s:=
 ⟨I.ok,I.os,I.bare,I.base,I.loc,I.cell,I.free,I.freeC,λp hp=>(List.mem_append.mp hp).elim (λz=>I.pin p (List.mem_append_left _ z)) (h p),I.hok,I.len⟩
theorem me {N:List Str} (hN:N.Nodup) {i j:Nat}{x:Str} (a:N[i]?=some x) (b:N[j]?=some x):i=j:=by
 obtain⟨h1,e1⟩:=List.getElem?_eq_some_iff.mp a
 obtain⟨h2,e2⟩:=List.getElem?_eq_some_iff.mp b
 exact (List.getElem_inj hN).mp (e1.trans e2.symm)
theorem kj {M:Model}{A:Around}{E:Value->Shared->Prop}{i:Nat}{x:Str}{v:V}{u:Value}{Q:Unit->Shared->Prop} (I:Inv X pins σ H s) (hN:X.N.Nodup) (hi:X.N[i]?=some x) (hx:Loc X.env.scope x) (r:RelV v u)
 (h:∀ s',Inv X pins (σ.set i (some v)) H s'->(∃ a,Heap.SameBut a s.heap s'.heap/\(a=X.env.locals\/X.env.cells.lookup x=some a))->Q () s') (hf:X.fn x=true\/X.env.scope.names.lookup x=some .local:=by first | exact .inl rfl | exact .inr rfl | assumption):wpAny M A (storeName X.env x u) Q E s:=by
 obtain⟨m,hn,hl⟩:=id I.loc
 have hcls:(X.env.scope.kind == .class || (X.env.scope.kind == .module && X.env.locals != X.env.globals))=false:=by rw[I.ok.kind];rfl
 have hiσ:i < σ.length:=by rw[I.len];exact (List.getElem?_eq_some_iff.mp hi).1
 have cne:=I.cne
 have tracked:∀ {a:Addr}{h':Heap},(∃ o,s.heap.get? a=some o/\H a=none)->Heap.SameBut a s.heap h'->HOk X.prog X.w H h':=λ{a h'} ha hs b ob e=>by
  obtain⟨_,_,hfree⟩:=ha
  refine (I.hok b ob e).stay (λc w' hc q=>(hs.2 c ?_).trans q) (λ_ q=>q) λ_ _ q=>q
  rintro rfl
  rcases hc with rfl | hc
  ·rw[hfree] at e;cases e
  ·rw[hfree] at hc;cases hc
 rcases hx with hk | hk
 ·refine wpAny_storeName_local hk hn (λh' hn' hs=>?_) hcls
  obtain⟨oL,_,_,hoL,_⟩:=id hn
  refine h _ ⟨I.ok,I.os,I.bare,⟨λb o e n hb hx=>?_,λb o e n hb hx=>?_,I.base.free,λb o e hx=>?_,I.base.tups,I.base.frzs,I.base.tbls⟩,⟨_,hn',λj y v' e1 e2 e3=>?_⟩,λy c e=>?_,I.free,I.freeC,λp hp=>?_,tracked ⟨oL,hoL,I.free⟩ hs,by simpa using I.len⟩ ⟨_,hs,.inl rfl⟩
  ·exact (hs.2 b (Nat.ne_of_lt (Nat.lt_of_lt_of_le (Heap.lt_size e) I.ok.above))).trans (I.base.keep b o e n hb hx)
  ·obtain⟨sl,e1⟩:=I.base.slot b o e n hb hx
   exact⟨sl,(hs.2 b (Nat.ne_of_lt (Nat.lt_of_lt_of_le (Heap.lt_size e) I.ok.above))).trans e1⟩
  ·obtain⟨o',e1⟩:=I.base.there b o e hx
   exact⟨o',(hs.2 b (Nat.ne_of_lt (Nat.lt_of_lt_of_le (Heap.lt_size e) I.ok.above))).trans e1⟩
  ·by_cases hj:j=i
   ·subst hj
    rw[hi] at e1;cases e1
    rw[List.getElem?_set_self hiσ] at e2
    cases e2
    exact⟨u,r,.inl ⟨hk,by simp⟩⟩
   ·rw[List.getElem?_set_ne (Ne.symm hj)] at e2
    obtain⟨u',r',q⟩:=hl j y v' e1 e2 e3
    refine⟨u',r',?_⟩
    rcases q with ⟨k,e⟩ | ⟨k,c,e,z⟩
    ·refine .inl ⟨k,?_⟩
     have:y ≠ x:=λe=>hj (me hN e1 (e ▸ hi))
     simp [this,e]
    ·exact .inr ⟨k,c,e,z.sameBut hs (cne y c e)⟩
  ·obtain⟨w',z⟩:=I.cell y c e
   exact⟨w',z.sameBut hs (cne y c e)⟩
  ·obtain⟨e,n,ne,nf,d⟩:=I.pin p hp
   exact⟨(hs.2 p.1 ne).trans e,n,ne,nf,d⟩
 ·have hfn:X.fn x=true:=by
   rcases hf with z | z
   ·exact z
   ·rw[z] at hk;cases hk
  obtain⟨c,hc⟩:=I.ok.has x (.inl hk)
  obtain⟨w',z⟩:=I.cell x c hc
  refine wpAny_storeName_cell I.ok.kind hk hc z (λh' hc' hs=>?_)
  obtain⟨oc,hoc,hocd⟩:=id z
  refine h { s with heap:=h' } ⟨I.ok,I.os,I.bare,⟨λb o e n hb hx=>?_,λb o e n hb hx=>?_,I.base.free,λb o e hx=>?_,I.base.tups,I.base.frzs,I.base.tbls⟩,⟨m,hn.sameBut hs (Ne.symm (cne x c hc)),λj y v' e1 e2 e3=>?_⟩,λy c' e=>?_,I.free,I.freeC,λp hp=>?_,tracked ⟨oc,hoc,I.freeC x c hc⟩ hs,by simpa using I.len⟩ ⟨c,hs,.inr hc⟩
  ·exact (hs.2 b (Nat.ne_of_lt (Nat.lt_of_lt_of_le (Heap.lt_size e) (I.ok.cab x c hfn hc)))).trans (I.base.keep b o e n hb hx)
  ·obtain⟨sl,e1⟩:=I.base.slot b o e n hb hx
   exact⟨sl,(hs.2 b (Nat.ne_of_lt (Nat.lt_of_lt_of_le (Heap.lt_size e) (I.ok.cab x c hfn hc)))).trans e1⟩
  ·obtain⟨o',e1⟩:=I.base.there b o e hx
   exact⟨o',(hs.2 b (Nat.ne_of_lt (Nat.lt_of_lt_of_le (Heap.lt_size e) (I.ok.cab x c hfn hc)))).trans e1⟩
  ·by_cases hj:j=i
   ·subst hj
    rw[hi] at e1;cases e1
    rw[List.getElem?_set_self hiσ] at e2
    cases e2
    exact⟨u,r,.inr ⟨.inl hk,c,hc,hc'⟩⟩
   ·rw[List.getElem?_set_ne (Ne.symm hj)] at e2
    obtain⟨u',r',q⟩:=hl j y v' e1 e2 e3
    refine⟨u',r',?_⟩
    rcases q with q | ⟨k,c',e,z'⟩
    ·exact .inl q
    ·refine .inr ⟨k,c',e,z'.sameBut hs ?_⟩
     rintro rfl
     exact hj (me hN e1 (I.ok.inj _ _ _ e hc ▸ hi))
  ·by_cases hcc:c'=c
   ·subst hcc;exact⟨_,hc'⟩
   ·obtain⟨w2,z2⟩:=I.cell y c' e
    exact⟨w2,z2.sameBut hs hcc⟩
  ·obtain⟨e,n,ne,nf,d⟩:=I.pin p hp
   refine⟨(hs.2 p.1 ?_).trans e,n,ne,nf,d⟩
   intro q
   rw[q,hoc] at e
   have q':oc=p.2:=Option.some.inj e
   exact d w' (by rw[<- q'];exact hocd)
theorem gc {M:Model}{A:Around}{E:Value->Shared->Prop}{i:Nat}{x:Str}{v:V}{u:Value}{Q:Unit->Shared->Prop} (I:Inv X pins σ H s) (hN:X.N.Nodup) (hi:X.N[i]?=some x) (hx:Loc X.env.scope x) (r:RelV v u)
 (h:∀ s',Inv X pins (σ.set i (some v)) H s'->Q () s') (hf:X.fn x=true\/X.env.scope.names.lookup x=some .local:=by first | exact .inl rfl | exact .inr rfl | assumption):wpAny M A (storeName X.env x u) Q E s:=
 kj I hN hi hx r (λs' I' _=>h s' I') hf
theorem Inv.call' {s':Shared}{ch:List Addr} (I:Inv X pins σ H s) (ho:s'.os=s.os) (u:Un (frs X.stack) ch H H' s.heap s'.heap) (hok:HOk X.prog X.w H' s'.heap) (hg:AllBare s'.gens)
 (hch:∀ b ∈ ch,(b ∈ X.ex\/X.s₀.heap.objs.size<=b)/\b ≠ X.env.locals/\(∀ x c,X.env.cells.lookup x=some c->c ≠ b)/\∀ p ∈ X.pn++pins,p.1 ≠ b):Inv X pins σ H' s':=by
 obtain⟨h',g',d',t',o'⟩:=s'
 have e:o'=s.os:=ho
 subst e
 exact I.call (g':=g') (t':=t') (d':=d') u hok hg hch
end
abbrev XK:=Value->Option Addr->Hp->Prop
abbrev St:=List (Option V)
abbrev VK:=V->Hp->Prop
abbrev TE:=St->Hp->VK->Prop
abbrev TT:=St->Hp->(Bool->Hp->Prop)->Prop
abbrev TA:=St->Hp->(List V->Hp->Prop)->Prop
structure Ends where
 nx:St->Hp->Prop
 rt:VK
 bk:St->Hp->Prop:=λ_ _=>False
 ct:St->Hp->Prop:=λ_ _=>False
abbrev TS:=Ends->St->Hp->Prop
def EP (X:Cx) (pins:List (Addr×Obj)) (σ:St) (Q:VK) (u:Value) (s':Shared):Prop:=∃ v H',Inv X pins σ H' s'/\RelV v u/\Q v H'
def TP (X:Cx) (pins:List (Addr×Obj)) (σ:St) (Q:Bool->Hp->Prop) (b:Bool) (s':Shared):Prop:=∃ H',Inv X pins σ H' s'/\Q b H'
def AP (X:Cx) (pins:List (Addr×Obj)) (σ:St) (Q:List V->Hp->Prop) (us:List Value) (s':Shared):Prop:=∃ vs H',Inv X pins σ H' s'/\Vals vs us/\Q vs H'
def SP (X:Cx) (pins:List (Addr×Obj)) (D:Ends) (f:Flow) (s':Shared):Prop:=
 match f with
 | .next=>∃ σ' H',Inv X pins σ' H' s'/\D.nx σ' H'
 | .brk=>∃ σ' H',Inv X pins σ' H' s'/\D.bk σ' H'
 | .cont=>∃ σ' H',Inv X pins σ' H' s'/\D.ct σ' H'
 | .ret u=>∃ v σ' H',Inv X pins σ' H' s'/\RelV v u/\D.rt v H'
def PE (X:Cx) (e:Expr) (t:TE):Prop:=
 ∀ (pins:List (Addr×Obj)) (s:Shared) (σ:St) (H:Hp) (Q:VK),Inv X pins σ H s->t σ H Q->wpAny (model X.prog X.w) X.A (eval e X.env) (EP X pins σ Q) X.xe s
def PT (X:Cx) (e:Expr) (t:TT):Prop:=
 ∀ (pins:List (Addr×Obj)) (s:Shared) (σ:St) (H:Hp) (Q:Bool->Hp->Prop),Inv X pins σ H s->t σ H Q->wpAny (model X.prog X.w) X.A (isTrue e X.env (eval e X.env)) (TP X pins σ Q) X.xe s
def PW (X:Cx) (e:Expr) (t:TT):Prop:=
 ∀ (bi:Sem Value) (pins:List (Addr×Obj)) (s:Shared) (σ:St) (H:Hp) (Q:Bool->Hp->Prop),Inv X pins σ H s->t σ H Q->wpAny (model X.prog X.w) X.A (isTrue e X.env bi) (TP X pins σ Q) X.xe s
theorem PW.pt {X:Cx}{e:Expr}{t:TT} (h:PW X e t):PT X e t:=h _
def PA (X:Cx) (es:List Expr) (t:TA):Prop:=
 ∀ (pos:Pos) (pins:List (Addr×Obj)) (s:Shared) (σ:St) (H:Hp) (Q:List V->Hp->Prop),Inv X pins σ H s->t σ H Q->wpAny (model X.prog X.w) X.A (spliced (backTo pos (starEach es X.env))) (AP X pins σ Q) X.xe s
def PS (X:Cx) (st:Stmt) (t:TS):Prop:=
 ∀ (pins:List (Addr×Obj)) (s:Shared) (σ:St) (H:Hp) (D:Ends),Inv X pins σ H s->t D σ H->wpAny (model X.prog X.w) X.A (exec st X.env) (SP X pins D) X.xe s
def PSs (X:Cx) (st:List Stmt) (t:TS):Prop:=
 ∀ (pins:List (Addr×Obj)) (s:Shared) (σ:St) (H:Hp) (D:Ends),Inv X pins σ H s->t D σ H->wpAny (model X.prog X.w) X.A (execs st X.env) (SP X pins D) X.xe s
theorem thn {α:Type}{t:Sem α}{Q Q':α->Shared->Prop}{M:Model}{A:Around}{E:Value->Shared->Prop}{s:Shared} (h:wpAny M A t Q E s) (hQ:∀ a s,Q a s->Q' a s):wpAny M A t Q' E s:=wpAny_mono h hQ λ_ _ x=>x
end L2
namespace L2
open PySem PySem.Spec PyProof.Rows
section
variable {X:Cx}
def tVar (i:Nat):TE:=λσ H Q=>∃ v,σ[i]?=some (some v)/\Q v H
def tC (v:V):TE:=λ_ H Q=>Q v H
theorem qh {i:Nat}{x:Str}{pos:Pos} (hN:X.N[i]?=some x) (hv:Vis X.env.scope x) (hd:(x == ("__debug__" : Str))=false:=by decide) (hcd:(x == ("__classdict__" : Str))=false:=by decide):PE X (.Name x pos) (tVar i):=by
 intro pins s σ H Q I h
 obtain⟨v,e,h⟩:=h
 obtain⟨m,hn,hl⟩:=I.loc
 obtain⟨u,r,l⟩:=hl i x v hN e hv
 have fin:EP X pins σ Q u s:=⟨v,H,I,r,h⟩
 rcases l with ⟨hk,hm⟩ | ⟨hk,c,hc,hcell⟩
 ·exact wpAny_Name (wpAny_loadName_local I.ok.kind hk hn hm fin) hd
 ·rcases hk with hk | hk
  ·exact wpAny_Name (wpAny_loadName_cell I.ok.kind hk hc hcell fin) hd
  ·exact wpAny_Name (wpAny_loadName_free I.ok.kind hk hc hcell fin hcd) hd
theorem yF {i j pos}:PE X (.Constant (.int i) j pos) (tC (.int i)):=λ_ _ _ H _ I h=>wpAny_Constant_int ⟨.int i,H,I.tok _,⟨_,rfl⟩,h⟩
theorem BR {b j pos}:PE X (.Constant (.bool b) j pos) (tC (.bl b)):=λ_ _ _ H _ I h=>Constant_bool ⟨.bl b,H,I,rfl,h⟩
theorem Ai {j pos}:PE X (.Constant .none j pos) (tC .non):=λ_ _ _ H _ I h=>Constant_none ⟨.non,H,I,rfl,h⟩
theorem qw {x j pos}:PE X (.Constant (.str x) j pos) (tC (.str x)):=λ_ _ _ H _ I h=>Calls.Constant_str ⟨.str x,H,I.tok _,⟨_,rfl⟩,h⟩
def Gl (X:Cx) (x:Str):Prop:=X.env.kindOf x=some .globalImplicit
theorem nE {E:Value->Shared->Prop}{pins:List (Addr×Obj)}{s:Shared}{σ:St}{H:Hp}{x:Str}{u:Value}{pos:Pos}{Q:Value->Shared->Prop} (I:Inv X pins σ H s) (hg:Gl X x) (hm:X.mg x=some u) (h:Q u s)
 (hd:(x == ("__debug__" : Str))=false:=by decide):wpAny (model X.prog X.w) X.A (eval (.Name x pos) X.env) Q E s:=
 Calls.Name_function_global I.ok.kind hg (Calls.loadGlobal_global (by rw[I.ok.glob];exact I.mod.glob.keeps I.bk) hm h) hd
theorem gM {E:Value->Shared->Prop}{pins:List (Addr×Obj)}{s:Shared}{σ:St}{H:Hp}{x:Str}{u:Value}{pos:Pos}{Q:Value->Shared->Prop} (I:Inv X pins σ H s) (hg:Gl X x) (hm:X.mg x=none) (hv:bootBuiltins x=some u) (h:Q u s)
 (hn:x ≠ "__name__":=by decide) (hd:(x == ("__debug__" : Str))=false:=by decide):wpAny (model X.prog X.w) X.A (eval (.Name x pos) X.env) Q E s:=by
 obtain⟨mb,h1,h2⟩:=I.mod.blt
 exact Calls.Name_function_global I.ok.kind hg (Calls.loadGlobal_builtin (by rw[I.ok.glob];exact I.mod.glob.keeps I.bk) hm (by rw[I.ok.blt];exact h1.keeps I.bk) ((h2 x hn).trans hv) h) hd
theorem wZ {x:Str}{v:V}{u:Value}{pos:Pos} (hg:Gl X x) (hm:X.mg x=none) (hv:bootBuiltins x=some u) (r:RelV v u) (hn:x ≠ "__name__":=by decide) (hd:(x == ("__debug__" : Str))=false:=by decide):PE X (.Name x pos) (tC v):=
 λ_ _ _ H _ I h=>gM I hg hm hv ⟨v,H,I,r,h⟩ hn hd
variable {a b:Expr}{ta tb:TE}{pos:Pos}
def tB (t:TE):TT:=λσ H Q=>t σ H λx H1=>∃ c,x=.bl c/\Q c H1
theorem Bb {e:Expr}{t:TE} (h:PE X e t) (he:∀ bi,isTrue e X.env bi=(do let v <- bi;standAt e.pos;holding [v] (truthy v)):=by intro _;rfl):PT X e (tB t):=by
 intro pins s σ H Q I hw
 refine isTrue_plain (thn (h pins s σ H _ I hw) λv s1 ⟨x,H1,I1,r1,q1⟩=>?_) (he _)
 obtain⟨d,rfl,q⟩:=q1
 cases r1
 exact wpAny_truthy_bool ⟨H1,I1,q⟩
variable {tA tB':TT}{bj:List Expr}
def tAnd (t u:TT):TT:=λσ H Q=>t σ H λc H1=>if c=true then u σ H1 Q else Q false H1
def tOr (t u:TT):TT:=λσ H Q=>t σ H λc H1=>if c=true then Q true H1 else u σ H1 Q
def tNot (t:TT):TT:=λσ H Q=>t σ H λc H1=>Q (!c) H1
theorem yk (ha:PT X a tA):PW X (.BoolOp .And [a] pos) tA:=by
 intro wh pins s σ H Q I h
 refine isTrue_and (thn (ha pins s σ H Q I h) λc s1 e=>?_)
 cases c with
 | true=>exact isTrue_and_nil e
 | false=>exact e
theorem yG (ha:PT X a tA):PW X (.BoolOp .Or [a] pos) tA:=by
 intro wh pins s σ H Q I h
 refine isTrue_or (thn (ha pins s σ H Q I h) λc s1 e=>?_)
 cases c with
 | false=>exact isTrue_or_nil e
 | true=>exact e
theorem yJ (ha:PT X a tA) (hb:PW X (.BoolOp .And (b :: bj) pos) tB'):PW X (.BoolOp .And (a :: b :: bj) pos) (tAnd tA tB'):=by
 intro wh pins s σ H Q I h
 refine isTrue_and (thn (ha pins s σ H _ I h) λc s1 ⟨H1,I1,q1⟩=>?_)
 cases c with
 | true=>exact hb wh pins s1 σ H1 Q I1 q1
 | false=>exact⟨H1,I1,q1⟩
theorem CM (ha:PT X a tA) (hb:PW X (.BoolOp .Or (b :: bj) pos) tB'):PW X (.BoolOp .Or (a :: b :: bj) pos) (tOr tA tB'):=by
 intro wh pins s σ H Q I h
 refine isTrue_or (thn (ha pins s σ H _ I h) λc s1 ⟨H1,I1,q1⟩=>?_)
 cases c with
 | true=>exact⟨H1,I1,q1⟩
 | false=>exact hb wh pins s1 σ H1 Q I1 q1
theorem yW (ha:PT X a tA):PT X (.UnaryOp .Not a pos) (tNot tA):=by
 intro pins s σ H Q I h
 exact isTrue_not (ha pins s σ H (λc H1=>Q (!c) H1) I h)
def tIf (t:TT) (ta tb:TE):TE:=λσ H Q=>t σ H λc H1=>if c=true then ta σ H1 Q else tb σ H1 Q
theorem tN {c:Expr} (hc:PT X c tA) (ha:PE X a ta) (hb:PE X b tb):PE X (.IfExp c a b pos) (tIf tA ta tb):=by
 intro pins s σ H Q I h
 refine wpAny_IfExp (thn (hc pins s σ H _ I h) λd s1 ⟨H1,I1,q1⟩=>?_)
 cases d with
 | true=>exact ha pins s1 σ H1 Q I1 q1
 | false=>exact hb pins s1 σ H1 Q I1 q1
end
end L2
namespace L2
open PySem PySem.Spec PyProof.Rows
def SqL (K:W.Frag) (H:Hp) (a:Addr) (xs:List V):Prop:=
 Rd H a (.lst xs)\/
  ∃ (o:Obj) (its:Array Value) (n:Nat),K.lookup a=some o/\o.cls=.type "list" /\ o.dict=none/\o.data=.seq its n/\its.size<=sizeLine/\Vals xs its.toList
def SqT (K:W.Frag) (H:Hp) (a:Addr) (xs:List V):Prop:=
 Rd H a (.tup xs)\/
  ∃ (o:Obj) (its:Array Value) (n:Nat),K.lookup a=some o/\o.cls=.type "tuple" /\ o.data=.seq its n/\its.size<=sizeLine/\Vals xs its.toList
def absV:Value->Option V
 | .none=>some .non
 | .bool b=>some (.bl b)
 | .int i _=>some (.int i)
 | .str x _=>some (.str x)
 | .bytes b _=>some (.byt b)
 | .float b _=>some (.flt b)
 | .ref a=>some (.ref a)
 | .type n=>some (.ty n)
 | _=>none
theorem RelV.abs {x:V}{u:Value} (r:RelV x u):absV u=some x:=by
 cases x with
 | non=>cases r;rfl
 | bl _=>cases r;rfl
 | int _=>obtain⟨t,rfl⟩:=r;rfl
 | str _=>obtain⟨t,rfl⟩:=r;rfl
 | byt _=>obtain⟨t,rfl⟩:=r;rfl
 | flt _=>obtain⟨t,rfl⟩:=r;rfl
 | ref _=>cases r;rfl
 | ty _=>cases r;rfl
theorem RelV.inj {x y:V}{u:Value} (r:RelV x u) (q:RelV y u):x=y:=Option.some.inj (r.abs.symm.trans q.abs)
theorem Vals.inj {xs ys:List V}{us:List Value} (r:Vals xs us) (q:Vals ys us):xs=ys:=by
 induction r generalizing ys with
 | nil=>cases q;rfl
 |
  cons r t ih=>
  cases q with
  | cons q t'=>rw[r.inj q,ih t']
section
variable {X:Cx}{pins:List (Addr×Obj)}{σ:St}{H:Hp}{s:Shared}{a:Addr}{xs ys:List V}
theorem SqL.of {K:W.Frag} (h:H a=some (.lst xs)):SqL K H a xs:=.inl (.inl h)
theorem SqT.of {K:W.Frag} (h:H a=some (.tup xs)):SqT K H a xs:=.inl (.inl h)
theorem Inv.list (I:Inv X pins σ H s) (h:SqL X.K H a xs):∃ its:List Value,Vals xs its/\PlainL s.heap a its.toArray/\xs.length<=sizeLine:=by
 rcases h with h | ⟨o,its,n,hk,hc,hd,hs,hz,r⟩
 ·obtain⟨z,its,n,r,e⟩:=h.ok I.hok
  exact⟨its,r,⟨_,n,e,rfl,rfl,rfl⟩,z⟩
 ·refine⟨its.toList,r,⟨o,n,I.kIn a o hk,hc,hd,by simpa using hs⟩,?_⟩
  have e:=r.length
  simp only[Array.length_toList] at e
  omega
theorem Inv.tuple (I:Inv X pins σ H s) (h:SqT X.K H a xs):∃ its:List Value,Vals xs its/\IsTup s.heap a its.toArray/\xs.length<=sizeLine:=by
 rcases h with h | ⟨o,its,n,hk,hc,hs,hz,r⟩
 ·obtain⟨z,its,r,p⟩:=h.ok I.hok
  exact⟨its,r,p,z⟩
 ·refine⟨its.toList,r,⟨o,I.kIn a o hk,hc,n,by simpa using hs⟩,?_⟩
  have e:=r.length
  simp only[Array.length_toList] at e
  omega
theorem Inv.list_inj (I:Inv X pins σ H s) (h:SqL X.K H a xs) (h':SqL X.K H a ys):xs=ys:=by
 obtain⟨its,r,⟨o,n,e,_,_,d⟩,_⟩:=I.list h
 obtain⟨its',r',⟨o',n',e',_,_,d'⟩,_⟩:=I.list h'
 rw[e] at e';cases e'
 rw[d] at d'
 injection d' with d1 _
 have:its=its':=by simpa using congrArg Array.toList d1
 subst this
 exact r.inj r'
theorem Inv.tuple_inj (I:Inv X pins σ H s) (h:SqT X.K H a xs) (h':SqT X.K H a ys):xs=ys:=by
 obtain⟨its,r,⟨o,e,_,n,d⟩,_⟩:=I.tuple h
 obtain⟨its',r',⟨o',e',_,n',d'⟩,_⟩:=I.tuple h'
 rw[e] at e';cases e'
 rw[d] at d'
 injection d' with d1 _
 have:its=its':=by simpa using congrArg Array.toList d1
 subst this
 exact r.inj r'
end
section
variable {X:Cx}{pins:List (Addr×Obj)}{σ:St}{H:Hp}{s:Shared}{E:Value->Shared->Prop}
end
section
variable {X:Cx}{st:Stmt}{bj:List Stmt}{t u:TS}{e:Expr}{te:TE}{pos:Pos}
def Cg:TS:=λD σ H=>D.nx σ H
def tSeq (t u:TS):TS:=λD σ H=>t { D with nx:=u D } σ H
theorem xt:PSs X [] Cg:=λ_ _ σ H _ I h=>wpAny_execs_nil ⟨σ,H,I,h⟩
theorem ux (h1:PS X st t) (h2:PSs X bj u):PSs X (st :: bj) (tSeq t u):=by
 intro pins s σ H D I h
 refine wpAny_execs_cons (thn (h1 pins s σ H { D with nx:=u D } I h) λf s1 q=>?_)
 cases f with
 |
  next=>
  obtain⟨σ',H',I',q⟩:=q
  exact h2 pins s1 σ' H' D I' q
 | ret v=>exact q
 | brk=>exact q
 | cont=>exact q
theorem w9 (h1:PS X st t):PSs X [st] t:=by
 intro pins s σ H D I h
 refine wpAny_execs_cons (thn (h1 pins s σ H D I h) λf s1 q=>?_)
 cases f with
 | next=>exact wpAny_execs_nil q
 | ret v=>exact q
 | brk=>exact q
 | cont=>exact q
theorem Inv.quiet {pins:List (Addr×Obj)}{σ:St}{H:Hp}{s:Shared} (I:Inv X pins σ H s):interactive X.env=false:=by simp [interactive,I.ok.kind]
def Cu (te:TE):TS:=λD σ H=>te σ H λ_ H1=>D.nx σ H1
theorem xv (he:PE X e te) (hs:swapsWith e none pos.line X.env=pure false:=by rfl):PS X (.Expr e pos) (Cu te):=by
 intro pins s σ H D I h
 exact wpAny_Expr_any (thn (he pins s σ H _ I h) λv s1 ⟨x,H1,I1,r1,q1⟩=>⟨σ,H1,I1,q1⟩) I.quiet hs
def tRet (te:TE):TS:=λD σ H=>te σ H D.rt
theorem Am (he:PE X e te):PS X (.Return (some e) pos) (tRet te):=by
 intro pins s σ H D I h
 exact wpAny_Return_some (thn (he pins s σ H _ I h) λv s1 ⟨x,H1,I1,r1,q1⟩=>⟨x,σ,H1,I1,r1,q1⟩)
def tIfS (c:TT) (t u:TS):TS:=λD σ H=>c σ H λb H1=>if b=true then t D σ H1 else u D σ H1
theorem Dr {c:Expr}{a b:List Stmt}{tc:TT} (hc:PT X c tc) (ha:PSs X a t) (hb:PSs X b u):PS X (.If c a b pos) (tIfS tc t u):=by
 intro pins s σ H D I h
 refine wpAny_If (thn (hc pins s σ H _ I h) λd s1 ⟨H1,I1,q1⟩=>?_)
 cases d with
 | true=>exact ha pins s1 σ H1 D I1 q1
 | false=>exact hb pins s1 σ H1 D I1 q1
end
abbrev TG:=V->St->Hp->(St->Hp->Prop)->Prop
abbrev TGs:=List V->St->Hp->(St->Hp->Prop)->Prop
def PG (X:Cx) (target:Expr) (t:TG):Prop:=
 ∀
  (pins:List (Addr×Obj)) (s:Shared) (σ:St) (H:Hp) (v:V) (u:Value) (Q:St->Hp->Prop),Inv X pins σ H s->RelV v u->t v σ H Q->
  wpAny (model X.prog X.w) X.A (assign target X.env u) (λ_ s'=>∃ σ' H',Inv X pins σ' H' s'/\Q σ' H') X.xe s
def PGs (X:Cx) (ts:List Expr) (t:TGs):Prop:=
 ∀
  (pins:List (Addr×Obj)) (s:Shared) (σ:St) (H:Hp) (vs:List V) (us:List Value) (Q:St->Hp->Prop),Inv X pins σ H s->Vals vs us->t vs σ H Q->
  wpAny (model X.prog X.w) X.A (assignInOrder ((assignEach ts X.env).map (·.2)) us) (λ_ s'=>∃ σ' H',Inv X pins σ' H' s'/\Q σ' H') X.xe s
abbrev kd:=V->V->V->Hp->(Hp->Prop)->Prop
def pj (X:Cx) (t:kd):Prop:=
 ∀
  (pins:List (Addr×Obj)) (s:Shared) (σ:St) (H:Hp) (o i v:V) (ov iv u:Value) (Q:Hp->Prop),Inv X pins σ H s->RelV o ov->RelV i iv->RelV v u->t o i v H Q->
  wpAny (model X.prog X.w) X.A (setItem ov iv u) (λ_ s'=>∃ H',Inv X pins σ H' s'/\Q H') X.xe s
section
variable {X:Cx}{pos:Pos}
def jh (i:Nat):TG:=λv σ H Q=>Q (σ.set i (some v)) H
theorem yj {i:Nat}{x:Str} (hN:X.N.Nodup) (hi:X.N[i]?=some x) (hx:Loc X.env.scope x) (hf:X.fn x=true\/X.env.scope.names.lookup x=some .local:=by first | exact .inl rfl | exact .inr rfl | assumption):PG X (.Name x pos) (jh i):=by
 intro pins s σ H v u Q I r h
 exact wpAny_assign_Name (gc I hN hi hx r (λs' I'=>⟨_,H,I',h⟩) hf)
def gNil:TGs:=λvs σ H Q=>vs=[]/\Q σ H
def Ds (t:TG) (u:TGs):TGs:=λvs σ H Q=>∃ v r,vs=v :: r/\t v σ H λσ' H'=>u r σ' H' Q
theorem yi:PGs X [] gNil:=by
 intro pins s σ H vs us Q I r h
 obtain⟨e,h⟩:=h
 subst e
 cases r
 exact assignInOrder_nil ⟨σ,H,I,h⟩
theorem tS {e:Expr}{es:List Expr}{t:TG}{u:TGs} (h1:PG X e t) (h2:PGs X es u)
 (hs:(assignEach (e :: es) X.env).map (·.2)=assign e X.env :: (assignEach es X.env).map (·.2):=by rfl):PGs X (e :: es) (Ds t u):=by
 intro pins s σ H vs us Q I r h
 obtain⟨v,vr,e1,h⟩:=h
 subst e1
 cases r with
 |
  cons r rr=>
  rw[hs]
  refine assignInOrder_cons (thn (h1 pins s σ H _ _ _ I r h) λ_ s1 ⟨σ1,H1,I1,q1⟩=>?_)
  exact h2 pins s1 σ1 H1 _ _ Q I1 rr q1
def gTup (K:W.Frag) (n:Nat) (t:TGs):TG:=λv σ H Q=>∃ a xs,v=.ref a/\SqT K H a xs/\xs.length=n/\t xs σ H Q
theorem yn {es:List Expr}{k:Nat}{t:TGs}{n:Nat} (hc:X.calm=true) (h:PGs X es t)
 (hn:(assignEach es X.env).length=n:=by rfl) (hst:(assignEach es X.env).findIdx? (·.1)=none:=by rfl):PG X (.Tuple es k pos) (gTup X.K n t):=by
 intro pins s σ H v u Q I r hw
 obtain⟨a,xs,e1,hq,hl,hw⟩:=hw
 subst e1
 cases r
 obtain⟨its,rv,ht,hz⟩:=I.tuple hq
 refine assign_Tuple_tuple (I.ok.hd hc) ht (by simp [hn,<- hl,rv.length]) hst λh' hx=>?_
 have I1:Inv X pins σ H { s with heap:=h' }:=I.kept (t':=s.toks) λb o e=>hx b o (Nat.ne_of_lt (Heap.lt_size e)) e
 exact h pins _ σ H xs _ Q I1 (by simpa using rv) hw
def gSub (to ti:TE) (t:kd):TG:=λv σ H Q=>to σ H λo H1=>ti σ H1 λi H2=>t o i v H2 λH3=>Q σ H3
theorem zq {o i:Expr}{to ti:TE}{t:kd} (ho:PE X o to) (hi:PE X i ti) (hs:pj X t)
 (ha:∀ v,assign (.Subscript o i pos) X.env v=(do
  let ov <- holding [v] (eval o X.env)
  let iv <- holding [v,ov] (eval i X.env)
  standAt pos
  holding [v,ov,iv] (setItem ov iv v)
  release [v,ov,iv] []):=by intro _;rfl):PG X (.Subscript o i pos) (gSub to ti t):=by
 intro pins s σ H v u Q I r h
 rw[ha]
 refine wpAny_bind (wpAny_holding (thn (ho pins s σ H _ I h) λov s1 ⟨x,H1,I1,r1,q1⟩=>?_))
 refine wpAny_bind (wpAny_holding (thn (hi pins s1 σ H1 _ I1 q1) λiv s2 ⟨y,H2,I2,r2,q2⟩=>?_))
 refine wpAny_bind (wpAny_standAt (wpAny_bind (wpAny_holding (thn (hs pins s2 σ H2 x y v ov iv u _ I2 r1 r2 r q2) λ_ s3 ⟨H3,I3,q3⟩=>?_))))
 exact wpAny_release ⟨σ,H3,I3,q3⟩
def mi (te:TE) (g:TG):TS:=λD σ H=>te σ H λx H1=>g x σ H1 D.nx
theorem y9 {tg e:Expr}{te:TE}{g:TG} (he:PE X e te) (hg:PG X tg g) (hs:swapsWithSole [tg] e pos.line X.env=pure false:=by rfl) (hw:swappedStores [tg] e X.env=pure none:=by rfl)
 (h1:(assignEach [tg] X.env).map (·.2)=[assign tg X.env]:=by rfl):PS X (.Assign [tg] e pos) (mi te g):=by
 intro pins s σ H D I h
 refine wpAny_Assign_stores (thn (he pins s σ H _ I h) λv s1 ⟨x,H1,I1,r1,q1⟩=>?_) hs hw
 rw[h1]
 exact thn (hg pins s1 σ H1 x v _ I1 r1 q1) λ_ s2 q=>q
theorem AQ {i:Nat}{x:Str}{e:Expr}{te:TE}{pos':Pos} (hN:X.N.Nodup) (hi:X.N[i]?=some x) (hx:Loc X.env.scope x) (he:PE X e te) (hs:swapsWith e (some (.Name x pos')) pos.line X.env=pure false:=by rfl) (hf:X.fn x=true\/X.env.scope.names.lookup x=some .local:=by first | exact .inl rfl | exact .inr rfl | assumption):
 PS X (.Assign [.Name x pos'] e pos) (mi te (jh i)):=by
 intro pins s σ H D I h
 refine wpAny_Assign_Name (thn (he pins s σ H _ I h) λv s1 ⟨y,H1,I1,r1,q1⟩=>?_) hs
 exact gc I1 hN hi hx r1 (λs2 I2=>⟨_,H1,I2,q1⟩) hf
def tPar (i j:Nat) (ta:TA):TS:=λD σ H=>ta σ H λvs H1=>∃ v w,vs=[v,w]/\D.nx ((σ.set i (some v)).set j (some w)) H1
theorem AU {i j:Nat}{x y:Str}{a b:Expr}{ta:TA}{px py pt:Pos}{kt k2 pt2} (hc:X.calm=true) (hN:X.N.Nodup) (hi:X.N[i]?=some x) (hj:X.N[j]?=some y) (hij:i ≠ j)
 (hx:X.env.scope.names.lookup x=some .local) (hy:X.env.scope.names.lookup y=some .local) (ha:PA X [a,b] ta)
 (hw:swappedStores [.Tuple [.Name x px,.Name y py] kt pt] (.Tuple [a,b] k2 pt2) X.env=pure (some [x,y]))
 (hs:swapsWithSole [.Tuple [.Name x px,.Name y py] kt pt] (.Tuple [a,b] k2 pt2) pos.line X.env=pure false:=by rfl):
 PS X (.Assign [.Tuple [.Name x px,.Name y py] kt pt] (.Tuple [a,b] k2 pt2) pos) (tPar i j ta):=by
 intro pins s σ H D I h
 rw[exec_Assign_arm]
 refine wpAny_bind (wpAny_standAt ?_)
 rw[hs]
 refine wpAny_bind (wpAny_pure ?_)
 rw[if_neg (by decide)]
 refine wpAny_bind (Tuple_ (thn (ha _ pins s σ H _ I h) λus s1 ⟨vs,H1,I1,r1,q1⟩=>?_))
 obtain⟨v,w,e1,q1⟩:=q1
 subst e1
 obtain⟨u1,u2,rfl,rv,rw'⟩:∃ u1 u2,us=[u1,u2]/\RelV v u1/\RelV w u2:=by
  cases r1 with
  |
   cons p q=>
   cases q with
   |
    cons p' q'=>
    cases q'
    exact⟨_,_,rfl,p,p'⟩
 refine wpAny_newObj_type ?_ (by show 2<=sizeLine;decide)
 have I2:Inv X pins σ H1 { s1 with heap:=s1.heap.push { cls:=.type "tuple",data:=.seq [u1,u2].toArray } }:=I1.kept (t':=s1.toks) λb o e=>Heap.get?_push_of_some _ e
 rw[hw]
 refine wpAny_bind (wpAny_pure ?_)
 show wpAny (model X.prog X.w) X.A (do rule "assign.swapped-stores";let items <- unpackItems (.ref s1.heap.objs.size) 2 none;assignInOrder [λv=>bindName X.env y v,λv=>bindName X.env x v] items.reverse;pure Flow.next) _ _ _
 refine wpAny_bind (wpAny_rule (wpAny_bind (unpackItems_tuple (items:=#[u1,u2]) (I.ok.hd hc) (IsTup.new s1.heap _) λh' hx'=>?_)))
 have I3:=I2.kept (h':=h') (t':=s1.toks) λb o e=>hx' b o (Nat.ne_of_lt (Heap.lt_size e)) e
 show wpAny _ _ (assignInOrder [λv=>bindName X.env y v,λv=>bindName X.env x v] [u2,u1] >>= λ_=>pure Flow.next) _ _ _
 refine wpAny_bind (assignInOrder_cons (wpAny_bindName (gc I3 hN hj (.inl hy) rw' (λs2 I4=>?_) (.inr hy))))
 refine assignInOrder_cons (wpAny_bindName (gc I4 hN hi (.inl hx) rv (λs3 I5=>assignInOrder_nil (wpAny_pure ?_)) (.inr hx)))
 rw[List.set_comm _ _ (Ne.symm hij)] at I5
 exact⟨_,H1,I5,q1⟩
end
section
variable {X:Cx}{pos:Pos}
def AA (c:TT) (tb:TS):TS:=λD σ H=>∃ W:Nat->St->Hp->Prop,(∃ m,W m σ H)/\∀ m σ H,W m σ H->
 c σ H λb H1=>if b=true then ∃ N:St->Hp->Prop,(∀ σ' H',N σ' H'->∃ m',m' < m/\W m' σ' H')/\tb { D with nx:=N,ct:=N,bk:=D.nx } σ H1 else D.nx σ H1
theorem sW {c:Expr}{body:List Stmt}{tc:TT}{tb:TS} (hp:PassesOwn (model X.prog X.w) X.A X.env X.xe) (hc:PT X c tc) (hb:PSs X body tb):PS X (.While c body [] pos) (AA tc tb):=by
 intro pins s σ H D I h
 obtain⟨W,⟨m0,w0⟩,turn⟩:=h
 refine wpAny_While (codeAny_whileLoop (λn s'=>∃ σ' H',Inv X pins σ' H' s'/\W n σ' H') ?_ m0 ⟨σ,H,I,w0⟩)
 rintro n s1 ⟨σ1,H1,I1,w1⟩
 refine wpAny_passesOwn hp (thn (hc pins s1 σ1 H1 _ I1 (turn n σ1 H1 w1)) λb s2 ⟨H2,I2,q2⟩=>?_)
 cases b with
 |
  true=>
  obtain⟨N,hN,q2⟩:=q2
  rw[if_pos rfl]
  refine wpAny_passesOwn hp (thn (hb pins s2 σ1 H2 _ I2 q2) λf s3 q3=>?_)
  cases f with
  |
   next=>
   obtain⟨σ3,H3,I3,n3⟩:=q3
   obtain⟨m',hm,w3⟩:=hN σ3 H3 n3
   exact⟨m',hm,σ3,H3,I3,w3⟩
  |
   cont=>
   obtain⟨σ3,H3,I3,n3⟩:=q3
   obtain⟨m',hm,w3⟩:=hN σ3 H3 n3
   exact⟨m',hm,σ3,H3,I3,w3⟩
  | brk=>exact q3
  | ret v=>exact q3
 |
  false=>
  rw[if_neg Bool.false_ne_true]
  exact wpAny_execs_nil ⟨σ1,H2,I2,q2⟩
end
structure It where
 go:Nat->Hp->Prop
 yld:Nat->Hp->V->Hp->Prop
 stop:Nat->Hp->Prop
def FpOk (X:Cx) (pins:List (Addr×Obj)) (H:Hp) (b:Addr):Prop:=
 H b=none/\b ≠ X.env.locals/\b ∉ X.fs/\(b ∈ X.ex\/X.s₀.heap.objs.size<=b)/\(∀ x c,X.env.cells.lookup x=some c->c ≠ b)/\∀ p ∈ X.pn++pins,p.1 ≠ b
theorem Inv.fpOk {X:Cx}{pins:List (Addr×Obj)}{σ:St}{H H':Hp}{s:Shared}{b:Addr} (I:Inv X pins σ H s) (hb:s.heap.objs.size<=b) (hn:H' b=none):FpOk X pins H' b:=by
 refine⟨hn,Nat.ne_of_gt (Nat.lt_of_lt_of_le I.lt hb),I.nofs hb,.inr (Nat.le_trans I.sz hb),λx c e z=>?_,λp hp z=>?_⟩
 ·obtain⟨v,q⟩:=I.cell x c e
  exact absurd (Nat.lt_of_lt_of_le q.lt (by rw[z];exact hb)) (Nat.lt_irrefl _)
 ·exact absurd (Nat.lt_of_lt_of_le (Heap.lt_size (I.pin p hp).1) (by rw[z];exact hb)) (Nat.lt_irrefl _)
structure Turn (P:Program) (w:World) (K:W.Frag) (tg:Expr) (J:It) (fp:List Addr) (it:Addr) (tn:Nat->Heap->Prop):Prop where
 mem:it ∈ fp
 obj:∀ i h,tn i h->∀ b ∈ fp,∃ o,h.get? b=some o/\∀ v,o.data ≠ .cell v
 keep:∀ i h h',tn i h->(∀ b ∈ fp,∀ o,h.get? b=some o->h'.get? b=some o)->tn i h'
 item:∀ (X:Cx),X.prog=P->X.w=w->X.K=K->X.calm=true->∀ (i:Nat) (pins:List (Addr×Obj)) (s:Shared) (σ:St) (H:Hp) (E:Value->Shared->Prop),Inv X pins σ H s->(∀ b ∈ fp,FpOk X pins H b)->tn i s.heap->J.go i H->
  wpAny (model P w) X.A (pyNext (.ref it)) (λr s1=>∃ u,r=some u/\
   wpAny (model P w) X.A (letOwnedTupleGo tg (.ref it) u) (λ_ s2=>∃ x H',Inv X pins σ H' s2/\RelV x u/\J.yld i H x H'/\tn (i + 1) s2.heap/\∀ b ∈ fp,H' b=none) E s1) E s
 done:∀ (X:Cx),X.prog=P->X.w=w->X.K=K->X.calm=true->∀ (i:Nat) (pins:List (Addr×Obj)) (s:Shared) (σ:St) (H:Hp) (E:Value->Shared->Prop),Inv X pins σ H s->(∀ b ∈ fp,FpOk X pins H b)->tn i s.heap->J.stop i H->
  wpAny (model P w) X.A (pyNext (.ref it)) (λr s1=>r=none/\Inv X pins σ H s1) E s
 self:∀ (A:Around) (i:Nat) (s:Shared) (Q:Value->Shared->Prop) (E:Value->Shared->Prop),tn i s.heap->Q (.ref it) s->wpAny (model P w) A (pyIter (.ref it)) Q E s
abbrev TI:=St->Hp->(It->Hp->Prop)->Prop
def PIE (X:Cx) (pins:List (Addr×Obj)) (σ:St) (tg:Expr) (R:It->Hp->Prop) (itv:Value) (s2:Shared):Prop:=
 ∃ (it:Addr) (fp:List Addr) (tn:Nat->Heap->Prop) (J:It) (H':Hp),itv=.ref it/\Inv X pins σ H' s2/\Turn X.prog X.w X.K tg J fp it tn/\tn 0 s2.heap/\(∀ b ∈ fp,FpOk X pins H' b)/\R J H'
def PI (X:Cx) (tg ad:Expr) (wi:TI):Prop:=
 ∀
  (pins:List (Addr×Obj)) (s:Shared) (σ:St) (H:Hp) (R:It->Hp->Prop),Inv X pins σ H s->wi σ H R->
  wpAny (model X.prog X.w) X.A (eval ad X.env) (λv s1=>wpAny (model X.prog X.w) X.A (pyIter v) (PIE X pins σ tg R) X.xe s1) X.xe s
theorem o9 {M:Model}{A:Around}{E:Value->Shared->Prop}{s:Shared}{tg:Expr}{it:Addr}{u:Value}{o:Obj}{n:String}{vs:Array Value}{Q:Unit->Shared->Prop} (ho:s.heap.get? it=some o) (hc:o.cls=.type n) (hd:o.data=.fields vs)
 (hn:["enumerate", "zip", "dict_itemiterator", "dict_reverseitemiterator", "odict_iterator", "itertools.zip_longest", "itertools.pairwise"].contains n=false) (hQ:Q () s):wpAny M A (letOwnedTupleGo tg (.ref it) u) Q E s:=by
 unfold letOwnedTupleGo
 cases tg
  <;> first
  | exact wpAny_pure hQ
  | (cases u <;> first
   | exact wpAny_pure hQ
   | (
    refine wpAny_bind (wpAny_load ho ?_)
    rw[hc,hd]
    show wpAny M A (if (["enumerate", "zip", "dict_itemiterator", "dict_reverseitemiterator", "odict_iterator", "itertools.zip_longest", "itertools.pairwise"].contains n && vs[0]? == some (rawInt _))=true then _ else _) Q E s
    rw[if_neg (by intro h;rw[hn,Bool.false_and] at h;cases h)]
    exact wpAny_pure hQ))
def Itl (K:W.Frag) (a:Addr):It:=
 ⟨λi H=>∃ xs x,SqL K H a xs/\xs[i]?=some x,λi H x H'=>H'=H/\∀ xs,SqL K H a xs->xs[i]?=some x,λi H=>∃ xs,SqL K H a xs/\xs.length<=i⟩
def Itt (K:W.Frag) (a:Addr):It:=
 ⟨λi H=>∃ xs x,SqT K H a xs/\xs[i]?=some x,λi H x H'=>H'=H/\∀ xs,SqT K H a xs->xs[i]?=some x,λi H=>∃ xs,SqT K H a xs/\xs.length<=i⟩
def Itr (lo:Int) (n:Nat):It:=⟨λi _=>i < n,λi H x H'=>H'=H/\x=.int (lo + i),λi _=>n<=i⟩
theorem rq {P:Program}{w:World}{K:W.Frag}{tg:Expr} (a it:Addr):Turn P w K tg (Itl K a) [it] it (λi h=>h.IsListIter it a i) where
 mem:=by simp
 obj:=λi h st b hb=>by
  have e:b=it:=by simpa using hb
  subst e
  obtain⟨o,e,c,d⟩:=st
  exact⟨o,e,λv z=>by rw[d] at z;cases z⟩
 keep:=λi h h' st k=>st.at λo e=>k it (by simp) o e
 item:=by
  intro X hP hw hK hc i pins s σ H E I hf st hg
  subst hP hw hK
  obtain⟨xs,x,hq,hx⟩:=hg
  obtain⟨its,rv,p,hz⟩:=I.list hq
  obtain⟨u,hu,ru⟩:=rv.get hx
  obtain⟨f0,f1,f2,f3,f4,f5⟩:=hf it (by simp)
  refine wpAny_pyNext_list_item st p.isList (x:=u) (by simpa using hu) λh' st' sb=>?_
  have I1:Inv X pins σ H { s with heap:=h' }:=I.turned (t':=s.toks) (λb o hb e=>(sb.2 b hb).trans e) f0 f1 f3 f4 f5
  obtain⟨o,e,c,d⟩:=id st'
  exact⟨u,rfl,o9 (s:={ s with heap:=h' }) e c d (by decide) ⟨x,H,I1,ru,⟨rfl,λys hy=>by rw[I.list_inj hy hq];exact hx⟩,st',λb hb=>(hf b hb).1⟩⟩
 done:=by
  intro X hP hw hK hc i pins s σ H E I hf st hg
  subst hP hw hK
  obtain⟨xs,hq,hx⟩:=hg
  obtain⟨its,rv,p,hz⟩:=I.list hq
  obtain⟨f0,f1,f2,f3,f4,f5⟩:=hf it (by simp)
  have hl:=rv.length
  exact wpAny_pyNext_list_end (I.ok.hd hc) st p.isList (by simp;omega) λh' eb=>⟨rfl,I.turned (t':=s.toks) (λb o hb e=>eb b o hb e) f0 f1 f3 f4 f5⟩
 self:=λ_ _ _ _ _ st h=>wpAny_pyIter_listiter st h
theorem pD {P:Program}{w:World}{K:W.Frag}{tg:Expr} (a it:Addr):Turn P w K tg (Itt K a) [it] it (λi h=>h.IsTupleIter it a i) where
 mem:=by simp
 obj:=λi h st b hb=>by
  have e:b=it:=by simpa using hb
  subst e
  obtain⟨o,e,c,d⟩:=st
  exact⟨o,e,λv z=>by rw[d] at z;cases z⟩
 keep:=λi h h' st k=>st.at λo e=>k it (by simp) o e
 item:=by
  intro X hP hw hK hc i pins s σ H E I hf st hg
  subst hP hw hK
  obtain⟨xs,x,hq,hx⟩:=hg
  obtain⟨its,rv,p,hz⟩:=I.tuple hq
  obtain⟨u,hu,ru⟩:=rv.get hx
  obtain⟨f0,f1,f2,f3,f4,f5⟩:=hf it (by simp)
  refine wpAny_pyNext_tuple_item st (show s.heap.IsTuple a its.toArray from p) (x:=u) (by simpa using hu) λh' st' sb=>?_
  have I1:Inv X pins σ H { s with heap:=h' }:=I.turned (t':=s.toks) (λb o hb e=>(sb.2 b hb).trans e) f0 f1 f3 f4 f5
  obtain⟨o,e,c,d⟩:=id st'
  exact⟨u,rfl,o9 (s:={ s with heap:=h' }) e c d (by decide) ⟨x,H,I1,ru,⟨rfl,λys hy=>by rw[I.tuple_inj hy hq];exact hx⟩,st',λb hb=>(hf b hb).1⟩⟩
 done:=by
  intro X hP hw hK hc i pins s σ H E I hf st hg
  subst hP hw hK
  obtain⟨xs,hq,hx⟩:=hg
  obtain⟨its,rv,p,hz⟩:=I.tuple hq
  obtain⟨f0,f1,f2,f3,f4,f5⟩:=hf it (by simp)
  have hl:=rv.length
  exact wpAny_pyNext_tuple_end (I.ok.hd hc) st (show s.heap.IsTuple a its.toArray from p) (by simp;omega) λh' eb=>⟨rfl,I.turned (t':=s.toks) (λb o hb e=>eb b o hb e) f0 f1 f3 f4 f5⟩
 self:=λ_ _ _ _ _ st h=>wpAny_pyIter_tupleiter st h
theorem pG {P:Program}{w:World}{K:W.Frag}{tg:Expr} (it:Addr) (lo:Int) (n:Nat):Turn P w K tg (Itr lo n) [it] it (λi h=>IsRangeIter h it (lo + (i:Nat) * 1) ((n:Int) - (i:Nat)) 1) where
 mem:=by simp
 obj
  := λi h st b hb=>by
  have e:b=it:=by simpa using hb
  subst e
  exact⟨_,st,λv z=>by
   have z':Data.fields _=Data.cell v:=z
   cases z'⟩
 keep:=λi h h' st k=>k it (by simp) _ st
 item:=by
  intro X hP hw hK hc i pins s σ H E I hf st hg
  subst hP hw hK
  obtain⟨f0,f1,f2,f3,f4,f5⟩:=hf it (by simp)
  have W:=Walks.range (prog:=X.prog) (w:=X.w) (I.ok.hd hc) it lo 1 n
  refine W.item i s _ _ hg st λv h' tk hv st' kk=>?_
  obtain⟨t,rfl⟩:=hv
  have I1:Inv X pins σ H { s with heap:=h',toks:=tk }:=I.turned (λb o hb e=>kk b o (by simpa using hb) e) f0 f1 f3 f4 f5
  refine⟨_,rfl,o9 (s:={ s with heap:=h',toks:=tk }) (n:="range_iterator") st' rfl rfl (by decide) ⟨.int (lo + i),H,I1,⟨t,?_⟩,⟨rfl,rfl⟩,st',λb hb=>(hf b hb).1⟩⟩
  rw[Int.mul_one]
 done:=by
  intro X hP hw hK hc i pins s σ H E I hf st hg
  subst hP hw hK
  obtain⟨f0,f1,f2,f3,f4,f5⟩:=hf it (by simp)
  exact wpAny_pyNext_range_end (I.ok.hd hc) st (by have:n<=i:=hg;omega) λh' eb=>⟨rfl,I.turned (t':=s.toks) (λb o hb e=>eb b o hb e) f0 f1 f3 f4 f5⟩
 self:=λ_ _ _ _ _ st h=>wpAny_pyIter_rangeiter st h
end L2
namespace L2
open PySem PySem.Spec PyProof.Rows
section
variable {X:Cx}{tg:Expr}
theorem sX {pins:List (Addr×Obj)}{σ:St}{H:Hp}{s:Shared}{R:It->Hp->Prop}{E:Value->Shared->Prop}{lo hi:Int}{t u v:Tok}{tk:Nat} (I:Inv X pins σ H s) (h1:-(2 ^ 62)<=lo) (h2:lo < 2 ^ 62) (h3:-(2 ^ 62)<=hi) (h4:hi < 2 ^ 62)
 (q:R (Itr lo (hi - lo).toNat) H):wpAny (model X.prog X.w) X.A (pyIter (.ref s.heap.objs.size)) (PIE X pins σ tg R) E { s with heap:=s.heap.push { cls:=.type "range",data:=.fields #[.int lo t,.int hi u,.int 1 v] },toks:=tk }:=by
 refine wpAny_pyIter_range (IsRange.new ..) (small_one h1 h2 h3 h4) ?_
 have I1:Inv X pins σ H { s with heap:=s.heap.push { cls:=.type "range",data:=.fields #[.int lo t,.int hi u,.int 1 v] },toks:=tk }:=I.kept λb o e=>Heap.get?_push_of_some _ e
 refine⟨(s.heap.push { cls:=.type "range",data:=.fields #[.int lo t,.int hi u,.int 1 v] }).objs.size,[(s.heap.push { cls:=.type "range",data:=.fields #[.int lo t,.int hi u,.int 1 v] }).objs.size],_,_,H,rfl,
  I1.kept (t':=tk) λb o e=>Heap.get?_push_of_some _ e,pG _ lo (hi - lo).toNat,?_,λb hb=>?_,q⟩
 ·have e1:lo + ((0:Nat):Int) * 1=lo:=by simp
  have e2:(((hi - lo).toNat:Nat):Int) - ((0:Nat):Int)=Builtin.Range.rangeSize lo hi 1:=by rw[rangeSize_one];split <;> omega
  show IsRangeIter _ _ (lo + ((0:Nat):Int) * 1) ((((hi - lo).toNat:Nat):Int) - ((0:Nat):Int)) 1
  rw[e1,e2]
  exact Heap.get?_push_size _ rfl
 ·have e:b=(s.heap.push { cls:=.type "range",data:=.fields #[.int lo t,.int hi u,.int 1 v] }).objs.size:=by simpa using hb
  subst e
  exact I1.fpOk (Nat.le_refl _) (I1.hok.fresh (Nat.le_refl _))
def B6 (ta:TA):TI:=λσ H R=>ta σ H λvs H1=>∃ j:Int,vs=[.int j]/\-(2 ^ 62)<=j/\j < 2 ^ 62/\R (Itr 0 j.toNat) H1
theorem rK {a:Expr}{ta:TA}{p pos:Pos} (hg:Gl X "range") (hm:X.mg "range"=none) (ha:PA X [a] ta) (hs:starEach [a] X.env=[(false,eval a X.env)]:=by rfl):PI X tg (.Call (.Name "range" p) [a] [] pos) (B6 ta):=by
 intro pins s σ H R I h
 refine Call_ (gM I hg hm boot_range (PyProof.Rows.callWith_type1 (thn (ha pos pins s σ H _ I h) λus s1 ⟨vs,H1,I1,r1,q1⟩=>?_) hs rfl))
 obtain⟨j,e,q1,q2,q⟩:=q1
 subst e
 cases r1 with
 |
  cons r rr=>
  cases rr
  obtain⟨t,rfl⟩:=r
  exact call_range_1 (sX I1 (by omega) (by omega) q1 q2 (by simpa using q))
def tFor (wi:TI) (g:TG) (tb:TS):TS:=λD σ H=>wi σ H λJ H1=>∃ W:Nat->Nat->St->Hp->Prop,(∃ m,W 0 m σ H1)/\∀ i m σ H,W i m σ H->
 (J.stop i H/\D.nx σ H)\/(J.go i H/\∃ N:St->Hp->Prop,(∀ σ' H',N σ' H'->∃ m',m' < m/\W (i + 1) m' σ' H')/\∀ x H',J.yld i H x H'->g x σ H' λσ2 H2=>tb { D with nx:=N,ct:=N,bk:=D.nx } σ2 H2)
def fM (fp:List Addr) (h:Heap):List (Addr×Obj):=fp.filterMap λb=>(h.get? b).map λo=>(b,o)
theorem cP {fp:List Addr}{h:Heap}{b:Addr}{o:Obj} (hb:b ∈ fp) (e:h.get? b=some o):(b,o) ∈ fM fp h:=List.mem_filterMap.mpr ⟨b,hb,by rw[e];rfl⟩
theorem qE {fp:List Addr}{h:Heap}{p:Addr×Obj} (hp:p ∈ fM fp h):p.1 ∈ fp/\h.get? p.1=some p.2:=by
 obtain⟨b,hb,e⟩:=List.mem_filterMap.mp hp
 cases q:h.get? b with
 | none=>rw[q] at e;cases e
 |
  some o=>
  rw[q] at e
  have e':(b,o)=p:=Option.some.inj e
  subst e'
  exact⟨hb,q⟩
theorem Inv.pinned {pins:List (Addr×Obj)}{σ:St}{H:Hp}{s:Shared}{fp:List Addr} (I:Inv X pins σ H s) (hf:∀ b ∈ fp,FpOk X pins H b) (ho:∀ b ∈ fp,∃ o,s.heap.get? b=some o/\∀ v,o.data ≠ .cell v):Inv X (pins++fM fp s.heap) σ H s:=
 I.pins_of λp hp=>(List.mem_append.mp hp).elim (λz=>I.pin p (List.mem_append_right _ z)) λz=>by
  obtain⟨hb,e⟩:=qE z
  obtain⟨f0,f1,f2,_⟩:=hf p.1 hb
  obtain⟨o,e',d⟩:=ho p.1 hb
  rw[e] at e';cases e'
  exact⟨e,f0,f1,f2,d⟩
theorem Inv.unpinned {pins pl:List (Addr×Obj)}{σ:St}{H:Hp}{s:Shared} (I:Inv X (pins++pl) σ H s):Inv X pins σ H s:=I.pins_of λp hp=>I.pin p (List.mem_append_right _ (List.mem_append_left _ hp))
theorem AF {ad:Expr}{body:List Stmt}{wi:TI}{g:TG}{tb:TS}{pos:Pos} (hp:PassesOwn (model X.prog X.w) X.A X.env X.xe) (hc:X.calm=true) (hi:PI X tg ad wi) (hg:PG X tg g) (hb:PSs X body tb)
 (hs:∀ x,foldedSetIterable ad X.env x=pure x:=by intro _;rfl):PS X (.For tg ad body [] pos) (tFor wi g tb):=by
 intro pins s σ H D I h
 refine wpAny_For (thn (hi pins s σ H _ I h) λv s1 h1=>thn h1 λitv s2 h2=>?_) hs
 obtain⟨it,fp,tn,J,H2,e,I2,T,st2,f2,W,⟨m0,w0⟩,turn⟩:=h2
 subst e
 have stat:∀ {H':Hp},(∀ b ∈ fp,H' b=none)->∀ b ∈ fp,FpOk X pins H' b:=λhn b hb=>⟨hn b hb,(f2 b hb).2⟩
 refine codeAny_forLoop_any (λn s'=>∃ i σ' H',Inv X pins σ' H' s'/\tn i s'.heap/\(∀ b ∈ fp,H' b=none)/\W i n σ' H') ?_ m0 ⟨0,σ,H2,I2,st2,λb hb=>(f2 b hb).1,w0⟩
 rintro n s3 ⟨i,σ3,H3,I3,st3,fr3,w3⟩
 rcases turn i n σ3 H3 w3 with ⟨stop,qn⟩ | ⟨go,N,hN,step⟩
 ·refine wpAny_passesOwn hp (thn (T.done X rfl rfl rfl hc i pins s3 σ3 H3 X.xe I3 (stat fr3) st3 stop) λr s4 ⟨hr,I4⟩=>?_)
  subst hr
  exact wpAny_execs_nil ⟨σ3,H3,I4,qn⟩
 ·refine wpAny_passesOwn hp (thn (T.item X rfl rfl rfl hc i pins s3 σ3 H3 X.xe I3 (stat fr3) st3 go) λr s4 ⟨u,hr,h4⟩=>?_)
  subst hr
  refine wpAny_passesOwn hp (thn h4 λ_ s5 ⟨x,H5,I5,r5,y5,st5,fr5⟩=>?_)
  have I5':=I5.pinned (stat fr5) (T.obj _ _ st5)
  refine wpAny_passesOwn hp (thn (hg _ s5 σ3 H5 x u _ I5' r5 (step x H5 y5)) λ_ s6 ⟨σ6,H6,I6,q6⟩=>?_)
  refine wpAny_passesOwn hp (thn (hb _ s6 σ6 H6 _ I6 q6) λf s7 q7=>?_)
  have again:∀ {σ7:St}{H7:Hp},Inv X (pins++fM fp s5.heap) σ7 H7 s7->N σ7 H7->∃ m,m < n/\∃ i σ' H',Inv X pins σ' H' s7/\tn i s7.heap/\(∀ b ∈ fp,H' b=none)/\W i m σ' H':=λ{σ7 H7} I7 n7=>by
   obtain⟨m',hm,w7⟩:=hN σ7 H7 n7
   refine⟨m',hm,i + 1,σ7,H7,I7.unpinned,T.keep _ _ _ st5 λb hb o e=>(I7.pin (b,o) (List.mem_append_right _ (List.mem_append_right _ (cP hb e)))).1,λb hb=>?_,w7⟩
   obtain⟨o,e,d⟩:=T.obj _ _ st5 b hb
   exact (I7.pin (b,o) (List.mem_append_right _ (List.mem_append_right _ (cP hb e)))).2.1
  cases f with
  | next=>obtain⟨σ7,H7,I7,n7⟩:=q7;exact again I7 n7
  | cont=>obtain⟨σ7,H7,I7,n7⟩:=q7;exact again I7 n7
  | brk=>obtain⟨σ7,H7,I7,q7⟩:=q7;exact⟨σ7,H7,I7.unpinned,q7⟩
  | ret v=>obtain⟨x7,σ7,H7,I7,r7,q7⟩:=q7;exact⟨x7,σ7,H7,I7.unpinned,r7,q7⟩
end
end L2
namespace L2
open PySem PySem.Spec PyProof.Rows
abbrev R2:=V->V->Hp->VK->Prop
def OpR (X:Cx) (f:Value->Value->Sem Value) (r:R2):Prop:=
 ∀
  (pins:List (Addr×Obj)) (s:Shared) (σ:St) (H:Hp) (x y:V) (v u:Value) (Q:VK),Inv X pins σ H s->RelV x v->RelV y u->r x y H Q->
  wpAny (model X.prog X.w) X.A (f v u) (EP X pins σ Q) X.xe s
def CallR (X:Cx) (f:Value) (r:List V->Hp->VK->Prop):Prop:=
 ∀
  (pins:List (Addr×Obj)) (s:Shared) (σ:St) (H:Hp) (xs:List V) (us:List Value) (Q:VK),Inv X pins σ H s->Vals xs us->r xs H Q->
  wpAny (model X.prog X.w) X.A (call f us) (EP X pins σ Q) X.xe s
def TruR (X:Cx) (r:V->Hp->(Bool->Hp->Prop)->Prop):Prop:=
 ∀
  (pins:List (Addr×Obj)) (s:Shared) (σ:St) (H:Hp) (x:V) (v:Value) (Q:Bool->Hp->Prop),Inv X pins σ H s->RelV x v->r x H Q->
  wpAny (model X.prog X.w) X.A (truthy v) (TP X pins σ Q) X.xe s
def tOp (r:R2) (ta tb:TE):TE:=λσ H Q=>ta σ H λx H1=>tb σ H1 λy H2=>r x y H2 Q
def rI (C:Int->Int->Prop) (g:Int->Int->V):R2:=λx y H Q=>∃ i j,x=.int i/\y=.int j/\C i j/\Q (g i j) H
def rI0 (g:Int->Int->V):R2:=λx y H Q=>∃ i j,x=.int i/\y=.int j/\Q (g i j) H
section
variable {X:Cx}{a b c:Expr}{ta tb tc:TE}{pos:Pos}
theorem tG (ha:PE X a ta) (hb:PE X b tb) {pins:List (Addr×Obj)}{s:Shared}{σ:St}{H:Hp}{R:V->V->Hp->Prop} (I:Inv X pins σ H s)
 (h:ta σ H λx H1=>tb σ H1 λy H2=>R x y H2) {Q:Value->Shared->Prop}{f:Value->Value->Sem Value}
 (hf:∀ v u s2 x y H2,Inv X pins σ H2 s2->RelV x v->RelV y u->R x y H2->wpAny (model X.prog X.w) X.A (f v u) Q X.xe s2):
 wpAny (model X.prog X.w) X.A (eval a X.env) (λv s₁=>wpAny (model X.prog X.w) X.A (eval b X.env) (λu s₂=>wpAny (model X.prog X.w) X.A (f v u) Q X.xe s₂) X.xe s₁) X.xe s:=by
 refine thn (ha pins s σ H _ I h) λv s1 ⟨x,H1,I1,r1,q1⟩=>?_
 refine thn (hb pins s1 σ H1 _ I1 q1) λu s2 ⟨y,H2,I2,r2,q2⟩=>?_
 exact hf v u s2 x y H2 I2 r1 r2 q2
theorem Dm {op:Operator}{r:R2} (ho:OpR X (binaryOp op) r) (ha:PE X a ta) (hb:PE X b tb):PE X (.BinOp a op b pos) (tOp r ta tb):=by
 intro pins s σ H Q I h
 exact wpAny_BinOp (tG ha hb I h λv u s2 x y H2 I2 rx ry q=>ho pins s2 σ H2 x y v u Q I2 rx ry q)
theorem opI {f:Value->Value->Sem Value}{C:Int->Int->Prop}{g:Int->Int->Int}
 (rule:∀ (i j:Int) (t u:Tok) (s:Shared) (Q:Value->Shared->Prop) (E:Value->Shared->Prop),C i j->Q (.int (g i j) s.toks) { s with toks:=s.toks + 1 }->wpAny (model X.prog X.w) X.A (f (.int i t) (.int j u)) Q E s):
 OpR X f (rI C λi j=>.int (g i j)):=by
 intro pins s σ H x y v u Q I rx ry h
 obtain⟨i,j,rfl,rfl,hc,q⟩:=h
 obtain⟨t,rfl⟩:=rx
 obtain⟨t',rfl⟩:=ry
 exact rule i j t t' s _ _ hc ⟨.int (g i j),H,I.tok _,⟨_,rfl⟩,q⟩
theorem opI0 {f:Value->Value->Sem Value}{g:Int->Int->Int}
 (rule:∀ (i j:Int) (t u:Tok) (s:Shared) (Q:Value->Shared->Prop) (E:Value->Shared->Prop),Q (.int (g i j) s.toks) { s with toks:=s.toks + 1 }->wpAny (model X.prog X.w) X.A (f (.int i t) (.int j u)) Q E s):
 OpR X f (rI0 λi j=>.int (g i j)):=by
 intro pins s σ H x y v u Q I rx ry h
 obtain⟨i,j,rfl,rfl,q⟩:=h
 obtain⟨t,rfl⟩:=rx
 obtain⟨t',rfl⟩:=ry
 exact rule i j t t' s _ _ ⟨.int (g i j),H,I.tok _,⟨_,rfl⟩,q⟩
theorem uZ {f:Value->Value->Sem Value}{g:Int->Int->Bool}
 (rule:∀ (i j:Int) (t u:Tok) (s:Shared) (Q:Value->Shared->Prop) (E:Value->Shared->Prop),Q (.bool (g i j)) s->wpAny (model X.prog X.w) X.A (f (.int i t) (.int j u)) Q E s):
 OpR X f (rI0 λi j=>.bl (g i j)):=by
 intro pins s σ H x y v u Q I rx ry h
 obtain⟨i,j,rfl,rfl,q⟩:=h
 obtain⟨t,rfl⟩:=rx
 obtain⟨t',rfl⟩:=ry
 exact rule i j t t' s _ _ ⟨.bl (g i j),H,I,rfl,q⟩
def j7 (i j:Int):Prop:=0<=j/\j<=1000000/\i.natAbs < 2 ^ 64
def CMul (i j:Int):Prop:=(-(2 ^ 64) < i/\i < 2 ^ 64)\/(-(2 ^ 64) < j/\j < 2 ^ 64)
theorem CMul.ok {i j:Int} (h:CMul i j):IntMulOk i j:=by
 rcases h with ⟨h1,h2⟩ | ⟨h1,h2⟩
 ·exact .of_left (intBits_le_64 h1 h2)
 ·exact .of_right (intBits_le_64 h1 h2)
theorem Bj:OpR X (binaryOp .Add) (rI0 λi j=>.int (i + j)):=opI0 λ_ _ _ _ _ _ _ q=>add_int q
theorem Al:OpR X (binaryOp .Sub) (rI0 λi j=>.int (i - j)):=opI0 λ_ _ _ _ _ _ _ q=>sub_int q
theorem A9:OpR X (binaryOp .Mult) (rI CMul λi j=>.int (i * j)):=opI λ_ _ _ _ _ _ _ hc q=>mul_int q hc.ok
theorem cA:OpR X (binaryOp .Mod) (rI (λ_ j=>j ≠ 0) λi j=>.int (i.fmod j)):=opI λ_ _ _ _ _ _ _ hc q=>mod_int' hc q
theorem r9:OpR X (binaryOp .Pow) (rI j7 λi j=>.int (i ^ j.toNat)):=opI λ_ _ _ _ _ _ _ hc q=>pow_int_small hc.1 hc.2.1 hc.2.2 q
end
section
variable {X:Cx}{a b c:Expr}{ta tb tc:TE}{pos:Pos}
theorem jk {pins:List (Addr×Obj)}{σ:St}{H:Hp}{s:Shared}{Q:VK}{k k':Bool} (I:Inv X pins σ H s) (q:Q (.bl k) H) (e:k=k'):EP X pins σ Q (.bool k') s:=by
 subst e
 exact⟨.bl k,H,I,rfl,q⟩
theorem vg:OpR X (compareOp .Lt) (rI0 λi j=>.bl (decide (i < j))):=uZ λ_ _ _ _ _ _ _ q=>lt_int q
theorem B8:OpR X (compareOp .Gt) (rI0 λi j=>.bl (decide (j < i))):=uZ λ_ _ _ _ _ _ _ q=>gt_int q
theorem Cb:OpR X (compareOp .GtE) (rI0 λi j=>.bl (decide (j<=i))):=uZ λ_ _ _ _ _ _ _ q=>ge_int q
theorem rD:OpR X (compareOp .Is) (λx y H Q=>y=.non/\Q (.bl (decide (x=.non))) H):=by
 intro pins s σ H x y v u Q I rx ry h
 obtain⟨rfl,q⟩:=h
 cases ry
 refine is_none_gen (jk I q ?_)
 cases x <;> first
  | (cases rx;rfl)
  | (obtain⟨t,rfl⟩:=rx;rfl)
theorem xp:OpR X (compareOp .IsNot) (λx y H Q=>y=.non/\Q (.bl (!decide (x=.non))) H):=by
 intro pins s σ H x y v u Q I rx ry h
 obtain⟨rfl,q⟩:=h
 cases ry
 refine isnot_none_gen (jk I q ?_)
 cases x <;> first
  | (cases rx;rfl)
  | (obtain⟨t,rfl⟩:=rx;rfl)
theorem OpR.or {f:Value->Value->Sem Value}{r r':R2} (h:OpR X f r) (h':OpR X f r'):OpR X f (λx y H Q=>r x y H Q\/r' x y H Q):=by
 intro pins s σ H x y v u Q I rx ry q
 rcases q with q | q
 ·exact h pins s σ H x y v u Q I rx ry q
 ·exact h' pins s σ H x y v u Q I rx ry q
theorem bc (b:Expr) {op:CmpOp} (h:op ≠ .In:=by decide) (h2:op ≠ .NotIn:=by decide):behindInMarks op b=false:=by
 have e1:(op == CmpOp.In)=false:=by cases op <;> first | rfl | exact absurd rfl h
 have e2:(op == CmpOp.NotIn)=false:=by cases op <;> first | rfl | exact absurd rfl h2
 cases b <;> simp [behindInMarks,e1,e2]
theorem wa {op:CmpOp}{r:R2} (ho:OpR X (compareOp op) r) (ha:PE X a ta) (hb:PE X b tb) (hm:behindInMarks op b=false):PE X (.Compare a [op] [b] pos) (tOp r ta tb):=by
 intro pins s σ H Q I h
 exact wpAny_Compare1 (tG ha hb I h λv u s2 x y H2 I2 rx ry q=>ho pins s2 σ H2 x y v u Q I2 rx ry q) hm
def BH (t:TE):TT:=λσ H Q=>t σ H λx H'=>∃ k,x=.bl k/\Q k H'
theorem yh {op:CmpOp}{r:R2} (ho:OpR X (compareOp op) r) (ha:PE X a ta) (hb:PE X b tb) (hm:behindInMarks op b=false):PT X (.Compare a [op] [b] pos) (BH (tOp r ta tb)):=by
 intro pins s σ H Q I h
 refine wpAny_isTrue_Compare1 (thn (ha pins s σ H _ I h) λv s1 ⟨x,H1,I1,r1,q1⟩=>thn (hb pins s1 σ H1 _ I1 q1) λu s2 ⟨y,H2,I2,r2,q2⟩=>
  thn (ho pins s2 σ H2 x y v u _ I2 r1 r2 q2) λc s3 ⟨z,H3,I3,r3,k,e,q3⟩=>?_) hm
 subst e
 cases r3
 exact wpAny_truthy_bool ⟨H3,I3,q3⟩
def uK (K:W.Frag) (x:V) (H:Hp) (k:Bool):Prop:=
 match x with
 | .non=>k=false
 | .bl b=>k=b
 | .int i=>k=(i != 0)
 | .str y=>y.length<=sizeLine/\k=((y.length:Int) != 0)
 | .byt y=>y.size<=sizeLine/\k=((y.size:Int) != 0)
 | .ref p=>(∃ xs,SqL K H p xs/\k=!xs.isEmpty)\/(∃ xs,SqT K H p xs/\k=!xs.isEmpty)\/∃ kvs,H p=some (.dK kvs)/\k=!kvs.isEmpty
 | _=>False
theorem oy {κ:Type}{kvs:List (κ×V)}{vs:List (κ×Value)} (r:KV kvs vs):(!vs.isEmpty)=!kvs.isEmpty:=by
 cases r <;> rfl
theorem jo {xs:List V}{its:List Value} (r:Vals xs its):(!its.toArray.isEmpty)=!xs.isEmpty:=by
 cases r <;> simp
theorem d7:(sizeLine:Nat) < 2 ^ 63:=by rw[sizeLine_eq];decide
theorem AS:TruR X (λx H Q=>∃ k,uK X.K x H k/\Q k H):=by
 intro pins s σ H x v Q I rx h
 obtain⟨k,e,q⟩:=h
 have hl:=d7
 have hs:sizeLine=16777216:=sizeLine_eq
 cases x with
 |
  non=>
  cases rx
  have e':k=false:=e
  subst e'
  exact truthy_none ⟨H,I,q⟩
 |
  bl b=>
  cases rx
  have e':k=b:=e
  subst e'
  exact wpAny_truthy_bool ⟨H,I,q⟩
 |
  int i=>
  obtain⟨t,rfl⟩:=rx
  have e':k=(i != 0):=e
  subst e'
  exact PySem.P.truthy_int ⟨H,I,q⟩
 |
  str y=>
  obtain⟨t,rfl⟩:=rx
  obtain⟨hy,e'⟩:y.length<=sizeLine/\k=((y.length:Int) != 0):=e
  subst e'
  exact PySem.P.truthy_str (by omega) ⟨H,I.tok _,q⟩
 |
  byt y=>
  obtain⟨t,rfl⟩:=rx
  obtain⟨hy,e'⟩:y.size<=sizeLine/\k=((y.size:Int) != 0):=e
  subst e'
  exact W.truthy_bytes (by omega) ⟨H,I.tok _,q⟩
 |
  ref p=>
  cases rx
  have e':(∃ xs,SqL X.K H p xs/\k=!xs.isEmpty)\/(∃ xs,SqT X.K H p xs/\k=!xs.isEmpty)\/∃ kvs,H p=some (.dK kvs)/\k=!kvs.isEmpty:=e
  rcases e' with ⟨xs,hx,e'⟩ | ⟨xs,hx,e'⟩ | ⟨kvs,hx,e'⟩
  ·subst e'
   obtain⟨its,r,pl,hz⟩:=I.list hx
   have hlen:=r.length
   exact wpAny_truthy_list pl.isList (by simp only[List.size_toArray];omega) ⟨H,I.tok _,by rw[jo r];exact q⟩
  ·subst e'
   obtain⟨its,r,pl,hz⟩:=I.tuple hx
   have hlen:=r.length
   exact truthy_tuple pl (by simp only[List.size_toArray];omega) ⟨H,I.tok _,by rw[jo r];exact q⟩
  ·subst e'
   obtain⟨hz,hS,vs,r,m⟩:kvs.length<=sizeLine/\(p == sysModules)=false/\∃ vs,KV kvs vs/\s.heap.DictOf (bh X.prog X.w) p vs:=I.hok p _ hx
   have hlen:kvs.length=vs.length:=Paired.length r
   exact wpAny_truthy_dict hS m (by omega) ⟨H,I.tok _,by rw[oy r];exact q⟩
 | _=>exact (show False from e).elim
theorem uv (ha:PE X a ta) (he:∀ bi,isTrue a X.env bi=(do let v <- bi;standAt a.pos;holding [v] (truthy v))):
 PT X a (λσ H Q=>ta σ H λx H'=>∃ k,uK X.K x H' k/\Q k H'):=by
 intro pins s σ H Q I h
 exact isTrue_plain (thn (ha pins s σ H _ I h) λv s1 ⟨x,H1,I1,r1,q1⟩=>AS pins s1 σ H1 x v Q I1 r1 q1) (he _)
theorem jG {x:V}{us:List Value} (r:Vals [x] us):∃ u,us=[u]/\RelV x u:=by
 cases r with
 | cons r1 r2=>cases r2;exact⟨_,rfl,r1⟩
theorem iA {x y:V}{us:List Value} (r:Vals [x,y] us):∃ u w',us=[u,w']/\RelV x u/\RelV y w':=by
 cases r with
 |
  cons r1 r2=>
  cases r2 with
  | cons r3 r4=>cases r4;exact⟨_,_,rfl,r1,r3⟩
theorem rl (hc:X.calm=true):CallR X (.builtin "max") (λxs H Q=>∃ i j,xs=[.int i,.int j]/\Q (.int (if j > i then j else i)) H):=by
 intro pins s σ H xs us Q I r h
 obtain⟨i,j,rfl,q⟩:=h
 obtain⟨u,w',rfl,⟨t,rfl⟩,⟨t',rfl⟩⟩:=iA r
 refine max_two_ints (I.ok.hd hc) λh' tk k=>⟨_,H,I.kept k,?_,q⟩
 by_cases hj:j > i
 ·rw[if_pos hj,if_pos hj];exact⟨_,rfl⟩
 ·rw[if_neg hj,if_neg hj];exact⟨_,rfl⟩
theorem ky (hc:X.calm=true):CallR X (.builtin "min") (λxs H Q=>∃ i j,xs=[.int i,.int j]/\Q (.int (if j < i then j else i)) H):=by
 intro pins s σ H xs us Q I r h
 obtain⟨i,j,rfl,q⟩:=h
 obtain⟨u,w',rfl,⟨t,rfl⟩,⟨t',rfl⟩⟩:=iA r
 refine min_two_ints (I.ok.hd hc) λh' tk k=>⟨_,H,I.kept k,?_,q⟩
 by_cases hj:j < i
 ·rw[if_pos hj,if_pos hj];exact⟨_,rfl⟩
 ·rw[if_neg hj,if_neg hj];exact⟨_,rfl⟩
theorem ko:CallR X (.type "int") (λxs H Q=>(∃ i,xs=[.int i]/\Q (.int i) H)\/∃ k,xs=[.bl k]/\Q (.int (if k then 1 else 0)) H):=by
 intro pins s σ H xs us Q I r h
 rcases h with ⟨i,rfl,q⟩ | ⟨k,rfl,q⟩
 ·obtain⟨u,rfl,t,rfl⟩:=jG r
  exact call_int_int ⟨.int i,H,I,⟨_,rfl⟩,q⟩
 ·obtain⟨u,rfl,r1⟩:=jG r
  cases r1
  exact call_int_bool ⟨.int (if k then 1 else 0),H,I.tok _,⟨_,rfl⟩,q⟩
end
end L2
namespace L2
open PySem PySem.Spec PyProof.Rows
structure ObjM (h:Heap) (x dx C:Addr) (mA:Str->Option Value):Prop where
 obj:h.get? x=some (W.instObj C dx)
 ns:h.Ns1 dx mA
 ne:dx ≠ x
theorem qr {h:Heap}{dx:Addr}{mA:Str->Option Value} (n:h.Ns1 dx mA):∃ od,h.get? dx=some od/\∀ name,W.lookIn name od=some (mA name):=by
 obtain⟨o,es,ep,ho,hd,hk,_,hm⟩:=n
 refine⟨o,ho,λname=>?_⟩
 have e:=hm name
 unfold nsFind findBy at e
 rw[<- Array.find?_toList] at e
 unfold W.lookIn
 rw[hd]
 dsimp only
 split
 ·rename_i y q
  rw[q] at e
  exact congrArg some e
 ·rename_i q
  rw[q] at e
  have a:es.toList.any (·.refKey)=false:=by
   rw[List.any_eq_false]
   intro y hy
   obtain⟨z,t,hkey⟩:=hk y (Array.mem_toList_iff.mp hy)
   simp [DictEntry.refKey,hkey]
  have a':¬ es.toList.any (·.refKey)=true:=by rw[a];exact Bool.false_ne_true
  rw[if_neg a']
  exact congrArg some e
theorem ObjM.look {h:Heap}{x dx C:Addr}{mA:Str->Option Value} (I:ObjM h x dx C mA):∃ od,W.InstAt h x (W.instObj C dx) C (some od)/\∀ name,W.lookIn name od=some (mA name):=
 let ⟨od,ho,hl⟩:=qr I.ns
 ⟨od,⟨I.obj,rfl,rfl,ho⟩,hl⟩
section
variable {prog:Program}{w:World}{A:Around}{E:Value->Shared->Prop}{s:Shared}{K:W.Frag}{x dx C f:Addr}{mA:Str->Option Value}{name:Str}{v:Value}
end
theorem RelO.some_of {v:V}{o:Option Value} (r:RelO (some v) o):∃ u,o=some u/\RelV v u:=by
 cases o with
 | none=>exact (show False from r).elim
 | some u=>exact⟨u,rfl,r⟩
section
variable {P:Program}{w:World}{H H':Hp}{h h':Heap}{a C dx:Addr}{fs fs':List (Str×V)}
theorem wD (hok:HOk P w H h) (e:H a=some (.ins C dx fs)):∃ mA,ObjM h a dx C mA/\(∀ f,RelO (fs.lookup f) (mA f))/\PySem.Within mA (fs.map (·.1))/\fs.length<=1000/\H dx=some (.own a):=by
 obtain⟨d,z,ne,ob,mA,n,r,q⟩:=(show ObjOk P w H h a (.ins C dx fs) from hok a _ e)
 exact⟨mA,⟨ob,n,ne⟩,r,q,z,d⟩
end
structure Cls (K:W.Frag) (C:Addr):Prop where
 pg:W.plainGet K C Str.empty=true
 hd:W.hasDictIn K C=true
 po:W.plainOver K C=true
 sa:W.findIn K (.ref C) "__setattr__"=some (some (.builtin "object.__setattr__"))
theorem Cls.get {K:W.Frag}{C:Addr} (c:Cls K C) (f:Str):W.plainGet K C f=true:=c.pg
structure Con (K:W.Frag) (C:Addr) (f:Str) (v:V) (u:Value):Prop where
 at_:W.findIn K (.ref C) f=some (some u)
 rel:RelV v u
 get:W.specialIn K u "__get__"=some none
 cp:W.copiedNames.contains f=false
structure Meth (K:W.Frag) (C:Addr) (m:Str) (f:Addr):Prop where
 at_:W.findIn K (.ref C) m=some (some (.ref f))
 fn:W.isFn K (.ref f)=true
 kp:W.keepIn K (.ref f)=true
section
variable {X:Cx}{pins:List (Addr×Obj)}{σ:St}{H:Hp}{s:Shared}{a C dx:Addr}{fs:List (Str×V)}{f:Str}{v:V}{A:Around}{E:Value->Shared->Prop}
end
section
variable {X:Cx}{o e value:Expr}{f:Str}{pos pos' tpos:Pos}{ta tv:TE}
end
section
variable {X:Cx}{pins:List (Addr×Obj)}{σ:St}{H:Hp}{s:Shared}{A:Around}{E:Value->Shared->Prop}{Q:Value->Shared->Prop}{c:Value}{b:Bool}
inductive TyOf (K:W.Frag) (H:Hp):V->Value->Prop where
 | non:TyOf K H .non (.type "NoneType")
 | bl (x:Bool):TyOf K H (.bl x) (.type "bool")
 | int (i:Int):TyOf K H (.int i) (.type "int")
 | str (x:Str):TyOf K H (.str x) (.type "str")
 | flt (x:UInt64):TyOf K H (.flt x) (.type "float")
 | lst {a:Addr}{xs:List V} (e:H a=some (.lst xs)):TyOf K H (.ref a) (.type "list")
 | frz {a:Addr}{o:Obj}{xs:List V} (e:H a=some (.frz o (.lst xs))):TyOf K H (.ref a) (.type "list")
 | tup {a:Addr}{xs:List V} (e:H a=some (.tup xs)):TyOf K H (.ref a) (.type "tuple")
 | dK {a:Addr}{kvs:List (Key×V)} (e:H a=some (.dK kvs)):TyOf K H (.ref a) (.type "dict")
 | dT {a:Addr}{kvs:List (List Key×V)} (e:H a=some (.dT kvs)):TyOf K H (.ref a) (.type "dict")
 | ins {a C dx:Addr}{fs:List (Str×V)} (e:H a=some (.ins C dx fs)) (cl:Cls K C) (ha:W.findIn K (.ref C) "__class__"=some (some (.builtin "object.__class__")))
  (hn:W.specialIn K (.builtin "object.__class__") "__get__"=some (some (.builtin "getset_descriptor.__get__"))) (htk:W.takesIn K (.builtin "object.__class__")=some true)
  (hm:W.mroIn K C (.type "object")=some true):TyOf K H (.ref a) (.ref C)
end
end L2
namespace L2
open PySem PySem.Spec PyProof.Rows
structure Room (k:Nat) (A:Around):Prop where
 hd:A.handled=none
 dp:A.depth + 3 * k + 5 < recursionLimit
 un:A.units + 16 * k + 200 < cLine
theorem Room.mono {j k:Nat}{A:Around} (r:Room k A) (h:j<=k):Room j A:=⟨r.hd,by have:=r.dp;omega,by have:=r.un;omega⟩
theorem Room.deeper {k:Nat}{A:Around} (r:Room (k + 1) A) (env:Env):Room k (A.deeper env):=
 ⟨r.hd,by have:=r.dp;show A.depth + 1 + 3 * k + 5 < _;omega,by have:=r.un;show A.units + 3 + 16 * k + 200 < _;omega⟩
theorem Room.depth {k:Nat}{A:Around} (r:Room k A):A.depth < recursionLimit:=by have:=r.dp;omega
theorem Room.units {k:Nat}{A:Around} (r:Room k A):A.units + 64 < cLine:=by have:=r.un;omega
def tNil:TA:=λ_ H Q=>Q [] H
def CY (ta:TE) (tr:TA):TA:=λσ H Q=>ta σ H λx H1=>tr σ H1 λxs H2=>Q (x :: xs) H2
section
variable {X:Cx}{e:Expr}{es:List Expr}{te:TE}{t:TA}{pos:Pos}
theorem An:PA X [] tNil:=λ_ _ _ _ H Q I h=>Calls.spliced_nil ⟨[],H,I,.nil,h⟩
theorem xA (ha:PE X e te) (hr:PA X es t) (hs:starEach (e :: es) X.env=(false,eval e X.env) :: starEach es X.env:=by rfl):PA X (e :: es) (CY te t):=by
 intro pos pins s σ H Q I h
 rw[hs]
 show wpAny _ _ (spliced ((false,eval e X.env) :: backTo pos (starEach es X.env))) _ _ s
 refine Calls.spliced_cons (thn (ha pins s σ H _ I h) λu s1 ⟨x,H1,I1,r1,q1⟩=>?_)
 exact thn (hr pos pins s1 σ H1 _ I1 q1) λus s2 ⟨xs,H2,I2,r2,q2⟩=>⟨x :: xs,H2,I2,.cons r1 r2,q2⟩
def tTup (t:TA):TE:=λσ H Q=>t σ H λxs H1=>xs.length<=sizeLine/\∀ p,H1 p=none->Q (.ref p) (upd H1 p (.tup xs))
def tLst (t:TA):TE:=λσ H Q=>t σ H λxs H1=>xs.length<=sizeLine/\∀ p,H1 p=none->Q (.ref p) (upd H1 p (.lst xs))
theorem Ax {x1} (h:PA X es t):PE X (.Tuple es x1 pos) (tTup t):=by
 intro pins s σ H Q I hq
 refine wpAny_Tuple_spliced (thn (h pos pins s σ H _ I hq) λus s1 ⟨xs,H1,I1,r,z,q⟩=>⟨by rw[<- r.length];exact z,?_⟩)
 have hf:H1 s1.heap.objs.size=none:=I1.hok.fresh (Nat.le_refl _)
 refine⟨.ref s1.heap.objs.size,upd H1 s1.heap.objs.size (.tup xs),I1.laid (t':=s1.toks) (λb u e=>Heap.get?_push_of_some _ e) (Nat.le_refl _) ?_,rfl,q _ hf⟩
 exact⟨z,us,r,⟨_,Heap.get?_push_size _ rfl,rfl,_,rfl⟩⟩
theorem zE (h:PA X es t):PE X (.List es pos) (tLst t):=by
 intro pins s σ H Q I hq
 refine wpAny_List_spliced (thn (h pos pins s σ H _ I hq) λus s1 ⟨xs,H1,I1,r,z,q⟩=>⟨by rw[<- r.length];exact z,?_⟩)
 have hf:H1 s1.heap.objs.size=none:=I1.hok.fresh (Nat.le_refl _)
 refine⟨.ref s1.heap.objs.size,upd H1 s1.heap.objs.size (.lst xs),I1.laid (t':=s1.toks) (λb u e=>Heap.get?_push_of_some _ e) (Nat.le_refl _) ?_,rfl,q _ hf⟩
 exact⟨z,us,0,r,Heap.get?_push_size _ rfl⟩
end
abbrev Sp:=List V->Hp->VK->XK->Prop
abbrev CXT:=List Env->Hp->Shared->XK->Value->Shared->Prop
structure Env0 (P:Program) (w:World) (K:W.Frag) (mg:Str->Option Value) (base:Heap) (A:Around) (outer:List Env) (s:Shared) (H:Hp):Prop where
 frames:A.frames=some outer
 mod:Mod K mg base
 bs:∀ b o,base.get? b=some o->s.heap.get? b=some o/\H b=none
 bsz:base.objs.size<=s.heap.objs.size
 funs:s.heap.FunFrames base outer
 frf:∀ b ∈ frs outer,H b=none
 hok:HOk P w H s.heap
 bare:AllBare s.gens
def CE (outer:List Env) (P:Program) (w:World) (H:Hp) (s:Shared) (Q:VK) (u:Value) (s':Shared):Prop:=
 ∃ v H',s'.os=s.os/\AllBare s'.gens/\Un (frs outer) [] H H' s.heap s'.heap/\HOk P w H' s'.heap/\RelV v u/\Q v H'
def CR (CX:CXT) (outer:List Env) (P:Program) (w:World) (H:Hp) (s:Shared) (Q:VK) (E:XK) (r:Result) (s':Shared):Prop:=
 match r with
 | .ok (.ret u)=>CE outer P w H s Q u s'
 | .ok _=>False
 | .error e=>CX outer H s E e s'
structure FnOk (P:Program) (w:World) (K:W.Frag) (mg:Str->Option Value) (base:Heap) (CX:CXT) (k:Nat) (f:Addr) (fd:FuncData) (ps:List Str) (sp:Sp):Prop where
 len:∀ vs H Q E,sp vs H Q E->vs.length=ps.length
 run:∀ (A:Around) (outer:List Env) (s:Shared) (H:Hp) (args:Args) (us:List Value) (vs:List V) (Q:VK) (E:XK),Room k A->Env0 P w K mg base A outer s H->BindsTo s fd args (ps.zip us)->Vals vs us->sp vs H Q E->
  codeAny (model P w) A (.call (.ref f) args) (CR CX outer P w H s Q E) s
theorem FnOk.imp {P:Program}{w:World}{K:W.Frag}{mg:Str->Option Value}{base:Heap}{CX:CXT}{k:Nat}{f:Addr}{fd:FuncData}{ps:List Str}{sp sp':Sp} (F:FnOk P w K mg base CX k f fd ps sp)
 (h:∀ vs H Q E,sp' vs H Q E->sp vs H Q E):FnOk P w K mg base CX k f fd ps sp':=
 ⟨λvs H Q E q=>F.len vs H Q E (h _ _ _ _ q),λA outer s H args us vs Q E hr he hb hv hs=>F.run A outer s H args us vs Q E hr he hb hv (h _ _ _ _ hs)⟩
section
variable {X:Cx}{pins:List (Addr×Obj)}{σ:St}{H:Hp}{s s':Shared}
theorem Inv.env0 (I:Inv X pins σ H s):Env0 X.prog X.w X.K X.mg X.base X.A X.stack s H:=
 ⟨I.ok.frames,I.ok.mod,I.bs,Nat.le_trans I.ok.bsz I.sz,I.stack,I.stkFree,I.hok,I.bare⟩
theorem Inv.after {Q:VK}{u:Value} (I:Inv X pins σ H s) (h:CE X.stack X.prog X.w H s Q u s'):EP X pins σ Q u s':=by
 obtain⟨v,H',os,bare,un,hok,r,q⟩:=h
 obtain⟨hh,g,d,t,os'⟩:=s'
 obtain rfl:os'=s.os:=os
 exact⟨v,H',I.call (h':=hh) (g':=g) (d':=d) (t':=t) (ch:=[]) un hok bare (λb z=>absurd z (by simp)),r,q⟩
end
def Binds (K:W.Frag) (fd:FuncData) (ps:List Str) (ds:List Value):Prop:=
 ∀ (s:Shared) (us:List Value),K.In s.heap->(us++ds).length=ps.length->BindsTo s fd ⟨us,[]⟩ (ps.zip (us++ds))
theorem Binds.all {K:W.Frag}{fd:FuncData}{ps:List Str} (h:∀ us:List Value,us.length=ps.length->bindArgs fd ⟨us,[]⟩=pure (ps.zip us)):Binds K fd ps []:=λs us _ hl=>by
 rw[List.append_nil] at hl ⊢
 exact .of_eq (h us hl)
def l7 (CX:CXT) (X:Cx) (E:XK):Prop:=∀ (pins:List (Addr×Obj)) (σ:St) (H:Hp) (s:Shared) (e:Value) (s':Shared),Inv X pins σ H s->CX X.stack H s E e s'->X.xe e s'
section
variable {X:Cx}{CX:CXT}{k:Nat}{f C:Addr}{fd:FuncData}{ps:List Str}{sp:Sp}{dvs:List V}{ds:List Value}{E:XK}{x m:Str}{p pos apos:Pos}{e o:Expr}{es:List Expr}{ta:TE}{t:TA}
structure Mk (K:W.Frag) (C f:Addr):Prop where
 makes:W.makesIn K C=true
 init:W.findIn K (.ref C) "__init__"=some (some (.ref f))
 fn:W.isFn K (.ref f)=true
 kp:W.keepIn K (.ref C)=true
end
section
variable {X:Cx}{CX:CXT}{k:Nat}{f C:Addr}{fd:FuncData}{ps ks:List Str}{sp:Sp}{E:XK}{x m:Str}{p pos apos kpos:Pos}{e o:Expr}{es:List Expr}{kws:List Keyword}{te ta:TE}{t tk:TA}{nm:Option Str}
structure KBinds (K:W.Frag) (fd:FuncData) (ps ks:List Str) (g:List Value->List Value->List Value) (gV:List V->List V->List V):Prop where
 to:∀ (s:Shared) (us ws:List Value),K.In s.heap->(g us ws).length=ps.length->BindsTo s fd ⟨us,ks.zip ws⟩ (ps.zip (g us ws))
 rel:∀ {vs:List V}{us:List Value}{zs:List V}{ws:List Value},Vals vs us->Vals zs ws->Vals (gV vs zs) (g us ws)
variable {g:List Value->List Value->List Value}{gV:List V->List V->List V}
end
structure FnScope (N P:List Str) (sc:Scope):Prop where
 kind:sc.kind=.function
 co:sc.isCoroutine=false
 gen:sc.isGenerator=false
 nd:N.Nodup
 pre:N.take P.length=P
 par:∀ x ∈ P,sc.names.lookup x=some .local\/sc.names.lookup x=some .cell
 nofree:∀ y ∈ sc.names,y.2 ≠ .free
theorem kh {kindOf:Str->Option NameKind}{x:Str}:∀ {binds:List (Str×Value)}{m:Str->Option Value},(∀ v,(x,v) ∉ binds)->bindL kindOf binds m x=m x
 | [],_,_=>rfl
 |
  (n,v) :: r,m,h=>by
  unfold bindL
  rw[kh λw hw=>h w (List.mem_cons_of_mem _ hw)]
  split
  ·have:x ≠ n:=by rintro rfl;exact h v List.mem_cons_self
   simp [this]
  ·rfl
theorem kr {kindOf:Str->Option NameKind}{x:Str}:∀ {binds:List (Str×Value)}{m:Str->Option Value},(∀ v,(x,v) ∉ binds)->bindC kindOf binds m x=m x
 | [],_,_=>rfl
 |
  (n,v) :: r,m,h=>by
  unfold bindC
  rw[kr λw hw=>h w (List.mem_cons_of_mem _ hw)]
  split
  ·rfl
  ·have:x ≠ n:=by rintro rfl;exact h v List.mem_cons_self
   simp [this]
theorem kB {kindOf:Str->Option NameKind}{x:Str}{v:Value}:∀ {P:List Str}{vs:List Value}{i:Nat}{m:Str->Option Value},P.Nodup->P[i]?=some x->vs[i]?=some v->kindOf x=some .local->
 bindL kindOf (P.zip vs) m x=some v
 | [],_,_,_,_,h,_,_=>by simp at h
 | _ :: _,[],_,_,_,_,h,_=>by simp at h
 |
  p :: P,w :: vs,0,m,nd,h1,h2,hk=>by
  simp at h1 h2;subst h1;subst h2
  show bindL kindOf ((p,w) :: P.zip vs) m p=_
  unfold bindL
  rw[kh λv hv=>(List.nodup_cons.mp nd).1 (List.of_mem_zip hv).1,if_pos hk]
  simp
 |
  p :: P,w :: vs,i + 1,m,nd,h1,h2,hk=>by
  show bindL kindOf ((p,w) :: P.zip vs) m x=_
  unfold bindL
  exact kB (i:=i) (List.nodup_cons.mp nd).2 (by simpa using h1) (by simpa using h2) hk
theorem kF {kindOf:Str->Option NameKind}{x:Str}{v:Value}:∀ {P:List Str}{vs:List Value}{i:Nat}{m:Str->Option Value},P.Nodup->P[i]?=some x->vs[i]?=some v->kindOf x ≠ some .local->
 bindC kindOf (P.zip vs) m x=some v
 | [],_,_,_,_,h,_,_=>by simp at h
 | _ :: _,[],_,_,_,_,h,_=>by simp at h
 |
  p :: P,w :: vs,0,m,nd,h1,h2,hk=>by
  simp at h1 h2;subst h1;subst h2
  show bindC kindOf ((p,w) :: P.zip vs) m p=_
  unfold bindC
  rw[kr λv hv=>(List.nodup_cons.mp nd).1 (List.of_mem_zip hv).1,if_neg hk]
  simp
 |
  p :: P,w :: vs,i + 1,m,nd,h1,h2,hk=>by
  show bindC kindOf ((p,w) :: P.zip vs) m x=_
  unfold bindC
  exact kF (i:=i) (List.nodup_cons.mp nd).2 (by simpa using h1) (by simpa using h2) hk
def dH (N:List Str) (vs:List V):St:=vs.map some++List.replicate (N.length - vs.length) none
def cQ (CX:CXT) (P:Program) (w:World) (K:W.Frag) (mg:Str->Option Value) (base:Heap) (N:List Str) (qual:Str) (scope:Scope) (f:Addr) (cd:Value) (A:Around) (outer:List Env) (s:Shared) (H:Hp) (E:XK):Cx where
 prog:=P
 w:=w
 K:=K
 mg:=mg
 base:=base
 A:=A.deeper (envOfC qual scope s.heap.objs.size f cd)
 N:=N
 s₀:=s
 H₀:=H
 env:=envOfC qual scope s.heap.objs.size f cd
 outer:=outer
 stack:=envOfC qual scope s.heap.objs.size f cd :: outer
 ex:=[]
 calm:=true
 fn:=λ_=>true
 pn:=[]
 xe:=λe s'=>wpAny (model P w) (A.deeper (envOfC qual scope s.heap.objs.size f cd)) (leaving (envOfC qual scope s.heap.objs.size f cd) e) (λ_ s''=>CX outer H s E e s'') (λe' s''=>CX outer H s E e' s'') s'
theorem mq {sc:Scope}{n:Nat}{x:Str} (h:sc.names.lookup x=some .cell):∃ c,(cellsFrom n sc.names []).lookup x=some c:=by
 have q:=W.cellsFrom_some sc.names n [] (.inl h)
 exact Option.isSome_iff_exists.mp q
theorem rO {CX:CXT}{P:Program}{w:World}{K:W.Frag}{mg:Str->Option Value}{base:Heap}{N ps:List Str}{qual:Str}{scope:Scope}{f:Addr}{cd:Value}{A:Around}{outer:List Env}{s s1:Shared}{H:Hp}{E:XK}{us:List Value}{vs:List V}
 (S:FnScope N ps scope) (hd:A.handled=none) (e0:Env0 P w K mg base A outer s H) (hl:vs.length=ps.length) (r:Vals vs us)
 (x:InCallC s s.heap.objs.size (bindL (envOfC qual scope s.heap.objs.size f cd).kindOf (ps.zip us) λ_=>none) (cellsFrom (s.heap.objs.size + 1) scope.names []) (bindC (envOfC qual scope s.heap.objs.size f cd).kindOf (ps.zip us) λ_=>none) s1):
 Inv (cQ CX P w K mg base N qual scope f cd A outer s H E) [] (dH N vs) H s1:=by
 have hpl:ps.length<=N.length:=by have:=congrArg List.length S.pre;rw[List.length_take] at this;omega
 obtain⟨h1,tk,rfl,hk⟩:=x.done
 have noA:∀ b:Addr,b ∉ (cQ CX P w K mg base N qual scope f cd A outer s H E).ex:=λb z=>absurd (show b ∈ ([]:List Addr) from z) (by simp)
 refine⟨⟨e0.mod,S.kind,rfl,rfl,Nat.le_refl _,λy z c h1 h2=>?_,λy hy=>?_,λy c _ h=>?_,λ_=>hd,Around.frames_deeper e0.frames,.inr ⟨rfl,rfl⟩,λb z=>absurd z (noA b),e0.bs,e0.bsz,λb _ _=>noA b,λb z=>absurd z (noA b),e0.funs,e0.frf⟩,
  rfl,e0.bare,Un.kept hk,⟨_,x.toInCall.ns,λi y v h1 h2 h3=>?_⟩,λy c h=>⟨_,x.cell y c h⟩,e0.hok.fresh (Nat.le_refl _),λy c h=>?_,λp hp=>absurd (show p ∈ ([]:List (Addr×Obj)) from hp) (by simp),e0.hok.kept hk,?_⟩
 ·exact name_of_addr x.apart (PySem.mem_of_lookup h1) (PySem.mem_of_lookup h2)
 ·have hy:scope.names.lookup y=some .cell\/scope.names.lookup y=some .free:=hy
  rcases hy with hy | hy
  ·exact mq hy
  ·exact absurd rfl (S.nofree _ (PySem.mem_of_lookup hy))
 ·exact Nat.le_of_lt (x.above y c (PySem.mem_of_lookup h))
 ·have hi:i < vs.length:=by
   unfold dH at h2
   by_cases hi:i < vs.length
   ·exact hi
   ·rw[List.getElem?_append_right (by simpa using hi)] at h2
    rw[List.getElem?_replicate] at h2
    split at h2 <;> cases h2
  have ha:vs[i]?=some v:=by
   unfold dH at h2
   rw[List.getElem?_append_left (by simpa using hi),List.getElem?_map] at h2
   cases e:vs[i]? with
   | none=>rw[e] at h2;cases h2
   | some a=>rw[e] at h2;cases h2;rfl
  obtain⟨u,hu,rv⟩:=r.get ha
  have hp:ps[i]?=some y:=by
   rw[<- S.pre,List.getElem?_take_of_lt (by omega)];exact h1
  have ndP:ps.Nodup:=by rw[<- S.pre];exact S.nd.sublist (List.take_sublist _ _)
  refine⟨u,rv,?_⟩
  rcases S.par y (List.mem_of_getElem? hp) with k | k
  ·exact .inl ⟨k,kB ndP hp hu k⟩
  ·obtain⟨c,e⟩:=mq (n:=s.heap.objs.size + 1) k
   refine .inr ⟨.inl k,c,e,?_⟩
   have q:=x.cell y c e
   rw[kF ndP hp hu (by show scope.names.lookup y ≠ _;rw[k];decide)] at q
   exact q
 ·exact e0.hok.fresh (Nat.le_of_lt (x.above y c (PySem.mem_of_lookup h)))
 ·unfold dH
  show _=N.length
  rw[List.length_append,List.length_map,List.length_replicate]
  omega
theorem Dj {CX:CXT}{P:Program}{w:World}{K:W.Frag}{mg:Str->Option Value}{base:Heap}{k:Nat}{f:Addr}{name qual:Str}{params:Arguments}{body:List Stmt}{scope:Scope}{dV kV doc pm cdv ct oc:Value}{an od:Option Addr}
 {osl:Array (Option Value)}{N ps:List Str}{sp:Sp} (lk:K.lookup f=some ⟨oc,od,.func (W.fnOf name qual params body scope dV kV doc pm an cdv ct),osl⟩) (hcd:W.codeIn K cdv qual=true) (S:FnScope N ps scope)
 (len:∀ vs H Q E,sp vs H Q E->vs.length=ps.length)
 (db:∀ (A:Around) (outer:List Env) (s:Shared) (H:Hp) (vs:List V) (Q:VK) (E:XK),Room k (A.deeper (envOfC qual scope s.heap.objs.size f cdv))->sp vs H Q E->
  ∃ t,PSs (cQ CX P w K mg base N qual scope f cdv A outer s H E) body t/\t { nx:=λ_ H'=>Q .non H',rt:=Q } (dH N vs) H):
 FnOk P w K mg base CX (k + 1) f (W.fnOf name qual params body scope dV kV doc pm an cdv ct) ps sp:=by
 refine⟨len,λA outer s H args us vs Q E hr e0 hb r hsp=>?_⟩
 have hl:=len _ _ _ _ hsp
 have KX:K.In s.heap:=e0.mod.kin.keeps λb o e=>(e0.bs b o e).1
 have lim:s.heap.NoLimit:=e0.mod.nolimit.keeps λb o e=>(e0.bs b o e).1
 have hkind:∀ y ∈ ps.zip us,scope.names.lookup y.1=some .local\/(scope.names.lookup y.1=some .cell/\((cellsFrom (s.heap.objs.size + 1) scope.names []).lookup y.1).isSome=true):=λ⟨n,v⟩ hy=>by
  rcases S.par n (List.of_mem_zip hy).1 with q | q
  ·exact .inl q
  ·exact .inr ⟨q,W.cellsFrom_some _ _ _ (.inl q)⟩
 refine codeAny_call_function hr.depth (KX _ _ lk) rfl S.co S.gen rfl (W.codeRec_of KX hcd) (hb _ _ _ _ ?_)
 refine wpAny_newFunctionEnv_cells S.kind hkind λenv he s1 x=>?_
 subst he
 refine⟨lim.keeps x.toInCall.keep,codeAny_func ?_⟩
 obtain⟨t,ht,hq⟩:=db A outer s H vs Q E (hr.deeper _) hsp
 have I:Inv (cQ CX P w K mg base N qual scope f cdv A outer s H E) [] (dH N vs) H s1:=rO S hr.hd e0 hl r x
 refine wpAny_mono (ht [] s1 (dH N vs) H _ I hq) (λfl s' hs=>?_) λe s' hs=>hs
 have fin:∀ {σ':St}{H':Hp}{v:V}{u:Value},Inv (cQ CX P w K mg base N qual scope f cdv A outer s H E) [] σ' H' s'->RelV v u->Q v H'->CE outer P w H s Q u s':=
  λ{σ' H' v u} J rv q=>⟨v,H',J.os,J.bare,J.base,J.hok,rv,q⟩
 cases fl with
 |
  ret u=>
  obtain⟨v,σ',H',J,rv,q⟩:=hs
  exact fin J rv q
 |
  next=>
  obtain⟨σ',H',J,q⟩:=hs
  exact fin (v:=V.non) (u:=Value.none) J rfl q
 |
  brk=>
  obtain⟨_,_,_,q⟩:=hs
  exact False.elim q
 |
  cont=>
  obtain⟨_,_,_,q⟩:=hs
  exact False.elim q
end L2
namespace L2
open PySem PySem.Spec PyProof.Rows
section
variable {X:Cx}{x:Str}{p pos:Pos}{e:Expr}{es:List Expr}{t:TA}{id T:String}{r:List V->Hp->VK->Prop}
def tCB (r:List V->Hp->VK->Prop) (t:TA):TE:=λσ H Q=>t σ H λvs H1=>r vs H1 Q
theorem uW (hc:CallR X (.builtin id) r) (hg:Gl X x) (hm:X.mg x=none) (hv:bootBuiltins x=some (.builtin id)) (ha:PA X (e :: es) t) (hn:x ≠ "__name__":=by decide) (hdb:(x == ("__debug__" : Str))=false:=by decide)
 (he:starEach (e :: es) X.env=(false,eval e X.env) :: starEach es X.env:=by rfl) (hpl:(backTo pos (starEach es X.env)).any (·.1)=false:=by rfl):PE X (.Call (.Name x p) (e :: es) [] pos) (tCB r t):=by
 intro pins s σ H Q I h
 refine wpAny_Call_Name_kw (gM I hg hm hv ?_ hn hdb)
 exact PyProof.Rows.callWith_builtin1 (thn (ha pos pins s σ H _ I h) λus s1 ⟨vs,H1,I1,r1,q1⟩=>hc pins s1 σ H1 vs us Q I1 r1 q1) he hpl
theorem qD (hc:CallR X (.type T) r) (hg:Gl X x) (hm:X.mg x=none) (hv:bootBuiltins x=some (.type T)) (ha:PA X (e :: es) t) (hn:x ≠ "__name__":=by decide) (hdb:(x == ("__debug__" : Str))=false:=by decide)
 (he:starEach (e :: es) X.env=(false,eval e X.env) :: starEach es X.env:=by rfl) (hpl:(backTo pos (starEach es X.env)).any (·.1)=false:=by rfl):PE X (.Call (.Name x p) (e :: es) [] pos) (tCB r t):=by
 intro pins s σ H Q I h
 refine wpAny_Call_Name_kw (gM I hg hm hv ?_ hn hdb)
 exact PyProof.Rows.callWith_type1 (thn (ha pos pins s σ H _ I h) λus s1 ⟨vs,H1,I1,r1,q1⟩=>hc pins s1 σ H1 vs us Q I1 r1 q1) he hpl
end
end L2
namespace HT
open PySem PyProof.Rows
section
open PySem.SeqAt
open PySem.AutoSeq1 (wpAny_loadPart')
open PySem.MeetsSeq PySem.MeetsSeq2 PySem.MeetsSeq3
end
section
variable {prog:Program}{w:World}{A:Around}{E:Value->Shared->Prop}{s:Shared}
theorem cat_tup {t b:Addr}{vs ws:List Value}{Q:Value->Shared->Prop} (ht:IsTup s.heap t vs.toArray) (hb:IsTup s.heap b ws.toArray) (hv:vs ≠ [])
 (h1:ws=[]->Q (.ref t) s) (h2:ws ≠ []->Q (.ref s.heap.objs.size) { s with heap:=s.heap.push { cls:=.type "tuple",data:=.seq (vs++ws).toArray } })
 (hsz:vs.length + ws.length<=sizeLine):wpAny (model prog w) A (binaryOp .Add (.ref t) (.ref b)) Q E s:=by
 obtain⟨⟨cls,dd,data,sl⟩,ho,hc,n,hd⟩:=id ht
 obtain⟨⟨cls2,dd2,data2,sl2⟩,ho2,hc2,n2,hd2⟩:=id hb
 simp only at hc hd hc2 hd2
 subst hc hd hc2 hd2
 have e:vs.toArray++ws.toArray=(vs++ws).toArray:=by simp
 by_cases hw:ws=[]
 ·exact concat_meets ⟨_,ho,rfl⟩ ⟨_,ho2,rfl⟩ noFill_tuple_add seq_tuple_add PySem.F.slot_tuple_add PySem.F.entry_tuple_add (PySem.F.args_tuple_add_2 _ _)
   (tuple_addW1 t b vs.toArray ws.toArray n n2 dd dd2 sl sl2 (by simpa using hv) (by simp [hw])) ⟨ho,ho2,h1 hw⟩
 ·refine concat_meets ⟨_,ho,rfl⟩ ⟨_,ho2,rfl⟩ noFill_tuple_add seq_tuple_add PySem.F.slot_tuple_add PySem.F.entry_tuple_add (PySem.F.args_tuple_add_2 _ _)
   (tuple_addW2 t b vs.toArray ws.toArray n n2 dd dd2 sl sl2 (by simpa using hv) (by simpa using hw) (by rw[List.size_toArray,List.size_toArray];exact hsz)) ⟨ho,ho2,?_⟩
  rw[e]
  exact h2 hw
def sIx (n d:Nat):Option Int->Nat
 | none=>d
 | some v=>if v < 0 then (v + (n:Int)).toNat else min v.toNat n
theorem sIx_none (n d:Nat):sIx n d none=d:=rfl
theorem sIx_nat (n d k:Nat):sIx n d (some (k:Int))=min k n:=by
 show (if (k:Int) < 0 then ((k:Int) + (n:Int)).toNat else min (k:Int).toNat n)=min k n
 rw[if_neg (by omega),Int.toNat_natCast]
theorem Bd (n d:Nat) (hd:d<=n) (o:Option Int):sIx n d o<=n:=by
 cases o with
 | none=>exact hd
 |
  some v=>
  show (if v < 0 then (v + (n:Int)).toNat else min v.toNat n)<=n
  by_cases hv:v < 0
  ·rw[if_pos hv];omega
  ·rw[if_neg hv];exact Nat.min_le_right _ _
theorem nX (v:Int) (n d:Nat):(if v < 0 then max (v + (n:Int)) 0 else min v (n:Int))=((sIx n d (some v):Nat):Int):=by
 show (if v < 0 then max (v + (n:Int)) 0 else min v (n:Int))=(((if v < 0 then (v + (n:Int)).toNat else min v.toNat n):Nat):Int)
 by_cases hv:v < 0
 ·simp only[if_pos hv];omega
 ·simp only[if_neg hv];omega
theorem n9 (lo hi:Option Int) (n:Nat):Builtin.Slice.sliceAdjust lo hi 1 (n:Int)=(((sIx n 0 lo:Nat):Int),((sIx n n hi:Nat):Int)):=by
 have h1:¬ ((1:Int) < 0):=by omega
 unfold Builtin.Slice.sliceAdjust
 simp only[h1,if_false]
 refine Prod.ext ?_ ?_
 ·cases lo with
  | none=>rfl
  | some v=>exact nX v n 0
 ·cases hi with
  | none=>rfl
  | some v=>exact nX v n n
theorem oG (i j:Nat):Builtin.Slice.slicePlaces (i:Int) (j:Int) 1=j - i:=by
 unfold Builtin.Slice.slicePlaces
 have h1:(1:Int) > 0:=by omega
 simp only[h1,if_true,Int.ediv_one]
 split <;> omega
theorem jI {v:Value}{o:Option Int}{Q:Option Int->Shared->Prop} (p:IsPart v o) (h:Q o s):wpAny (model prog w) A (Builtin.Slice.slicePartIndex v) Q E s:=by
 cases p with
 | none=>exact slicePart_none h
 | int i t=>exact slicePart_int h
theorem iV {sl:Addr}{vl vu:Value}{lo hi:Option Int}{n:Nat}{Q:Int×Int×Nat->Shared->Prop} (hs:s.heap.IsSliceOf sl vl vu .none) (pl:IsPart vl lo) (pu:IsPart vu hi)
 (h:Q (((sIx n 0 lo:Nat):Int),1,sIx n n hi - sIx n 0 lo) s):wpAny (model prog w) A (Builtin.Slice.sliceApplied (.ref sl) (pure (n:Int))) Q E s:=by
 obtain⟨os,hos,hcs,hds⟩:=id hs
 unfold Builtin.Slice.sliceApplied Builtin.Slice.sliceFields
 refine wpAny_bind (wpAny_bind (wpAny_field hos hds (x:=vl) rfl (wpAny_bind (wpAny_field hos hds (x:=vu) rfl (wpAny_bind (wpAny_field hos hds (x:=.none) rfl (wpAny_pure ?_)))))))
 refine wpAny_bind (slicePart_none ?_)
 show wpAny _ _ (if ((1:Int) == 0)=true then _ else _) _ _ s
 rw[if_neg (by decide)]
 refine wpAny_bind (jI pl (wpAny_bind (jI pu (wpAny_bind (wpAny_pure ?_)))))
 show wpAny _ _ (match Builtin.Slice.sliceAdjust lo hi 1 (n:Int) with | (lo,hi)=>pure (lo,(1:Int),Builtin.Slice.slicePlaces lo hi 1)) _ _ s
 rw[n9 lo hi n]
 show wpAny _ _ (pure (((sIx n 0 lo:Nat):Int),(1:Int),Builtin.Slice.slicePlaces ((sIx n 0 lo:Nat):Int) ((sIx n n hi:Nat):Int) 1)) _ _ s
 rw[oG]
 exact wpAny_pure h
theorem sR (xs:Array Value) (i k:Nat):((List.range k).filterMap λ(m:Nat)=>xs[((i:Int) + (m:Int) * 1).toNat]?).toArray=((xs.toList.drop i).take k).toArray:=by
 have e:(λ(m:Nat)=>xs[((i:Int) + (m:Int) * 1).toNat]?)=λm=>xs[i + m]?:=by
  funext m
  have:((i:Int) + (m:Int) * 1).toNat=i + m:=by omega
  rw[this]
 rw[e]
 have:=pick_run xs i k
 rw[List.filterMap_map] at this
 have e2:((λx=>xs[x]?) ∘ λx=>i + x)=λm=>xs[i + m]?:=rfl
 rw[e2] at this
 rw[this]
theorem getItem_tuple_cut {t sl:Addr}{items:Array Value}{vl vu:Value}{lo hi:Option Int}{Q:Value->Shared->Prop} (ht:IsTup s.heap t items) (hs:s.heap.IsSliceOf sl vl vu .none) (pl:IsPart vl lo) (pu:IsPart vu hi)
 (hw:¬ (sIx items.size 0 lo=0/\sIx items.size items.size hi=items.size))
 (h:Q (.ref s.heap.objs.size) { s with heap:=s.heap.push { cls:=.type "tuple",data:=.seq ((items.toList.drop (sIx items.size 0 lo)).take (sIx items.size items.size hi - sIx items.size 0 lo)).toArray } })
 (hsz:items.size<=sizeLine):wpAny (model prog w) A (getItem (.ref t) (.ref sl)) Q E s:=by
 have htake:sizeOk (.seq ((items.toList.drop (sIx items.size 0 lo)).take (sIx items.size items.size hi - sIx items.size 0 lo)).toArray):=by
  show ((items.toList.drop (sIx items.size 0 lo)).take (sIx items.size items.size hi - sIx items.size 0 lo)).toArray.size<=sizeLine
  rw[List.size_toArray,List.length_take,List.length_drop,Array.length_toList]
  omega
 have hj:sIx items.size items.size hi<=items.size:=Bd _ _ (Nat.le_refl _) hi
 obtain⟨os,hos,hcs,hds⟩:=id hs
 have hTs:s.TypeIs (.ref sl) "slice":=⟨os,hos,hcs⟩
 unfold getItem
 try with_reducible refine wpAny_holding ?_
 first | refine wpAny_bind (wpAny_pure ?_) | skip
 refine wpAny_bind (wpAny_sequenceKey ht.typeIs (by decide) ?_)
 refine wpAny_bind (wpAny_callSpecial?_slot (name:=Str.ofString "__getitem__") ht.typeIs PyProof.Rows.slot_tuple_getitem
  (wpAny_call_entry PyProof.Rows.slot_tuple_getitem ht.typeIs entry_tuple_getitem ?_ (args_tuple_getitem _ _)))
 show wpAny _ _ (Builtin.Tuple.tupleItemsOf (.ref t) >>= _) _ _ s
 refine wpAny_bind (tupleItemsOf_ ht ?_)
 refine wpAny_bind (wpAny_typeOf hTs ?_)
 rw[if_pos (by decide)]
 refine wpAny_bind (iV hs pl pu ?_)
 have hno:¬ ((((sIx items.size 0 lo:Nat):Int) == 0 && (1:Int) == 1 && (sIx items.size items.size hi - sIx items.size 0 lo) == items.size)=true):=by
  intro q
  rw[Bool.and_eq_true,Bool.and_eq_true] at q
  have q1:((sIx items.size 0 lo:Nat):Int)=0:=eq_of_beq q.1.1
  have q2:sIx items.size items.size hi - sIx items.size 0 lo=items.size:=eq_of_beq q.2
  exact hw ⟨by omega,by omega⟩
 show wpAny _ _ (if (((sIx items.size 0 lo:Nat):Int) == 0 && (1:Int) == 1 && (sIx items.size items.size hi - sIx items.size 0 lo) == items.size)=true then _ else _) _ _ s
 rw[if_neg hno,sR]
 first
  | exact wpAny_bind (m:=Builtin.Tuple.tupleExact _) (wpAny_newObj_type (wpAny_pure ⟨_,rfl,wpAny_pure h⟩) htake)
  | exact wpAny_bind (m:=Builtin.Tuple.tupleExact _) (wpAny_newObj_type (wpAny_bind (wpAny_pure (wpAny_pure ⟨_,rfl,wpAny_pure h⟩))) htake)
  | exact wpAny_bind (wpAny_bind (m:=Builtin.Tuple.tupleExact _) (wpAny_newObj_type (wpAny_pure (wpAny_pure ⟨_,rfl,wpAny_pure h⟩)) htake))
  | exact wpAny_bind (wpAny_bind (m:=Builtin.Tuple.tupleExact _) (wpAny_newObj_type (wpAny_pure ⟨_,rfl,wpAny_pure h⟩) htake))
end
end HT
namespace L2
open PySem PySem.Spec PyProof.Rows
abbrev TO:=St->Hp->(Option Int->Hp->Prop)->Prop
def PO (X:Cx) (e:Option Expr) (t:TO):Prop:=
 ∀
  (pins:List (Addr×Obj)) (s:Shared) (σ:St) (H:Hp) (Q:Option Int->Hp->Prop),Inv X pins σ H s->t σ H Q->
  wpAny (model X.prog X.w) X.A (evalPart e X.env) (λu s'=>∃ o H',Inv X pins σ H' s'/\IsPart u o/\Q o H') X.xe s
def xu:TO:=λ_ H Q=>Q none H
def BW (t:TE):TO:=λσ H Q=>t σ H λx H1=>∃ i,x=.int i/\Q (some i) H1
section
variable {X:Cx}{e:Expr}{te:TE}{lo hi:Option Expr}{tl th:TO}{pos p2:Pos}
theorem xX:PO X none xu:=by
 intro pins s σ H Q I h
 rw[evalPart_none]
 exact wpAny_pure ⟨none,H,I,.none,h⟩
theorem wj (h:PE X e te):PO X (some e) (BW te):=by
 intro pins s σ H Q I hw
 rw[evalPart_some]
 refine thn (h pins s σ H _ I hw) λu s1 ⟨x,H1,I1,r1,q1⟩=>?_
 obtain⟨i,rfl,q⟩:=q1
 obtain⟨t,rfl⟩:=r1
 exact⟨some i,H1,I1,.int i t,q⟩
def SlR (X:Cx) (r:V->Option Int->Option Int->Hp->VK->Prop):Prop:=
 ∀
  (pins:List (Addr×Obj)) (s:Shared) (σ:St) (H:Hp) (x:V) (v vl vu:Value) (lo hi:Option Int) (sl:Addr) (Q:VK),Inv X pins σ H s->RelV x v->s.heap.IsSliceOf sl vl vu .none->IsPart vl lo->IsPart vu hi->r x lo hi H Q->
  ∃ T id,typeLookup (.type T) "__getitem__"=pure (some (.builtin id))/\s.TypeIs v T/\wpAny (model X.prog X.w) X.A (getItem v (.ref sl)) (EP X pins σ Q) X.xe s
theorem SlR.or {r r':V->Option Int->Option Int->Hp->VK->Prop} (h:SlR X r) (h':SlR X r'):SlR X (λx lo hi H Q=>r x lo hi H Q\/r' x lo hi H Q):=by
 intro pins s σ H x v vl vu lo hi sl Q I rx hs pl pu q
 rcases q with q | q
 ·exact h pins s σ H x v vl vu lo hi sl Q I rx hs pl pu q
 ·exact h' pins s σ H x v vl vu lo hi sl Q I rx hs pl pu q
def tSl (r:V->Option Int->Option Int->Hp->VK->Prop) (te:TE) (tl th:TO):TE:=λσ H Q=>te σ H λx H1=>tl σ H1 λl H2=>th σ H2 λu H3=>r x l u H3 Q
theorem uS {r:V->Option Int->Option Int->Hp->VK->Prop} (hr:SlR X r) (he:PE X e te) (hl:PO X lo tl) (hu:PO X hi th):PE X (.Subscript e (.Slice lo hi none p2) pos) (tSl r te tl th):=by
 intro pins s σ H Q I h
 refine Subscript_ (thn (he pins s σ H _ I h) λv s1 ⟨x,H1,I1,r1,q1⟩=>?_)
 refine wpAny_Slice (thn (hl pins s1 σ H1 _ I1 q1) λvl s2 ⟨l,H2,I2,pl,q2⟩=>thn (hu pins s2 σ H2 _ I2 q2) λvu s3 ⟨u,H3,I3,pu,q3⟩=>?_)
 rw[evalPart_none]
 refine wpAny_pure ?_
 have I4:Inv X pins σ H3 { s3 with heap:=s3.heap.push { cls:=.type "slice",data:=.fields #[vl,vu,.none] } }:=I3.kept (t':=s3.toks) λb ob q=>Heap.get?_push_of_some _ q
 obtain⟨T,id,hT,ht,hg⟩:=hr pins { s3 with heap:=s3.heap.push { cls:=.type "slice",data:=.fields #[vl,vu,.none] } } σ H3 x v vl vu l u s3.heap.objs.size Q I4 r1 (Heap.IsSliceOf.new ..) pl pu q3
 show wpAny (model X.prog X.w) X.A (subscriptTail e (.Slice lo hi none p2) v (.ref s3.heap.objs.size)) (EP X pins σ Q) X.xe { s3 with heap:=s3.heap.push { cls:=.type "slice",data:=.fields #[vl,vu,.none] } }
 exact tail_any (ops:=[.ref s3.heap.objs.size,v]) ht hT hg (by with_unfolding_all rfl)
def gR (xs:List V) (lo hi:Option Int):List V:=(xs.drop (HT.sIx xs.length 0 lo)).take (HT.sIx xs.length xs.length hi - HT.sIx xs.length 0 lo)
theorem iI (xs:List V) (lo hi:Option Int):(gR xs lo hi).length<=xs.length:=by
 unfold gR
 rw[List.length_take,List.length_drop]
 omega
def rSlT (K:W.Frag):V->Option Int->Option Int->Hp->VK->Prop:=λx lo hi H Q=>∃ a xs,x=.ref a/\SqT K H a xs/\
 ¬ (HT.sIx xs.length 0 lo=0/\HT.sIx xs.length xs.length hi=xs.length)/\∀ p,H p=none->Q (.ref p) (upd H p (.tup (gR xs lo hi)))
theorem yz:SlR X (rSlT X.K):=by
 intro pins s σ H x v vl vu lo hi sl Q I rx hs pl pu h
 obtain⟨a,xs,rfl,hx,hw,q⟩:=h
 cases rx
 obtain⟨its,r,ht,hz⟩:=I.tuple hx
 have hlen:its.toArray.size=xs.length:=by rw[List.size_toArray];exact r.length.symm
 refine⟨"tuple",_,PyProof.Rows.slot_tuple_getitem.lookup,ht.typeIs,?_⟩
 refine HT.getItem_tuple_cut ht hs pl pu (by rw[hlen];exact hw) ?_ (by rw[hlen];exact hz)
 rw[hlen]
 refine⟨.ref s.heap.objs.size,_,I.laid (t':=s.toks) (o:=.tup (gR xs lo hi)) (λb ob q=>Heap.get?_push_of_some _ q) (Nat.le_refl _) ?_,rfl,q _ (I.hok.fresh (Nat.le_refl _))⟩
 exact⟨Nat.le_trans (iI xs lo hi) hz,_,(r.drop (HT.sIx xs.length 0 lo)).take (HT.sIx xs.length xs.length hi - HT.sIx xs.length 0 lo),IsTup.new _ _⟩
def iF (K:W.Frag):R2:=λx y H Q=>∃ a b xs ys,x=.ref a/\y=.ref b/\SqT K H a xs/\SqT K H b ys/\xs ≠ []/\xs.length + ys.length<=sizeLine/\
 (ys=[]->Q (.ref a) H)/\(ys ≠ []->∀ p,H p=none->Q (.ref p) (upd H p (.tup (xs++ys))))
theorem Vals.nil_iff {xs:List V}{us:List Value} (r:Vals xs us):us=[] ↔ xs=[]:=by
 cases r with
 | nil=>simp
 | cons _ _=>simp
theorem wm:OpR X (binaryOp .Add) (iF X.K):=by
 intro pins s σ H x y v u Q I rx ry h
 obtain⟨a,b,xs,ys,rfl,rfl,ha,hb,hx,hz,q1,q2⟩:=h
 cases rx
 cases ry
 obtain⟨its,r1,p1,_⟩:=I.tuple ha
 obtain⟨its2,r2,p2,_⟩:=I.tuple hb
 refine HT.cat_tup p1 p2 (λz=>hx (r1.nil_iff.mp z)) (λz=>⟨.ref a,H,I,rfl,q1 (r2.nil_iff.mp z)⟩) (λz=>?_) (by rw[<- r1.length,<- r2.length];exact hz)
 refine⟨.ref s.heap.objs.size,_,I.laid (t':=s.toks) (o:=.tup (xs++ys)) (λb ob q=>Heap.get?_push_of_some _ q) (Nat.le_refl _) ?_,rfl,q2 (λw=>z (r2.nil_iff.mpr w)) _ (I.hok.fresh (Nat.le_refl _))⟩
 exact⟨by rw[List.length_append];exact hz,_,r1.append r2,IsTup.new _ _⟩
end
end L2
namespace L2
open PySem PySem.Spec PyProof.Rows
def ixN (n:Nat) (i:Int):Option Nat:=if 0<=i then (if i < n then some i.toNat else none) else if -(n:Int)<=i then some (i + n).toNat else none
def atI {α:Type} (xs:List α) (i:Int):Option α:=(ixN xs.length i).bind λj=>xs[j]?
theorem nL {n:Nat}{i:Int}{j:Nat} (h:ixN n i=some j):seqIndex? i n=some j/\j < n/\-(n:Int)<=i/\i < n:=by
 unfold ixN at h
 by_cases h0:0<=i
 ·rw[if_pos h0] at h
  by_cases h1:i < n
  ·rw[if_pos h1] at h
   have e:i.toNat=j:=Option.some.inj h
   exact⟨by rw[seqIndex_of h0 h1,e],by omega,by omega,h1⟩
  ·rw[if_neg h1] at h;cases h
 ·rw[if_neg h0] at h
  by_cases h1:-(n:Int)<=i
  ·rw[if_pos h1] at h
   have e:(i + n).toNat=j:=Option.some.inj h
   exact⟨by rw[seqIndex_neg (by omega) h1,e],by omega,h1,by omega⟩
  ·rw[if_neg h1] at h;cases h
theorem jX {α:Type}{xs:List α}{i:Int}{v:α} (h:atI xs i=some v):∃ j,seqIndex? i xs.length=some j/\xs[j]?=some v/\j < xs.length/\-(xs.length:Int)<=i/\i < xs.length:=by
 unfold atI at h
 cases e:ixN xs.length i with
 | none=>rw[e] at h;cases h
 |
  some j=>
  rw[e] at h
  obtain⟨h1,h2,h3,h4⟩:=nL e
  exact⟨j,h1,h,h2,h3,h4⟩
def iD (b:Expr):Prop:=∀ o i,subscripted b false o i=operate [o,i] (getItem o i)
def IxR (X:Cx) (r:R2):Prop:=
 ∀
  (value ce:Expr) (pins:List (Addr×Obj)) (s:Shared) (σ:St) (H:Hp) (x y:V) (v u:Value) (Q:VK),Inv X pins σ H s->RelV x v->RelV y u->r x y H Q->
  subscripted ce false v u=operate [v,u] (getItem v u)->wpAny (model X.prog X.w) X.A (subscriptTail value ce v u) (EP X pins σ Q) X.xe s
def MtR (X:Cx) (id:String) (r:V->List V->Hp->VK->Prop):Prop:=
 ∀
  (pins:List (Addr×Obj)) (s:Shared) (σ:St) (H:Hp) (x:V) (xs:List V) (v:Value) (us:List Value) (Q:VK),Inv X pins σ H s->RelV x v->Vals xs us->r x xs H Q->
  wpAny (model X.prog X.w) X.A (call (.builtin id) (v :: us)) (EP X pins σ Q) X.xe s
section
variable {X:Cx}{a b:Expr}{ta tb:TE}{pos:Pos}
theorem IxR.or {r r':R2} (h:IxR X r) (h':IxR X r'):IxR X (λx y H Q=>r x y H Q\/r' x y H Q):=by
 intro value ce pins s σ H x y v u Q I rx ry q hs
 rcases q with q | q
 ·exact h value ce pins s σ H x y v u Q I rx ry q hs
 ·exact h' value ce pins s σ H x y v u Q I rx ry q hs
theorem C2 {r:R2} (hr:IxR X r) (ha:PE X a ta) (hb:PE X b tb) (hs:iD b):PE X (.Subscript a b pos) (tOp r ta tb):=by
 intro pins s σ H Q I h
 exact Subscript_ (tG ha hb I h λv u s2 x y H2 I2 rx ry q=>hr a b pins s2 σ H2 x y v u Q I2 rx ry q (hs _ _))
def pA (K:W.Frag):R2:=λx y H Q=>∃ p xs i v,x=.ref p/\y=.int i/\SqL K H p xs/\atI xs i=some v/\Q v H
def oT (K:W.Frag):R2:=λx y H Q=>∃ p xs i v,x=.ref p/\y=.int i/\SqT K H p xs/\atI xs i=some v/\Q v H
def tV:R2:=λx y H Q=>∃ z i c,x=.str z/\y=.int i/\z.length<=sizeLine/\atI z.cps.toList i=some c/\Q (.str ⟨#[c]⟩) H
theorem wC:IxR X (pA X.K):=by
 intro value ce pins s σ H x y v u Q I rx ry h hs
 obtain⟨p,xs,i,z,rfl,rfl,hq,he,q⟩:=h
 cases rx
 obtain⟨t,rfl⟩:=ry
 obtain⟨its,r,pl,hz⟩:=I.list hq
 obtain⟨j,h1,h2,h3,h4,h5⟩:=jX he
 obtain⟨w,ew,rw'⟩:=r.get h2
 have hl:=r.length
 have hn:=d7
 have fin:EP X pins σ Q w s:=⟨z,H,I,rw',q⟩
 by_cases h0:0<=i
 ·have hj:i.toNat=j:=by
   rw[seqIndex_of h0 h5] at h1
   exact Option.some.inj h1
  exact item_listR pl.isList h0 (by omega) (by rw[hj];simpa using ew) fin hs
 ·have hj:(i + (its.toArray.size:Int)).toNat=j:=by
   rw[seqIndex_neg (by omega) h4] at h1
   rw[List.size_toArray,<- hl]
   exact Option.some.inj h1
  exact subscriptTail_builtinR (x:=w) pl.isList.typeIs slot_list_getitem.lookup
   (wpAny_getItem_list_neg (Q:=λr s'=>r=w/\EP X pins σ Q r s') pl.isList (by omega) (by rw[List.size_toArray] <;> omega) (by omega) (by rw[hj];simpa using ew) ⟨rfl,fin⟩) hs
theorem AZ:IxR X (oT X.K):=by
 intro value ce pins s σ H x y v u Q I rx ry h hs
 obtain⟨p,xs,i,z,rfl,rfl,hq,he,q⟩:=h
 cases rx
 obtain⟨t,rfl⟩:=ry
 obtain⟨its,r,pl,hz⟩:=I.tuple hq
 obtain⟨j,h1,h2,h3,h4,h5⟩:=jX he
 obtain⟨w,ew,rw'⟩:=r.get h2
 have hl:=r.length
 have hn:=d7
 have fin:EP X pins σ Q w s:=⟨z,H,I,rw',q⟩
 exact subscriptTail_builtinR (x:=w) pl.typeIs slot_tuple_getitem.lookup
  (getItem_tuple (j:=j) (Q:=λr s'=>r=w/\EP X pins σ Q r s') pl (by omega) (by omega) (by rw[List.size_toArray,<- hl];exact h1) (by simpa using ew) ⟨rfl,fin⟩) hs
theorem AR:IxR X tV:=by
 intro value ce pins s σ H x y v u Q I rx ry h hs
 obtain⟨z,i,c,rfl,rfl,hz,he,q⟩:=h
 obtain⟨t,rfl⟩:=rx
 obtain⟨t',rfl⟩:=ry
 obtain⟨j,h1,h2,h3,h4,h5⟩:=jX he
 have hl:z.cps.toList.length=z.length:=by simp [Str.length]
 rw[hl] at h1 h4 h5
 have hn:=d7
 exact tail_any (typeIs_str s z t) slot_str_getitem.lookup (getItem_str (c:=c) (by
  have e1:decide (i < -(2 ^ 63:Int))=false:=decide_eq_false (by omega)
  have e2:decide (i >= 2 ^ 63)=false:=decide_eq_false (by omega)
  rw[e1,e2,Bool.or_false]) (by rw[h1];simpa using h2) ⟨.str ⟨#[c]⟩,H,I.tok _,⟨_,rfl⟩,q⟩) hs
theorem o7 (its:List Value) (n j:Nat) (u:Value):Obj.mapSeq (·.setIfInBounds j u) { cls:=.type "list",data:=.seq its.toArray n }={ cls:=.type "list",data:=.seq (its.set j u).toArray n }:=by
 simp [Obj.mapSeq]
theorem Inv.lst {pins:List (Addr×Obj)}{σ:St}{H:Hp}{s:Shared}{p:Addr}{xs:List V} (I:Inv X pins σ H s) (h:H p=some (.lst xs)):
 ∃ (its:List Value) (n:Nat),Vals xs its/\s.heap.get? p=some { cls:=.type "list",data:=.seq its.toArray n }/\xs.length<=sizeLine:=by
 obtain⟨z,its,n,r,e⟩:=I.hok p _ h
 exact⟨its,n,r,e,z⟩
theorem Inv.lstUpd {pins:List (Addr×Obj)}{σ:St}{H:Hp}{s:Shared}{p:Addr}{xs ys:List V}{its its':List Value}{n n':Nat}{f:Obj->Obj} (I:Inv X pins σ H s) (h:H p=some (.lst xs))
 (ho:s.heap.get? p=some { cls:=.type "list",data:=.seq its.toArray n }) (hf:f { cls:=.type "list",data:=.seq its.toArray n }={ cls:=.type "list",data:=.seq its'.toArray n' }) (r:Vals ys its') (hz:ys.length<=sizeLine) (t:Nat):
 Inv X pins σ (upd H p (.lst ys)) { s with heap:=s.heap.update p f,toks:=t }:=by
 have e:(s.heap.update p f).get? p=some { cls:=.type "list",data:=.seq its'.toArray n' }:=by
  rw[Heap.get?_update_self f ho (by rw[hf] <;> rfl),hf]
 refine I.write (x:=p) (e:=p) (by rw[h];trivial) (.inl rfl) (λb u hb q=>(Heap.get?_update_other _ _ (Ne.symm hb)).trans q) ⟨_,e⟩ ?_
 exact⟨hz,its',n',r,e⟩
def oD:V->V->V->Hp->(Hp->Prop)->Prop:=λo i v H Q=>∃ p xs k j,o=.ref p/\i=.int k/\H p=some (.lst xs)/\ixN xs.length k=some j/\Q (upd H p (.lst (xs.set j v)))
theorem lE:pj X oD:=by
 intro pins s σ H o i v ov iv u Q I ro ri rv h
 obtain⟨p,xs,k,j,rfl,rfl,hp,hj,q⟩:=h
 cases ro
 obtain⟨t,rfl⟩:=ri
 obtain⟨its,n,r,ho,hz⟩:=I.lst hp
 obtain⟨h1,h2,h3,h4⟩:=nL hj
 have hl:=r.length
 have hn:=d7
 have I':Inv X pins σ (upd H p (.lst (xs.set j v))) { s with heap:=s.heap.update p (Obj.mapSeq (·.setIfInBounds j u)) }:=
  I.lstUpd hp ho (o7 its n j u) (r.set rv j) (by rw[List.length_set];exact hz) s.toks
 by_cases h0:0<=k
 ·have hk:k.toNat=j:=by
   rw[seqIndex_of h0 h4] at h1
   exact Option.some.inj h1
  exact W.ki_setAt ho h0 (by omega) (by rw[List.size_toArray,<- hl];exact h4) (by rw[hk];exact⟨_,I',q⟩)
 ·have hk:(k + (its.toArray.size:Int)).toNat=j:=by
   rw[seqIndex_neg (by omega) h3] at h1
   rw[List.size_toArray,<- hl]
   exact Option.some.inj h1
  exact W.ki_setBack ho (by omega) (by rw[List.size_toArray,<- hl];exact h3) (by omega) (by rw[hk];exact⟨_,I',q⟩)
theorem lX (lo hi:Option Int) (n:Nat):(sliceBounds lo hi none n).1=((HT.sIx n 0 lo:Nat):Int)/\(sliceBounds lo hi none n).2.1=((HT.sIx n n hi:Nat):Int)/\(sliceBounds lo hi none n).2.2=1:=by
 refine⟨?_,?_,rfl⟩
 ·cases lo with
  | none=>simp [sliceBounds,HT.sIx]
  |
   some i=>
   simp only[sliceBounds,HT.sIx,Option.getD_none,show (1:Int) > 0 by decide,if_true]
   by_cases h:i < 0
   ·simp only[h,if_true] <;> omega
   ·simp only[h,if_false] <;> omega
 ·cases hi with
  | none=>simp [sliceBounds,HT.sIx]
  |
   some i=>
   simp only[sliceBounds,HT.sIx,Option.getD_none,show (1:Int) > 0 by decide,if_true]
   by_cases h:i < 0
   ·simp only[h,if_true] <;> omega
   ·simp only[h,if_false] <;> omega
theorem kL (its:List Value) (lo hi:Option Int):slicePick its.toArray lo hi none=((its.drop (HT.sIx its.length 0 lo)).take (HT.sIx its.length its.length hi - HT.sIx its.length 0 lo)).toArray:=by
 obtain⟨h1,h2,h3⟩:=lX lo hi its.toArray.size
 unfold slicePick
 rw[h1,h2,h3]
 simp only[sliceRange_one,pick_run,List.size_toArray] <;> rfl
def rSlL (K:W.Frag):V->Option Int->Option Int->Hp->VK->Prop:=λx lo hi H Q=>∃ a xs,x=.ref a/\SqL K H a xs/\∀ p,H p=none->Q (.ref p) (upd H p (.lst (gR xs lo hi)))
theorem wR:SlR X (rSlL X.K):=by
 intro pins s σ H x v vl vu lo hi sl Q I rx hs pl pu h
 obtain⟨a,xs,rfl,hx,q⟩:=h
 cases rx
 obtain⟨its,r,ht,hz⟩:=I.list hx
 have hlen:=r.length
 refine⟨"list",_,slot_list_getitem.lookup,ht.isList.typeIs,?_⟩
 refine wpAny_getItem_list_slice ht.isList hs pl pu .none (by simp) ?_ (by rw[List.size_toArray] <;> omega)
 rw[kL,<- hlen]
 refine⟨.ref s.heap.objs.size,_,I.laid (t':=s.toks) (o:=.lst (gR xs lo hi)) (λb ob q=>Heap.get?_push_of_some _ q) (Nat.le_refl _) ?_,rfl,q _ (I.hok.fresh (Nat.le_refl _))⟩
 exact⟨Nat.le_trans (iI xs lo hi) hz,_,0,(r.drop (HT.sIx xs.length 0 lo)).take (HT.sIx xs.length xs.length hi - HT.sIx xs.length 0 lo),Heap.get?_push_size _ rfl⟩
def ba:V->Bool
 | .non=>true
 | .bl _=>true
 | .int _=>true
 | .str _=>true
 | _=>false
def eqV:V->V->Bool
 | .non,.non=>true
 | .bl a,.bl b=>a == b
 | .bl a,.int b=>(if a then 1 else 0) == b
 | .int a,.bl b=>a == (if b then 1 else 0)
 | .int a,.int b=>a == b
 | .str a,.str b=>a == b
 | _,_=>false
theorem A7 {A:Around}{s:Shared}{y x:V}{u v:Value} (ry:RelV y u) (rx:RelV x v) (fy:ba y=true) (fx:ba x=true):SeqAt.EqAt A s u v (eqV y x):=by
 cases y with
 |
  non=>
  cases ry
  cases x with
  | non=>cases rx;exact SeqAt.EqAt.same _
  | bl b=>cases rx;exact SeqAt.EqAt.none_bool b
  | int b=>obtain⟨t,rfl⟩:=rx;exact SeqAt.EqAt.none_int b t
  | str b=>obtain⟨t,rfl⟩:=rx;exact SeqAt.EqAt.none_str b t
  | _=>exact absurd (show false=true from fx) Bool.false_ne_true
 |
  bl a=>
  cases ry
  cases x with
  | non=>cases rx;exact SeqAt.EqAt.bool_none a
  | bl b=>cases rx;exact SeqAt.EqAt.bool_bool a b
  | int b=>obtain⟨t,rfl⟩:=rx;exact SeqAt.EqAt.bool_int a b t
  | str b=>obtain⟨t,rfl⟩:=rx;exact SeqAt.EqAt.bool_str a b t
  | _=>exact absurd (show false=true from fx) Bool.false_ne_true
 |
  int a=>
  obtain⟨t',rfl⟩:=ry
  cases x with
  | non=>cases rx;exact SeqAt.EqAt.int_none a t'
  | bl b=>cases rx;exact SeqAt.EqAt.int_bool a t' b
  | int b=>obtain⟨t,rfl⟩:=rx;exact SeqAt.EqAt.int_int a t' b t
  | str b=>obtain⟨t,rfl⟩:=rx;exact SeqAt.EqAt.int_str a t' b t
  | _=>exact absurd (show false=true from fx) Bool.false_ne_true
 |
  str a=>
  obtain⟨t',rfl⟩:=ry
  cases x with
  | non=>cases rx;exact SeqAt.EqAt.str_none a t'
  | bl b=>cases rx;exact SeqAt.EqAt.str_bool a t' b
  | int b=>obtain⟨t,rfl⟩:=rx;exact SeqAt.EqAt.str_int a t' b t
  | str b=>obtain⟨t,rfl⟩:=rx;exact SeqAt.EqAt.str_str a t' b t
  | _=>exact absurd (show false=true from fx) Bool.false_ne_true
 | _=>exact absurd (show false=true from fy) Bool.false_ne_true
def eqU (x:V) (u:Value):Bool:=match u with
 | .none=>eqV .non x
 | .bool b=>eqV (.bl b) x
 | .int i _=>eqV (.int i) x
 | .str z _=>eqV (.str z) x
 | _=>false
theorem rH {x y:V}{u:Value} (r:RelV y u) (f:ba y=true):eqU x u=eqV y x:=by
 cases y with
 | non=>cases r;rfl
 | bl b=>cases r;rfl
 | int i=>obtain⟨t,rfl⟩:=r;rfl
 | str z=>obtain⟨t,rfl⟩:=r;rfl
 | _=>exact absurd (show false=true from f) Bool.false_ne_true
theorem j3 {x:V}:∀ {xs:List V}{us:List Value},Vals xs us->xs.all ba=true->us.any (eqU x)=xs.any λy=>eqV y x
 | _,_,.nil,_=>rfl
 |
  y :: xs,u :: us,.cons r t,f=>by
  rw[List.all_cons,Bool.and_eq_true] at f
  rw[List.any_cons,List.any_cons,rH r f.1,j3 t f.2]
theorem jb {A:Around}{s:Shared}{x:V}{v:Value} (rx:RelV x v) (fx:ba x=true):∀ {xs:List V}{us:List Value},Vals xs us->xs.all ba=true->∀ u ∈ us,SeqAt.EqAt A s u v (eqU x u)
 | _,_,.nil,_=>λu hu=>by cases hu
 |
  y :: xs,u :: us,.cons r t,f=>λu' hu=>by
  rw[List.all_cons,Bool.and_eq_true] at f
  rcases List.mem_cons.mp hu with rfl | hu
  ·rw[rH r f.1];exact A7 r rx f.1 fx
  ·exact jb rx fx t f.2 u' hu
def inV (x:V) (xs:List V):Bool:=xs.any λy=>eqV y x
def rIn (K:W.Frag) (neg:Bool):R2:=λx y H Q=>∃ p xs,y=.ref p/\(SqL K H p xs\/SqT K H p xs)/\ba x=true/\xs.all ba=true/\Q (.bl (if neg then !inV x xs else inV x xs)) H
theorem pY:OpR X (compareOp .In) (rIn X.K false):=by
 intro pins s σ H x y v u Q I rx ry h
 obtain⟨p,xs,rfl,hq,fx,fs,q⟩:=h
 cases ry
 rcases hq with hq | hq
 ·obtain⟨its,r,pl,hz⟩:=I.list hq
  refine SeqAt.in_listAt (eqU x) pl.isList (λw hw=>jb rx fx r fs w (by simpa using hw)) ⟨.bl _,H,I,rfl,?_⟩
  rw[show its.toArray.any (eqU x)=its.any (eqU x) by simp,j3 r fs]
  exact q
 ·obtain⟨its,r,pl,hz⟩:=I.tuple hq
  refine SeqAt.in_tupleAt (eqU x) pl (λw hw=>jb rx fx r fs w (by simpa using hw)) ⟨.bl _,H,I,rfl,?_⟩
  rw[show its.toArray.any (eqU x)=its.any (eqU x) by simp,j3 r fs]
  exact q
theorem lC:CallR X (.builtin "len") (λxs H Q=>∃ p ys,xs=[.ref p]/\(SqL X.K H p ys\/SqT X.K H p ys)/\Q (.int ys.length) H):=by
 intro pins s σ H xs us Q I r h
 obtain⟨p,ys,rfl,hq,q⟩:=h
 obtain⟨u,rfl,rx⟩:=jG r
 cases rx
 have hn:=d7
 rcases hq with hq | hq
 ·obtain⟨its,r',pl,hz⟩:=I.list hq
  have hlen:=r'.length
  exact Calls.call_len_list pl.isList (by simp only[List.size_toArray] <;> omega) ⟨.int ys.length,H,I.tok _,⟨s.toks + 1,by rw[List.size_toArray,hlen]⟩,q⟩
 ·obtain⟨its,r',pl,hz⟩:=I.tuple hq
  have hlen:=r'.length
  exact len_tuple pl (by simp only[List.size_toArray] <;> omega) ⟨.int ys.length,H,I.tok _,⟨s.toks + 1,by rw[List.size_toArray,hlen]⟩,q⟩
theorem md:CallR X (.builtin "len") (λxs H Q=>∃ z,xs=[.str z]/\z.length<=sizeLine/\Q (.int z.length) H):=by
 intro pins s σ H xs us Q I r h
 obtain⟨z,rfl,hz,q⟩:=h
 obtain⟨u,rfl,t,rfl⟩:=jG r
 have hn:=d7
 exact len_str (by omega) ⟨.int z.length,H,I.tok _,⟨_,rfl⟩,q⟩
theorem CallR.or {f:Value}{r r':List V->Hp->VK->Prop} (h:CallR X f r) (h':CallR X f r'):CallR X f (λxs H Q=>r xs H Q\/r' xs H Q):=by
 intro pins s σ H xs us Q I rs q
 rcases q with q | q
 ·exact h pins s σ H xs us Q I rs q
 ·exact h' pins s σ H xs us Q I rs q
theorem kI:CallR X (.type "tuple") (λxs H Q=>∃ p ys,xs=[.ref p]/\((SqL X.K H p ys/\∀ l,H l=none->Q (.ref l) (upd H l (.tup ys)))\/(SqT X.K H p ys/\Q (.ref p) H))):=by
 intro pins s σ H xs us Q I r h
 obtain⟨p,ys,rfl,h⟩:=h
 obtain⟨u,rfl,rx⟩:=jG r
 cases rx
 rcases h with ⟨hq,q⟩ | ⟨hq,q⟩
 ·obtain⟨its,r',pl,hz⟩:=I.list hq
  have hlen:=r'.length
  refine call_tuple_list pl.isList (λh' kp=>?_) (by simp only[List.size_toArray] <;> omega)
  have I1:Inv X pins σ H { s with heap:=h' }:=I.kept (t':=s.toks) kp
  have I2:Inv X pins σ (upd H h'.objs.size (.tup ys)) { s with heap:=h'.push { cls:=.type "tuple",data:=.seq its.toArray } }:=
   I1.laid (t':=s.toks) (λb o e=>Heap.get?_push_of_some _ e) (Nat.le_refl _) (show ObjOk X.prog X.w _ _ _ (.tup ys) from ⟨hz,its,r',IsTup.new _ _⟩)
  exact⟨.ref h'.objs.size,_,I2,rfl,q _ (I1.hok.fresh (Nat.le_refl _))⟩
 ·obtain⟨its,r',pl,hz⟩:=I.tuple hq
  exact call_tuple_same pl ⟨.ref p,H,I,rfl,q⟩
def tyV (K:W.Frag) (T:String) (x:V) (H:Hp):Prop:=match x with
 | .str _=>T="str"
 | .int _=>T="int"
 | .ref p=>(T="list" /\ ∃ xs,SqL K H p xs)\/(T="tuple" /\ ∃ o,K.lookup p=some o/\o.cls=.type "tuple" /\ o.dict=none)\/
  (T="dict" /\ ((∃ kvs,H p=some (.dK kvs))\/∃ kvs,H p=some (.dT kvs)))\/(T="set" /\ ∃ S n,H p=some (.set S n))
 | _=>False
theorem As {pins:List (Addr×Obj)}{σ:St}{H:Hp}{s:Shared}{T:String}{x:V}{v:Value} (I:Inv X pins σ H s) (r:RelV x v) (ty:tyV X.K T x H):
 s.TypeIs v T/\∀ a,v=.ref a->∃ ob,s.heap.get? a=some ob/\ob.dict=none:=by
 cases x with
 |
  str z=>
  obtain⟨t,rfl⟩:=r
  cases (show T="str" from ty)
  exact⟨typeIs_str s z t,λ_ e=>nomatch e⟩
 |
  int i=>
  obtain⟨t,rfl⟩:=r
  cases (show T="int" from ty)
  exact⟨typeIs_int s i t,λ_ e=>nomatch e⟩
 |
  ref p=>
  cases r
  rcases ty with ⟨rfl,xs,hq⟩ | ⟨rfl,o,hk,hc,hd⟩ | ⟨rfl,hk⟩ | ⟨rfl,S,n,hk⟩
  ·obtain⟨its,_,pl,_⟩:=I.list hq
   refine⟨pl.isList.typeIs,λa e=>?_⟩
   cases e
   obtain⟨o,n,e,c,hd,_⟩:=pl
   exact⟨o,e,hd⟩
  ·refine⟨⟨o,I.kIn p o hk,hc⟩,λa e=>?_⟩
   cases e
   exact⟨o,I.kIn _ o hk,hd⟩
  ·have z:∃ o,s.heap.get? p=some o/\o.ExactDict:=by
    rcases hk with ⟨kvs,hk⟩ | ⟨kvs,hk⟩
    ·obtain⟨_,_,_,_,o,_,_,e,ex,_⟩:=I.hok p _ hk
     exact⟨o,e,ex⟩
    ·obtain⟨_,_,_,_,o,_,_,e,ex,_⟩:=I.hok p _ hk
     exact⟨o,e,ex⟩
   obtain⟨o,e,ex⟩:=z
   refine⟨⟨o,e,ex.1⟩,λa e2=>?_⟩
   cases e2
   exact⟨o,e,ex.2.1⟩
  ·obtain⟨o,_,_,_,e,ex,_⟩:=I.hok p _ hk
   refine⟨⟨o,e,ex.1⟩,λa e2=>?_⟩
   cases e2
   exact⟨o,e,ex.2.1⟩
 | _=>exact False.elim ty
def tBM (K:W.Frag) (T:String) (r:V->List V->Hp->VK->Prop) (to:TE) (t:TA):TE:=λσ H Q=>to σ H λx H1=>tyV K T x H1/\t σ H1 λxs H2=>r x xs H2 Q
variable {o e:Expr}{es:List Expr}{to:TE}{t:TA}{name:Str}{apos cpos:Pos}{T id:String}{r:V->List V->Hp->VK->Prop}
theorem Df (pa:PlainAttrs T) (slot:Slot T name id) (hty:typeOf (.builtin id)=pure (.type "method_descriptor")) (hm:MtR X id r) (ho:PE X o to) (ha:PA X (e :: es) t)
 (hbase:attributeBase o name X.env (eval o X.env)=eval o X.env:=by rfl)
 (hfew:((backTo cpos (starEach (e :: es) X.env)).all (λx=>!x.1) && (backToKw cpos (keywordEach [] X.env)).all (λx=>x.1.isSome)
  && decide ((e :: es).length + ([]:List Keyword).length + (if ([]:List Keyword).isEmpty then 0 else 1) < 30))=true:=by rfl)
 (hline:(apos.endLine == cpos.line)=true:=by rfl) (hs:starEach (e :: es) X.env=(false,eval e X.env) :: starEach es X.env:=by rfl) (be:(backTo cpos (starEach es X.env)).any (·.1)=false:=by rfl):
 PE X (.Call (.Attribute o name apos) (e :: es) [] cpos) (tBM X.K T r to t):=by
 intro pins s σ H Q I h
 refine wpAny_Call_method_late hbase hfew hline rfl (thn (ho pins s σ H _ I h) λv s1 ⟨x,H1,I1,r1,ty,q1⟩=>?_)
 obtain⟨h1,h2⟩:=As I1 r1 ty
 refine⟨T,id,pa,slot,hty,h1,h2,?_⟩
 have hA:=ha cpos pins s1 σ H1 _ I1 q1
 rw[hs] at hA ⊢
 refine Calls.callWith_builtin (by show (false || (backTo cpos (starEach es X.env)).any (·.1))=false;rw[be] <;> rfl) (Calls.evalArgs_plain ?_)
 exact thn hA λus s2 ⟨vs,H2,I2,r2,q2⟩=>hm pins s2 σ H2 x vs v us Q I2 r1 r2 q2
end
end L2
namespace L2
open PySem PySem.Spec PyProof.Rows
def MtM (X:Cx) (id:String) (r:V->List V->Hp->VK->Prop):Prop:=
 ∀
  (pins:List (Addr×Obj)) (s:Shared) (σ:St) (H:Hp) (x:V) (xs:List V) (v:Value) (us:List Value) (Q:VK),Inv X pins σ H s->RelV x v->Vals xs us->r x xs H Q->
  wpAny (model X.prog X.w) X.A (call (.builtin id) (v :: us)) (EP X pins σ Q) X.xe s
theorem Vals.one {x:V}{us:List Value} (r:Vals [x] us):∃ u,us=[u]/\RelV x u:=by
 cases r with
 | cons r t=>cases t;exact⟨_,rfl,r⟩
section
variable {X:Cx}{pins:List (Addr×Obj)}{σ:St}{H:Hp}{s:Shared}{l b:Addr}{xs ys zs:List V}
theorem Inv.lset {its its':List Value}{n:Nat}{f:Array Value->Array Value}{t':Nat} (I:Inv X pins σ H s) (hH:H l=some (.lst xs))
 (e:s.heap.get? l=some { cls:=.type "list",data:=.seq its.toArray n }) (hf:f its.toArray=its'.toArray) (hv:Vals ys its') (hz:ys.length<=sizeLine):
 Inv X pins σ (upd H l (.lst ys)) { s with heap:=s.heap.update l (Obj.mapSeq f),toks:=t' }:=by
 have q:=PySem.IsL.update e f
 rw[hf] at q
 refine I.write (x:=l) (e:=l) (by rw[hH];exact trivial) (.inl rfl) (λb' u hb hu=>(Heap.get?_update_other s.heap (Obj.mapSeq f) (Ne.symm hb)).trans hu) ⟨_,q⟩ ?_
 exact⟨hz,its',_,hv,q⟩
theorem Inv.lnew {its:List Value}{t':Nat} (I:Inv X pins σ H s) (hv:Vals ys its) (hz:ys.length<=sizeLine):
 Inv X pins σ (upd H s.heap.objs.size (.lst ys)) { s with heap:=s.heap.push { cls:=.type "list",data:=.seq its.toArray },toks:=t' }:=
 I.laid (λ_ _ q=>Heap.get?_push_of_some _ q) (Nat.le_refl _) ⟨hz,its,0,hv,Heap.get?_push_size _ rfl⟩
theorem Inv.fresh (I:Inv X pins σ H s):H s.heap.objs.size=none:=I.hok.fresh (Nat.le_refl _)
theorem Inv.lstM (I:Inv X pins σ H s) (hH:H l=some (.lst xs)):xs.length<=sizeLine/\∃ (its:List Value) (n:Nat),Vals xs its/\xs.length=its.length/\s.heap.get? l=some { cls:=.type "list",data:=.seq its.toArray n }:=by
 obtain⟨z,its,n,r,e⟩:=I.hok l _ hH
 exact⟨z,its,n,r,r.length,e⟩
end
section
variable {X:Cx}
def nT:V->List V->Hp->VK->Prop:=λx vs H Q=>∃ l xs y,x=.ref l/\vs=[y]/\H l=some (.lst xs)/\xs.length < sizeLine/\Q .non (upd H l (.lst (xs++[y])))
theorem qL:MtM X "list.append" nT:=by
 intro pins s σ H x vs v us Q I rx rv h
 obtain⟨l,xs,y,rfl,rfl,hH,hz,q⟩:=h
 cases rx
 obtain⟨u,rfl,ru⟩:=rv.one
 obtain⟨z,its,n,r,hl,e⟩:=I.lstM hH
 refine call_meets F.slot_list_append ⟨_,e,rfl⟩ F.entry_list_append (F.args_list_append_2 _ _) (PySem.list_append l its.toArray n u (by rw[List.size_toArray];omega)) ⟨e,?_⟩
 refine⟨.non,_,I.lset (its':=its++[u]) hH e (by simp) (r.append (.cons ru .nil)) ?_,rfl,q⟩
 rw[List.length_append,List.length_singleton]
 omega
def jZ:R2:=λx y H Q=>∃ l b xs zs,x=.ref l/\y=.ref b/\H l=some (.lst xs)/\H b=some (.lst zs)/\xs.length + zs.length<=sizeLine/\∀ p,H p=none->Q (.ref p) (upd H p (.lst (xs++zs)))
theorem zv:OpR X (binaryOp .Add) jZ:=by
 intro pins s σ H x y v u Q I rx ry h
 obtain⟨l,b,xs,zs,rfl,rfl,hH,hB,hz,q⟩:=h
 cases rx
 cases ry
 obtain⟨z,its,n,r,hl,e⟩:=I.lstM hH
 obtain⟨z2,its2,n2,r2,hl2,e2⟩:=I.lstM hB
 refine PySem.P.add_list e e2 ?_ (by rw[List.size_toArray,List.size_toArray];omega)
 have ea:its.toArray++its2.toArray=(its++its2).toArray:=by simp
 rw[ea]
 exact⟨.ref _,_,I.lnew (t':=s.toks) (r.append r2) (by rw[List.length_append];omega),rfl,q _ I.fresh⟩
end
section
variable {prog:Program}{w:World}{A:Around}{E:Value->Shared->Prop}{s:Shared}
set_option maxRecDepth 100000 in
end
section
variable {X:Cx}
end
end L2
namespace Att
open PySem PySem.W PySem.Calls PyProof.Rows
theorem jf {P:Params}{h:Heap}:∀ (ns:List Int) (vs:List Value),WellAll P h vs (ns.map WData.int)->IntsAre vs ns:=by
 intro ns
 induction ns with
 |
  nil=>
  intro vs w
  rw[List.map_nil] at w
  cases w
  exact .nil
 |
  cons n ns ih=>
  intro vs w
  rw[List.map_cons] at w
  cases w with
  |
   cons a b=>
   cases a
   exact .cons _ _ (ih _ b)
theorem rZ {l:OpenLaw}{n:Nat} (hn:l.most=some n) {P:Params}{h:Heap}{args:List WData}{vals:List Value}
 (hpre:l.row.toRowW.claim.pre args=true) (hwl:WellAll P h vals args):
 ∃ a vs ns,vals=[Value.ref a]/\args=[WData.list (ns.map WData.int)]/\h.get? a=some { cls:=.type "list",data:=.seq vs.toArray }/\IntsAre vs ns/\ns.length<=n:=by
 have hsh:WShape.hasAll [] args [.list .int]=true:=(pre_splitW hpre).1
 have hc:l.pre.holds [] { args:=args }=true:=(pre_splitW hpre).2
 obtain⟨d,r,rfl,h1,h2⟩:=hasAllW_cons hsh
 obtain rfl:=hasAllW_nil h2
 obtain⟨xs,rfl,h3⟩:=hasW_list h1
 obtain⟨ns,rfl⟩:=items_int h3
 have hlen:ns.length<=n:=by
  unfold OpenLaw.pre at hc
  have h4:(WTm.not (.lt (.lit (.int (n:Int))) (.len (.arg 0)))).holds [] { args:=[.list (ns.map .int)] }=true:=by
   have h4:=(holds_andW hc).1
   rw[hn] at h4
   exact h4
  have h5:=condW_of h4 (w_not (w_lt w_lit (w_len_list (w_arg rfl))))
  rw[List.length_map] at h5
  refine Nat.le_of_not_lt λq=>?_
  have q':(n:Int) < ((ns.length:Nat):Int):=by omega
  first
   | (rw[decide_eq_true q'] at h5;exact absurd h5 (by decide))
   | (simp at h5;omega)
 cases hwl with
 |
  cons w1 w2=>
  cases w2
  cases w1 with
  | list ho hall=>exact⟨_,_,ns,rfl,rfl,ho,jf ns _ hall,hlen⟩
theorem rh (l:OpenLaw) (args:List WData):l.row.toRowW.claim.post args (.bool true) args=true:=
 postW_of (r:=l.row.toRowW) (X:=(true == true))
  (show WShape.has [] (.bool true) .bool=true by first | rfl | decide | simp [WShape.has,WShape.arms,WShape.armsAll])
  (show (WTm.eq .res (.lit (.bool true))).value [] { args:=args,res:=some (.bool true),after:=args }=some (.bool (true == true)) from w_eq_bool (w_res rfl) w_lit) rfl
theorem attach_call {l:OpenLaw}{n:Nat}{q:Program}{loose:List Str}{XP:(Str->Option Value)->Heap->Prop}{YP:World->Heap->Prop}{d:DefRec}
 (hn:l.most=some n) (hdf:d.params.defaults=[])
 (call:∀ (w:World) (s₀ s₁:Shared) (mg mb:Str->Option Value) (fa:Addr) (o:Obj) (pm cd doc:Value) (a:Addr) (vs:List Value) (ns:List Int),
  Ground q loose [] XP w s₀ mg mb s₁.heap->YP w s₁.heap->
  s₁.heap.get? fa=some o->o.data=.func (docDef d.name d.params d.body d.scope pm cd doc)->s₁.heap.CodeRec cd d.name->mg d.name=some (.ref fa)->
  s₁.heap.get? a=some { cls:=.type "list",data:=.seq vs.toArray }->IntsAre vs ns->ns.length<=n->s₁.gens=#[]->
  codeAny (model l.prog w) callerA (.call (.ref fa) ⟨[.ref a],[]⟩) (λr s'=>r=.ok (.ret (.bool true))/\OldK s₁.heap s'.heap/\s'.os=s₁.os/\AllBare s'.gens) s₁):
 WalkO q loose XP YP l.row.toRowW d [] (λf vs=>PySem.call f vs):=by
 intro w s₀ s₁ mg mb G Y fa o pm cd doc dV kV ho hd hcd hD hmg hg args vals as hpre hlay hrd hwl hlo
 obtain rfl:dV=.none:=Dflts.none hD hdf
 obtain rfl:kV=.none:=Dflts.noKw hD
 obtain⟨a,vs,ns,rfl,rfl,hobj,hints,hlen⟩:=rZ hn hpre hwl
 refine enter_call (codeAny_mono (call w s₀ s₁ mg mb fa o pm cd doc a vs ns G Y ho (fd_plain hd) hcd hmg hobj hints hlen hg) λr s' hq=>?_)
 obtain⟨rfl,h2,h3,h4⟩:=hq
 exact⟨.inl ⟨.bool true,.bool true,[],rfl,λ_=>rfl,.bool true,rh l _,λ_=>⟨List.Pairwise.nil,λ_ hm=>(nomatch hm)⟩⟩,h2,h3,h4⟩
section
variable {prog:Program}{w:World}{A:Around}{E:Value->Shared->Prop}{s:Shared}{K:Frag}
def ledger (h:Heap) (L d:Addr):List (Addr×Obj):=(List.range h.objs.size).filterMap λa=>if a=L\/a=d then none else (h.get? a).map λo=>(a,o)
end
end Att
namespace L2
open PySem PySem.Spec PyProof.Rows
theorem kE:∀ {vs:List Value}{ns:List Int},IntsAre vs ns->Vals (ns.map V.int) vs
 | _,_,.nil=>.nil
 | _,_,.cons n t h=>.cons ⟨t,rfl⟩ (kE h)
def ke (H:Hp):Prop:=∀ b,H b=none\/∃ o xs,H b=some (.frz o (.lst xs))
theorem tL {P:Program}{w:World}{K:W.Frag}{mg mb:Str->Option Value}{CX:CXT}{k:Nat}{fa a:Addr}{fd:FuncData}{x:Str}{sp:Sp}{s₁:Shared}{vs:List Value}{ns:List Int}
 (KX:K.In s₁.heap) (hns:s₁.heap.Ns mainGlobals mg) (hb:s₁.heap.Ns builtinsNs mb) (hbb:∀ x:Str,x ≠ "__name__"->mb x=bootBuiltins x) (hlim:s₁.heap.NoLimit) (hg:s₁.gens=#[])
 (ha:s₁.heap.get? a=some { cls:=.type "list",data:=.seq vs.toArray }) (hi:IntsAre vs ns) (hl:ns.length<=sizeLine) (hr:Room k callerA)
 (F:∀ base:Heap,K.In base->base.Ns mainGlobals mg->FnOk P w K mg base CX k fa fd [x] sp) (hbind:∀ (s:Shared) (u:Value),BindsTo s fd ⟨[u],[]⟩ [(x,u)])
 (hsp:∀ H:Hp,ke H->SqL K H a (ns.map V.int)->sp [.ref a] H (λv _=>v=.bl true) λ_ _ _=>False)
 (hCX:∀ H e s',CX [] H s₁ (λ_ _ _=>False) e s'->False):
 codeAny (model P w) callerA (.call (.ref fa) ⟨[.ref a],[]⟩) (λr s'=>r=.ok (.ret (.bool true))/\OldK s₁.heap s'.heap/\s'.os=s₁.os/\AllBare s'.gens) s₁:=by
 have rv:=kE hi
 have lenV:=hi.length
 have core
  : ∀ H:Hp,ke H->SqL K H a (ns.map V.int)->HOk P w H s₁.heap->(∀ b,H b ≠ none->b=a)->(H a ≠ none->K.lookup a=none)->
  codeAny (model P w) callerA (.call (.ref fa) ⟨[.ref a],[]⟩) (λr s'=>r=.ok (.ret (.bool true))/\OldK s₁.heap s'.heap/\s'.os=s₁.os/\AllBare s'.gens) s₁:=by
  intro H hO hS hok hA hK
  have base_of:∀ {b:Addr}{o:Obj},s₁.heap.get? b=some o->H b=none->(gk s₁.heap H).get? b=some o:=λe n=>uc e n
  have noA:∀ {b:Addr}{o:Obj}{es:Array DictEntry}{ep:Nat},s₁.heap.get? b=some o->o.data=.dict es ep->H b=none:=λ{b o es ep} e d=>by
   cases q:H b with
   | none=>rfl
   |
    some u=>
    have e':b=a:=hA b (by rw[q];simp)
    subst e'
    rw[ha] at e;cases e
    have d':Data.seq vs.toArray _=Data.dict es ep:=d
    cases d'
  have nsK:∀ {b:Addr}{m:Str->Option Value},s₁.heap.Ns b m->(gk s₁.heap H).Ns b m:=λ{b m} ⟨o,es,ep,e,d,r⟩=>⟨o,es,ep,base_of e (noA e d),d,r⟩
  have hKb:K.In (gk s₁.heap H):=λb o e=>base_of (KX b o e) (by
   cases q:H b with
   | none=>rfl
   |
    some u=>
    have e':b=a:=hA b (by rw[q];simp)
    subst e'
    rw[hK (by rw[q];simp)] at e;cases e)
  have hM:Mod K mg (gk s₁.heap H):=⟨hKb,nsK hns,⟨mb,nsK hb,hbb⟩,let ⟨mc,h1,h2⟩:=hlim;⟨mc,nsK h1,h2⟩⟩
  have e0:Env0 P w K mg (gk s₁.heap H) callerA [] s₁ H:=⟨rfl,hM,λb o e=>xM e,Nat.le_of_eq (rB _ _),trivial,λb hb=>absurd (show b ∈ ([]:List Addr) from hb) (by simp),hok,.of_eq hg⟩
  refine codeAny_mono ((F _ hKb (nsK hns)).run callerA [] s₁ H ⟨[.ref a],[]⟩ [.ref a] [.ref a] _ _ hr e0 (hbind s₁ (.ref a)) (.cons rfl .nil) (hsp H hO hS)) λr s' h=>?_
  cases r with
  | error e=>exact (hCX H e s' h).elim
  |
   ok fl=>
   cases fl with
   | next=>exact False.elim h
   | brk=>exact False.elim h
   | cont=>exact False.elim h
   |
    ret u=>
    obtain⟨v,H',os,bare,un,hok',r',q⟩:=h
    have q':v=.bl true:=q
    subst q'
    obtain rfl:u=Value.bool true:=r'
    refine⟨rfl,OldK.of_keep λb o e=>?_,os,bare⟩
    cases q:H b with
    | none=>exact un.keep b o e q (by intro z;exact absurd (show b ∈ ([]:List Addr) from z) (by simp)) (by simp)
    |
     some u=>
     rcases hO b with z | ⟨ob,xs,z⟩
     ·rw[q] at z;cases z
     ·have z2:=un.frzs b ob _ z
      obtain⟨e1,_⟩:=hok b _ z
      obtain⟨e2,_⟩:=hok' b _ z2
      rw[e] at e1;cases e1
      exact e2
 cases hk:K.lookup a with
 |
  some o=>
  have e:=KX a o hk
  rw[ha] at e
  cases e
  refine core (λ_=>none) (λ_=>.inl rfl) (.inr ⟨_,vs.toArray,_,hk,rfl,rfl,rfl,by rw[List.size_toArray,lenV];exact hl,by simpa using rv⟩) (λb u z=>by have z':(none:Option HO)=some u:=z;cases z') (λb z=>absurd rfl z) λz=>absurd rfl z
 |
  none=>
  refine core (λb=>if b=a then some (.frz { cls:=.type "list",data:=.seq vs.toArray } (.lst (ns.map V.int))) else none) (λb=>?_) (.inl (.inr ⟨{ cls:=.type "list",data:=.seq vs.toArray },if_pos rfl⟩)) (λb u z=>?_) (λb z=>?_) λ_=>hk
  ·by_cases hb:b=a
   ·exact .inr ⟨_,_,if_pos hb⟩
   ·exact .inl (if_neg hb)
  ·by_cases hb:b=a
   ·have z':=(if_pos hb).symm.trans z
    cases z'
    subst hb
    exact⟨ha,by rw[List.length_map];exact hl,vs,_,rv,ha⟩
   ·have z':=(if_neg hb).symm.trans z
    cases z'
  ·by_cases hb:b=a
   ·exact hb
   ·exact absurd (if_neg hb) z
end L2
namespace L2
open PySem PySem.Spec PyProof.Rows
abbrev KOf {K:W.Frag}{h:Heap} (_:K.In h):W.Frag:=K
theorem walk_of {l:W.OpenLaw}{n k:Nat}{q:Program}{loose:List Str}{XP:(Str->Option Value)->Heap->Prop}{YP:World->Heap->Prop}{d:DefRec}{K:Params->W.Frag}{CX:World->CXT}{sp:World->Sp}{x:Str}
 (hn:l.most=some n) (hn2:n<=sizeLine) (hdf:d.params.defaults=[]) (hr:Room k callerA)
 (hY:∀ (w:World) (h:Heap),YP w h->(K w.params).In h)
 (F:∀ (w:World) (mg:Str->Option Value) (fa:Addr) (h:Heap),(K w.params).In h->h.Ns mainGlobals mg->mg d.name=some (.ref fa)->
  ∃
   fd:FuncData,(∀ (s:Shared) (u:Value),BindsTo s fd ⟨[u],[]⟩ [(x,u)])/\
   ∀ base:Heap,(K w.params).In base->base.Ns mainGlobals mg->FnOk l.prog w (K w.params) mg base (CX w) k fa fd [x] (sp w))
 (hsp:∀ (w:World) (H:Hp) (a:Addr) (ns:List Int),ns.length<=n->ke H->SqL (K w.params) H a (ns.map V.int)->sp w [.ref a] H (λv _=>v=.bl true) λ_ _ _=>False)
 (hCX:∀ (w:World) (H:Hp) (s:Shared) (e:Value) (s':Shared),CX w [] H s (λ_ _ _=>False) e s'->False):
 W.WalkO q loose XP YP l.row.toRowW d [] (λf vs=>PySem.call f vs):=by
 refine Att.attach_call hn hdf λw s₀ s₁ mg mb fa o pm cd doc a vs ns G Y ho hd hcd hmg hobj hints hlen hg=>?_
 have KX:=hY w _ Y
 obtain⟨fd,hb,hF⟩:=F w mg fa _ KX G.T.g hmg
 exact tL KX G.T.g G.T.b G.T.builtins G.T.nolimit hg hobj hints (Nat.le_trans hlen hn2) hr hF hb (λH hO hS=>hsp w H a ns hlen hO hS) λH e s'=>hCX w H s₁ e s'
end L2
namespace L2
open PySem PySem.Spec PyProof.Rows
def bX (s:Stmt):Arguments:=match s with
 | .FunctionDef _ a _ _ _ _ _ _ _ _=>a
 | _=>{ posonlyargs:=[],args:=[],vararg:=none,kwonlyargs:=[],kw_defaults:=[],kwarg:=none,defaults:=[] }
def bf (s:Stmt):List Stmt:=match s with
 | .FunctionDef _ _ b _ _ _ _ _ _ _=>b
 | _=>[]
def ao (s:Stmt):Scope:=match s with
 | .FunctionDef _ _ _ _ _ _ sc _ _ _=>sc
 | _=>{ kind:=.function,names:=[],isGenerator:=false,isCoroutine:=false }
abbrev E0:XK:=λ_ _ _=>False
structure Fun (K:W.Frag) (x qual:Str) (st:Stmt) (f:Addr) (fd:FuncData):Prop where
 ex:∃ (oc:Value) (od:Option Addr) (kV doc pm:Value) (an:Option Addr) (cdv ct:Value) (osl:Array (Option Value)),
  fd=W.fnOf x qual (bX st) (bf st) (ao st) .none kV doc pm an cdv ct/\K.lookup f=some ⟨oc,od,.func fd,osl⟩/\W.codeIn K cdv qual=true
 kp:W.keepIn K (.ref f)=true
section
variable {P:Program}{w:World}{K:W.Frag}{mg:Str->Option Value}{base:Heap}
theorem Fun.binds {x qual:Str}{st:Stmt}{f:Addr}{fd:FuncData}{ps:List Str} (F:Fun K x qual st f fd)
 (h:∀ (kV doc pm:Value) (an:Option Addr) (cdv ct:Value) (us:List Value),us.length=ps.length->bindArgs (W.fnOf x qual (bX st) (bf st) (ao st) .none kV doc pm an cdv ct) ⟨us,[]⟩=pure (ps.zip us)):Binds K fd ps []:=by
 obtain⟨oc,od,kV,doc,pm,an,cdv,ct,osl,rfl,lk,hcd⟩:=F.ex
 exact .all (h kV doc pm an cdv ct)
theorem Az {x qual:Str}{st:Stmt}{f:Addr}{oc:Value}{od an:Option Addr}{osl:Array (Option Value)}{kV doc pm cdv ct:Value} (l:K.lookup f=some ⟨oc,od,.func (W.fnOf x qual (bX st) (bf st) (ao st) .none kV doc pm an cdv ct),osl⟩)
 (c:W.codeIn K cdv qual=true) (k:W.keepIn K (.ref f)=true):Fun K x qual st f (W.fnOf x qual (bX st) (bf st) (ao st) .none kV doc pm an cdv ct):=⟨⟨oc,od,kV,doc,pm,an,cdv,ct,osl,rfl,l,c⟩,k⟩
end
theorem C1 {A:Around}{k:Nat} (hr:Room k A):A.units + 1 < cLine:=Nat.lt_of_le_of_lt (Nat.add_le_add_left (by decide:1<=64) _) hr.units
section
variable {X:Cx}
theorem pv (i:Nat) {x:Str}{pos:Pos} (hN:X.N[i]?=some x:=by rfl) (hv:Vis X.env.scope x:=by first | exact Or.inl rfl | exact Or.inr (Or.inl rfl) | exact Or.inr (Or.inr rfl)) (hd:(x == ("__debug__" : Str))=false:=by decide)
 (hcd:(x == ("__classdict__" : Str))=false:=by decide):PE X (.Name x pos) (tVar i):=qh hN hv hd hcd
end
end L2
namespace L2
open PySem PySem.Spec PyProof.Rows
section
variable {X:Cx}{pins:List (Addr×Obj)}{σ:St}{H:Hp}{s:Shared}
theorem Inv.track {a:Addr}{o:HO} (I:Inv X pins σ H s) (hn:H a=none) (h0:X.s₀.heap.get? a=none) (hL:a ≠ X.env.locals) (hc:∀ x c,X.env.cells.lookup x=some c->c ≠ a)
 (hp:∀ p ∈ X.pn++pins,p.1 ≠ a) (new:ObjOk X.prog X.w (upd H a o) s.heap a o):Inv X pins σ (upd H a o) s:=by
 have ne:∀ b u,H b=some u->b ≠ a:=λb u e z=>by rw[z,hn] at e;cases e
 have ne0:∀ b u,X.s₀.heap.get? b=some u->b ≠ a:=λb u e z=>by rw[z,h0] at e;cases e
 refine⟨I.ok,I.os,I.bare,⟨I.base.keep,I.base.slot,λb u e n hx=>?_,I.base.there,λb xs e=>?_,λb u xs e=>?_,λb ps e=>?_⟩,I.loc,I.cell,?_,λx c e=>?_,λp hp'=>?_,λb u e=>?_,I.len⟩
 ·rw[aB (ne0 b u e)];exact I.base.free b u e n hx
 ·have q:=I.base.tups b xs e
  rw[aB (ne _ _ q)];exact q
 ·have q:=I.base.frzs b u xs e
  rw[aB (ne _ _ q)];exact q
 ·obtain⟨m,q⟩:=I.base.tbls b ps e
  exact⟨m,by rw[aB (ne _ _ q)];exact q⟩
 ·rw[aB (Ne.symm hL)];exact I.free
 ·rw[aB (hc x c e)];exact I.freeC x c e
 ·obtain⟨e,n,r⟩:=I.pin p hp'
  exact⟨e,by rw[aB (hp p hp')];exact n,r⟩
 ·by_cases hb:b=a
  ·subst hb;rw[bH] at e;cases e;exact new
  ·rw[aB hb] at e
   exact (I.hok b u e).stay (λc v _ q=>q) (λc q=>by rw[aB (ne _ _ q)];exact q) λc xs q=>by rw[aB (ne _ _ q)];exact q
end
theorem fY {env:Env}:∀ {names:List (Str×NameKind)} (cs:List (Str×Addr)),(∀ x ∈ names,x.2=.free->∃ c,env.cells.lookup x.1=some c)->(∀ x c,cs.lookup x=some c->env.cells.lookup x=some c)->
 ∃
  cl,(forIn names cs λ(x:Str×NameKind) (r:List (Str×Addr))=>if (x.2 == NameKind.free)=true then do let a <- cellOf env x.1;pure (ForInStep.yield ((x.1,a) :: r)) else pure (ForInStep.yield r):Sem (List (Str×Addr)))=pure cl/\
  (∀ x c,cl.lookup x=some c->env.cells.lookup x=some c)/\(∀ x c,cs.lookup x=some c->∃ c',cl.lookup x=some c')/\∀ x ∈ names,x.2=.free->∃ c,cl.lookup x.1=some c
 | [],cs,_,h=>⟨cs,by simp,h,λx c e=>⟨c,e⟩,λ_ hx=>nomatch hx⟩
 |
  (n,k) :: r,cs,hf,h=>by
  rw[List.forIn_cons]
  by_cases hk:k=.free
  ·subst hk
   obtain⟨c,hc⟩:=hf (n,.free) List.mem_cons_self rfl
   have hcell:cellOf env n=pure c:=by unfold cellOf;rw[hc]
   have h':∀ x d,((n,c) :: cs).lookup x=some d->env.cells.lookup x=some d:=λx d e=>by
    rw[List.lookup_cons] at e
    cases q:x == n with
    | true=>rw[q] at e;cases e;rw[beq_iff_eq.mp q];exact hc
    | false=>rw[q] at e;exact h x d e
   obtain⟨cl,e1,e2,e3,e4⟩:=fY (env:=env) (names:=r) ((n,c) :: cs) (λx hx=>hf x (List.mem_cons_of_mem _ hx)) h'
   have top:∃ c',cl.lookup n=some c':=e3 n c (by rw[List.lookup_cons];simp)
   refine⟨cl,?_,e2,λx d e=>?_,λx hx hfr=>?_⟩
   ·simp only[beq_self_eq_true,if_true,hcell]
    exact e1
   ·by_cases q:x=n
    ·rw[q];exact top
    ·exact e3 x d (by rw[List.lookup_cons,(beq_eq_false_iff_ne.mpr q:(x == n)=false)];exact e)
   ·rcases List.mem_cons.mp hx with rfl | hx
    ·exact top
    ·exact e4 x hx hfr
  ·have hb:(k == NameKind.free)=false:=by simpa using hk
   obtain⟨cl,e1,e2,e3,e4⟩:=fY (env:=env) (names:=r) cs (λx hx=>hf x (List.mem_cons_of_mem _ hx)) h
   refine⟨cl,?_,e2,e3,λx hx hfr=>?_⟩
   ·simp only[hb,Bool.false_eq_true,if_false]
    exact e1
   ·rcases List.mem_cons.mp hx with rfl | hx
    ·exact absurd hfr hk
    ·exact e4 x hx hfr
theorem gy {env:Env}{scope:Scope} (hf:∀ x ∈ scope.names,x.2=.free->∃ c,env.cells.lookup x.1=some c):
 ∃ cl,closureFor scope env=pure cl/\(∀ x c,cl.lookup x=some c->env.cells.lookup x=some c)/\∀ x ∈ scope.names,x.2=.free->∃ c,cl.lookup x.1=some c:=by
 obtain⟨cl,e1,e2,_,e4⟩:=fY (env:=env) (names:=scope.names) [] hf (λx c e=>by simp at e)
 refine⟨cl,?_,e2,e4⟩
 unfold closureFor
 simp only[e1]
 rfl
def aE (X:Cx) (N:List Str) (scope:Scope) (cl:List (Str×Addr)) (C:Addr) (s₂:Shared) (H:Hp) (fp:List Addr):Cx:=
 { X with N:=N,s₀:=s₂,H₀:=H,env:=compEnvC scope cl C X.env,outer:=X.stack,stack:=X.stack,ex:=fp,fn:=λ_=>false,pn:=[],xe:=λ_ _=>False }
def bL (sub:List (Option Nat)) (σ:St):St:=sub.map λo=>o.bind λi=>(σ[i]?).bind id
def LcW (J:It) (sub:List (Option Nat)) (g:TG) (tc:TT) (te:TE) (σ:St) (H1:Hp) (Q:VK):Prop:=∃ W:Nat->Nat->List V->St->Hp->Prop,(∃ m,W 0 m [] (bL sub σ) H1)/\∀ i m ys σ H,W i m ys σ H->
 (J.stop i H/\ys.length<=sizeLine/\∀ D,H D=none->Q (.ref D) (upd H D (.lst ys)))\/
 (J.go i H/\ys.length < sizeLine/\∃ Nx:List V->St->Hp->Prop,(∀ ys' σ' H',Nx ys' σ' H'->∃ m',m' < m/\W (i + 1) m' ys' σ' H')/\
  ∀ x H',J.yld i H x H'->g x σ H' λσ2 H2=>tc σ2 H2 λb H3=>if b=true then te σ2 H3 λy H4=>Nx (ys++[y]) σ2 H4 else Nx ys σ2 H3)
def gb (wi:TI) (sub:List (Option Nat)) (g:TG) (tc:TT) (te:TE):TE:=λσ H Q=>wi σ H λJ H1=>LcW J sub g tc te σ H1 Q
abbrev tP:TT:=λ_ H Q=>Q true H
section
variable {prog:Program}{w:World}{A:Around}{R:Result->Shared->Prop}{s:Shared}
theorem g8 {ci target ad:Expr}{ifs:List Expr}{scope:Scope}{pos:Pos}{it acc:Value}{env:Env} (I:Nat->Shared->Prop)
 (turn
  : ∀ n s,I n s->wpAny (model prog w) A (pyNext it) (λr s₁=>match r with
  | none=>R (.ok .next) s₁
  | some v=>wpAny (model prog w) A (letOwnedTupleGo target it v) (λ_ s₁'=>wpAny (model prog w) A (assign target env v) (λ_ s₂=>
   wpAny (model prog w) A (forIn ifs true λc r=>if r=true then do let ok <- isTrue c env (eval c env);pure (ForInStep.yield ok) else pure (ForInStep.yield r))
    (λok s₃=>if ok=true then wpAny (model prog w) A (eval ci env) (λx s₄=>wpAny (model prog w) A (call (.builtin "list.append") [acc,x]) (λ_ s₅=>∃ m,m < n/\I m s₅) (λ_ _=>False) s₄) (λ_ _=>False) s₃
     else ∃ m,m < n/\I m s₃) (λ_ _=>False) s₂) (λ_ _=>False) s₁') (λ_ _=>False) s₁) (λ_ _=>False) s)
 (n:Nat) (h:I n s):
 codeAny (model prog w) A (.compLoop (.ListComp ci [⟨target,ad,ifs,0⟩] scope pos) 0 it acc env) R s:=by
 refine codeAny_loop rfl I (λn s hI=>?_) n h
 show wpAny _ _ ((compTurn (.ListComp ci [⟨target,ad,ifs,0⟩] scope pos) 0 it acc env).onRaise (λx=>do noteFrame x env;theTreesLotGoes x)) _ _ s
 refine wpAny_noted ?_
 rw[compTurn_list]
 refine wpAny_mono (E:=λ_ _=>False) ?_ (λ_ _ q=>q) λ_ _ q=>q.elim
 refine wpAny_bind (wpAny_standAt (wpAny_bind (wpAny_mono (turn n s hI) (λr s₁ h₁=>?_) λ_ _ h'=>h')))
 cases r with
 | none=>exact wpAny_pure h₁
 |
  some v=>
  refine wpAny_bind (wpAny_mono h₁ (λ_ s₁' h₁'=>?_) λ_ _ h'=>h')
  refine wpAny_bind (wpAny_mono h₁' (λ_ s₂ h₂=>?_) λ_ _ h'=>h')
  refine wpAny_bind (wpAny_mono h₂ (λok s₃ h₃=>?_) λ_ _ h'=>h')
  cases ok with
  |
   true=>
   simp only[if_true] at h₃ ⊢
   refine wpAny_bind (wpAny_bind (wpAny_mono h₃ (λx s₄ h₄=>?_) λ_ _ h'=>h'))
   refine wpAny_bind (wpAny_mono h₄ (λ_ s₅ h₅=>?_) λ_ _ h'=>h')
   exact wpAny_pure (wpAny_pure ⟨rfl,h₅⟩)
  |
   false=>
   simp only[Bool.false_eq_true,if_false] at h₃ ⊢
   first
    | exact wpAny_bind (wpAny_pure (wpAny_pure ⟨rfl,h₃⟩))
    | exact wpAny_pure ⟨rfl,h₃⟩
end
section
variable {X:Cx}
def PTs (X:Cx) (ifs:List Expr) (t:TT):Prop:=
 ∀
  (pins:List (Addr×Obj)) (s:Shared) (σ:St) (H:Hp) (Q:Bool->Hp->Prop),Inv X pins σ H s->t σ H Q->
  wpAny (model X.prog X.w) X.A (forIn ifs true λc r=>if r=true then do let ok <- isTrue c X.env (eval c X.env);pure (ForInStep.yield ok) else pure (ForInStep.yield r)) (TP X pins σ Q) X.xe s
theorem m7:PTs X [] (λ_ H Q=>Q true H):=λpins s σ H Q I h=>by
 rw[List.forIn_nil]
 exact wpAny_pure ⟨H,I,h⟩
theorem xS {c:Expr}{tc:TT} (hc:PT X c tc):PTs X [c] tc:=λpins s σ H Q I h=>by
 rw[List.forIn_cons]
 simp only[if_true]
 refine wpAny_bind (wpAny_bind (thn (hc pins s σ H Q I h) λb s1 q=>wpAny_pure ?_))
 dsimp only
 rw[List.forIn_nil]
 exact wpAny_pure q
theorem qB {ci ad tg:Expr}{ifs:List Expr}{scope:Scope}{pos:Pos}{wi:TI}{g:TG}{tc:TT}{te:TE}{N:List Str}{sub:List (Option Nat)}
 (hc:X.calm=true) (hi:PI X tg ad wi)
 (hk:scope.kind=.function) (hnc:∀ x ∈ scope.names,x.2 ≠ .cell) (bd:∀ x ∈ scope.names,x.2=.local->scope.names.lookup x.1=some .local)
 (hfr:∀ x ∈ scope.names,x.2=.free->X.env.kindOf x.1=some .cell\/X.env.kindOf x.1=some .free)
 (hsl:sub.length=N.length) (bv:∀ (j i:Nat) (x:Str),sub[j]?=some (some i)->N[j]?=some x->X.N[i]?=some x/\scope.names.lookup x=some .free)
 (hg:∀ cl C s₂ H fp,PG (aE X N scope cl C s₂ H fp) tg g) (ht:∀ cl C s₂ H fp,PTs (aE X N scope cl C s₂ H fp) ifs tc) (he:∀ cl C s₂ H fp,PE (aE X N scope cl C s₂ H fp) ci te)
 (hs:∀ x,foldedSetIterable ad X.env x=pure x:=by intro _;rfl):
 PE X (.ListComp ci [⟨tg,ad,ifs,0⟩] scope pos) (gb wi sub g tc te):=by
 intro pins s σ H Q I h
 obtain⟨cl,hclos,hcl,hclf⟩:=gy (env:=X.env) (scope:=scope) λx hx hf=>I.ok.has x.1 (hfr x hx hf)
 rw[eval_ListComp]
 refine wpAny_comprehension_free (use:=none) rfl hs hclos hk bd ?_
 show wpAny _ _ (eval ad X.env) _ _ _
 refine thn (hi pins s σ H _ I h) λv s1 h1=>thn h1 λitv s2 h2=>?_
 obtain⟨it,fp,tn,J,H2,e,I2,T,st2,f2,W,⟨m0,w0⟩,turn⟩:=h2
 subst e
 refine wpAny_newObj_type (wpAny_newFunctionEnv hnc (by intro y hy;simp at hy) (λh₁ hns₁ hsb₁=>?_) hk)
 dsimp only at hns₁ hsb₁ ⊢
 generalize hH2:s2.heap.push { cls:=.type "list",dict:=none,data:=.seq ([]:List Value).toArray }=G2 at hns₁ hsb₁ ⊢
 have hC:G2.objs.size=s2.heap.objs.size + 1:=by rw[<- hH2,Heap.size_push]
 have hDC:s2.heap.objs.size ≠ G2.objs.size:=by omega
 have below:∀ b,b < s2.heap.objs.size->b ≠ G2.objs.size/\b ≠ s2.heap.objs.size:=λb hb=>⟨by omega,by omega⟩
 have old:∀ b o,s2.heap.get? b=some o->h₁.get? b=some o:=λb o e=>hsb₁.extBut b o (below b (Heap.lt_size e)).1 (Heap.get?_push_of_some _ (hH2 ▸ Heap.get?_push_of_some _ e))
 have hD₁:h₁.get? s2.heap.objs.size=some { cls:=.type "list",dict:=none,data:=.seq ([]:List Value).toArray }:=hsb₁.extBut _ _ hDC (Heap.get?_push_of_some _ (hH2 ▸ Heap.get?_push_size _ rfl))
 have fresh:∀ a,s2.heap.objs.size<=a->s2.heap.get? a=none:=λa ha=>Heap.get?_none_of_le ha
 have cellOld:∀ x c,cl.lookup x=some c->c < s2.heap.objs.size:=λx c e=>by
  obtain⟨v,z⟩:=I2.cell x c (hcl x c e)
  exact z.lt
 have fpOld:∀ b ∈ fp,b < s2.heap.objs.size:=λb hb=>by
  obtain⟨o,e,_⟩:=T.obj _ _ st2 b hb
  exact Heap.lt_size e
 let Y:Cx:=aE X N scope cl G2.objs.size s2 H2 fp
 have okY:Y.Ok
  := by
  refine⟨I2.ok.mod,?_,I2.ok.glob,I2.ok.blt,?_,λx y c e1 e2=>I2.ok.inj x y c (hcl x c e1) (hcl y c e2),λx hx=>?_,λx c hfn _=>absurd hfn Bool.false_ne_true,I2.ok.hd,I2.ok.frames,.inl rfl,
   λb hb=>⟨?_,λx c e z=>?_⟩,I2.bs,Nat.le_trans I2.ok.bsz I2.sz,λb o e hb=>?_,λb hb hf=>?_,I2.stack,I2.stkFree⟩
  ·show (relabel scope X.env).kind=.function
   exact hk
  ·show s2.heap.objs.size<=G2.objs.size
   omega
  ·have hx':(
    relabel scope X.env).names.lookup x=some .cell\/(relabel scope X.env).names.lookup x=some .free:=hx
   have:∃ k,
    (x,k) ∈ scope.names/\k=.free:=by
    have gen:∀ (names:List (Str×NameKind)),(∀ y ∈ names,y.2 ≠ .cell)->∀ kk,(kk=NameKind.cell\/kk=NameKind.free)->(names.map λ(n,k)=>if (k == NameKind.free && X.env.scope.kind == .function && X.env.kindOf n == some .cell) then (n,NameKind.cell) else (n,k)).lookup x=some kk->∃ k,(x,k) ∈ names/\k=.free:=by
     intro names
     induction names with
     | nil=>intro _ kk _ e;simp at e
     |
      cons y r ih=>
      intro hn kk hkk e
      obtain⟨n,k⟩:=y
      rw[List.map_cons,List.lookup_cons] at e
      by_cases hkf:k=.free
      ·subst hkf
       by_cases hxn:x=n
       ·exact⟨.free,by rw[hxn];exact List.mem_cons_self,rfl⟩
       ·have hb:(x == (if (NameKind.free == NameKind.free && X.env.scope.kind == .function && X.env.kindOf n == some .cell)=true then (n,NameKind.cell) else (n,NameKind.free)).1)=false:=by
         split <;> exact beq_eq_false_iff_ne.mpr hxn
        rw[hb] at e
        obtain⟨k',m,q⟩:=ih (λz hz=>hn z (List.mem_cons_of_mem _ hz)) kk hkk e
        exact⟨k',List.mem_cons_of_mem _ m,q⟩
      ·have hb0:(k == NameKind.free && X.env.scope.kind == .function && X.env.kindOf n == some .cell)=false:=by
        have:(k == NameKind.free)=false:=by simpa using hkf
        rw[this];rfl
       rw[hb0] at e
       simp only[Bool.false_eq_true,if_false] at e
       cases q:x == n with
       |
        true=>
        rw[q] at e
        have e':k=kk:=Option.some.inj e
        subst e'
        rcases hkk with z | z
        ·exact absurd z (hn (n,k) List.mem_cons_self)
        ·exact absurd z hkf
       |
        false=>
        rw[q] at e
        obtain⟨k',m,q⟩:=ih (λz hz=>hn z (List.mem_cons_of_mem _ hz)) kk hkk e
        exact⟨k',List.mem_cons_of_mem _ m,q⟩
    rcases hx' with z | z
    ·exact gen scope.names hnc _ (.inl rfl) z
    ·exact gen scope.names hnc _ (.inr rfl) z
   obtain⟨k,m,q⟩:=this
   exact hclf (x,k) m q
  ·show b ≠ G2.objs.size
   exact (below b (fpOld b hb)).1
  ·exact (f2 b hb).2.2.2.2.1 x c (hcl x c e) z
  ·rcases (f2 b hb).2.2.2.1 with z | z
   ·exact I2.ok.noex b o e z
   ·exact absurd (Nat.lt_of_lt_of_le (Heap.lt_size e) (Nat.le_trans I2.ok.bsz z)) (Nat.lt_irrefl _)
  ·have hf':b ∈ frs X.stack:=hf
   rcases List.mem_cons.mp (I2.stkSub b hf') with z | z
   ·exact (f2 b hb).2.1 z
   ·exact (f2 b hb).2.2.1 z
 have startLoc
  : ∃ m,h₁.Ns G2.objs.size m/\∀ (i:Nat) (x:Str) (v:V),N[i]?=some x->(bL sub σ)[i]?=some (some v)->Vis (relabel scope X.env) x->∃ u,RelV v u/\sG Y.env h₁ m x u:=by
  refine⟨_,hns₁,λj x v e1 e2 e3=>?_⟩
  unfold bL at e2
  rw[List.getElem?_map] at e2
  cases q:sub[j]? with
  | none=>rw[q] at e2;cases e2
  |
   some o=>
   rw[q] at e2
   cases o with
   | none=>cases e2
   |
    some i=>
    obtain⟨hNi,hfree⟩:=bv j i x q e1
    have e2':(σ[i]?).bind id=some v:=Option.some.inj e2
    have e2'':σ[i]?=some (some v):=by
     cases z:σ[i]? with
     | none=>rw[z] at e2';cases e2'
     | some y=>rw[z] at e2';rw[show y=some v from e2']
    obtain⟨m2,hn2,hl2⟩:=I2.loc
    have hkx:=hfr (x,.free) (PySem.mem_of_lookup hfree) rfl
    obtain⟨u,r,l⟩:=hl2 i x v hNi e2'' (by rcases hkx with z | z;exact .inr (.inl z);exact .inr (.inr z))
    refine⟨u,r,.inr ⟨?_,?_⟩⟩
    ·rcases e3
      with z | z | z
     ·exfalso
      have gen:∀ (names:List (Str×NameKind)),names.lookup x=some .free->(names.map λ(n,k)=>if (k == NameKind.free && X.env.scope.kind == .function && X.env.kindOf n == some .cell) then (n,NameKind.cell) else (n,k)).lookup x=some .local->False:=by
       intro names
       induction names with
       | nil=>intro e _;simp at e
       |
        cons y r ih=>
        intro e1 e2
        obtain⟨n,k⟩:=y
        rw[List.lookup_cons] at e1
        rw[List.map_cons,List.lookup_cons] at e2
        by_cases hxn:x=n
        ·have hb1:(x == n)=true:=beq_iff_eq.mpr hxn
         rw[hb1] at e1
         have:k=.free:=Option.some.inj e1
         subst this
         split at e2
         ·rename_i hq
          split at e2 <;> cases e2
         ·rename_i hq
          split at hq <;> (rw[hb1] at hq;cases hq)
        ·have hb1:(x == n)=false:=beq_eq_false_iff_ne.mpr hxn
         rw[hb1] at e1
         refine ih e1 ?_
         split at e2
         ·rename_i hq
          split at hq <;> (rw[hb1] at hq;cases hq)
         ·exact e2
      exact gen scope.names hfree z
     ·exact .inl z
     ·exact .inr z
    ·obtain⟨c,hc'⟩:=hclf (x,.free) (PySem.mem_of_lookup hfree) rfl
     refine⟨c,hc',?_⟩
     rcases l with ⟨k,_⟩ | ⟨_,c2,ec2,z⟩
     ·rcases hkx with z | z <;> (rw[k] at z;cases z)
     ·have:=hcl x c hc'
      rw[ec2] at this
      cases this
      obtain⟨oc,hoc,hd⟩:=z
      exact⟨oc,old _ _ hoc,hd⟩
 have pinD:∀ {σ':St}{H':Hp}{s':Shared}{pl:List (Addr×Obj)}{o:Obj},Inv Y pl σ' H' s'->s'.heap.get? s2.heap.objs.size=some o->(∀ v,o.data ≠ .cell v)->H' s2.heap.objs.size=none->Inv Y [(s2.heap.objs.size,o)] σ' H' s':=λ{σ' H' s' pl o} IY e d n=>
  IY.pins_of λp hp=>by
   have e':p=(s2.heap.objs.size,o):=by simpa using hp
   subst e'
   refine⟨e,n,?_,?_,d⟩
   ·show s2.heap.objs.size ≠ G2.objs.size
    omega
   ·intro hf
    have hf':s2.heap.objs.size ∈ frs X.stack:=hf
    obtain⟨_,o',ho',_⟩:=I2.stack.mem hf'
    exact absurd (Heap.lt_size ho') (Nat.lt_irrefl _)
 have fpY:∀ {H':Hp}{pl:List (Addr×Obj)},(∀ b ∈ fp,H' b=none)->(∀ p ∈ pl,p.1 ∉ fp)->∀ b ∈ fp,FpOk Y pl H' b:=λ{H' pl} hn hp b hb=>by
  refine⟨hn b hb,?_,?_,.inl hb,λx c e=>?_,λp hp'=>?_⟩
  ·exact (okY.exf b hb).1
  ·exact okY.exfs b hb
  ·exact (okY.exf b hb).2 x c e
  ·intro z
   have hp'':p ∈ pl:=by simpa [Y,aE] using hp'
   exact hp p hp'' (by rw[z];exact hb)
 have hDfp:s2.heap.objs.size ∉ fp:=λz=>Nat.lt_irrefl _ (fpOld _ z)
 have loop
  : ∀ s₃:Shared,s₃={ s2 with heap:=h₁,toks:=s2.toks + ([]:List (Str×Value)).length }->
  codeAny (model X.prog X.w) X.A (.compLoop (.ListComp ci [⟨tg,ad,ifs,0⟩] scope pos) 0 (.ref it) (.ref s2.heap.objs.size) (compEnvC scope cl G2.objs.size X.env))
   (compPost (model X.prog X.w) X.A X.xe none (EP X pins σ Q) (.ref s2.heap.objs.size) G2.objs.size) s₃:=by
  rintro s₃ rfl
  have IY0:Inv Y [(s2.heap.objs.size,{ cls:=.type "list",dict:=none,data:=.seq ([]:List Value).toArray })] (bL sub σ) H2 { s2 with heap:=h₁,toks:=s2.toks + ([]:List (Str×Value)).length }:=by
   have J0:Inv Y [] (bL sub σ) H2 { s2 with heap:=h₁,toks:=s2.toks + ([]:List (Str×Value)).length }:=by
    refine⟨okY,rfl,I2.bare,Un.kept old,startLoc,λx c e=>?_,I2.hok.fresh (by show s2.heap.objs.size<=G2.objs.size;omega),λx c e=>I2.freeC x c (hcl x c e),λp hp=>absurd (show p ∈ ([]:List (Addr×Obj)) from hp) (by simp),I2.hok.kept old,?_⟩
    ·obtain⟨v,oc,hoc,hd⟩:=I2.cell x c (hcl x c e)
     exact⟨v,oc,old _ _ hoc,hd⟩
    ·show (bL sub σ).length=N.length
     unfold bL
     rw[List.length_map];exact hsl
   exact pinD J0 hD₁ (λv z=>by cases z) I2.fresh
  refine g8 (λn s'=>∃ (i:Nat) (ys:List V) (its:List Value) (k:Nat) (σ':St) (H':Hp),Inv Y [(s2.heap.objs.size,{ cls:=.type "list",dict:=none,data:=.seq its.toArray k })] σ' H' s'/\Vals ys its/\tn i s'.heap/\(∀ b ∈ fp,H' b=none)/\W i n ys σ' H') ?_ m0
   ⟨0,[],[],0,bL sub σ,H2,IY0,.nil,T.keep _ _ _ st2 (λb hb o e=>old b o e),λb hb=>(f2 b hb).1,w0⟩
  rintro n s3 ⟨i,ys,its,k,σ3,H3,I3,rv,st3,fr3,w3⟩
  have npl:∀ (o:Obj),∀ p ∈ [(s2.heap.objs.size,o)],p.1 ∉ fp:=λo p hp=>by
   have e':p=(s2.heap.objs.size,o):=by simpa using hp
   subst e'
   exact hDfp
  rcases turn i n ys σ3 H3 w3 with ⟨stop,hz,qn⟩ | ⟨go,hz,Nx,hNx,step⟩
  ·refine wpAny_mono (T.done Y rfl rfl rfl hc i _ s3 σ3 H3 (λ_ _=>False) I3 (fpY fr3 (npl _)) st3 stop) (λr s4 ⟨hr,I4⟩=>?_) λ_ _ z=>z
   subst hr
   obtain⟨m4,hn4,_⟩:=I4.loc
   refine⟨m4,hn4,λh' hs'=>?_⟩
   have hCfree:H3 G2.objs.size=none:=I4.free
   have hD4:=I4.pin (s2.heap.objs.size,{ cls:=.type "list",dict:=none,data:=.seq its.toArray k }) (List.mem_append_right _ List.mem_cons_self)
   have un4:Un (frs X.stack) fp H2 H3 s2.heap s4.heap:=I4.base
   have up:∀ b o,b ≠ G2.objs.size->s4.heap.get? b=some o->h'.get? b=some o:=λb o hb e=>hs'.extBut b o hb e
   have ne2:∀ b o,s2.heap.get? b=some o->b ≠ G2.objs.size:=λb o e=>(below b (Heap.lt_size e)).1
   have un5:Un (frs X.stack) fp H2 H3 s2.heap h':=by
    refine⟨λb o e n hb hx=>up b o (ne2 b o e) (un4.keep b o e n hb hx),λb o e n hb hx=>?_,un4.free,λb o e hx=>?_,un4.tups,un4.frzs,un4.tbls⟩
    ·obtain⟨sl,q⟩:=un4.slot b o e n hb hx
     exact⟨sl,up b _ (ne2 b o e) q⟩
    ·obtain⟨o',q⟩:=un4.there b o e hx
     exact⟨o',up b _ (ne2 b o e) q⟩
   have hok5:HOk X.prog X.w H3 h':=λb u e=>(I4.hok b u e).stay (λc v hcc q=>up c v (λz=>by
    rcases hcc with zz | zz
    ·rw[zz] at z;rw[z,hCfree] at e;cases e
    ·rw[z,hCfree] at zz;cases zz) q) (λ_ q=>q) λ_ _ q=>q
   have I5:Inv X pins σ H3 { s4 with heap:=h' }:=I2.call' (s':={ s4 with heap:=h' }) (ch:=fp) I4.os un5 hok5 I4.bare λb hb=>by
    obtain⟨_,g1,_,g3,g4,g5⟩:=f2 b hb
    exact⟨g3,g1,g4,g5⟩
   have hDfree:H3 s2.heap.objs.size=none:=hD4.2.1
   have sz0:X.s₀.heap.objs.size<=s2.heap.objs.size:=I2.sz
   refine⟨.ref s2.heap.objs.size,_,I5.track (o:=.lst ys) hDfree (Heap.get?_none_of_le sz0) (Nat.ne_of_gt I2.lt) (λx c e z=>?_) (λp hp z=>?_) ?_,rfl,qn _ hDfree⟩
   ·obtain⟨v,q⟩:=I2.cell x c e
    exact absurd q.lt (by rw[z];exact Nat.lt_irrefl _)
   ·exact absurd (Heap.lt_size (I2.pin p hp).1) (by rw[z];exact Nat.lt_irrefl _)
   ·exact⟨hz,its,k,rv,up _ _ hDC hD4.1⟩
  ·refine wpAny_mono (T.item Y rfl rfl rfl hc i _ s3 σ3 H3 (λ_ _=>False) I3 (fpY fr3 (npl _)) st3 go) (λr s4 ⟨u,hr,h4⟩=>?_) λ_ _ z=>z
   subst hr
   refine wpAny_mono h4 (λ_ s5 ⟨x,H5,I5,r5,y5,st5,fr5⟩=>?_) λ_ _ z=>z
   have I5':=I5.pinned (fpY fr5 (npl _)) (T.obj _ _ st5)
   refine wpAny_mono (hg cl G2.objs.size s2 H2 fp _ s5 σ3 H5 x u _ I5' r5 (step x H5 y5)) (λ_ s6 ⟨σ6,H6,I6,q6⟩=>?_) λ_ _ z=>z
   refine wpAny_mono (ht cl G2.objs.size s2 H2 fp _ s6 σ6 H6 _ I6 q6) (λok s7 ⟨H7,I7,q7⟩=>?_) λ_ _ z=>z
   have back:∀ {σ':St}{H':Hp}{s':Shared},Inv Y ([(s2.heap.objs.size,{ cls:=.type "list",dict:=none,data:=.seq its.toArray k })]++fM fp s5.heap) σ' H' s'->tn (i + 1) s'.heap/\∀ b ∈ fp,H' b=none:=λ{σ' H' s'} IB=>by
    refine⟨T.keep _ _ _ st5 λb hb o e=>(IB.pin (b,o) (List.mem_append_right _ (List.mem_append_right _ (cP hb e)))).1,λb hb=>?_⟩
    obtain⟨o,e,d⟩:=T.obj _ _ st5 b hb
    exact (IB.pin (b,o) (List.mem_append_right _ (List.mem_append_right _ (cP hb e)))).2.1
   cases ok with
   |
    false=>
    rw[if_neg Bool.false_ne_true] at q7
    obtain⟨m',hm,w7⟩:=hNx _ _ _ q7
    rw[if_neg Bool.false_ne_true]
    obtain⟨t7,f7⟩:=back I7
    exact⟨m',hm,i + 1,ys,its,k,σ6,H7,I7.unpinned,rv,t7,f7,w7⟩
   |
    true=>
    rw[if_pos rfl] at q7
    rw[if_pos rfl]
    refine wpAny_mono (he cl G2.objs.size s2 H2 fp _ s7 σ6 H7 _ I7 q7) (λy s8 ⟨yv,H8,I8,r8,q8⟩=>?_) λ_ _ z=>z
    obtain⟨m',hm,w8⟩:=hNx _ _ _ q8
    obtain⟨t8,f8⟩:=back I8
    have I9:=I8.unpinned
    have hD9:=I9.pin (s2.heap.objs.size,{ cls:=.type "list",dict:=none,data:=.seq its.toArray k }) (List.mem_append_right _ List.mem_cons_self)
    have e9:s8.heap.get? s2.heap.objs.size=some { cls:=.type "list",dict:=none,data:=.seq its.toArray k }:=hD9.1
    have hlen:=rv.length
    refine call_meets F.slot_list_append ⟨_,e9,rfl⟩ F.entry_list_append (F.args_list_append_2 _ _) (PySem.list_append _ its.toArray k y (by rw[List.size_toArray];omega)) ⟨e9,?_⟩
    have q9:=PySem.IsL.update e9 (λxs=>xs.push y)
    have ea:its.toArray.push y=(its++[y]).toArray:=by simp
    rw[ea] at q9
    have k9:∀ b o,b ≠ s2.heap.objs.size->s8.heap.get? b=some o->(s8.heap.update s2.heap.objs.size (Obj.mapSeq λxs=>xs.push y)).get? b=some o:=λb o hb e=>(Heap.get?_update_other _ _ (Ne.symm hb)).trans e
    have I10:Inv Y [] σ6 H8 { s8 with heap:=s8.heap.update s2.heap.objs.size (Obj.mapSeq λxs=>xs.push y) }:=
     (I9.pins_of (pins':=[]) (λp hp=>nomatch hp)).turned (t':=s8.toks) k9 hD9.2.1 hD9.2.2.1 (.inr (Nat.le_refl _)) (λx c e z=>absurd (cellOld x c e) (by rw[z];exact Nat.lt_irrefl _))
      (λp hp=>absurd (show p ∈ ([]:List (Addr×Obj)) from hp) (by simp))
    refine⟨m',hm,i + 1,ys++[yv],its++[y],_,σ6,H8,pinD I10 q9 (λv z=>by cases z) hD9.2.1,rv.append (.cons r8 .nil),?_,f8,w8⟩
    exact T.keep _ _ _ t8 λb hb o e=>k9 b o (λz=>hDfp (by rw[<- z];exact hb)) e
 exact codeAny_compStart_list (loop _ rfl) (T.self _ 0 _ _ _ (T.keep _ _ _ st2 λb hb o e=>old b o e) (loop _ rfl))
def dE (M:List Str) (names:List (Str×NameKind)) (sub:List (Option Nat)) (N:List Str):Bool:=(sub.zip N).all λp=>match p.1 with
 | none=>true
 | some i=>M[i]? == some p.2 && names.lookup p.2 == some .free
theorem iK {M:List Str}{names:List (Str×NameKind)}{sub:List (Option Nat)}{N:List Str} (h:dE M names sub N=true) (j i:Nat) (x:Str) (h1:sub[j]?=some (some i)) (h2:N[j]?=some x):
 M[i]?=some x/\names.lookup x=some .free:=by
 unfold dE at h
 rw[List.all_eq_true] at h
 have hm:(some i,x) ∈ sub.zip N:=by
  refine List.mem_of_getElem? (i:=j) ?_
  rw[List.getElem?_zip_eq_some]
  exact⟨h1,h2⟩
 have q:=h _ hm
 simp only[Bool.and_eq_true,beq_iff_eq] at q
 exact q
def eP (kn names:List (Str×NameKind)):Bool:=names.all λx=>x.2 != .free || kn.lookup x.1 == some .cell || kn.lookup x.1 == some .free
theorem jR {kn names:List (Str×NameKind)} (h:eP kn names=true):∀ x ∈ names,x.2=.free->kn.lookup x.1=some .cell\/kn.lookup x.1=some .free:=λx hx hf=>by
 unfold eP at h
 rw[List.all_eq_true] at h
 have q:=h x hx
 rw[hf] at q
 simpa using q
theorem xk {ci ad tg c:Expr}{scope:Scope}{pos:Pos}{wi:TI}{g:TG}{tc:TT}{te:TE} (M:List Str) (kn:List (Str×NameKind)) (N:List Str) (sub:List (Option Nat))
 (hc:X.calm=true) (hi:PI X tg ad wi)
 (hg:∀ cl C s₂ H fp,PG (aE X N scope cl C s₂ H fp) tg g) (ht:∀ cl C s₂ H fp,PT (aE X N scope cl C s₂ H fp) c tc) (he:∀ cl C s₂ H fp,PE (aE X N scope cl C s₂ H fp) ci te)
 (hM:X.N=M:=by rfl) (hkn:X.env.scope.names=kn:=by rfl) (bv:dE M scope.names sub N=true:=by decide)
 (hk:scope.kind=.function:=by rfl) (hnc:∀ x ∈ scope.names,x.2 ≠ .cell:=by decide) (bd:∀ x ∈ scope.names,x.2=.local->scope.names.lookup x.1=some .local:=by decide)
 (hfr:eP kn scope.names=true:=by decide)
 (hsl:sub.length=N.length:=by rfl) (hs:∀ x,foldedSetIterable ad X.env x=pure x:=by intro _;rfl):
 PE X (.ListComp ci [⟨tg,ad,[c],0⟩] scope pos) (gb wi sub g tc te):=
 qB hc hi hk hnc bd (by subst hkn;exact jR hfr) hsl (by subst hM;exact iK bv) hg (λcl C s₂ H fp=>xS (ht cl C s₂ H fp)) he hs
theorem BQ {ci ad tg:Expr}{scope:Scope}{pos:Pos}{wi:TI}{g:TG}{te:TE} (M:List Str) (kn:List (Str×NameKind)) (N:List Str) (sub:List (Option Nat))
 (hc:X.calm=true) (hi:PI X tg ad wi)
 (hg:∀ cl C s₂ H fp,PG (aE X N scope cl C s₂ H fp) tg g) (he:∀ cl C s₂ H fp,PE (aE X N scope cl C s₂ H fp) ci te)
 (hM:X.N=M:=by rfl) (hkn:X.env.scope.names=kn:=by rfl) (bv:dE M scope.names sub N=true:=by decide)
 (hk:scope.kind=.function:=by rfl) (hnc:∀ x ∈ scope.names,x.2 ≠ .cell:=by decide) (bd:∀ x ∈ scope.names,x.2=.local->scope.names.lookup x.1=some .local:=by decide)
 (hfr:eP kn scope.names=true:=by decide)
 (hsl:sub.length=N.length:=by rfl) (hs:∀ x,foldedSetIterable ad X.env x=pure x:=by intro _;rfl):
 PE X (.ListComp ci [⟨tg,ad,[],0⟩] scope pos) (gb wi sub g tP te):=
 qB hc hi hk hnc bd (by subst hkn;exact jR hfr) hsl (by subst hM;exact iK bv) hg (λcl C s₂ H fp=>m7) he hs
end
end L2
namespace L2
open PySem PySem.Spec PyProof.Rows PySem.W PySem.Builtin PySem.Builtin.ObjectAttr PySem.Builtin.Getset_descriptor
structure XCls (K:W.Frag) (C:Addr):Prop where
 cls:(clsIn K C).isSome=true
 ga:findIn K (.ref C) "__getattribute__"=some (some (.builtin "BaseException.__getattribute__"))
 gt:findIn K (.ref C) "__getattr__"=some none
 at_:findIn K (.ref C) "__class__"=some (some (.builtin "object.__class__"))
 gs:specialIn K (.builtin "object.__class__") "__get__"=some (some (.builtin "getset_descriptor.__get__"))
 tk:takesIn K (.builtin "object.__class__")=some true
 mo:mroIn K C (.type "object")=some true
 mb:mroIn K C (.type "BaseException")=some true
section
variable {prog:Program}{w:World}{A:Around}{E:Value->Shared->Prop}{K:W.Frag}{x C:Addr}{o:Obj}
theorem fZ {M:Model}{h:Heap} (hx:h.get? x=some o) (hc:o.cls=.ref C):Looks M h (typeOf (.ref x)) (.ref C):=hc ▸ (Looks.ld hx).andThen .now
theorem um {M:Model}{h:Heap} (X:K.In h) (T:XCls K C):Looks M h (find (.ref x) (.ref C) "__class__") (.bind (.builtin "getset_descriptor.__get__") (.builtin "object.__class__")):=by
 have L1:=looks_findIn (M:=M) X T.at_
 have L2:Looks M h (getOf (some (.builtin "object.__class__"))) (some (.builtin "getset_descriptor.__get__")):=looks_specialIn X T.gs
 have L3:=looks_takesIn (M:=M) X T.tk
 refine L1.andThen (L2.andThen ?_)
 exact (show Looks M h (dataDescriptor? (some (.builtin "object.__class__")) (some (.builtin "getset_descriptor.__get__"))) (some (.builtin "getset_descriptor.__get__",.builtin "object.__class__")) from L3.andThen .now).andThen (Looks.tag .now)
theorem kM {s:Shared}{tp:Value}{R:Result->Shared->Prop} (X:K.In s.heap) (hx:s.heap.get? x=some o) (hc:o.cls=.ref C) (T:XCls K C)
 (h:R (.ok (.ret (.ref C))) s):codeAny (model prog w) A (.call (.builtin "getset_descriptor.__get__") ⟨[.builtin "object.__class__",.ref x,tp],[]⟩) R s:=by
 obtain⟨hh,g,dr,t,os⟩:=s
 have L0:=fZ (M:=model prog w) hx hc
 have L1:=looks_mroIn (M:=model prog w) X T.mo
 refine codeAny_call_builtin KF.slot_gs.plain KF.entry_gs (KF.slot_gs.check _ _ _ _ _ _ _ _ KF.type_class (KF.args_gs _ _ _) ?_)
 unfold Builtin.«getset_descriptor.__get__» descrGet
 rw[dga_obj]
 refine wpAny_bind (wpAny_pure ?_)
 unfold descrGetter descrCheckInstance descrNameAndClass isInstance
 simp only[KF.owner_class]
 repeat lk
 refine⟨Code.quiet_builtin _ (by decide),codeAny_builtin KF.entry_class ?_⟩
 unfold Builtin.«object.__class__» shownTypeOf
 repeat lk
 exact h
theorem rp {M:Model}{nameV:Value}{s:Shared}{Q:Unit->Shared->Prop} (X:K.In s.heap) (hx:s.heap.get? x=some o) (hc:o.cls=.ref C) (T:XCls K C) (hq:Q () s):
 wpAny M A (checkBuiltinCall "BaseException.__getattribute__" ⟨[.ref x,nameV],[]⟩) Q E s:=by
 obtain⟨h,g,dr,t,os⟩:=s
 have hk:builtinKind "BaseException.__getattribute__"=some .slot:=by decide
 have hsplit:splitId "BaseException.__getattribute__"=some ("BaseException", "__getattribute__"):=by decide
 have ha:=PySem.F.args_bexc_ga (.ref x) nameV
 have L0:=fZ (M:=M) hx hc
 have LM:=looks_mroIn (M:=M) X T.mb
 have LI:Looks M h (isInstance (.ref x) (.type "BaseException")) true:=L0.andThen LM
 simp only[checkBuiltinCall,hk,hsplit]
 refine wpAny_bind ?_
 refine LI.at ?_
 repeat (first | wp_step)
 all_goals exact hq
theorem Bh {s:Shared}{Q:Option Value->Shared->Prop} (X:K.In s.heap) (hx:s.heap.get? x=some o) (hc:o.cls=.ref C) (T:XCls K C) (h:Q (some (.ref C)) { s with toks:=s.toks + 1 }):
 wpAny (model prog w) A (getAttr? (.ref x) "__class__") Q E s:=by
 obtain⟨hh,g,d,t,os⟩:=s
 have L0:=fZ (M:=model prog w) hx hc
 have L1:=looks_findIn (M:=model prog w) X T.ga
 have L2:=looks_findIn (M:=model prog w) X T.gt
 have LF:=um (M:=model prog w) (x:=x) X T
 have f3:=PySem.F.excAttr_ValueError.ga.bind (.ref x)
 have hx2:(Value.builtin "BaseException.__getattribute__" == Value.builtin "object.__getattribute__")=false:=by decide
 unfold getAttr? getAttrBy? getAttrBy
 refine wpAny_bind (wpAny_mkText (wpAny_bind (wpAny_attempt (wpAny_holding (wpAny_bind (L0.at (wpAny_bind (L1.at ?_))))))))
 dsimp only
 rw[if_neg (by rw[hx2];simp)]
 unfold getAttrByItsOwn hookBefore
 rw[if_pos (show onTheHeap (Value.ref C)=true from rfl)]
 refine wpAny_bind (L2.at ?_)
 unfold callGetattribute
 refine wpAny_bind (wpAny_attempt (wpAny_holding ?_))
 rw[if_neg (by simp)]
 unfold boundAndCalled
 refine wpAny_bind (wpAny_of_eq f3 ?_)
 refine wpAny_call (codeAny_call_builtin PySem.F.excAttr_ValueError.ga.plain PySem.F.entry_bexc_ga (rp X hx hc T ?_))
 unfold Builtin.«object.__getattribute__»
 repeat (first | (refine wpAny_bind (L0.at ?_)) | (refine wpAny_bind (LF.at ?_)) | wp_step)
 refine kM (s:=⟨hh,g,d,t + 1,os⟩) X hx hc T ?_
 repeat (first | exact h | wp_step)
def sQ (x:Addr) (C:Addr) (h:Heap):Prop:=∃ o vs,h.get? x=some o/\o.cls=.ref C/\o.data=.fields vs
theorem uC (T:XCls K C):KitX K (.ref x) (.ref C) (sQ x C) where
 ty:=λM h _ ⟨o,_,hx,hc,_⟩=>fZ hx hc
 it:=λM h X _=>by
  obtain⟨cd,hcd⟩:=Option.isSome_iff_exists.mp T.cls
  unfold clsIn at hcd
  split at hcd
  ·rename_i c' d' cd' sl' ho
   intro A' Q' E' s' k q
   unfold isType loadHead
   exact wpAny_bind (wpAny_loadPart (k _ _ (X _ _ ho)) (wpAny_pure q))
  ·cases hcd
 ne:=λh tp dd its n sl X htp=>by
  obtain⟨cd,hcd⟩:=Option.isSome_iff_exists.mp T.cls
  refine Bool.eq_false_iff.mpr λq=>?_
  have e:C=tp:=Value.ref.inj (beq_iff_eq.mp q)
  subst e
  unfold clsIn at hcd
  split at hcd
  ·rename_i c' d' cd' sl' ho
   have z:=(X _ _ ho).symm.trans htp
   cases z
  ·cases hcd
 ca:=λX ⟨o,_,hx,hc,_⟩ k=>Bh X hx hc T k
end
inductive TyX (K:W.Frag) (H:Hp):V->Value->Prop where
 | of {x:V}{t:Value} (h:TyOf K H x t):TyX K H x t
 | exc {a C:Addr} (e:H a=some (.ext (sQ a C))) (T:XCls K C):TyX K H (.ref a) (.ref C)
 | sqT {a:Addr}{xs:List V} (h:SqT K H a xs):TyX K H (.ref a) (.type "tuple")
 | sqL {a:Addr}{xs:List V} (h:SqL K H a xs):TyX K H (.ref a) (.type "list")
section
variable {X:Cx}{pins:List (Addr×Obj)}{σ:St}{H:Hp}{s:Shared}{A:Around}{E:Value->Shared->Prop}{Q:Value->Shared->Prop}{c:Value}{b:Bool}
theorem nh {x:V}{u t:Value} (I:Inv X pins σ H s) (rx:RelV x u) (ty:TyX X.K H x t):∃ Hh:Heap->Prop,KitX X.K u t Hh/\Hh s.heap/\u ≠ .builtin "__main__.__loader__#opaque":=by
 cases ty with
 |
  exc ea T=>
  cases (show u=Value.ref _ from rx)
  exact⟨_,uC T,(I.hok _ _ ea).1,λz=>nomatch z⟩
 |
  sqT h=>
  cases (show u=Value.ref _ from rx)
  obtain⟨its,rv,⟨o,e,c,_⟩,_⟩:=I.tuple h
  exact⟨_,kitx_tuple,⟨o,e,c⟩,λz=>nomatch z⟩
 |
  sqL h=>
  cases (show u=Value.ref _ from rx)
  obtain⟨its,rv,⟨o,n,e,c,_⟩,_⟩:=I.list h
  exact⟨_,kitx_list,⟨o,e,c⟩,λz=>nomatch z⟩
 |
  of ty=>
  cases ty with
  | non=>cases (show u=Value.none from rx);exact⟨_,kitx_none,True.intro,λz=>nomatch z⟩
  | bl y=>cases (show u=Value.bool y from rx);exact⟨_,kitx_bool,True.intro,λz=>nomatch z⟩
  | int i=>obtain⟨t,q⟩:=(show ∃ t,u=Value.int i t from rx);cases q;exact⟨_,kitx_int,True.intro,λz=>nomatch z⟩
  | str y=>obtain⟨t,q⟩:=(show ∃ t,u=Value.str y t from rx);cases q;exact⟨_,kitx_str,True.intro,λz=>nomatch z⟩
  | flt y=>obtain⟨t,q⟩:=(show ∃ t,u=Value.float y t from rx);cases q;exact⟨_,kitx_float,True.intro,λz=>nomatch z⟩
  |
   @lst a xs ea=>
   cases (show u=Value.ref a from rx)
   obtain⟨_,_,n,_,h1⟩:=(show ObjOk X.prog X.w H s.heap a (.lst xs) from I.hok a _ ea)
   exact⟨_,kitx_list,⟨_,h1,rfl⟩,λz=>nomatch z⟩
  |
   @frz a ob xs ea=>
   cases (show u=Value.ref a from rx)
   obtain⟨_,_,_,n,_,h1⟩:=(show ObjOk X.prog X.w H s.heap a (.frz ob (.lst xs)) from I.hok a _ ea)
   exact⟨_,kitx_list,⟨_,h1,rfl⟩,λz=>nomatch z⟩
  |
   @tup a xs ea=>
   cases (show u=Value.ref a from rx)
   obtain⟨_,_,_,p⟩:=(show ObjOk X.prog X.w H s.heap a (.tup xs) from I.hok a _ ea)
   obtain⟨o,h1,h2,_⟩:=p
   exact⟨_,kitx_tuple,⟨o,h1,h2⟩,λz=>nomatch z⟩
  |
   @dK a kvs ea=>
   cases (show u=Value.ref a from rx)
   obtain⟨_,_,vs,_,p⟩:=(show ObjOk X.prog X.w H s.heap a (.dK kvs) from I.hok a _ ea)
   obtain⟨o,es,ep,h1,h2,_⟩:=p
   exact⟨_,kitx_dict,⟨o,h1,h2.1⟩,λz=>nomatch z⟩
  |
   @dT a kvs ea=>
   cases (show u=Value.ref a from rx)
   obtain⟨_,_,xs,_,o,es,ep,h1,h2,_⟩:=(show ObjOk X.prog X.w H s.heap a (.dT kvs) from I.hok a _ ea)
   exact⟨_,kitx_dict,⟨o,h1,h2.1⟩,λz=>nomatch z⟩
  |
   @ins a C dx fs ea cl ha hn htk hm=>
   cases (show u=Value.ref a from rx)
   obtain⟨mA,O,_⟩:=wD I.hok ea
   obtain⟨od,J,_⟩:=O.look
   exact⟨_,kitx_own (cl.get _) cl.hd ha hn htk hm,J,λz=>nomatch z⟩
end
section
variable {X:Cx}
def dI:V->Option Value
 | .ref C=>some (.ref C)
 | .ty T=>some (.type T)
 | _=>none
theorem mM {c:V}{u v:Value} (h:dI c=some v) (r:RelV c u):u=v:=by
 cases c with
 | ref C=>cases r;exact Option.some.inj h
 | ty T=>cases r;exact Option.some.inj h
 | _=>cases h
theorem kD:∀ {cs:List V}{us vs:List Value},cs.mapM dI=some vs->Vals cs us->us=vs
 |
  [],_,vs,h,.nil=>by
  have h':some ([]:List Value)=some vs:=h
  exact Option.some.inj h'
 |
  c :: cs,_,vs,h,.cons r rr=>by
  rw[List.mapM_cons] at h
  cases q:dI c with
  | none=>rw[q] at h;cases h
  |
   some v=>
   rw[q] at h
   cases q2:cs.mapM dI with
   | none=>rw[q2] at h;cases h
   |
    some vs'=>
    rw[q2] at h
    have h':some (v :: vs')=some vs:=h
    cases h'
    rw[mM q r,kD q2 rr]
theorem sH:CallR X (.builtin "isinstance") (λxs H Q=>∃ x c t v b,xs=[x,c]/\TyX X.K H x t/\dI c=some v/\kitOne X.K t v=some b/\Q (.bl b) H):=by
 intro pins s σ H xs us Q I r h
 obtain⟨x,c,t,v,b,rfl,ty,hc,hk,q⟩:=h
 obtain⟨u,w',rfl,rx,rc⟩:=iA r
 obtain rfl:=mM hc rc
 obtain⟨Hh,Z,p,hne⟩:=nh I rx ty
 exact kia_one Z I.kIn p hk hne λtk=>⟨.bl b,H,I.tok _,rfl,q⟩
end
end L2
namespace L2
open PySem PySem.Spec PyProof.Rows
theorem ObjOk.there {P:Program}{w:World}{H:Hp}{h:Heap}{a:Addr}{o:HO} (x:ObjOk P w H h a o):∃ u,h.get? a=some u:=by
 cases o with
 | lst xs=>obtain⟨_,_,_,_,e⟩:=x;exact⟨_,e⟩
 | tup xs=>obtain⟨_,_,_,ob,e,_⟩:=x;exact⟨_,e⟩
 | dK kvs=>obtain⟨_,_,_,_,o,_,_,e,_⟩:=x;exact⟨_,e⟩
 | dT kvs=>obtain⟨_,_,_,_,o,_,_,e,_⟩:=x;exact⟨_,e⟩
 | set S n=>obtain⟨o,_,_,_,e,_⟩:=x;exact⟨_,e⟩
 | ins C dx fs=>obtain⟨_,_,_,e,_⟩:=x;exact⟨_,e⟩
 | own y=>exact x
 | xd fs=>obtain⟨_,⟨_,_,_,e,_⟩,_⟩:=x;exact⟨_,e⟩
 | rng lo hi=>obtain⟨_,_,_,e⟩:=x;exact⟨_,e⟩
 | frz ob u=>obtain⟨e,_⟩:=x;exact⟨_,e⟩
 | tbl ps=>exact⟨_,show h.get? a=some _ from x⟩
 | met f y=>exact⟨_,show h.get? a=some _ from x⟩
 | ext φ=>obtain⟨_,e,_⟩:=x;exact e
structure Fly (P:Program) (w:World) (outer:List Env) (H:Hp) (h₀:Heap) (H':Hp) (ea:Addr) (cls:Value) (h:Heap) (B:Heap) (t:Addr):Prop where
 un:Un (frs outer) [] H H' h₀ h
 hok:HOk P w H' h
 fl:Heap.FlyingW B outer ea cls (.ref t) h
 old:∀ b o,h₀.get? b=some o->b ∉ frs outer->∃ o',B.get? b=some o'
 trk:∀ b o,H' b=some o->∃ o',B.get? b=some o'
def CX1 (P:Program) (w:World):CXT:=λouter H s E e s'=>∃ (ea t:Addr) (cls:Value) (H':Hp) (B:Heap),e=.ref ea/\s'.os=s.os/\AllBare s'.gens/\Fly P w outer H s.heap H' ea cls s'.heap B t/\E cls none H'
theorem mj {env:Env}{outer:List Env}{L:Addr} (h:env.frame=some L):frs (env :: outer)=L :: frs outer:=by
 unfold frs
 rw[List.filterMap_cons,h]
section
variable {P:Program}{w:World}{outer:List Env}{H H':Hp}{h₀ h h' B:Heap}{ea t L:Addr}{cls:Value}
theorem Fly.step {outer':List Env} (F:Fly P w outer H h₀ H' ea cls h B t) (fl':Heap.FlyingW B outer' ea cls (.ref t) h') (up:h.UpToSlots h'):
 Un (frs outer) [] H H' h₀ h'/\HOk P w H' h':=by
 have st:=F.fl.1
 have same:∀ b o,(∃ o',B.get? b=some o')->h.get? b=some o->h'.get? b=some o:=λb o ⟨o',e⟩ q=>by
  have z:=st b o' e
  rw[q] at z;cases z
  exact fl'.1 b _ e
 have frame:∀ b o,b ∈ frs outer->h.get? b=some o->∃ sl,h'.get? b=some { o with slots:=sl }:=λb o hb q=>by
  obtain⟨_,o',ho',hd⟩:=F.fl.2.2.1.mem hb
  rw[q] at ho';cases ho'
  exact up b o q hd
 refine⟨⟨λb o e n hb hx=>same b o (F.old b o e hb) (F.un.keep b o e n hb hx),λb o e n hb hx=>?_,F.un.free,λb o e hx=>?_,F.un.tups,F.un.frzs,F.un.tbls⟩,λa o e=>?_⟩
 ·obtain⟨sl,q⟩:=F.un.slot b o e n hb hx
  obtain⟨sl',q'⟩:=frame b _ hb q
  exact⟨sl',q'⟩
 ·obtain⟨o',q⟩:=F.un.there b o e hx
  by_cases hb:b ∈ frs outer
  ·obtain⟨sl,q'⟩:=frame b _ hb q
   exact⟨_,q'⟩
  ·exact⟨o',same b o' (F.old b o e hb) q⟩
 ·refine (F.hok a o e).stay (λb u hb q=>same b u ?_ q) (λ_ q=>q) λ_ _ q=>q
  rcases hb with z | z
  ·rw[z];exact F.trk a o e
  ·exact F.trk b _ z
end
structure Cx.Top (X:Cx):Prop where
 ex:X.ex=[]
 stk:X.stack=X.env :: X.outer
 fr:X.env.frame=some X.env.locals
section
variable {X:Cx}{pins:List (Addr×Obj)}{σ:St}{H:Hp}{s s':Shared}{E:XK}{e:Value}
theorem qC {A:Around}{E':Value->Shared->Prop} (T:X.Top) (hA:A.frames=some X.stack) (I:Inv X pins σ H s) (h:CX1 X.prog X.w X.stack H s E e s'):
 wpAny (model X.prog X.w) A (leaving X.env e) (λ_ s''=>CX1 X.prog X.w X.outer X.H₀ X.s₀ E e s'') E' s':=by
 obtain⟨ea,t,cls,H',B,rfl,os,bare,F,q⟩:=h
 have F0:=F
 rw[T.stk] at F
 have hf:=mj (outer:=X.outer) T.fr
 refine wpAny_leaves_onW (by rw[hA,T.stk]) T.fr F.fl λh'' fl'' up=>?_
 obtain⟨un2,hok2⟩:=F.step fl'' up
 have exn:∀ b,b ∉ X.ex:=λb z=>by rw[T.ex] at z;cases z
 have neL:∀ b o,X.s₀.heap.get? b=some o->b ≠ X.env.locals:=λb o e=>Nat.ne_of_lt (Nat.lt_of_lt_of_le (Heap.lt_size e) I.ok.above)
 have notin:∀ b o,X.s₀.heap.get? b=some o->b ∉ frs X.outer->b ∉ frs (X.env :: X.outer):=λb o e hb z=>by
  rw[hf] at z
  rcases List.mem_cons.mp z with z | z
  ·exact neL b o e z
  ·exact hb z
 refine⟨ea,t,cls,H',B,rfl,os.trans I.os,bare,⟨⟨λb o e n hb hx=>?_,λb o e n hb hx=>?_,λb o e n hx=>?_,λb o e hx=>?_,λb xs e=>un2.tups b xs (I.base.tups b xs e),λb o xs e=>un2.frzs b o xs (I.base.frzs b o xs e),λb ps e=>?_⟩,hok2,fl'',λb o e hb=>?_,F.trk⟩,q⟩
 ·exact un2.keep b o (I.base.keep b o e n hb (exn b)) (I.base.free b o e n (exn b)) (notin b o e hb) (by simp)
 ·obtain⟨sl,e1⟩:=I.base.slot b o e n hb (exn b)
  obtain⟨sl',e2⟩:=un2.slot b _ e1 (I.base.free b o e n (exn b)) (by rw[hf];exact List.mem_cons_of_mem _ hb) (by simp)
  exact⟨sl',e2⟩
 ·obtain⟨o',e1⟩:=I.base.there b o e (exn b)
  exact un2.free b o' e1 (I.base.free b o e n (exn b)) (by simp)
 ·obtain⟨o',e1⟩:=I.base.there b o e (exn b)
  exact un2.there b o' e1 (by simp)
 ·obtain⟨m1,e1⟩:=I.base.tbls b ps e
  obtain⟨m2,e2⟩:=un2.tbls b _ e1
  exact⟨m1++m2,by rw[e2,Array.append_assoc]⟩
 ·obtain⟨o',e1⟩:=I.base.there b o e (exn b)
  exact F.old b o' e1 (notin b o e hb)
theorem sM {A:Around}{E':Value->Shared->Prop}{h':Heap}{ea:Addr}{cls:Value}{args:List Value} (T:X.Top) (hA:A.frames=some X.stack) (I:Inv X pins σ H s) (hx:Heap.MadeExcOf s.heap h' ea cls args) (q:E cls none H):
 wpAny (model X.prog X.w) A (leaving X.env (.ref ea)) (λ_ s''=>CX1 X.prog X.w X.outer X.H₀ X.s₀ E (.ref ea) s'') E' { s with heap:=h' }:=by
 have hf:=mj (outer:=X.outer) T.fr
 have stk:=I.stack
 rw[T.stk] at stk
 have hin:∀ env ∈ (X.env :: X.outer),∀ b,env.frame=some b->b ∈ frs (X.env :: X.outer):=λenv he b hb=>List.mem_filterMap.mpr ⟨env,he,hb⟩
 refine wpAny_leaves_madeW (base:=W.hideAll s.heap (frs (X.env :: X.outer))) (h:=s.heap) (by rw[hA,T.stk]) T.fr (λb o q=>W.of_hideAll _ q) (W.funFrames_hide stk hin) hx λh'' t fl tup tn up=>?_
 have inB:∀ b o,s.heap.get? b=some o->b ∉ frs (X.env :: X.outer)->(W.hideAll s.heap (frs (X.env :: X.outer))).get? b=some o:=λb o e hb=>W.hideAll_get _ e hb
 have free:∀ b ∈ frs (X.env :: X.outer),H b=none:=λb hb=>I.stkFree b (by rw[T.stk];exact hb)
 have up2:s.heap.UpToSlots h'':=(Heap.UpToSlots.of_keeps hx.keeps).trans up
 have exn:∀ b,b ∉ X.ex:=λb z=>by rw[T.ex] at z;cases z
 have neL:∀ b o,X.s₀.heap.get? b=some o->b ≠ X.env.locals:=λb o e=>Nat.ne_of_lt (Nat.lt_of_lt_of_le (Heap.lt_size e) I.ok.above)
 have notin:∀ b o,X.s₀.heap.get? b=some o->b ∉ frs X.outer->b ∉ frs (X.env :: X.outer):=λb o e hb z=>by
  rw[hf] at z
  rcases List.mem_cons.mp z with z | z
  ·exact neL b o e z
  ·exact hb z
 have trk:∀ b o,H b=some o->∃ o',(W.hideAll s.heap (frs (X.env :: X.outer))).get? b=some o':=λb o e=>by
  obtain⟨u,hu⟩:=(I.hok b o e).there
  exact⟨u,inB b u hu λz=>by rw[free b z] at e;cases e⟩
 refine⟨ea,t,cls,H,_,rfl,I.os,I.bare,⟨⟨λb o e n hb hx=>?_,λb o e n hb hx=>?_,λb o e n hx=>?_,λb o e hx=>?_,I.base.tups,I.base.frzs,I.base.tbls⟩,λa o e=>?_,fl,λb o e hb=>?_,trk⟩,q⟩
 ·exact fl.1 b o (inB b o (I.base.keep b o e n hb (exn b)) (notin b o e hb))
 ·obtain⟨sl,e1⟩:=I.base.slot b o e n hb (exn b)
  obtain⟨_,o',ho',hd⟩:=I.ok.funs.mem hb
  rw[e] at ho';cases ho'
  obtain⟨sl',e2⟩:=up2 b _ e1 hd
  exact⟨sl',e2⟩
 ·exact I.base.free b o e n (exn b)
 ·obtain⟨o',e1⟩:=I.base.there b o e (exn b)
  by_cases hb:b ∈ frs X.outer
  ·obtain⟨_,o2,ho2,hd⟩:=I.funs.mem hb
   rw[e1] at ho2;cases ho2
   obtain⟨sl',e2⟩:=up2 b _ e1 hd
   exact⟨_,e2⟩
  ·exact⟨o',fl.1 b o' (inB b o' e1 (notin b o e hb))⟩
 ·refine (I.hok a o e).stay (λb u hb q=>?_) (λ_ q=>q) λ_ _ q=>q
  refine fl.1 b u (inB b u q λz=>?_)
  rcases hb with y | y
  ·rw[y] at z;rw[free a z] at e;cases e
  ·rw[free b z] at y;cases y
 ·obtain⟨o',e1⟩:=I.base.there b o e (exn b)
  exact⟨o',inB b o' e1 (notin b o e hb)⟩
end
end L2
namespace L2
open PySem PySem.Spec PyProof.Rows
section
variable {P:Program}{w:World}{K:W.Frag}{mg:Str->Option Value}{base:Heap}{N:List Str}{qual:Str}{scope:Scope}{f:Addr}{cd:Value}{A:Around}{outer:List Env}{s:Shared}{H:Hp}{E:XK}
theorem vG:(cQ (CX1 P w) P w K mg base N qual scope f cd A outer s H E).Top:=⟨rfl,rfl,rfl⟩
theorem bq:l7 (CX1 P w) (cQ (CX1 P w) P w K mg base N qual scope f cd A outer s H E) E:=λpins σ H s e s' I h=>qC vG I.ok.frames I h
theorem C6 {X:Cx}:l7 (CX1 P w) X E0:=λpins σ H s e s' I ⟨_,_,_,_,_,_,_,_,_,q⟩=>q.elim
theorem gK:PassesOwn (model P w) (cQ (CX1 P w) P w K mg base N qual scope f cd A outer s H E).A (cQ (CX1 P w) P w K mg base N qual scope f cd A outer s H E).env (cQ (CX1 P w) P w K mg base N qual scope f cd A outer s H E).xe:=PassesOwn.leaving
def Rz (X:Cx) (E:XK):Prop:=∀ (pins:List (Addr×Obj)) (σ:St) (H:Hp) (s:Shared) (h':Heap) (ea:Addr) (cls:Value) (args:List Value),Inv X pins σ H s->Heap.MadeExcOf s.heap h' ea cls args->E cls none H->X.xe (.ref ea) { s with heap:=h' }
theorem rz1:Rz (cQ (CX1 P w) P w K mg base N qual scope f cd A outer s H E) E:=λpins σ H s h' ea cls args I hx q=>sM vG I.ok.frames I hx q
theorem Fun.okR {x qual:Str}{st:Stmt}{f:Addr}{fd:FuncData}{N ps:List Str}{k:Nat}{sp:Sp} (F:Fun K x qual st f fd) (S:FnScope N ps (ao st)) (len:∀ vs H Q E,sp vs H Q E->vs.length=ps.length)
 (db:∀ (cdv:Value) (A:Around) (outer:List Env) (s:Shared) (H:Hp) (vs:List V) (Q:VK) (E:XK),Room k (A.deeper (envOfC qual (ao st) s.heap.objs.size f cdv))->sp vs H Q E->
  ∃ t,PSs (cQ (CX1 P w) P w K mg base N qual (ao st) f cdv A outer s H E) (bf st) t/\t { nx:=λ_ H'=>Q .non H',rt:=Q } (dH N vs) H):FnOk P w K mg base (CX1 P w) (k + 1) f fd ps sp:=by
 obtain⟨oc,od,kV,doc,pm,an,cdv,ct,osl,rfl,lk,hcd⟩:=F.ex
 exact Dj lk hcd S len λA outer s H vs Q E hr hsp=>db cdv A outer s H vs Q E hr hsp
end
abbrev jc:List Value:=[.type "ValueError",.type "Exception",.type "BaseException",.type "object"]
theorem qz {K:W.Frag}{h:Heap}{C:Addr} (X:K.In h) (q:W.excIn K C jc "ValueError.__new__"=true):
 ∃ bm N nm q' bs hdct sn sub ab col dd k0 k1 k2 k3 k5 mN,h.get? C=some (excClassObj nm q' C N bs bm hdct sn sub ab col dd k0 k1 k2 k3 k5 "ValueError.__new__")/\h.Ns N mN/\mN "__init__"=none/\OwnTail h jc bm:=by
 unfold W.excIn at q
 split at q
 ·rename_i dd cd sl ho
  split at q
  ·rename_i C' bm k0 k1 k2 k3 n k5 hm hs
   simp only[Bool.and_eq_true,beq_iff_eq,Bool.not_eq_true'] at q
   obtain⟨⟨⟨⟨⟨rfl,rfl⟩,hdel⟩,ht⟩,hok⟩,hni⟩:=q
   obtain⟨nm,bs,mro,ns,qn,hd,sn,sub,ab,col,del⟩:=cd
   dsimp only at hm hdel hok hni
   subst hm hdel
   have hsl:sl=#[k0,k1,k2,k3,some (.builtin "ValueError.__new__"),k5]:=by
    obtain⟨l⟩:=sl
    simp only at hs
    rw[hs]
   subst hsl
   exact⟨bm,ns,nm,qn,bs,hd,sn,sub,ab,col,dd,k0,k1,k2,k3,k5,_,X _ _ ho,.of_isNs (W.isNs_of_in X hok),W.nsMap_none_of_in X hok hni,W.tail_of_in X ht⟩
  ·cases q
 ·cases q
section
variable {X:Cx}{x:Str}{C:Addr}{E:XK}{np cpos pos:Pos}{e₀:Expr}{es:List Expr}{ta:TA}
def AW (C:Addr) (E:XK) (ta:TA):TS:=λ_ σ H=>ta σ H λvs H1=>vs.length<=sizeLine/\E (.ref C) none H1
theorem sZ (hc:X.calm=true) (hR:Rz X E) (hg:Gl X x) (hm:X.mg x=some (.ref C)) (hq:W.excIn X.K C jc "ValueError.__new__"=true) (ha:PA X (e₀ :: es) ta)
 (he:starEach (e₀ :: es) X.env=(false,eval e₀ X.env) :: starEach es X.env:=by rfl) (be:(backTo cpos (starEach es X.env)).any (·.1)=false:=by rfl) (hd:(x == ("__debug__" : Str))=false:=by decide):
 PS X (.Raise (some (.Call (.Name x np) (e₀ :: es) [] cpos)) none pos) (AW C E ta):=by
 intro pins s σ H D I h
 obtain⟨bm,N,nm,q',bs,hdct,sn,sub,ab,col,dd,k0,k1,k2,k3,k5,mN,hC,hN,hni,T⟩:=qz I.ok.mod.kin hq
 refine wpAny_Raise_call_subT (C:=C) (nm:=nm) (q:=q') (N:=N) (bs:=bs) (bm:=bm) (hdct:=hdct) (sn:=sn) (sub:=sub) (ab:=ab) (col:=col) (dd:=dd) (k0:=k0) (k1:=k1) (k2:=k2) (k3:=k3) (k5:=k5)
  PySem.F.excBase_ValueError (mN:=mN) (T.hasType PySem.F.excBase_ValueError.hasBase) (I.ok.hd hc) (by rw[he];show (false || (backTo cpos (starEach es X.env)).any (·.1))=false;rw[be];rfl) hni (nE I hg hm ⟨rfl,?_⟩ hd)
 have hA:=ha cpos pins s σ H _ I h
 rw[he] at hA ⊢
 refine Calls.evalArgs_plain (thn hA λus s2 ⟨vs,H2,I2,r2,hz,q2⟩=>⟨rfl,by rw[<- r2.length];exact hz,I2.bk _ _ hC,hN.keeps I2.bk,T.keeps I2.bk,λh' e hm'=>?_⟩)
 exact hR pins σ H2 s2 h' e _ _ I2 hm' q2
end
abbrev XS:=St->XK
abbrev TEx:=St->Hp->VK->XK->Prop
abbrev TSx:=Ends->XS->St->Hp->Prop
def XP (X:Cx) (pins:List (Addr×Obj)) (E:XS) (e:Value) (s':Shared):Prop:=∃ σ1 H1 s1,Inv X pins σ1 H1 s1/\CX1 X.prog X.w X.stack H1 s1 (E σ1) e s'
def PEx (X:Cx) (e:Expr) (t:TEx):Prop:=
 ∀ (pins:List (Addr×Obj)) (s:Shared) (σ:St) (H:Hp) (Q:VK) (E:XS),Inv X pins σ H s->t σ H Q (E σ)->wpAny (model X.prog X.w) X.A (eval e X.env) (EP X pins σ Q) (XP X pins E) s
section
variable {X:Cx}{st:Stmt}{bj:List Stmt}{t u:TSx}{e:Expr}{es:List Expr}{te:TEx}{pos p:Pos}{x:Str}{f:Addr}{fd:FuncData}{ps:List Str}{sp:Sp}{k:Nat}{ta:TA}{dvs:List V}{ds:List Value}
end
section
variable {X:Cx}{pins:List (Addr×Obj)}{σ:St}{H:Hp}{s:Shared}{ea:Addr}
end
structure XHand (K:W.Frag) (C:Addr):Prop where
 ty:W.typeIn K (.ref C)=some (.type "type")
 cls:(W.clsIn K C).isSome=true
 mb:W.mroIn K C (.type "BaseException")=some true
section
variable {X:Cx}{x n:Str}{C:Addr}{i:Nat}{body suite:List Stmt}{b₀:Stmt}{tb:TSx}{ts:TS}{np hpos pos:Pos}
end
end L2
namespace L2
open PySem PySem.Spec PyProof.Rows
mutual
inductive Rep (K:W.Frag) (H:Hp):V->PyData->Prop where
 | non:Rep K H .non .none
 | bl (b:Bool):Rep K H (.bl b) (.bool b)
 | int (i:Int):Rep K H (.int i) (.int i)
 | str (x:Str):Rep K H (.str x) (.str x)
 | tup {a:Addr}{xs:List V}{ds:List PyData} (h:SqT K H a xs) (r:Reps K H xs ds):Rep K H (.ref a) (.tuple ds)
 | lst {a:Addr}{xs:List V}{ds:List PyData} (h:SqL K H a xs) (r:Reps K H xs ds):Rep K H (.ref a) (.list ds)
inductive Reps (K:W.Frag) (H:Hp):List V->List PyData->Prop where
 | nil:Reps K H [] []
 | cons {x:V}{d:PyData}{xs:List V}{ds:List PyData} (r:Rep K H x d) (rr:Reps K H xs ds):Reps K H (x :: xs) (d :: ds)
end
section
variable {X:Cx}{pins:List (Addr×Obj)}{σ:St}{H H':Hp}{s:Shared}{K:W.Frag}
theorem Rep.reads (I:Inv X pins σ H s) {v:V}{d:PyData}{u:Value} (r:Rep X.K H v d) (q:RelV v u):∃ as,Reads s.heap u d as:=
 Rep.rec (motive_1:=λv d _=>∀ u,RelV v u->∃ as,Reads s.heap u d as) (motive_2:=λvs ds _=>∀ us,Vals vs us->∃ as,ReadsAll s.heap us ds as)
  (λu r=>by cases r;exact⟨_,.none⟩) (λb u r=>by cases r;exact⟨_,.bool b⟩) (λi u r=>by obtain⟨t,rfl⟩:=r;exact⟨_,.int i t⟩) (λx u r=>by obtain⟨t,rfl⟩:=r;exact⟨_,.str x t⟩)
  (λh _ ih u r=>by
   cases r
   obtain⟨its,rv,⟨o,e,c,n,d⟩,_⟩:=I.tuple h
   obtain⟨as,q⟩:=ih _ rv
   exact⟨as,.tuple e c d (by simpa using q)⟩)
  (λh _ ih u r=>by
   cases r
   obtain⟨its,rv,⟨o,n,e,c,_,d⟩,_⟩:=I.list h
   obtain⟨as,q⟩:=ih _ rv
   exact⟨_,.list e c d (by simpa using q)⟩)
  (λus r=>by cases r;exact⟨_,.nil⟩)
  (λ_ _ a b us q=>by
   cases q with
   |
    cons q1 q2=>
    obtain⟨as,h1⟩:=a _ q1
    obtain⟨bs,h2⟩:=b _ q2
    exact⟨_,.cons h1 h2⟩) r u q
end
section
variable {X:Cx}
def pM (K:W.Frag):R2:=λx y H Q=>∃ dx dy,Rep K H x dx/\Rep K H y dy/\SeqAt.shaped dx=true/\SeqAt.shaped dy=true/\Q (.bl (PyData.eqv dx dy)) H
def o6 (K:W.Frag):R2:=λx y H Q=>∃ dx dy,Rep K H x dx/\Rep K H y dy/\SeqAt.shaped dx=true/\SeqAt.shaped dy=true/\Q (.bl (!PyData.eqv dx dy)) H
theorem ze (hu:X.A.units + 64 < cLine):OpR X (compareOp .Eq) (pM X.K):=by
 intro pins s σ H x y v u Q I rx ry h
 obtain⟨dx,dy,r1,r2,h1,h2,q⟩:=h
 obtain⟨as,q1⟩:=r1.reads I rx
 obtain⟨bs,q2⟩:=r2.reads I ry
 exact SeqAt.compareEq_shaped q1 q2 h1 h2 hu (jk I q rfl)
theorem Ba (hu:X.A.units + 64 < cLine):OpR X (compareOp .NotEq) (o6 X.K):=by
 intro pins s σ H x y v u Q I rx ry h
 obtain⟨dx,dy,r1,r2,h1,h2,q⟩:=h
 obtain⟨as,q1⟩:=r1.reads I rx
 obtain⟨bs,q2⟩:=r2.reads I ry
 exact SeqAt.compareNe_shaped q1 q2 h1 h2 hu (jk I q rfl)
open PySem.Builtin.Int (intBits)
def CDivB (i j:Int):Prop:=j ≠ 0/\intBits j<=8000
def vk (i j:Int):Prop:=intBits i<=100000/\intBits j<=100000
theorem gw:OpR X (binaryOp .FloorDiv) (rI CDivB λi j=>.int (i.fdiv j)):=opI λi j _ _ _ _ _ hc q=>floordiv_int hc.1 q (.inl (PyProof.noPylong_of_log2 (by
 have h:=hc.2
 have h0:=hc.1
 unfold intBits at h
 have hb:(j == 0)=false:=by simpa using h0
 rw[hb] at h
 simp only[Bool.false_eq_true,if_false] at h
 omega)))
theorem vQ:OpR X (binaryOp .Mult) (rI vk λi j=>.int (i * j)):=opI λi j _ _ _ _ _ hc q=>mul_int q (PySem.IntMulOk.of_le hc.1 hc.2 (by decide))
end
end L2
namespace L2
open PySem PySem.Spec PyProof.Rows
structure Def (K:W.Frag) (mg:Str->Option Value) (x:Str) (st:Stmt):Prop where
 ex:∃ f fd,Fun K x x st f fd/\mg x=some (.ref f)
theorem cx {K:W.Frag}{h:Heap}{mg:Str->Option Value}{x:Str}{st:Stmt}{f:Addr}{oc:Value}{od an:Option Addr}{osl:Array (Option Value)}{kV doc pm cdv ct:Value} (X:K.In h) (G:h.Ns mainGlobals mg)
 (a:W.nsIn K mainGlobals x=some (some (.ref f))) (l:K.lookup f=some ⟨oc,od,.func (W.fnOf x x (bX st) (bf st) (ao st) .none kV doc pm an cdv ct),osl⟩)
 (c:W.codeIn K cdv x=true) (k:W.keepIn K (.ref f)=true):Def K mg x st:=⟨f,_,Az l c k,W.mg_of X G a⟩
theorem Fun.look {K:W.Frag}{x qual:Str}{st:Stmt}{f:Addr}{fd:FuncData} (F:Fun K x qual st f fd):∃ oc od osl,K.lookup f=some ⟨oc,od,.func fd,osl⟩:=by
 obtain⟨oc,od,kV,doc,pm,an,cdv,ct,osl,rfl,lk,hcd⟩:=F.ex
 exact⟨oc,od,osl,lk⟩
structure Callee (P:Program) (w:World) (K:W.Frag) (mg:Str->Option Value) (base:Heap) (x:Str) (k:Nat) (ps:List Str) (sp:Sp):Prop where
 ex:∃ f fd,FnOk P w K mg base (CX1 P w) k f fd ps sp/\mg x=some (.ref f)/\W.keepIn K (.ref f)=true/\Binds K fd ps []/\∃ oc od osl,K.lookup f=some ⟨oc,od,.func fd,osl⟩
section
variable {P:Program}{w:World}{K:W.Frag}{mg:Str->Option Value}{base:Heap}{x:Str}{st:Stmt}{k:Nat}{ps N:List Str}{sp:Sp}
theorem Callee.imp {sp':Sp} (C:Callee P w K mg base x k ps sp) (h:∀ vs H Q E,sp' vs H Q E->sp vs H Q E):Callee P w K mg base x k ps sp':=by
 obtain⟨f,fd,F,r⟩:=C.ex
 exact⟨f,fd,F.imp h,r⟩
theorem Def.okR (D:Def K mg x st) (S:FnScope N ps (ao st))
 (hb:∀ (kV doc pm:Value) (an:Option Addr) (cdv ct:Value) (us:List Value),us.length=ps.length->bindArgs (W.fnOf x x (bX st) (bf st) (ao st) .none kV doc pm an cdv ct) ⟨us,[]⟩=pure (ps.zip us))
 (len:∀ vs H Q E,sp vs H Q E->vs.length=ps.length)
 (db:∀ (f:Addr) (cdv:Value) (A:Around) (outer:List Env) (s:Shared) (H:Hp) (vs:List V) (Q:VK) (E:XK),Room k (A.deeper (envOfC x (ao st) s.heap.objs.size f cdv))->sp vs H Q E->
  ∃ t,PSs (cQ (CX1 P w) P w K mg base N x (ao st) f cdv A outer s H E) (bf st) t/\t { nx:=λ_ H'=>Q .non H',rt:=Q } (dH N vs) H):Callee P w K mg base x (k + 1) ps sp:=by
 obtain⟨f,fd,F,m⟩:=D.ex
 exact⟨f,fd,F.okR S len (db f),m,F.kp,F.binds hb,F.look⟩
end
section
variable {X:Cx}{x:Str}{p pos:Pos}{e:Expr}{es:List Expr}{ta:TA}{k:Nat}{ps:List Str}{sp:Sp}{E:XK}
end
section
variable {X:Cx}{K:W.Frag}{tg l:Expr}{tl:TE}
theorem gW (h:X.K=K) (hu:X.A.units + 64 < cLine):OpR X (compareOp .Eq) (pM K):=by subst h;exact ze hu
theorem pk (h:X.K=K) (hu:X.A.units + 64 < cLine):OpR X (compareOp .NotEq) (o6 K):=by subst h;exact Ba hu
theorem inK (h:X.K=K):OpR X (compareOp .In) (rIn K false):=by subst h;exact pY
end
end L2
namespace L2
open PySem PySem.Spec PyProof.Rows
section
variable {X:Cx}
theorem yR {ci ad tg:Expr}{ifs:List Expr}{scope:Scope}{pos:Pos}{wi:TI}{g:TG}{tc:TT}{te:TE}{N:List Str}{sub:List (Option Nat)}{iT:Nat}{xT:Str}{px spos:Pos}
 (hc:X.calm=true) (hN:X.N.Nodup) (hix:X.N[iT]?=some xT) (hxl:Loc X.env.scope xT) (hi:PI X tg ad wi)
 (hk:scope.kind=.function) (hnc:∀ x ∈ scope.names,x.2 ≠ .cell) (bd:∀ x ∈ scope.names,x.2=.local->scope.names.lookup x.1=some .local)
 (hfr:∀ x ∈ scope.names,x.2=.free->X.env.kindOf x.1=some .cell\/X.env.kindOf x.1=some .free)
 (hsl:sub.length=N.length) (bv:∀ (j i:Nat) (x:Str),sub[j]?=some (some i)->N[j]?=some x->X.N[i]?=some x/\scope.names.lookup x=some .free)
 (hg:∀ cl C s₂ H fp,PG (aE X N scope cl C s₂ H fp) tg g) (ht:∀ cl C s₂ H fp,PTs (aE X N scope cl C s₂ H fp) ifs tc) (he:∀ cl C s₂ H fp,PE (aE X N scope cl C s₂ H fp) ci te)
 (hsw:swapsWith (.ListComp ci [⟨tg,ad,ifs,0⟩] scope pos) (some (.Name xT px)) spos.line X.env=pure true)
 (hs:∀ x,foldedSetIterable ad X.env x=pure x:=by intro _;rfl) (hf:X.fn xT=true\/X.env.scope.names.lookup xT=some .local:=by first | exact .inl rfl | exact .inr rfl | assumption):
 PS X (.Assign [.Name xT px] (.ListComp ci [⟨tg,ad,ifs,0⟩] scope pos) spos) (mi (gb wi sub g tc te) (jh iT)):=by
 intro pins s σ H D0 I h
 obtain⟨cl,hclos,hcl,hclf⟩:=gy (env:=X.env) (scope:=scope) λx hx hf=>I.ok.has x.1 (hfr x hx hf)
 rw[exec_Assign_Name_used _ _ _ _ hsw]
 refine wpAny_bind (wpAny_standAt (wpAny_bind ?_))
 show wpAny _ X.A (do let _ <- comprehension (.ListComp ci [⟨tg,ad,ifs,0⟩] scope pos) scope X.env _ (newList []) false (eval ad X.env) (some (assign (.Name xT px) X.env))) _ _ s
 refine wpAny_bind (wpAny_mono (wpAny_comprehension_free (use:=some (assign (.Name xT px) X.env)) (Q:=λ_ s'=>SP X pins D0 .next s') rfl hs hclos hk bd ?_) (λ_ s' hq=>wpAny_pure (wpAny_pure hq)) λ_ _ e=>e)
 show wpAny _ _ (eval ad X.env) _ _ _
 refine thn (hi pins s σ H _ I h) λv s1 h1=>thn h1 λitv s2 h2=>?_
 obtain⟨it,fp,tn,J,H2,e,I2,T,st2,f2,W,⟨m0,w0⟩,turn⟩:=h2
 subst e
 refine wpAny_newObj_type (wpAny_newFunctionEnv hnc (by intro y hy;simp at hy) (λh₁ hns₁ hsb₁=>?_) hk)
 dsimp only at hns₁ hsb₁ ⊢
 generalize hH2:s2.heap.push { cls:=.type "list",dict:=none,data:=.seq ([]:List Value).toArray }=G2 at hns₁ hsb₁ ⊢
 have hC:G2.objs.size=s2.heap.objs.size + 1:=by rw[<- hH2,Heap.size_push]
 have hDC:s2.heap.objs.size ≠ G2.objs.size:=by omega
 have below:∀ b,b < s2.heap.objs.size->b ≠ G2.objs.size/\b ≠ s2.heap.objs.size:=λb hb=>⟨by omega,by omega⟩
 have old:∀ b o,s2.heap.get? b=some o->h₁.get? b=some o:=λb o e=>hsb₁.extBut b o (below b (Heap.lt_size e)).1 (Heap.get?_push_of_some _ (hH2 ▸ Heap.get?_push_of_some _ e))
 have hD₁:h₁.get? s2.heap.objs.size=some { cls:=.type "list",dict:=none,data:=.seq ([]:List Value).toArray }:=hsb₁.extBut _ _ hDC (Heap.get?_push_of_some _ (hH2 ▸ Heap.get?_push_size _ rfl))
 have fresh:∀ a,s2.heap.objs.size<=a->s2.heap.get? a=none:=λa ha=>Heap.get?_none_of_le ha
 have cellOld:∀ x c,cl.lookup x=some c->c < s2.heap.objs.size:=λx c e=>by
  obtain⟨v,z⟩:=I2.cell x c (hcl x c e)
  exact z.lt
 have fpOld:∀ b ∈ fp,b < s2.heap.objs.size:=λb hb=>by
  obtain⟨o,e,_⟩:=T.obj _ _ st2 b hb
  exact Heap.lt_size e
 let Y:Cx:=aE X N scope cl G2.objs.size s2 H2 fp
 have okY:Y.Ok
  := by
  refine⟨I2.ok.mod,?_,I2.ok.glob,I2.ok.blt,?_,λx y c e1 e2=>I2.ok.inj x y c (hcl x c e1) (hcl y c e2),λx hx=>?_,λx c hfn _=>absurd hfn Bool.false_ne_true,I2.ok.hd,I2.ok.frames,.inl rfl,
   λb hb=>⟨?_,λx c e z=>?_⟩,I2.bs,Nat.le_trans I2.ok.bsz I2.sz,λb o e hb=>?_,λb hb hf=>?_,I2.stack,I2.stkFree⟩
  ·show (relabel scope X.env).kind=.function
   exact hk
  ·show s2.heap.objs.size<=G2.objs.size
   omega
  ·have hx':(
    relabel scope X.env).names.lookup x=some .cell\/(relabel scope X.env).names.lookup x=some .free:=hx
   have:∃ k,
    (x,k) ∈ scope.names/\k=.free:=by
    have gen:∀ (names:List (Str×NameKind)),(∀ y ∈ names,y.2 ≠ .cell)->∀ kk,(kk=NameKind.cell\/kk=NameKind.free)->(names.map λ(n,k)=>if (k == NameKind.free && X.env.scope.kind == .function && X.env.kindOf n == some .cell) then (n,NameKind.cell) else (n,k)).lookup x=some kk->∃ k,(x,k) ∈ names/\k=.free:=by
     intro names
     induction names with
     | nil=>intro _ kk _ e;simp at e
     |
      cons y r ih=>
      intro hn kk hkk e
      obtain⟨n,k⟩:=y
      rw[List.map_cons,List.lookup_cons] at e
      by_cases hkf:k=.free
      ·subst hkf
       by_cases hxn:x=n
       ·exact⟨.free,by rw[hxn];exact List.mem_cons_self,rfl⟩
       ·have hb:(x == (if (NameKind.free == NameKind.free && X.env.scope.kind == .function && X.env.kindOf n == some .cell)=true then (n,NameKind.cell) else (n,NameKind.free)).1)=false:=by
         split <;> exact beq_eq_false_iff_ne.mpr hxn
        rw[hb] at e
        obtain⟨k',m,q⟩:=ih (λz hz=>hn z (List.mem_cons_of_mem _ hz)) kk hkk e
        exact⟨k',List.mem_cons_of_mem _ m,q⟩
      ·have hb0:(k == NameKind.free && X.env.scope.kind == .function && X.env.kindOf n == some .cell)=false:=by
        have:(k == NameKind.free)=false:=by simpa using hkf
        rw[this];rfl
       rw[hb0] at e
       simp only[Bool.false_eq_true,if_false] at e
       cases q:x == n with
       |
        true=>
        rw[q] at e
        have e':k=kk:=Option.some.inj e
        subst e'
        rcases hkk with z | z
        ·exact absurd z (hn (n,k) List.mem_cons_self)
        ·exact absurd z hkf
       |
        false=>
        rw[q] at e
        obtain⟨k',m,q⟩:=ih (λz hz=>hn z (List.mem_cons_of_mem _ hz)) kk hkk e
        exact⟨k',List.mem_cons_of_mem _ m,q⟩
    rcases hx' with z | z
    ·exact gen scope.names hnc _ (.inl rfl) z
    ·exact gen scope.names hnc _ (.inr rfl) z
   obtain⟨k,m,q⟩:=this
   exact hclf (x,k) m q
  ·show b ≠ G2.objs.size
   exact (below b (fpOld b hb)).1
  ·exact (f2 b hb).2.2.2.2.1 x c (hcl x c e) z
  ·rcases (f2 b hb).2.2.2.1 with z | z
   ·exact I2.ok.noex b o e z
   ·exact absurd (Nat.lt_of_lt_of_le (Heap.lt_size e) (Nat.le_trans I2.ok.bsz z)) (Nat.lt_irrefl _)
  ·have hf':b ∈ frs X.stack:=hf
   rcases List.mem_cons.mp (I2.stkSub b hf') with z | z
   ·exact (f2 b hb).2.1 z
   ·exact (f2 b hb).2.2.1 z
 have startLoc
  : ∃ m,h₁.Ns G2.objs.size m/\∀ (i:Nat) (x:Str) (v:V),N[i]?=some x->(bL sub σ)[i]?=some (some v)->Vis (relabel scope X.env) x->∃ u,RelV v u/\sG Y.env h₁ m x u:=by
  refine⟨_,hns₁,λj x v e1 e2 e3=>?_⟩
  unfold bL at e2
  rw[List.getElem?_map] at e2
  cases q:sub[j]? with
  | none=>rw[q] at e2;cases e2
  |
   some o=>
   rw[q] at e2
   cases o with
   | none=>cases e2
   |
    some i=>
    obtain⟨hNi,hfree⟩:=bv j i x q e1
    have e2':(σ[i]?).bind id=some v:=Option.some.inj e2
    have e2'':σ[i]?=some (some v):=by
     cases z:σ[i]? with
     | none=>rw[z] at e2';cases e2'
     | some y=>rw[z] at e2';rw[show y=some v from e2']
    obtain⟨m2,hn2,hl2⟩:=I2.loc
    have hkx:=hfr (x,.free) (PySem.mem_of_lookup hfree) rfl
    obtain⟨u,r,l⟩:=hl2 i x v hNi e2'' (by rcases hkx with z | z;exact .inr (.inl z);exact .inr (.inr z))
    refine⟨u,r,.inr ⟨?_,?_⟩⟩
    ·rcases e3
      with z | z | z
     ·exfalso
      have gen:∀ (names:List (Str×NameKind)),names.lookup x=some .free->(names.map λ(n,k)=>if (k == NameKind.free && X.env.scope.kind == .function && X.env.kindOf n == some .cell) then (n,NameKind.cell) else (n,k)).lookup x=some .local->False:=by
       intro names
       induction names with
       | nil=>intro e _;simp at e
       |
        cons y r ih=>
        intro e1 e2
        obtain⟨n,k⟩:=y
        rw[List.lookup_cons] at e1
        rw[List.map_cons,List.lookup_cons] at e2
        by_cases hxn:x=n
        ·have hb1:(x == n)=true:=beq_iff_eq.mpr hxn
         rw[hb1] at e1
         have:k=.free:=Option.some.inj e1
         subst this
         split at e2
         ·rename_i hq
          split at e2 <;> cases e2
         ·rename_i hq
          split at hq <;> (rw[hb1] at hq;cases hq)
        ·have hb1:(x == n)=false:=beq_eq_false_iff_ne.mpr hxn
         rw[hb1] at e1
         refine ih e1 ?_
         split at e2
         ·rename_i hq
          split at hq <;> (rw[hb1] at hq;cases hq)
         ·exact e2
      exact gen scope.names hfree z
     ·exact .inl z
     ·exact .inr z
    ·obtain⟨c,hc'⟩:=hclf (x,.free) (PySem.mem_of_lookup hfree) rfl
     refine⟨c,hc',?_⟩
     rcases l with ⟨k,_⟩ | ⟨_,c2,ec2,z⟩
     ·rcases hkx with z | z <;> (rw[k] at z;cases z)
     ·have:=hcl x c hc'
      rw[ec2] at this
      cases this
      obtain⟨oc,hoc,hd⟩:=z
      exact⟨oc,old _ _ hoc,hd⟩
 have pinD:∀ {σ':St}{H':Hp}{s':Shared}{pl:List (Addr×Obj)}{o:Obj},Inv Y pl σ' H' s'->s'.heap.get? s2.heap.objs.size=some o->(∀ v,o.data ≠ .cell v)->H' s2.heap.objs.size=none->Inv Y [(s2.heap.objs.size,o)] σ' H' s':=λ{σ' H' s' pl o} IY e d n=>
  IY.pins_of λp hp=>by
   have e':p=(s2.heap.objs.size,o):=by simpa using hp
   subst e'
   refine⟨e,n,?_,?_,d⟩
   ·show s2.heap.objs.size ≠ G2.objs.size
    omega
   ·intro hf
    have hf':s2.heap.objs.size ∈ frs X.stack:=hf
    obtain⟨_,o',ho',_⟩:=I2.stack.mem hf'
    exact absurd (Heap.lt_size ho') (Nat.lt_irrefl _)
 have fpY:∀ {H':Hp}{pl:List (Addr×Obj)},(∀ b ∈ fp,H' b=none)->(∀ p ∈ pl,p.1 ∉ fp)->∀ b ∈ fp,FpOk Y pl H' b:=λ{H' pl} hn hp b hb=>by
  refine⟨hn b hb,?_,?_,.inl hb,λx c e=>?_,λp hp'=>?_⟩
  ·exact (okY.exf b hb).1
  ·exact okY.exfs b hb
  ·exact (okY.exf b hb).2 x c e
  ·intro z
   have hp'':p ∈ pl:=by simpa [Y,aE] using hp'
   exact hp p hp'' (by rw[z];exact hb)
 have hDfp:s2.heap.objs.size ∉ fp:=λz=>Nat.lt_irrefl _ (fpOld _ z)
 have loop
  : ∀ s₃:Shared,s₃={ s2 with heap:=h₁,toks:=s2.toks + ([]:List (Str×Value)).length }->
  codeAny (model X.prog X.w) X.A (.compLoop (.ListComp ci [⟨tg,ad,ifs,0⟩] scope pos) 0 (.ref it) (.ref s2.heap.objs.size) (compEnvC scope cl G2.objs.size X.env))
   (compPost (model X.prog X.w) X.A X.xe (some (assign (.Name xT px) X.env)) (λ_ s'=>SP X pins D0 .next s') (.ref s2.heap.objs.size) G2.objs.size) s₃:=by
  rintro s₃ rfl
  have IY0:Inv Y [(s2.heap.objs.size,{ cls:=.type "list",dict:=none,data:=.seq ([]:List Value).toArray })] (bL sub σ) H2 { s2 with heap:=h₁,toks:=s2.toks + ([]:List (Str×Value)).length }:=by
   have J0:Inv Y [] (bL sub σ) H2 { s2 with heap:=h₁,toks:=s2.toks + ([]:List (Str×Value)).length }:=by
    refine⟨okY,rfl,I2.bare,Un.kept old,startLoc,λx c e=>?_,I2.hok.fresh (by show s2.heap.objs.size<=G2.objs.size;omega),λx c e=>I2.freeC x c (hcl x c e),λp hp=>absurd (show p ∈ ([]:List (Addr×Obj)) from hp) (by simp),I2.hok.kept old,?_⟩
    ·obtain⟨v,oc,hoc,hd⟩:=I2.cell x c (hcl x c e)
     exact⟨v,oc,old _ _ hoc,hd⟩
    ·show (bL sub σ).length=N.length
     unfold bL
     rw[List.length_map];exact hsl
   exact pinD J0 hD₁ (λv z=>by cases z) I2.fresh
  refine g8 (λn s'=>∃ (i:Nat) (ys:List V) (its:List Value) (k:Nat) (σ':St) (H':Hp),Inv Y [(s2.heap.objs.size,{ cls:=.type "list",dict:=none,data:=.seq its.toArray k })] σ' H' s'/\Vals ys its/\tn i s'.heap/\(∀ b ∈ fp,H' b=none)/\W i n ys σ' H') ?_ m0
   ⟨0,[],[],0,bL sub σ,H2,IY0,.nil,T.keep _ _ _ st2 (λb hb o e=>old b o e),λb hb=>(f2 b hb).1,w0⟩
  rintro n s3 ⟨i,ys,its,k,σ3,H3,I3,rv,st3,fr3,w3⟩
  have npl:∀ (o:Obj),∀ p ∈ [(s2.heap.objs.size,o)],p.1 ∉ fp:=λo p hp=>by
   have e':p=(s2.heap.objs.size,o):=by simpa using hp
   subst e'
   exact hDfp
  rcases turn i n ys σ3 H3 w3 with ⟨stop,hz,qn⟩ | ⟨go,hz,Nx,hNx,step⟩
  ·refine wpAny_mono (T.done Y rfl rfl rfl hc i _ s3 σ3 H3 (λ_ _=>False) I3 (fpY fr3 (npl _)) st3 stop) (λr s4 ⟨hr,I4⟩=>?_) λ_ _ z=>z
   subst hr
   obtain⟨m4,hn4,_⟩:=I4.loc
   have hs':Heap.SameBut G2.objs.size s4.heap s4.heap:=⟨rfl,λ_ _=>rfl⟩
   obtain⟨h',hh'⟩:∃ h',h'=s4.heap:=⟨_,rfl⟩
   rw[<- hh'] at hs'
   rw[hh'] at hs'
   clear hh' h'
   generalize hh':s4.heap=h' at hs'
   have hs':Heap.SameBut G2.objs.size s4.heap h':=by rw[hh'];exact hs'
   have hCfree:H3 G2.objs.size=none:=I4.free
   have hD4:=I4.pin (s2.heap.objs.size,{ cls:=.type "list",dict:=none,data:=.seq its.toArray k }) (List.mem_append_right _ List.mem_cons_self)
   have un4:Un (frs X.stack) fp H2 H3 s2.heap s4.heap:=I4.base
   have up:∀ b o,b ≠ G2.objs.size->s4.heap.get? b=some o->h'.get? b=some o:=λb o hb e=>hs'.extBut b o hb e
   have ne2:∀ b o,s2.heap.get? b=some o->b ≠ G2.objs.size:=λb o e=>(below b (Heap.lt_size e)).1
   have un5:Un (frs X.stack) fp H2 H3 s2.heap h':=by
    refine⟨λb o e n hb hx=>up b o (ne2 b o e) (un4.keep b o e n hb hx),λb o e n hb hx=>?_,un4.free,λb o e hx=>?_,un4.tups,un4.frzs,un4.tbls⟩
    ·obtain⟨sl,q⟩:=un4.slot b o e n hb hx
     exact⟨sl,up b _ (ne2 b o e) q⟩
    ·obtain⟨o',q⟩:=un4.there b o e hx
     exact⟨o',up b _ (ne2 b o e) q⟩
   have hok5:HOk X.prog X.w H3 h':=λb u e=>(I4.hok b u e).stay (λc v hcc q=>up c v (λz=>by
    rcases hcc with zz | zz
    ·rw[zz] at z;rw[z,hCfree] at e;cases e
    ·rw[z,hCfree] at zz;cases zz) q) (λ_ q=>q) λ_ _ q=>q
   have I5:Inv X pins σ H3 { s4 with heap:=h' }:=I2.call' (s':={ s4 with heap:=h' }) (ch:=fp) I4.os un5 hok5 I4.bare λb hb=>by
    obtain⟨_,g1,_,g3,g4,g5⟩:=f2 b hb
    exact⟨g3,g1,g4,g5⟩
   have hDfree:H3 s2.heap.objs.size=none:=hD4.2.1
   have sz0:X.s₀.heap.objs.size<=s2.heap.objs.size:=I2.sz
   have hCold:∀ b,b < s2.heap.objs.size->b ≠ G2.objs.size:=λb hb=>(below b hb).1
   have I6:Inv X pins σ (upd H3 s2.heap.objs.size (.lst ys)) { s4 with heap:=h' }:=by
    refine I5.track (o:=.lst ys) hDfree (Heap.get?_none_of_le sz0) (Nat.ne_of_gt I2.lt) (λx c e z=>?_) (λp hp z=>?_) ?_
    ·obtain⟨v,q⟩:=I2.cell x c e
     exact absurd q.lt (by rw[z];exact Nat.lt_irrefl _)
    ·exact absurd (Heap.lt_size (I2.pin p hp).1) (by rw[z];exact Nat.lt_irrefl _)
    ·exact⟨hz,its,k,rv,up _ _ hDC hD4.1⟩
   have I6':Inv X pins σ (upd H3 s2.heap.objs.size (.lst ys)) s4:=by
    have e4:({ s4 with heap:=h' }:Shared)=s4:=by rw[<- hh']
    rw[e4] at I6;exact I6
   refine wpAny_assign_Name (kj (v:=.ref s2.heap.objs.size) I6' hN hix hxl rfl (λs7 I7 ⟨a7,sb7,ha7⟩=>?_) hf)
   have ha:a7 < s2.heap.objs.size:=by
    rcases ha7 with z | z
    ·rw[z];exact I2.lt
    ·obtain⟨v,q⟩:=I2.cell xT a7 z
     exact q.lt
   refine⟨m4,hn4.sameBut sb7 (Ne.symm (hCold a7 ha)),λh8 hs8=>?_⟩
   have I8:Inv X pins (σ.set iT (some (.ref s2.heap.objs.size))) (upd H3 s2.heap.objs.size (.lst ys)) { s7 with heap:=h8,toks:=s7.toks }:=by
    refine I7.turned (it:=G2.objs.size) (t':=s7.toks) (λb o hb e=>hs8.extBut b o hb e) ?_ ?_ (.inr ?_) (λx c e=>?_) (λp hp=>?_)
    ·rw[aB (Ne.symm hDC)];exact hCfree
    ·exact Ne.symm (hCold _ I2.lt)
    ·omega
    ·obtain⟨v,q⟩:=I2.cell x c e
     exact hCold _ q.lt
    ·exact hCold _ (Heap.lt_size (I2.pin p hp).1)
   exact⟨_,_,I8,qn _ hDfree⟩
  ·refine wpAny_mono (T.item Y rfl rfl rfl hc i _ s3 σ3 H3 (λ_ _=>False) I3 (fpY fr3 (npl _)) st3 go) (λr s4 ⟨u,hr,h4⟩=>?_) λ_ _ z=>z
   subst hr
   refine wpAny_mono h4 (λ_ s5 ⟨x,H5,I5,r5,y5,st5,fr5⟩=>?_) λ_ _ z=>z
   have I5':=I5.pinned (fpY fr5 (npl _)) (T.obj _ _ st5)
   refine wpAny_mono (hg cl G2.objs.size s2 H2 fp _ s5 σ3 H5 x u _ I5' r5 (step x H5 y5)) (λ_ s6 ⟨σ6,H6,I6,q6⟩=>?_) λ_ _ z=>z
   refine wpAny_mono (ht cl G2.objs.size s2 H2 fp _ s6 σ6 H6 _ I6 q6) (λok s7 ⟨H7,I7,q7⟩=>?_) λ_ _ z=>z
   have back:∀ {σ':St}{H':Hp}{s':Shared},Inv Y ([(s2.heap.objs.size,{ cls:=.type "list",dict:=none,data:=.seq its.toArray k })]++fM fp s5.heap) σ' H' s'->tn (i + 1) s'.heap/\∀ b ∈ fp,H' b=none:=λ{σ' H' s'} IB=>by
    refine⟨T.keep _ _ _ st5 λb hb o e=>(IB.pin (b,o) (List.mem_append_right _ (List.mem_append_right _ (cP hb e)))).1,λb hb=>?_⟩
    obtain⟨o,e,d⟩:=T.obj _ _ st5 b hb
    exact (IB.pin (b,o) (List.mem_append_right _ (List.mem_append_right _ (cP hb e)))).2.1
   cases ok with
   |
    false=>
    rw[if_neg Bool.false_ne_true] at q7
    obtain⟨m',hm,w7⟩:=hNx _ _ _ q7
    rw[if_neg Bool.false_ne_true]
    obtain⟨t7,f7⟩:=back I7
    exact⟨m',hm,i + 1,ys,its,k,σ6,H7,I7.unpinned,rv,t7,f7,w7⟩
   |
    true=>
    rw[if_pos rfl] at q7
    rw[if_pos rfl]
    refine wpAny_mono (he cl G2.objs.size s2 H2 fp _ s7 σ6 H7 _ I7 q7) (λy s8 ⟨yv,H8,I8,r8,q8⟩=>?_) λ_ _ z=>z
    obtain⟨m',hm,w8⟩:=hNx _ _ _ q8
    obtain⟨t8,f8⟩:=back I8
    have I9:=I8.unpinned
    have hD9:=I9.pin (s2.heap.objs.size,{ cls:=.type "list",dict:=none,data:=.seq its.toArray k }) (List.mem_append_right _ List.mem_cons_self)
    have e9:s8.heap.get? s2.heap.objs.size=some { cls:=.type "list",dict:=none,data:=.seq its.toArray k }:=hD9.1
    have hlen:=rv.length
    refine call_meets F.slot_list_append ⟨_,e9,rfl⟩ F.entry_list_append (F.args_list_append_2 _ _) (PySem.list_append _ its.toArray k y (by rw[List.size_toArray];omega)) ⟨e9,?_⟩
    have q9:=PySem.IsL.update e9 (λxs=>xs.push y)
    have ea:its.toArray.push y=(its++[y]).toArray:=by simp
    rw[ea] at q9
    have k9:∀ b o,b ≠ s2.heap.objs.size->s8.heap.get? b=some o->(s8.heap.update s2.heap.objs.size (Obj.mapSeq λxs=>xs.push y)).get? b=some o:=λb o hb e=>(Heap.get?_update_other _ _ (Ne.symm hb)).trans e
    have I10:Inv Y [] σ6 H8 { s8 with heap:=s8.heap.update s2.heap.objs.size (Obj.mapSeq λxs=>xs.push y) }:=
     (I9.pins_of (pins':=[]) (λp hp=>nomatch hp)).turned (t':=s8.toks) k9 hD9.2.1 hD9.2.2.1 (.inr (Nat.le_refl _)) (λx c e z=>absurd (cellOld x c e) (by rw[z];exact Nat.lt_irrefl _))
      (λp hp=>absurd (show p ∈ ([]:List (Addr×Obj)) from hp) (by simp))
    refine⟨m',hm,i + 1,ys++[yv],its++[y],_,σ6,H8,pinD I10 q9 (λv z=>by cases z) hD9.2.1,rv.append (.cons r8 .nil),?_,f8,w8⟩
    exact T.keep _ _ _ t8 λb hb o e=>k9 b o (λz=>hDfp (by rw[<- z];exact hb)) e
 exact codeAny_compStart_list (loop _ rfl) (T.self _ 0 _ _ _ (T.keep _ _ _ st2 λb hb o e=>old b o e) (loop _ rfl))
theorem CJ {ci ad tg:Expr}{scope:Scope}{pos px spos:Pos}{wi:TI}{g:TG}{te:TE}{iT:Nat}{xT:Str} (M:List Str) (kn:List (Str×NameKind)) (N:List Str) (sub:List (Option Nat))
 (hc:X.calm=true) (hN:X.N.Nodup) (hix:X.N[iT]?=some xT) (hxl:Loc X.env.scope xT) (hi:PI X tg ad wi)
 (hg:∀ cl C s₂ H fp,PG (aE X N scope cl C s₂ H fp) tg g) (he:∀ cl C s₂ H fp,PE (aE X N scope cl C s₂ H fp) ci te)
 (hsw:swapsWith (.ListComp ci [⟨tg,ad,[],0⟩] scope pos) (some (.Name xT px)) spos.line X.env=pure true:=by rfl)
 (hM:X.N=M:=by rfl) (hkn:X.env.scope.names=kn:=by rfl) (bv:dE M scope.names sub N=true:=by decide)
 (hk:scope.kind=.function:=by rfl) (hnc:∀ x ∈ scope.names,x.2 ≠ .cell:=by decide) (bd:∀ x ∈ scope.names,x.2=.local->scope.names.lookup x.1=some .local:=by decide)
 (hfr:eP kn scope.names=true:=by decide)
 (hsl:sub.length=N.length:=by rfl) (hs:∀ x,foldedSetIterable ad X.env x=pure x:=by intro _;rfl) (hf:X.fn xT=true\/X.env.scope.names.lookup xT=some .local:=by first | exact .inl rfl | exact .inr rfl | assumption):
 PS X (.Assign [.Name xT px] (.ListComp ci [⟨tg,ad,[],0⟩] scope pos) spos) (mi (gb wi sub g tP te) (jh iT)):=
 yR hc hN hix hxl hi hk hnc bd (by subst hkn;exact jR hfr) hsl (by subst hM;exact iK bv) hg (λcl C s₂ H fp=>m7) he hsw hs hf
end
end L2
namespace L2
open PySem PySem.Spec PyProof.Rows
end L2
namespace Fr
def dv (a b:Int):Int:=if b < 0 then -((Int.gcd a b:Nat):Int) else ((Int.gcd a b:Nat):Int)
def T (a b:Int):Int:=a.fdiv (dv a b)
def B (a b:Int):Int:=b.fdiv (dv a b)
theorem l6 {a b:Int} (hb:b ≠ 0):0 < Int.gcd a b:=Int.gcd_pos_of_ne_zero_right a hb
theorem vo {a b:Int} (hb:b ≠ 0):dv a b ≠ 0:=by
 have:=l6 (a:=a) hb
 unfold dv
 split <;> omega
theorem ue (a b:Int):dv a b ∣ a:=by
 have h:((Int.gcd a b:Nat):Int) ∣ a:=Int.gcd_dvd_left a b
 unfold dv
 split
 ·exact Int.neg_dvd.mpr h
 ·exact h
theorem uH (a b:Int):dv a b ∣ b:=by
 have h:((Int.gcd a b:Nat):Int) ∣ b:=Int.gcd_dvd_right a b
 unfold dv
 split
 ·exact Int.neg_dvd.mpr h
 ·exact h
theorem nJ {a d q:Int} (hd:d ≠ 0) (h:a=d * q):a.fdiv d=q:=by
 rw[h,Int.mul_comm]
 exact Int.mul_fdiv_cancel q hd
theorem vH {a b:Int} (hb:b ≠ 0):T a b * dv a b=a:=by
 obtain⟨q,h⟩:=ue a b
 have:T a b=q:=nJ (vo hb) h
 rw[this,Int.mul_comm];exact h.symm
theorem pI {a b:Int} (hb:b ≠ 0):B a b * dv a b=b:=by
 obtain⟨q,h⟩:=uH a b
 have:B a b=q:=nJ (vo hb) h
 rw[this,Int.mul_comm];exact h.symm
theorem oW {a b:Int} (hb:b ≠ 0):0 < B a b:=by
 have h:=pI (a:=a) hb
 have hg:=l6 (a:=a) hb
 generalize hx:B a b=x at h ⊢
 unfold dv at h
 split at h
 ·rename_i hneg
  have h2:x * ((Int.gcd a b:Nat):Int)=-b:=by rw[Int.mul_neg] at h;omega
  rcases Int.lt_or_le 0 x with z | z
  ·exact z
  ·have:x * ((Int.gcd a b:Nat):Int)<=0:=Int.mul_nonpos_of_nonpos_of_nonneg z (by omega)
   omega
 ·rename_i hpos
  rcases Int.lt_or_le 0 x with z | z
  ·exact z
  ·have:x * ((Int.gcd a b:Nat):Int)<=0:=Int.mul_nonpos_of_nonpos_of_nonneg z (by omega)
   omega
theorem oo {a b:Int} (hb:b ≠ 0):T a b * b=a * B a b:=by
 have h1:=vH (a:=a) hb
 have h2:=pI (a:=a) hb
 generalize T a b=x at *
 generalize B a b=y at *
 generalize dv a b=d at *
 rw[<- h2,<- h1]
 rw[<- Int.mul_assoc,Int.mul_right_comm]
theorem rF (a b:Int):(dv a b).natAbs=Int.gcd a b:=by
 unfold dv
 split <;> simp
theorem low {a b:Int} (hb:b ≠ 0):Int.gcd (T a b) (B a b)=1:=by
 have h1:=vH (a:=a) hb
 have h2:=pI (a:=a) hb
 have hg:=l6 (a:=a) hb
 have e1:a.natAbs=(T a b).natAbs * Int.gcd a b:=by rw[<- rF a b,<- Int.natAbs_mul,h1]
 have e2:b.natAbs=(B a b).natAbs * Int.gcd a b:=by rw[<- rF a b,<- Int.natAbs_mul,h2]
 have e3:Int.gcd a b=Nat.gcd ((T a b).natAbs * Int.gcd a b) ((B a b).natAbs * Int.gcd a b):=by rw[<- e1,<- e2];rfl
 rw[Nat.gcd_mul_right] at e3
 show Nat.gcd (T a b).natAbs (B a b).natAbs=1
 generalize Nat.gcd (T a b).natAbs (B a b).natAbs=k at *
 generalize Int.gcd a b=g at *
 have:(1:Nat) * g=k * g:=by omega
 exact (Nat.eq_of_mul_eq_mul_right hg this).symm
theorem uniq {x y x' y':Int} (hy:0 < y) (hy':0 < y') (h:Int.gcd x y=1) (h':Int.gcd x' y'=1) (e:x * y'=x' * y):x=x'/\y=y':=by
 have c1:Nat.Coprime y.natAbs x.natAbs:=by rw[Nat.coprime_comm];exact h
 have c2:Nat.Coprime y'.natAbs x'.natAbs:=by rw[Nat.coprime_comm];exact h'
 have e1:x.natAbs * y'.natAbs=x'.natAbs * y.natAbs:=by rw[<- Int.natAbs_mul,<- Int.natAbs_mul,e]
 have d1:y.natAbs ∣ y'.natAbs:=c1.dvd_of_dvd_mul_left (by rw[e1];exact Nat.dvd_mul_left _ _)
 have d2:y'.natAbs ∣ y.natAbs:=c2.dvd_of_dvd_mul_left (by rw[<- e1];exact Nat.dvd_mul_left _ _)
 have ey:y.natAbs=y'.natAbs:=Nat.dvd_antisymm d1 d2
 have ey':y=y':=by omega
 subst ey'
 exact⟨Int.eq_of_mul_eq_mul_right (by omega) e,rfl⟩
theorem same {a b c d:Int} (hb:b ≠ 0) (hd:d ≠ 0) (e:a * d=c * b):T a b=T c d/\B a b=B c d:=by
 refine uniq (oW hb) (oW hd) (low hb) (low hd) ?_
 have h1:=oo (a:=a) hb
 have h2:=oo (a:=c) hd
 have hbd:b * d ≠ 0:=Int.mul_ne_zero hb hd
 refine Int.eq_of_mul_eq_mul_right hbd ?_
 calc T a b * B c d * (b * d)=(T a b * b) * (B c d * d):=by rw[Int.mul_assoc,Int.mul_left_comm (B c d) b d,<- Int.mul_assoc]
  _=(a * B a b) * (B c d * d):=by rw[h1]
  _=(a * d) * (B c d * B a b):=by rw[Int.mul_assoc a,Int.mul_assoc a,Int.mul_left_comm (B a b),Int.mul_left_comm d,Int.mul_comm (B a b) d]
  _=(c * b) * (B c d * B a b):=by rw[e]
  _=(c * B c d) * (B a b * b):=by rw[Int.mul_assoc c,Int.mul_assoc c,Int.mul_left_comm b,Int.mul_comm b (B a b)]
  _=(T c d * d) * (B a b * b):=by rw[<- h2]
  _=T c d * B a b * (b * d):=by rw[Int.mul_assoc,Int.mul_assoc,Int.mul_left_comm d,Int.mul_comm d b]
theorem self {a b:Int} (hb:0 < b) (h:Int.gcd a b=1):T a b=a/\B a b=b:=
 uniq (oW (by omega)) hb (low (by omega)) h (oo (by omega))
end Fr
set_option maxHeartbeats 1000000
namespace L2
open PySem PySem.Spec PyProof.Rows
theorem Inv.turnedL {X:Cx}{pins:List (Addr×Obj)}{σ:St}{H:Hp}{s:Shared}{h':Heap}{t':Nat}{ch:List Addr} (I:Inv X pins σ H s) (k:∀ b o,b ∉ ch->s.heap.get? b=some o->h'.get? b=some o) (hf:∀ b ∈ ch,FpOk X pins H b):Inv X pins σ H { s with heap:=h',toks:=t' }:=by
 have away:∀ b u,H b=some u->b ∉ ch:=λb u e z=>by have:=(hf b z).1;rw[e] at this;cases this
 refine I.step (g':=s.gens) (d':=s.drawn) (ch:=ch) (λb hb=>⟨(hf b hb).2.2.2.1,(hf b hb).2.1,(hf b hb).2.2.2.2.1,(hf b hb).2.2.2.2.2⟩) (λb o _ _ hc e _=>k b o hc e) (λb o _ _ hc e _=>⟨o.slots,k b o hc e⟩) (λ_ _ _ _ n=>n)
  (λb o hc e=>⟨o,k b o hc e⟩) (λ_ _ e=>e) (λ_ _ _ e=>e) (λb ps e=>⟨#[],by rw[e];simp⟩) (λm hm=>?_) (λb u e=>?_) I.bare
 ·obtain⟨o,es,ep,ho,r⟩:=hm
  exact⟨o,es,ep,k _ o (λz=>(hf _ z).2.1 rfl) ho,r⟩
 ·refine (I.hok b u e).stay (λc v hc q=>k c v ?_ q) (λ_ q=>q) λ_ _ q=>q
  rcases hc with z | z
  ·rw[z];exact away b u e
  ·exact away c _ z
theorem FpOk.up {X:Cx}{pins:List (Addr×Obj)}{H:Hp}{b p:Addr}{o:HO} (f:FpOk X pins H b) (hn:b ≠ p):FpOk X pins (upd H p o) b:=⟨by rw[aB hn];exact f.1,f.2⟩
theorem oB {prog:Program}{w:World}{A:Around}{E:Value->Shared->Prop}{s:Shared}{j t:Addr}{n:Nat}{its:Array Value}{v:Value}{Q:Value->Shared->Prop} (hj:s.heap.IsTupleIter j t n) (ht:s.heap.IsTuple t its) (hv:its[n]?=some v)
 (k:∀ h',h'.IsTupleIter j t (n + 1)->Heap.SameBut j s.heap h'->Q v { s with heap:=h' }):wpAny (model prog w) A (Builtin.SmallTypes.nextOf (.ref j)) Q E s:=by
 obtain⟨oj,ej,cj,dj⟩:=id hj
 obtain⟨ot,et,_,m,dt⟩:=ht
 unfold Builtin.SmallTypes.nextOf
 refine wpAny_bind (wpAny_callSpecial?_slot (name:=Str.ofString "__next__") hj.typeIs F.slot_tuple_iterator_next (wpAny_call_entry F.slot_tuple_iterator_next hj.typeIs F.entry_tuple_iterator_next ?_ (F.args_tuple_iterator_next_1 _)))
 show wpAny _ _ (field (.ref j) 0 >>= _) _ _ s
 refine wpAny_bind (wpAny_field ej dj (x:=.ref t) rfl ?_)
 show wpAny _ _ (if (Value.ref t == Value.none)=true then _ else _) _ _ s;rw[if_neg (show ¬ ((Value.ref t == Value.none)=true) from Bool.false_ne_true)]
 show wpAny _ _ (field (.ref j) 1 >>= _) _ _ s
 refine wpAny_bind (wpAny_field ej dj (x:=.int n 0) rfl ?_)
 show wpAny _ _ (seqItems? (.ref t) >>= _) _ _ s;refine wpAny_bind (wpAny_seqItems et dt ?_)
 simp only[Int.toNat_natCast,hv]
 refine wpAny_bind (wpAny_setField ej dj (by simp) (wpAny_pure ⟨v,rfl,wpAny_pure (k _ ?_ (Heap.SameBut.update ..))⟩))
 exact⟨_,Heap.get?_update_self _ ej (Obj.isFreed_of_fields (Obj.data_mapFields dj _)),(Obj.cls_mapFields ..).trans cj,by rw[Obj.data_mapFields dj];simp [rawInt]⟩
theorem jO {prog:Program}{w:World}{A:Around}{E:Value->Shared->Prop}{s:Shared}{j t:Addr}{n:Nat}{its:Array Value}{Q:Value->Shared->Prop} (hh:A.handled=none) (hj:s.heap.IsTupleIter j t n) (ht:s.heap.IsTuple t its) (hv:its[n]?=none)
 (k:∀ h' e,Heap.ExtBut j s.heap h'->(∃ o,h'.get? e=some o/\o.cls=.type "StopIteration")->E (.ref e) { s with heap:=h' }):wpAny (model prog w) A (Builtin.SmallTypes.nextOf (.ref j)) Q E s:=by
 obtain⟨oj,ej,cj,dj⟩:=id hj
 obtain⟨ot,et,_,m,dt⟩:=ht
 unfold Builtin.SmallTypes.nextOf
 refine wpAny_bind (wpAny_callSpecial?_slot (name:=Str.ofString "__next__") hj.typeIs F.slot_tuple_iterator_next (wpAny_call_entry F.slot_tuple_iterator_next hj.typeIs F.entry_tuple_iterator_next ?_ (F.args_tuple_iterator_next_1 _)))
 show wpAny _ _ (field (.ref j) 0 >>= _) _ _ s
 refine wpAny_bind (wpAny_field ej dj (x:=.ref t) rfl ?_)
 show wpAny _ _ (if (Value.ref t == Value.none)=true then _ else _) _ _ s;rw[if_neg (show ¬ ((Value.ref t == Value.none)=true) from Bool.false_ne_true)]
 show wpAny _ _ (field (.ref j) 1 >>= _) _ _ s
 refine wpAny_bind (wpAny_field ej dj (x:=.int n 0) rfl ?_)
 show wpAny _ _ (seqItems? (.ref t) >>= _) _ _ s;refine wpAny_bind (wpAny_seqItems et dt ?_)
 simp only[Int.toNat_natCast,hv]
 refine wpAny_bind (wpAny_rule (wpAny_bind (wpAny_setField ej dj (by simp) ?_)));show wpAny _ _ (newExc (.type "StopIteration") [] >>= _) _ _ _
 refine wpAny_bind ?_;simp only[newExc,newTuple]
 refine wpAny_bind (wpAny_newObj_type ?_ (by size_fits));refine wpAny_bind (m:=firstArgMember _ _) (wpAny_of_eq (a:=Value.none) (by first | rfl | (simp only[firstArgMember];rfl)) ?_)
 refine wpAny_newObj_type ?_ (by size_fits);simp only[raiseNew]
 refine wpAny_bind (wpAny_handled ?_);first | rw[show A.in1.handled=none from hh] | rw[hh]
 refine wpAny_bind (wpAny_pure (wpAny_throw ?_));exact k _ _ (((Heap.SameBut.update ..).extBut.push _).push _) ⟨_,Heap.get?_push_size _ rfl,rfl⟩
theorem A5 {prog:Program}{w:World}{A:Around} (hh:A.handled=none) (j t:Addr) (ne:t ≠ j) (its:Array Value):Draws prog w A j [j,t] its.size (λi v=>its[i]?=some v) (λi h=>h.IsTupleIter j t i/\h.IsTuple t its) where
 live:=λ_ _ z=>let ⟨o,e,_⟩:=z.1;⟨o,e⟩
 frame:=λ_ _ _ z k=>⟨z.1.at λo e=>k j (by simp) o e,let ⟨o,e,r⟩:=z.2;⟨o,k t (by simp) o e,r⟩⟩
 item:=λi s Q E hi z k=>oB z.1 z.2 (v:=its[i]) (by simp [hi]) λh' z' sb=>k _ h' s.toks (by simp [hi]) ⟨z',let ⟨o,e,r⟩:=z.2;⟨o,(sb.2 t ne).trans e,r⟩⟩ sb
 done:=λs Q E z k=>jO hh z.1 z.2 (by simp) k
theorem qX (l:Addr) (its:Array Value) (n:Nat) (dc:Option Addr) (sl:Array (Option Value)):
 Meets (Builtin.«enumerate.__new__» ⟨[.type "enumerate",.ref l],[]⟩) (λ_ R s=>s.heap.get? l=some { cls:=.type "tuple",dict:=dc,data:=.seq its n,slots:=sl }/\
  R
   (.ok (.ret (.ref (s.heap.push { cls:=.type "tuple_iterator",data:=.fields #[.ref l,.int 0 0] }).objs.size)))
   { s with heap:=(s.heap.push { cls:=.type "tuple_iterator",data:=.fields #[.ref l,.int 0 0] }).push { cls:=.type "enumerate",data:=.fields #[.none,.bool false,.ref s.heap.objs.size,rawInt 0,.none,.none] } }):=
 .of_wp λprog w A R s h=>by
  obtain⟨hp,g,d,tk,os⟩:=s;obtain⟨hl,h⟩:=h
  have bv:=sub_enumerate
  have hT:Heap.IsTuple (Shared.heap ⟨hp,g,d,tk,os⟩) l its:=⟨_,hl,rfl,n,rfl⟩
  wp_walk using AutoSeq1.wpAny_loadPart' hl
  refine wpAny_stack_any λst=>wpAny_pure ?_
  split
  ·rename_i c _ _ _ _ _
   cases (c == Value.type "enumerate") <;> (wp_walk using AutoSeq1.wpAny_loadPart' hl,wpAny_pyIter_tuple hT;exact⟨_,rfl,h⟩)
  ·wp_walk using AutoSeq1.wpAny_loadPart' hl,wpAny_pyIter_tuple hT;exact⟨_,rfl,h⟩
theorem oR {prog:Program}{w:World}{A:Around}{E:Value->Shared->Prop}{s:Shared}{l:Addr}{its:Array Value}{Q:Value->Shared->Prop} (hT:s.heap.IsTuple l its)
 (k:∀ h',IsEnum h' (s.heap.objs.size + 1) s.heap.objs.size 0 .none->h'.IsTupleIter s.heap.objs.size l 0->h'.objs.size=s.heap.objs.size + 2->(∀ b o,s.heap.get? b=some o->h'.get? b=some o)->Q (.ref (s.heap.objs.size + 1)) { s with heap:=h' }):
 wpAny (model prog w) A (call (.type "enumerate") [.ref l]) Q E s:=by
 obtain⟨⟨c,dc,dt,sl⟩,hl,hc,n,hd⟩:=hT
 have hc':c=.type "tuple":=hc
 have hd':dt=.seq its n:=hd
 subst hc' hd'
 refine callType_new F.called_enumerate (by decide) (F.typeCall_enumerate_1 _) (F.newCall_enumerate_1 _) (λobj=>F.args_object_init_2 obj _) F.entry_enumerate_new (qX l its n dc sl) ⟨hl,?_⟩
 have z1:(s.heap.push { cls:=.type "tuple_iterator",data:=.fields #[.ref l,.int 0 0] }).objs.size=s.heap.objs.size + 1:=Heap.size_push ..
 show _/\_
 rw[z1]
 have he:IsEnum ((s.heap.push { cls:=.type "tuple_iterator",data:=.fields #[.ref l,.int 0 0] }).push { cls:=.type "enumerate",data:=.fields #[.none,.bool false,.ref s.heap.objs.size,rawInt 0,.none,.none] }) (s.heap.objs.size + 1) s.heap.objs.size 0 .none:=by
  have z2:=Heap.get?_push_size (s.heap.push { cls:=.type "tuple_iterator",data:=.fields #[.ref l,.int 0 0] }) (o:={ cls:=.type "enumerate",data:=.fields #[.none,.bool false,.ref s.heap.objs.size,rawInt 0,.none,.none] }) rfl
  rw[z1] at z2;exact z2
 exact⟨⟨_,he,rfl⟩,k _ he ⟨_,Heap.get?_push_of_some _ (Heap.get?_push_size _ rfl),rfl,rfl⟩ (by rw[Heap.size_push,z1]) λb o x=>Heap.get?_push_of_some _ (Heap.get?_push_of_some _ x)⟩
def SqB (K:W.Frag) (b:Bool) (H:Hp) (a:Addr) (xs:List V):Prop:=match b with
 | true=>SqL K H a xs
 | false=>SqT K H a xs
def ItB (b:Bool) (h:Heap) (j a:Addr) (i:Nat):Prop:=match b with
 | true=>h.IsListIter j a i
 | false=>h.IsTupleIter j a i
theorem SqB.inj {X:Cx}{pins:List (Addr×Obj)}{σ:St}{H:Hp}{s:Shared}{b:Bool}{a:Addr}{xs ys:List V} (I:Inv X pins σ H s) (x:SqB X.K b H a xs) (y:SqB X.K b H a ys):xs=ys:=by
 cases b with
 | true=>exact I.list_inj x y
 | false=>exact I.tuple_inj x y
def tU (K:W.Frag) (b:Bool) (a:Addr):It:=
 ⟨λi H=>∃ xs x,SqB K b H a xs/\xs[i]?=some x,λi H x H'=>∃ p u,x=.ref p/\H p=none/\H'=upd H p (.tup [.int (i:Nat),u])/\∀ xs,SqB K b H a xs->xs[i]?=some u,λi H=>∃ xs,SqB K b H a xs/\xs.length=i⟩
theorem ng {X:Cx}{pins:List (Addr×Obj)}{σ:St}{H:Hp}{s:Shared}{b:Bool}{a j:Addr}{i:Nat}{xs:List V} (I:Inv X pins σ H s) (hh:X.A.handled=none) (hq:SqB X.K b H a xs) (hj:ItB b s.heap j a i):
 ∃ (its:List Value) (St:Nat->Heap->Prop),Vals xs its/\Draws X.prog X.w X.A.in1 j [j,a] its.length (λi v=>its[i]?=some v) St/\St i s.heap/\(∀ i h,St i h->ItB b h j a i)/\∃ o n,s.heap.get? a=some o/\o.cls=.type (if b then "list" else "tuple")/\o.data=.seq its.toArray n:=by
 cases b with
 |
  true=>
  obtain⟨its,rv,p,hz⟩:=I.list hq
  obtain⟨o,n,e,c,d,ds⟩:=p
  have hL:s.heap.IsList a its.toArray:=⟨o,e,c,n,ds⟩
  have hj':s.heap.IsListIter j a i:=hj
  have ne:a ≠ j:=λz=>by
   subst z
   obtain⟨o',e',c',_⟩:=hj'
   rw[e] at e';cases e'
   rw[c] at c';exact absurd (Value.type.inj c') (by decide)
  have D:=Draws.list (prog:=X.prog) (w:=X.w) (A:=X.A.in1) hh j a ne its.toArray
  refine⟨its,λi h=>h.IsListIter j a i/\h.IsList a its.toArray,rv,?_,⟨hj',hL⟩,λ_ _ z=>z.1,o,n,e,c,ds⟩
  have e1:its.toArray.size=its.length:=by simp
  have e2:(λ(i:Nat) (v:Value)=>its.toArray[i]?=some v)=λi v=>its[i]?=some v:=by funext i v;simp
  rw[e1,e2] at D
  exact D
 |
  false=>
  obtain⟨its,rv,p,hz⟩:=I.tuple hq
  have hT:s.heap.IsTuple a its.toArray:=p
  obtain⟨o,e,c,n,ds⟩:=id hT
  have hj':s.heap.IsTupleIter j a i:=hj
  have ne:a ≠ j:=λz=>by
   subst z
   obtain⟨o',e',c',_⟩:=hj'
   rw[e] at e';cases e'
   rw[c] at c';exact absurd (Value.type.inj c') (by decide)
  have D:=A5 (prog:=X.prog) (w:=X.w) (A:=X.A.in1) hh j a ne its.toArray
  refine⟨its,λi h=>h.IsTupleIter j a i/\h.IsTuple a its.toArray,rv,?_,⟨hj',hT⟩,λ_ _ z=>z.1,o,n,e,c,ds⟩
  have e1:its.toArray.size=its.length:=by simp
  have e2:(λ(i:Nat) (v:Value)=>its.toArray[i]?=some v)=λi v=>its[i]?=some v:=by funext i v;simp
  rw[e1,e2] at D
  exact D
theorem nt {b:Bool}{h:Heap}{j a:Addr}{i:Nat} (z:ItB b h j a i):∃ o,h.get? j=some o/\(∀ v,o.data ≠ .cell v)/\o.cls=.type (if b then "list_iterator" else "tuple_iterator"):=by
 cases b with
 | true=>obtain⟨o,e,c,d⟩:=z;exact⟨o,e,(λv y=>by rw[d] at y;cases y),c⟩
 | false=>obtain⟨o,e,c,d⟩:=z;exact⟨o,e,(λv y=>by rw[d] at y;cases y),c⟩
theorem mQ {b:Bool}{h h':Heap}{j a:Addr}{i:Nat} (z:ItB b h j a i) (k:∀ o,h.get? j=some o->h'.get? j=some o):ItB b h' j a i:=by
 cases b with
 | true=>obtain⟨o,e,r⟩:=z;exact⟨o,k o e,r⟩
 | false=>obtain⟨o,e,r⟩:=z;exact⟨o,k o e,r⟩
theorem qa {P:Program}{w:World}{K:W.Frag}{elts:List Expr}{x1:Nat}{tp:Pos} (b:Bool) (a e j:Addr) (hej:e ≠ j):Turn P w K (.Tuple elts x1 tp) (tU K b a) [e,j] e (λi h=>(∃ old,IsEnum h e j ((i:Nat):Int) old)/\ItB b h j a i) where
 mem:=by simp
 obj
  := λi h st c hc=>by
  rcases List.mem_cons.mp hc with rfl | hc
  ·obtain⟨old,he⟩:=st.1
   exact⟨_,he,λv z=>by cases z⟩
  ·have:c=j:=by simpa using hc
   subst this
   obtain⟨o,q1,q2,_⟩:=nt st.2
   exact⟨o,q1,q2⟩
 keep:=λi h h' st k=>⟨let ⟨old,he⟩:=st.1;⟨old,k e (by simp) _ he⟩,mQ st.2 λo q=>k j (by simp) o q⟩
 item:=
  by
  intro X hP hw hK hc i pins s σ H E I hf st hg
  subst hP hw hK
  obtain⟨xs,x,hq,hx⟩:=hg
  obtain⟨⟨old,he⟩,hj⟩:=st
  obtain⟨its,St,rv,D,hst,hSt,oa,na,ea,ca,da⟩:=ng I (I.ok.hd hc) hq hj
  obtain⟨u,hu,ru⟩:=rv.get hx
  have hlt:i < its.length:=(List.getElem?_eq_some_iff.mp hu).1
  have hea:e ≠ a:=λz=>by
   subst z
   rw[he] at ea;cases ea
   cases b <;> exact absurd (Value.type.inj ca) (by decide)
  refine wpAny_pyNext_enum_itemD D he hst hlt hej (by simp [hej,hea]) λy h' tk hy heo hst' ht hsz hk=>?_
  have:y=u:=by rw[hu] at hy;exact (Option.some.inj hy).symm
  subst this
  refine⟨_,rfl,wpAny_letOwnedTupleGo_enum (s:={ s with heap:=h',toks:=tk + 1 }) heo λh2 he2 sb=>?_⟩
  have hT:H s.heap.objs.size=none:=I.hok.fresh (Nat.le_refl _)
  have hef:=Heap.lt_size he
  obtain⟨oj,q1,_,_⟩:=nt hj
  have hjf:=Heap.lt_size q1
  have I1:Inv X pins σ (upd H s.heap.objs.size (.tup [.int (i:Nat),x])) { s with heap:=s.heap.push { cls:=.type "tuple",data:=.seq #[.int (i:Nat) tk,y] },toks:=s.toks }:=
   I.laid (t':=s.toks) (λc o q=>Heap.get?_push_of_some _ q) (Nat.le_refl _) ⟨by show 2<=sizeLine;decide,[.int (i:Nat) tk,y],.cons ⟨tk,rfl⟩ (.cons ru .nil),⟨_,Heap.get?_push_size _ rfl,rfl,_,rfl⟩⟩
  have sb':Heap.SameBut e h' h2:=sb
  have I2:Inv X pins σ (upd H s.heap.objs.size (.tup [.int (i:Nat),x])) { s with heap:=h2,toks:=tk + 1 }:=
   Inv.turnedL (s:={ s with heap:=s.heap.push { cls:=.type "tuple",data:=.seq #[.int (i:Nat) tk,y] },toks:=s.toks }) (ch:=[e,j]) (t':=tk + 1) I1 (λc o hc' q=>by
    have c1:c ≠ e:=λz=>hc' (by simp [z])
    have c2:c ≠ j:=λz=>hc' (by simp [z])
    rw[sb'.2 c c1]
    by_cases z:c=s.heap.objs.size
    ·subst z
     have q':(s.heap.push { cls:=.type "tuple",data:=.seq #[.int (i:Nat) tk,y] }).get? s.heap.objs.size=some o:=q
     rw[Heap.get?_push_size _ rfl] at q'
     cases q'
     exact ht
    ·refine hk c o c1 c2 ?_
     have q':(s.heap.push { cls:=.type "tuple",data:=.seq #[.int (i:Nat) tk,y] }).get? c=some o:=q
     rw[Heap.get?_push_ne _ _ _ z] at q'
     exact q') λc hc'=>by
    rcases List.mem_cons.mp hc' with rfl | hc'
    ·exact (hf c (by simp)).up (Nat.ne_of_lt hef)
    ·have:c=j:=by simpa using hc'
     subst this
     exact (hf c (by simp)).up (Nat.ne_of_lt hjf)
  refine⟨.ref s.heap.objs.size,_,I2,rfl,⟨_,x,rfl,hT,rfl,λys hy'=>by rw[SqB.inj I hy' hq];exact hx⟩,⟨⟨y,he2⟩,mQ (hSt _ _ hst') λo q=>(sb'.2 j (Ne.symm hej)).trans q⟩,λc hc'=>?_⟩
  rcases List.mem_cons.mp hc' with rfl | hc'
  ·exact ((hf c (by simp)).up (Nat.ne_of_lt hef)).1
  ·have:c=j:=by simpa using hc'
   subst this
   exact ((hf c (by simp)).up (Nat.ne_of_lt hjf)).1
 done:=by
  intro X hP hw hK hc i pins s σ H E I hf st hg
  subst hP hw hK
  obtain⟨xs,hq,hx⟩:=hg
  obtain⟨⟨old,he⟩,hj⟩:=st
  obtain⟨its,St,rv,D,hst,hSt,oa,na,ea,ca,da⟩:=ng I (I.ok.hd hc) hq hj
  have hl:=rv.length
  subst hx
  rw[hl] at hst
  refine wpAny_pyNext_enum_endD D he hst λh' eb=>⟨rfl,Inv.turnedL (ch:=[j]) (t':=s.toks) I (λc o hc' q=>eb c o (λz=>hc' (by simp [z])) q) λc hc'=>?_⟩
  have:c=j:=by simpa using hc'
  subst this
  exact hf c (by simp)
 self:=λ_ _ _ _ _ st h=>let ⟨_,he⟩:=st.1;wpAny_pyIter_enum he h
theorem vX {X:Cx}{l:Expr}{tl:TA}{elts:List Expr}{x1:Nat}{tp p pos:Pos} (hg:Gl X "enumerate") (hm:X.mg "enumerate"=none) (ha:PA X [l] tl) (hs:starEach [l] X.env=[(false,eval l X.env)]:=by rfl):
 PI X (.Tuple elts x1 tp) (.Call (.Name "enumerate" p) [l] [] pos) (λσ H R=>tl σ H λvs H1=>∃ (b:Bool) (a:Addr) (xs:List V),vs=[.ref a]/\SqB X.K b H1 a xs/\R (tU X.K b a) H1):=by
 intro pins s σ H R I h
 refine Call_ (gM I hg hm boot_enumerate (PyProof.Rows.callWith_type1 (thn (ha pos pins s σ H _ I h) λus s1 ⟨vs,H1,I1,r1,q1⟩=>?_) hs rfl))
 obtain⟨b,a,xs,e,hq,q⟩:=q1
 subst e
 cases r1 with
 |
  cons r rr=>
  cases rr
  cases r
  have fin:∀ h',IsEnum h' (s1.heap.objs.size + 1) s1.heap.objs.size 0 .none->ItB b h' s1.heap.objs.size a 0->(∀ c o,s1.heap.get? c=some o->h'.get? c=some o)->
   wpAny (model X.prog X.w) X.A (pyIter (.ref (s1.heap.objs.size + 1))) (PIE X pins σ (.Tuple elts x1 tp) R) X.xe { s1 with heap:=h' }:=λh' he hj hk=>by
   refine wpAny_pyIter_enum he ⟨s1.heap.objs.size + 1,[s1.heap.objs.size + 1,s1.heap.objs.size],_,_,H1,rfl,I1.kept (t':=s1.toks) λc o z=>hk c o z,qa b a _ _ (Nat.succ_ne_self _),⟨⟨.none,he⟩,hj⟩,λc hc=>?_,q⟩
   rcases List.mem_cons.mp hc with rfl | hc
   ·exact I1.fpOk (Nat.le_succ _) (I1.hok.fresh (Nat.le_succ _))
   ·have:c=s1.heap.objs.size:=by simpa using hc
    subst this
    exact I1.fpOk (Nat.le_refl _) (I1.hok.fresh (Nat.le_refl _))
  cases b with
  |
   true=>
   obtain⟨its,rv,pp,hz⟩:=I1.list hq
   exact call_enumerate_list pp.isList λh' he hit _ hk=>fin h' he hit hk
  |
   false=>
   obtain⟨its,rv,pp,hz⟩:=I1.tuple hq
   exact oR (show s1.heap.IsTuple a its.toArray from pp) λh' he hit _ hk=>fin h' he hit hk
section
variable {prog:Program}{w:World}{A:Around}{E:Value->Shared->Prop}{s:Shared}{b1 b2:Bool}{z p q j1 j2 a1 a2:Addr}{n:Nat}{xs ys:Array Value}{x y u v:Value}
end
end L2
namespace L2
open PySem PySem.Spec PyProof.Rows
def ItZ (K:W.Frag) (b c:Bool) (a d:Addr):It:=
 ⟨λi H=>∃ xs ys x y,SqB K b H a xs/\SqB K c H d ys/\xs[i]?=some x/\ys[i]?=some y,
  λi H x H'=>∃ p u v,x=.ref p/\H p=none/\H'=upd H p (.tup [u,v])/\(∀ xs,SqB K b H a xs->xs[i]?=some u)/\∀ ys,SqB K c H d ys->ys[i]?=some v,
  λi H=>∃ xs ys,SqB K b H a xs/\SqB K c H d ys/\(xs[i]?=none\/ys[i]?=none)⟩
end L2
namespace L2
open PySem PySem.Spec PyProof.Rows
inductive D where
 | non | bl (b:Bool) | int (i:Int) | str (x:Str) | ty (n:String) | glb (x:Str) | exc (x:Str) | tup (xs:List D) | ref (n:Nat) | kl (xs:List D)
 deriving Inhabited
inductive Ob where
 | lst (xs:List D) | fz (xs:List D) | set (xs:List Int) | dct (kvs:List (Key×D)) | any
 deriving Inhabited
abbrev AH:=List Ob
abbrev AE:=List (Option D)
inductive R (α:Type) where
 | ok (a:α) (h:AH) | exc (c:Str) (h:AH) | stuck
inductive SR where
 | nx (ae:AE) (h:AH) | rt (d:D) (h:AH) | bk (ae:AE) (h:AH) | ct (ae:AE) (h:AH) | exc (c:Str) (ae:AE) (h:AH) | stuck
abbrev ME:=AE->AH->R D
abbrev MT:=AE->AH->R Bool
abbrev MA:=AE->AH->R (List D)
abbrev MS:=AE->AH->SR
abbrev Fn:=List D->AH->R D
def R.bind {α β:Type} (r:R α) (f:α->AH->R β):R β:=match r with
 | .ok a h=>f a h
 | .exc c h=>.exc c h
 | .stuck=>.stuck
section
variable (K:W.Frag) (mg:Str->Option Value)
mutual
inductive RelD (ρ:List Addr) (H:Hp):D->V->Prop where
 | non:RelD ρ H .non .non
 | bl (b:Bool):RelD ρ H (.bl b) (.bl b)
 | int (i:Int):RelD ρ H (.int i) (.int i)
 | str (x:Str):RelD ρ H (.str x) (.str x)
 | ty (n:String):RelD ρ H (.ty n) (.ty n)
 | glb {x:Str}{a:Addr} (m:mg x=some (.ref a)):RelD ρ H (.glb x) (.ref a)
 | exc {x:Str}{a C:Addr} (m:mg x=some (.ref C)) (e:H a=some (.ext (sQ a C))):RelD ρ H (.exc x) (.ref a)
 | tup {p:Addr}{vs:List V}{ds:List D} (h:SqT K H p vs) (r:RelDs ρ H ds vs):RelD ρ H (.tup ds) (.ref p)
 | ref {n:Nat}{a:Addr} (e:ρ[n]?=some a):RelD ρ H (.ref n) (.ref a)
 | kl {a:Addr}{vs:List V}{ds:List D} (h:∃ (o:Obj) (its:Array Value) (n:Nat),K.lookup a=some o/\o.cls=.type "list" /\ o.dict=none/\o.data=.seq its n/\its.size<=sizeLine/\Vals vs its.toList) (r:RelDs ρ H ds vs):RelD ρ H (.kl ds) (.ref a)
inductive RelDs (ρ:List Addr) (H:Hp):List D->List V->Prop where
 | nil:RelDs ρ H [] []
 | cons {d:D}{v:V}{ds:List D}{vs:List V} (r:RelD ρ H d v) (rr:RelDs ρ H ds vs):RelDs ρ H (d :: ds) (v :: vs)
end
structure Le (ρ:List Addr) (H:Hp) (ρ':List Addr) (H':Hp):Prop where
 pre:∀ (n:Nat) (a:Addr),ρ[n]?=some a->ρ'[n]?=some a
 tup:∀ b xs,H b=some (.tup xs)->H' b=some (.tup xs)
 frz:∀ b o u,H b=some (.frz o u)->H' b=some (.frz o u)
 ext:∀ b φ,H b=some (.ext φ)->H' b=some (.ext φ)
def ObR (ρ:List Addr) (H:Hp) (a:Addr):Ob->Prop
 | .lst ds=>∃ vs,H a=some (.lst vs)/\RelDs K mg ρ H ds vs
 | .fz ds=>∃ o vs,H a=some (.frz o (.lst vs))/\RelDs K mg ρ H ds vs
 | .set xs=>xs.Nodup/\H a=some (.set (λi=>decide (i ∈ xs)) xs.length)
 | .dct kvs=>∃ ws,H a=some (.dK ws)/\ws.map (·.1)=kvs.map (·.1)/\RelDs K mg ρ H (kvs.map (·.2)) (ws.map (·.2))
 | .any=>∃ o,H a=some o
structure Wd (ρ:List Addr) (h:AH) (H:Hp):Prop where
 len:ρ.length=h.length
 nd:ρ.Nodup
 ob:∀ (n:Nat) (a:Addr) (o:Ob),ρ[n]?=some a->h[n]?=some o->ObR K mg ρ H a o
structure RelE (ρ:List Addr) (H:Hp) (ae:AE) (σ:St):Prop where
 len:ae.length=σ.length
 at_:∀ (i:Nat) (d:D),ae[i]?=some (some d)->∃ v,σ[i]?=some (some v)/\RelD K mg ρ H d v
def PostG {α:Type} (ρ:List Addr) (H:Hp) (E:XK) (k:α->AH->List Addr->Hp->Prop):R α->Prop
 | .ok a h=>∀ ρ' H',Le ρ H ρ' H'->Wd K mg ρ' h H'->k a h ρ' H'
 | .exc c h=>∀ ρ' H' C,Le ρ H ρ' H'->Wd K mg ρ' h H'->mg c=some (.ref C)->E (.ref C) none H'
 | .stuck=>False
abbrev c4 (ρ:List Addr) (H:Hp) (Q:VK) (E:XK) (r:R D):Prop:=PostG K mg ρ H E (λd _ ρ' H'=>∀ v,RelD K mg ρ' H' d v->Q v H') r
abbrev vv (ρ:List Addr) (H:Hp) (Q:Bool->Hp->Prop) (E:XK) (r:R Bool):Prop:=PostG K mg ρ H E (λb _ ρ' H'=>Q b H') r
abbrev vw (ρ:List Addr) (H:Hp) (Q:List V->Hp->Prop) (E:XK) (r:R (List D)):Prop:=PostG K mg ρ H E (λd _ ρ' H'=>∀ vs,RelDs K mg ρ' H' d vs->Q vs H') r
def PostS (ρ:List Addr) (H:Hp) (D:Ends) (ES:St->XK):SR->Prop
 | .nx ae h=>∀ ρ' H' σ',Le ρ H ρ' H'->Wd K mg ρ' h H'->RelE K mg ρ' H' ae σ'->D.nx σ' H'
 | .bk ae h=>∀ ρ' H' σ',Le ρ H ρ' H'->Wd K mg ρ' h H'->RelE K mg ρ' H' ae σ'->D.bk σ' H'
 | .ct ae h=>∀ ρ' H' σ',Le ρ H ρ' H'->Wd K mg ρ' h H'->RelE K mg ρ' H' ae σ'->D.ct σ' H'
 | .rt d h=>∀ ρ' H' v,Le ρ H ρ' H'->Wd K mg ρ' h H'->RelD K mg ρ' H' d v->D.rt v H'
 | .exc c ae h=>∀ ρ' H' σ' C,Le ρ H ρ' H'->Wd K mg ρ' h H'->RelE K mg ρ' H' ae σ'->mg c=some (.ref C)->ES σ' (.ref C) none H'
 | .stuck=>False
def rdE (ES:St->XK) (F:ME):TE:=λσ H Q=>∃ ρ h ae,Wd K mg ρ h H/\RelE K mg ρ H ae σ/\c4 K mg ρ H Q (ES σ) (F ae h)
def rdT (ES:St->XK) (F:MT):TT:=λσ H Q=>∃ ρ h ae,Wd K mg ρ h H/\RelE K mg ρ H ae σ/\vv K mg ρ H Q (ES σ) (F ae h)
def rdA (ES:St->XK) (F:MA):TA:=λσ H Q=>∃ ρ h ae,Wd K mg ρ h H/\RelE K mg ρ H ae σ/\vw K mg ρ H Q (ES σ) (F ae h)
def rdS (ES:St->XK) (F:MS):TS:=λD σ H=>∃ ρ h ae,Wd K mg ρ h H/\RelE K mg ρ H ae σ/\PostS K mg ρ H D ES (F ae h)
def spD (n:Nat) (S:Fn):Sp:=λvs H Q E=>∃ ρ h ds,Wd K mg ρ h H/\RelDs K mg ρ H ds vs/\ds.length=n/\c4 K mg ρ H Q E (S ds h)
end
theorem rdE.el {K:W.Frag}{mg:Str->Option Value}{ES:St->XK}{F:ME}{σ:St}{H:Hp}{Q:VK}{C:Prop} (q:rdE K mg ES F σ H Q) (k:∀ ρ h ae,Wd K mg ρ h H->RelE K mg ρ H ae σ->c4 K mg ρ H Q (ES σ) (F ae h)->C):C:=by
 obtain⟨ρ,h,ae,w,re,p⟩:=q
 exact k ρ h ae w re p
theorem rdT.el {K:W.Frag}{mg:Str->Option Value}{ES:St->XK}{F:MT}{σ:St}{H:Hp}{Q:Bool->Hp->Prop}{C:Prop} (q:rdT K mg ES F σ H Q) (k:∀ ρ h ae,Wd K mg ρ h H->RelE K mg ρ H ae σ->vv K mg ρ H Q (ES σ) (F ae h)->C):C:=by
 obtain⟨ρ,h,ae,w,re,p⟩:=q
 exact k ρ h ae w re p
theorem rdA.el {K:W.Frag}{mg:Str->Option Value}{ES:St->XK}{F:MA}{σ:St}{H:Hp}{Q:List V->Hp->Prop}{C:Prop} (q:rdA K mg ES F σ H Q) (k:∀ ρ h ae,Wd K mg ρ h H->RelE K mg ρ H ae σ->vw K mg ρ H Q (ES σ) (F ae h)->C):C:=by
 obtain⟨ρ,h,ae,w,re,p⟩:=q
 exact k ρ h ae w re p
theorem rdS.el {K:W.Frag}{mg:Str->Option Value}{ES:St->XK}{F:MS}{σ:St}{H:Hp}{De:Ends}{C:Prop} (q:rdS K mg ES F De σ H) (k:∀ ρ h ae,Wd K mg ρ h H->RelE K mg ρ H ae σ->PostS K mg ρ H De ES (F ae h)->C):C:=by
 obtain⟨ρ,h,ae,w,re,p⟩:=q
 exact k ρ h ae w re p
section
variable {K:W.Frag}{mg:Str->Option Value}{ρ ρ' ρ1:List Addr}{H H' H1:Hp}{h h':AH}{ae:AE}{σ:St}
theorem Le.refl:Le ρ H ρ H:=⟨λ_ _ e=>e,λ_ _ e=>e,λ_ _ _ e=>e,λ_ _ e=>e⟩
theorem Le.trans (a:Le ρ H ρ1 H1) (b:Le ρ1 H1 ρ' H'):Le ρ H ρ' H':=
 ⟨λn x e=>b.pre n x (a.pre n x e),λx y e=>b.tup x y (a.tup x y e),λx y z e=>b.frz x y z (a.frz x y z e),λx y e=>b.ext x y (a.ext x y e)⟩
theorem Le.sqT {a:Addr}{xs:List V} (l:Le ρ H ρ' H') (q:SqT K H a xs):SqT K H' a xs:=by
 rcases q with (q | ⟨o,q⟩) | q
 ·exact .inl (.inl (l.tup _ _ q))
 ·exact .inl (.inr ⟨o,l.frz _ _ _ q⟩)
 ·exact .inr q
theorem RelD.mono (l:Le ρ H ρ' H') {d:D}{v:V} (r:RelD K mg ρ H d v):RelD K mg ρ' H' d v:=
 RelD.rec (motive_1:=λd v _=>RelD K mg ρ' H' d v) (motive_2:=λds vs _=>RelDs K mg ρ' H' ds vs) .non (λb=>.bl b) (λi=>.int i) (λx=>.str x) (λn=>.ty n) (λm=>.glb m) (λm e=>.exc m (l.ext _ _ e)) (λh _ ih=>.tup (l.sqT h) ih) (λe=>.ref (l.pre _ _ e)) (λh _ ih=>.kl h ih) .nil (λ_ _ a b=>.cons a b) r
theorem RelDs.ind {M:List D->List V->Prop} (h0:M [] []) (h1:∀ {d v ds vs},RelD K mg ρ H d v->RelDs K mg ρ H ds vs->M ds vs->M (d :: ds) (v :: vs)) {ds:List D}{vs:List V} (r:RelDs K mg ρ H ds vs):M ds vs:=by
 induction ds generalizing vs with
 | nil=>cases r;exact h0
 |
  cons d ds ih=>
  cases r with
  | cons r rr=>exact h1 r rr (ih rr)
theorem RelDs.mono (l:Le ρ H ρ' H') {ds:List D}{vs:List V} (r:RelDs K mg ρ H ds vs):RelDs K mg ρ' H' ds vs:=r.ind .nil λr _ ih=>.cons (r.mono l) ih
theorem RelDs.len {ds:List D}{vs:List V} (r:RelDs K mg ρ H ds vs):ds.length=vs.length:=r.ind (M:=λds vs=>ds.length=vs.length) rfl λ_ _ ih=>congrArg (· + 1) ih
theorem RelDs.getD {ds:List D}{vs:List V}{i:Nat}{d:D} (r:RelDs K mg ρ H ds vs) (e:ds[i]?=some d):∃ v,vs[i]?=some v/\RelD K mg ρ H d v:=
 r.ind (M:=λds vs=>∀ i,ds[i]?=some d->∃ v,vs[i]?=some v/\RelD K mg ρ H d v) (λ_ e=>by rw[List.getElem?_nil] at e;cases e) (λr _ ih i e=>match i,e with
  | 0,e=>by cases e;exact⟨_,rfl,r⟩
  | i + 1,e=>ih i e) i e
theorem RelDs.append {ds es:List D}{vs ws:List V} (r:RelDs K mg ρ H ds vs) (q:RelDs K mg ρ H es ws):RelDs K mg ρ H (ds++es) (vs++ws):=r.ind (M:=λds vs=>RelDs K mg ρ H (ds++es) (vs++ws)) q λr _ ih=>.cons r ih
theorem RelDs.take {ds:List D}{vs:List V} (n:Nat) (r:RelDs K mg ρ H ds vs):RelDs K mg ρ H (ds.take n) (vs.take n):=
 r.ind (M:=λds vs=>∀ n:Nat,RelDs K mg ρ H (ds.take n) (vs.take n)) (λn=>by rw[List.take_nil,List.take_nil];exact .nil) (λr _ ih n=>by cases n with | zero=>exact .nil | succ n=>exact .cons r (ih n)) n
theorem RelDs.drop {ds:List D}{vs:List V} (n:Nat) (r:RelDs K mg ρ H ds vs):RelDs K mg ρ H (ds.drop n) (vs.drop n):=
 r.ind (M:=λds vs=>∀ n:Nat,RelDs K mg ρ H (ds.drop n) (vs.drop n)) (λn=>by rw[List.drop_nil,List.drop_nil];exact .nil) (λr rr ih n=>by cases n with | zero=>exact .cons r rr | succ n=>exact ih n) n
theorem RelDs.set {d:D}{v:V} (r:RelD K mg ρ H d v) {ds:List D}{vs:List V} (i:Nat) (q:RelDs K mg ρ H ds vs):RelDs K mg ρ H (ds.set i d) (vs.set i v):=
 q.ind (M:=λds vs=>∀ i:Nat,RelDs K mg ρ H (ds.set i d) (vs.set i v)) (λ_=>.nil) (λq qq ih i=>by cases i with | zero=>exact .cons r qq | succ i=>exact .cons q (ih i)) i
theorem RelE.mono (l:Le ρ H ρ' H') (r:RelE K mg ρ H ae σ):RelE K mg ρ' H' ae σ:=⟨r.len,λi d e=>by
 obtain⟨v,h1,h2⟩:=r.at_ i d e
 exact⟨v,h1,h2.mono l⟩⟩
theorem RelE.set {d:D}{v:V} (i:Nat) (r:RelE K mg ρ H ae σ) (q:RelD K mg ρ H d v):RelE K mg ρ H (ae.set i (some d)) (σ.set i (some v)):=⟨by rw[List.length_set,List.length_set];exact r.len,λj d' e=>by
 rw[List.getElem?_set] at e ⊢
 by_cases hij:i=j
 ·rw[if_pos hij] at e ⊢
  by_cases hi:i < ae.length
  ·rw[if_pos hi] at e
   cases e
   rw[if_pos (by rw[<- r.len];exact hi)]
   exact⟨v,rfl,q⟩
  ·rw[if_neg hi] at e;cases e
 ·rw[if_neg hij] at e ⊢
  exact r.at_ j d' e⟩
theorem ObR.mono {a:Addr}{o:Ob} (l:Le ρ H ρ' H') (e:H' a=H a) (q:ObR K mg ρ H a o):ObR K mg ρ' H' a o:=by
 cases o with
 | lst ds=>obtain⟨vs,h1,h2⟩:=q;exact⟨vs,e.trans h1,h2.mono l⟩
 | fz ds=>obtain⟨o,vs,h1,h2⟩:=q;exact⟨o,vs,e.trans h1,h2.mono l⟩
 | set xs=>exact⟨q.1,e.trans q.2⟩
 | dct kvs=>obtain⟨ws,h1,h2,h3⟩:=q;exact⟨ws,e.trans h1,h2,h3.mono l⟩
 | any=>obtain⟨o,h1⟩:=q;exact⟨o,e.trans h1⟩
theorem ObR.there {a:Addr}{o:Ob} (q:ObR K mg ρ H a o):∃ u,H a=some u:=by
 cases o with
 | lst ds=>obtain⟨vs,h1,_⟩:=q;exact⟨_,h1⟩
 | fz ds=>obtain⟨o,vs,h1,_⟩:=q;exact⟨_,h1⟩
 | set xs=>exact⟨_,q.2⟩
 | dct kvs=>obtain⟨ws,h1,_⟩:=q;exact⟨_,h1⟩
 | any=>exact q
theorem Wd.fresh (w:Wd K mg ρ h H) {p:Addr} (hp:H p=none):p ∉ ρ:=λhm=>by
 obtain⟨n,hn⟩:=List.getElem?_of_mem hm
 have hl:n < h.length:=by rw[<- w.len];exact (List.getElem?_eq_some_iff.mp hn).1
 obtain⟨u,hu⟩:=(w.ob n p h[n] hn (List.getElem?_eq_getElem hl)).there
 rw[hp] at hu;cases hu
theorem cK {p:Addr}{o:HO} (hp:H p=none):Le ρ H ρ (upd H p o):=
 ⟨λ_ _ e=>e,λb xs e=>by rw[aB (br e hp)];exact e,λb xs u e=>by rw[aB (br e hp)];exact e,λb xs e=>by rw[aB (br e hp)];exact e⟩
theorem j0 {m:List Addr}:Le ρ H (ρ++m) H:=
 ⟨λn a e=>by rw[List.getElem?_append_left (List.getElem?_eq_some_iff.mp e).1];exact e,λ_ _ e=>e,λ_ _ _ e=>e,λ_ _ e=>e⟩
theorem Wd.alloc {p:Addr}{u:HO}{o:Ob} (w:Wd K mg ρ h H) (hp:H p=none) (hn:ObR K mg (ρ++[p]) (upd H p u) p o):Wd K mg (ρ++[p]) (h++[o]) (upd H p u):=by
 refine⟨by rw[List.length_append,List.length_append,w.len];rfl,?_,λn a ob e1 e2=>?_⟩
 ·rw[List.nodup_append]
  exact⟨w.nd,by simp,λa ha b hb=>by rw[List.mem_singleton] at hb;subst hb;intro z;subst z;exact w.fresh hp ha⟩
 ·by_cases hl:n < ρ.length
  ·rw[List.getElem?_append_left hl] at e1
   rw[List.getElem?_append_left (by rw[<- w.len];exact hl)] at e2
   have q:=w.ob n a ob e1 e2
   obtain⟨v,hv⟩:=q.there
   exact q.mono ((cK hp).trans j0) (aB (br hv hp))
  ·have h1:n=ρ.length:=by
    have:=(List.getElem?_eq_some_iff.mp e1).1
    rw[List.length_append] at this
    simp at this
    omega
   subst h1
   rw[List.getElem?_append_right (Nat.le_refl _),Nat.sub_self] at e1
   rw[w.len,List.getElem?_append_right (Nat.le_refl _),Nat.sub_self] at e2
   simp at e1 e2
   subst e1 e2
   exact hn
theorem Wd.tuple {p:Addr}{u:HO} (w:Wd K mg ρ h H) (hp:H p=none):Wd K mg ρ h (upd H p u):=
 ⟨w.len,w.nd,λn a ob e1 e2=>by
  have q:=w.ob n a ob e1 e2
  obtain⟨v,hv⟩:=q.there
  exact q.mono (cK hp) (aB (br hv hp))⟩
theorem kW {a:Addr}{o u:HO} (e:H a=some u) (hu:(∀ xs,u ≠ .tup xs)/\(∀ x y,u ≠ .frz x y)/\∀ φ,u ≠ .ext φ):Le ρ H ρ (upd H a o):=by
 refine⟨λ_ _ e=>e,λb xs q=>?_,λb x y q=>?_,λb φ q=>?_⟩ <;> rw[aB] <;> (try exact q) <;> (intro z;subst z;rw[e] at q;have:=Option.some.inj q;first | exact hu.1 _ this | exact hu.2.1 _ _ this | exact hu.2.2 _ this)
theorem Wd.write {n:Nat}{a:Addr}{o u:HO}{ob:Ob} (w:Wd K mg ρ h H) (ea:ρ[n]?=some a) (e:H a=some u) (hu:(∀ xs,u ≠ .tup xs)/\(∀ x y,u ≠ .frz x y)/\∀ φ,u ≠ .ext φ)
 (hn:ObR K mg ρ (upd H a o) a ob):Wd K mg ρ (h.set n ob) (upd H a o):=by
 refine⟨by rw[List.length_set];exact w.len,w.nd,λm b ob' e1 e2=>?_⟩
 rw[List.getElem?_set] at e2
 by_cases hm:n=m
 ·subst hm
  rw[ea] at e1;cases e1
  rw[if_pos rfl] at e2
  split at e2
  ·cases e2;exact hn
  ·cases e2
 ·rw[if_neg hm] at e2
  have q:=w.ob m b ob' e1 e2
  refine q.mono (kW e hu) (aB λz=>hm ?_)
  subst z
  have h1:=(List.getElem?_eq_some_iff.mp e1)
  have h2:=(List.getElem?_eq_some_iff.mp ea)
  exact (List.getElem_inj (h₀:=h2.1) (h₁:=h1.1) w.nd).mp (h2.2.trans h1.2.symm)
theorem kO {vs:List V}:(∀ xs,HO.lst vs ≠ .tup xs)/\(∀ x y,HO.lst vs ≠ .frz x y)/\∀ φ,HO.lst vs ≠ .ext φ:=⟨λ_ z=>(nomatch z),λ_ _ z=>(nomatch z),λ_ z=>(nomatch z)⟩
theorem dKNo {ws:List (Key×V)}:(∀ xs,HO.dK ws ≠ .tup xs)/\(∀ x y,HO.dK ws ≠ .frz x y)/\∀ φ,HO.dK ws ≠ .ext φ:=⟨λ_ z=>(nomatch z),λ_ _ z=>(nomatch z),λ_ z=>(nomatch z)⟩
theorem PostG.mono {α:Type}{E:XK}{k:α->AH->List Addr->Hp->Prop}{r:R α} (l:Le ρ H ρ' H') (p:PostG K mg ρ H E k r):PostG K mg ρ' H' E k r:=by
 cases r with
 | ok d h=>exact λρ2 H2 l2=>p ρ2 H2 (l.trans l2)
 | exc c h=>exact λρ2 H2 C l2=>p ρ2 H2 C (l.trans l2)
 | stuck=>exact p
theorem PostG.imp {α:Type}{E:XK}{k k':α->AH->List Addr->Hp->Prop}{r:R α} (p:PostG K mg ρ H E k r) (i:∀ a h1 ρ' H',Le ρ H ρ' H'->Wd K mg ρ' h1 H'->k a h1 ρ' H'->k' a h1 ρ' H'):PostG K mg ρ H E k' r:=by
 cases r with
 | ok d h=>exact λρ2 H2 l2 w2=>i _ _ _ _ l2 w2 (p ρ2 H2 l2 w2)
 | exc c h=>exact p
 | stuck=>exact p
theorem PostG.bind {α β:Type}{E:XK}{k:β->AH->List Addr->Hp->Prop}{r:R α}{f:α->AH->R β} (p:PostG K mg ρ H E k (r.bind f)):PostG K mg ρ H E (λa h1 ρ' H'=>PostG K mg ρ' H' E k (f a h1)) r:=by
 cases r with
 | ok d h=>exact λρ2 H2 l2 w2=>PostG.mono l2 p
 | exc c h=>exact p
 | stuck=>exact p
theorem PostS.mono {De:Ends}{ES:St->XK}{r:SR} (l:Le ρ H ρ' H') (p:PostS K mg ρ H De ES r):PostS K mg ρ' H' De ES r:=by
 cases r with
 | nx ae h=>exact λρ2 H2 σ l2=>p ρ2 H2 σ (l.trans l2)
 | bk ae h=>exact λρ2 H2 σ l2=>p ρ2 H2 σ (l.trans l2)
 | ct ae h=>exact λρ2 H2 σ l2=>p ρ2 H2 σ (l.trans l2)
 | rt d h=>exact λρ2 H2 v l2=>p ρ2 H2 v (l.trans l2)
 | exc c ae h=>exact λρ2 H2 σ C l2=>p ρ2 H2 σ C (l.trans l2)
 | stuck=>exact p
end
end L2
namespace L2
open PySem PySem.Spec PyProof.Rows
section
variable {X:Cx}{e:Expr}{es:List Expr}{st:Stmt}{sts:List Stmt}
theorem PE.imp {t t':TE} (h:PE X e t) (k:∀ σ H Q,t' σ H Q->t σ H Q):PE X e t':=λpins s σ H Q I w=>h pins s σ H Q I (k σ H Q w)
theorem PT.imp {t t':TT} (h:PT X e t) (k:∀ σ H Q,t' σ H Q->t σ H Q):PT X e t':=λpins s σ H Q I w=>h pins s σ H Q I (k σ H Q w)
theorem PW.imp {t t':TT} (h:PW X e t) (k:∀ σ H Q,t' σ H Q->t σ H Q):PW X e t':=λwh pins s σ H Q I w=>h wh pins s σ H Q I (k σ H Q w)
theorem PA.imp {t t':TA} (h:PA X es t) (k:∀ σ H Q,t' σ H Q->t σ H Q):PA X es t':=λpos pins s σ H Q I w=>h pos pins s σ H Q I (k σ H Q w)
theorem PS.imp {t t':TS} (h:PS X st t) (k:∀ D σ H,t' D σ H->t D σ H):PS X st t':=λpins s σ H D I w=>h pins s σ H D I (k D σ H w)
theorem PSs.imp {t t':TS} (h:PSs X sts t) (k:∀ D σ H,t' D σ H->t D σ H):PSs X sts t':=λpins s σ H D I w=>h pins s σ H D I (k D σ H w)
theorem PG.imp {t t':TG} (h:PG X e t) (k:∀ v σ H Q,t' v σ H Q->t v σ H Q):PG X e t':=λpins s σ H v u Q I r w=>h pins s σ H v u Q I r (k v σ H Q w)
theorem PGs.imp {t t':TGs} (h:PGs X es t) (k:∀ v σ H Q,t' v σ H Q->t v σ H Q):PGs X es t':=λpins s σ H v u Q I r w=>h pins s σ H v u Q I r (k v σ H Q w)
theorem PO.imp {o:Option Expr}{t t':TO} (h:PO X o t) (k:∀ σ H Q,t' σ H Q->t σ H Q):PO X o t':=λpins s σ H Q I w=>h pins s σ H Q I (k σ H Q w)
end
section
variable (K:W.Frag) (mg:Str->Option Value) (X:Cx) (ES:St->XK)
def DE (e:Expr) (F:ME):Prop:=PE X e (rdE K mg ES F)
def DT (e:Expr) (F:MT):Prop:=PT X e (rdT K mg ES F)
def DW (e:Expr) (F:MT):Prop:=PW X e (rdT K mg ES F)
def DA (es:List Expr) (F:MA):Prop:=PA X es (rdA K mg ES F)
def DS (st:Stmt) (F:MS):Prop:=PS X st (rdS K mg ES F)
def DSs (st:List Stmt) (F:MS):Prop:=PSs X st (rdS K mg ES F)
end
def OpD (K:W.Frag) (mg:Str->Option Value) (r:R2) (g:D->D->AH->R D):Prop:=∀ ρ h H dx dy x y Q E,Wd K mg ρ h H->RelD K mg ρ H dx x->RelD K mg ρ H dy y->c4 K mg ρ H Q E (g dx dy h)->r x y H Q
def bD (K:W.Frag) (mg:Str->Option Value) (r:List V->Hp->VK->Prop) (g:Fn):Prop:=∀ ρ h H ds vs Q E,Wd K mg ρ h H->RelDs K mg ρ H ds vs->c4 K mg ρ H Q E (g ds h)->r vs H Q
def aT (i:Nat):ME:=λae h=>match ae[i]? with
 | some (some d)=>.ok d h
 | _=>.stuck
def eC (d:D):ME:=λ_ h=>.ok d h
def eOp (g:D->D->AH->R D) (F G:ME):ME:=λae h=>(F ae h).bind λx h1=>(G ae h1).bind λy h2=>g x y h2
def dF:MA:=λ_ h=>.ok [] h
def cE (F:ME) (G:MA):MA:=λae h=>(F ae h).bind λx h1=>(G ae h1).bind λxs h2=>.ok (x :: xs) h2
def eFn (g:Fn) (A:MA):ME:=λae h=>(A ae h).bind g
def jC (ds:List D) (h:AH):R D:=if ds.length<=16777216 then .ok (.tup ds) h else .stuck
def bp (ds:List D) (h:AH):R D:=if ds.length<=16777216 then .ok (.ref h.length) (h++[.lst ds]) else .stuck
def asB (d:D) (h:AH):R Bool:=match d with
 | .bl b=>.ok b h
 | _=>.stuck
def eIf (c:MT) (F G:ME):ME:=λae h=>(c ae h).bind λb h1=>if b=true then F ae h1 else G ae h1
def tOf (F:ME):MT:=λae h=>(F ae h).bind asB
def tAn (c d:MT):MT:=λae h=>(c ae h).bind λb h1=>if b=true then d ae h1 else .ok false h1
def tO (c d:MT):MT:=λae h=>(c ae h).bind λb h1=>if b=true then .ok true h1 else d ae h1
def tNo (c:MT):MT:=λae h=>(c ae h).bind λb h1=>.ok (!b) h1
section
variable {K:W.Frag}{mg:Str->Option Value}{ρ:List Addr}{H:Hp}{h:AH}
theorem dO {Q:VK}{E:XK}{ds:List D}{vs:List V}{p:Addr} (w:Wd K mg ρ h H) (rs:RelDs K mg ρ H ds vs) (hp:H p=none) (q:c4 K mg ρ H Q E (.ok (.ref h.length) (h++[.lst ds]))):Q (.ref p) (upd H p (.lst vs)):=by
 have l:Le ρ H (ρ++[p]) (upd H p (.lst vs)):=(cK hp).trans j0
 refine q (ρ++[p]) _ l (w.alloc hp ⟨vs,bH,rs.mono l⟩) _ (.ref ?_)
 rw[<- w.len,List.getElem?_append_right (Nat.le_refl _),Nat.sub_self]
 rfl
theorem gi {Q:VK}{E:XK}{ds:List D}{vs:List V}{p:Addr} (w:Wd K mg ρ h H) (rs:RelDs K mg ρ H ds vs) (hp:H p=none) (q:c4 K mg ρ H Q E (.ok (.tup ds) h)):Q (.ref p) (upd H p (.tup vs)):=
 q ρ _ (cK hp) (w.tuple hp) _ (.tup (SqT.of bH) (rs.mono (cK hp)))
theorem ay {Q:VK}{E:XK}{d:D}{v:V} (w:Wd K mg ρ h H) (r:RelD K mg ρ H d v) (q:c4 K mg ρ H Q E (.ok d h)):Q v H:=q ρ H Le.refl w v r
end
section
variable {K:W.Frag}{mg:Str->Option Value}{X:Cx}{ES:St->XK}{e a b c:Expr}{es:List Expr}{F G:ME}{A:MA}{cf cg:MT}{pos:Pos}
theorem Bq (i:Nat) {x:Str} (hN:X.N[i]?=some x:=by rfl) (hv:Vis X.env.scope x:=by first | exact Or.inl rfl | exact Or.inr (Or.inl rfl) | exact Or.inr (Or.inr rfl)) (hd:(x == ("__debug__" : Str))=false:=by decide)
 (hcd:(x == ("__classdict__" : Str))=false:=by decide):DE K mg X ES (.Name x pos) (aT i):=PE.imp (qh hN hv hd hcd) λσ H Q q_=>q_.el λρ h ae w re p=>by
 unfold aT at p
 split at p
 ·rename_i d ed
  obtain⟨v,e1,r⟩:=re.at_ i d ed
  exact⟨v,e1,ay w r p⟩
 ·exact p.elim
theorem lU {v:V}{d:D} (hp:PE X e (tC v)) (r:∀ ρ H,RelD K mg ρ H d v):DE K mg X ES e (eC d):=PE.imp hp λσ H Q q_=>q_.el λρ h ae w re p=>ay w (r ρ H) p
theorem Av {i:Int}{j:Nat}:DE K mg X ES (.Constant (.int i) j pos) (eC (.int i)):=lU yF λ_ _=>.int i
theorem C4 {i:Bool}{j:Nat}:DE K mg X ES (.Constant (.bool i) j pos) (eC (.bl i)):=lU BR λ_ _=>.bl i
theorem yy {j:Nat}:DE K mg X ES (.Constant .none j pos) (eC .non):=lU Ai λ_ _=>.non
theorem A1 {x:Str}{j:Nat}:DE K mg X ES (.Constant (.str x) j pos) (eC (.str x)):=lU qw λ_ _=>.str x
structure GC (K:W.Frag) (mg:Str->Option Value) (x:Str) (d:D):Prop where
 ex:∃ u v,mg x=some u/\RelV v u/\∀ ρ H,RelD K mg ρ H d v
theorem BX {x:Str}{n:String} (hg:Gl X x) (hm:mg x=none) (hv:bootBuiltins x=some (.type n)) (he:X.mg=mg:=by rfl) (hn:x ≠ "__name__":=by decide) (hd:(x == ("__debug__" : Str))=false:=by decide):DE K mg X ES (.Name x pos) (eC (.ty n)):=by
 subst he
 exact lU (wZ hg hm hv (v:=.ty n) rfl hn hd) λ_ _=>.ty n
theorem kT {r:R2}{g:D->D->AH->R D} (hd:OpD K mg r g) (σ:St) (H:Hp) (Q:VK) (q:rdE K mg ES (eOp g F G) σ H Q):tOp r (rdE K mg ES F) (rdE K mg ES G) σ H Q:=by
 obtain⟨ρ,h,ae,w,re,p⟩:=q
 exact⟨ρ,h,ae,w,re,p.bind.imp λdx h1 ρ1 H1 l1 w1 p1 x rx=>⟨ρ1,h1,ae,w1,re.mono l1,p1.bind.imp λdy h2 ρ2 H2 l2 w2 p2 y ry=>hd ρ2 h2 H2 dx dy x y Q _ w2 (rx.mono l2) ry p2⟩⟩
theorem Di {op:Operator}{r:R2}{g:D->D->AH->R D} (ho:OpR X (binaryOp op) r) (hd:OpD K mg r g) (ha:DE K mg X ES a F) (hb:DE K mg X ES b G):DE K mg X ES (.BinOp a op b pos) (eOp g F G):=PE.imp (Dm ho ha hb) (kT hd)
theorem vA {r:R2}{g:D->D->AH->R D} (hr:IxR X r) (hd:OpD K mg r g) (ha:DE K mg X ES a F) (hb:DE K mg X ES b G) (hs:iD b):DE K mg X ES (.Subscript a b pos) (eOp g F G):=PE.imp (C2 hr ha hb hs) (kT hd)
theorem Bg {op:CmpOp}{r:R2}{g:D->D->AH->R D} (ho:OpR X (compareOp op) r) (hd:OpD K mg r g) (ha:DE K mg X ES a F) (hb:DE K mg X ES b G) (hm:behindInMarks op b=false):DE K mg X ES (.Compare a [op] [b] pos) (eOp g F G):=PE.imp (wa ho ha hb hm) (kT hd)
theorem nF (σ:St) (H:Hp) (Q:Bool->Hp->Prop) (q:rdT K mg ES (tOf F) σ H Q):rdE K mg ES F σ H λx H'=>∃ k,x=.bl k/\Q k H':=by
 obtain⟨ρ,h,ae,w,re,p⟩:=q
 refine⟨ρ,h,ae,w,re,p.bind.imp λd h1 ρ1 H1 l1 w1 p1 x rx=>?_⟩
 unfold asB at p1
 split at p1
 ·cases rx;exact⟨_,rfl,p1 ρ1 H1 Le.refl w1⟩
 ·exact p1.elim
theorem yu {op:CmpOp}{r:R2}{g:D->D->AH->R D} (ho:OpR X (compareOp op) r) (hd:OpD K mg r g) (ha:DE K mg X ES a F) (hb:DE K mg X ES b G) (hm:behindInMarks op b=false):DT K mg X ES (.Compare a [op] [b] pos) (tOf (eOp g F G)):=
 PT.imp (yh ho ha hb hm) λσ H Q q=>kT hd σ H _ (nF σ H Q q)
theorem Ac (ha:DE K mg X ES a F) (he:∀ bi,isTrue a X.env bi=(do let v <- bi;standAt a.pos;holding [v] (truthy v)):=by intro _;rfl):DT K mg X ES a (tOf F):=
 PT.imp (Bb ha he) λσ H Q q=>nF σ H Q q
theorem y7 (ha:DT K mg X ES a cf):DT K mg X ES (.UnaryOp .Not a pos) (tNo cf):=PT.imp (yW ha) λσ H Q q_=>q_.el λρ h ae w re p=>
 ⟨ρ,h,ae,w,re,p.bind.imp λb h1 ρ1 H1 l1 w1 p1=>p1 ρ1 H1 Le.refl w1⟩
theorem wF (ha:DT K mg X ES a cf):DW K mg X ES (.BoolOp .And [a] pos) cf:=yk ha
theorem zI (ha:DT K mg X ES a cf):DW K mg X ES (.BoolOp .Or [a] pos) cf:=yG ha
theorem zu (ha:DT K mg X ES a cf) (hb:DW K mg X ES (.BoolOp .And (b :: es) pos) cg):DW K mg X ES (.BoolOp .And (a :: b :: es) pos) (tAn cf cg):=PW.imp (yJ ha hb) λσ H Q q_=>q_.el λρ h ae w re p=>
 ⟨ρ,h,ae,w,re,p.bind.imp λb h1 ρ1 H1 l1 w1 p1=>by
  cases b with
  | true=>exact⟨ρ1,h1,ae,w1,re.mono l1,p1⟩
  | false=>exact p1 ρ1 H1 Le.refl w1⟩
theorem By (ha:DT K mg X ES a cf) (hb:DW K mg X ES (.BoolOp .Or (b :: es) pos) cg):DW K mg X ES (.BoolOp .Or (a :: b :: es) pos) (tO cf cg):=PW.imp (CM ha hb) λσ H Q q_=>q_.el λρ h ae w re p=>
 ⟨ρ,h,ae,w,re,p.bind.imp λb h1 ρ1 H1 l1 w1 p1=>by
  cases b with
  | true=>exact p1 ρ1 H1 Le.refl w1
  | false=>exact⟨ρ1,h1,ae,w1,re.mono l1,p1⟩⟩
theorem DW.dt (h:DW K mg X ES a cf):DT K mg X ES a cf:=PW.pt h
theorem CD (hc:DT K mg X ES c cf) (ha:DE K mg X ES a F) (hb:DE K mg X ES b G):DE K mg X ES (.IfExp c a b pos) (eIf cf F G):=PE.imp (tN hc ha hb) λσ H Q q_=>q_.el λρ h ae w re p=>
 ⟨ρ,h,ae,w,re,p.bind.imp λb h1 ρ1 H1 l1 w1 p1=>by
  cases b with
  | true=>exact⟨ρ1,h1,ae,w1,re.mono l1,p1⟩
  | false=>exact⟨ρ1,h1,ae,w1,re.mono l1,p1⟩⟩
theorem rQ:DA K mg X ES [] dF:=PA.imp An λσ H Q q_=>q_.el λρ h ae w re p=>p ρ H Le.refl w _ .nil
theorem nK (ha:DE K mg X ES e F) (hr:DA K mg X ES es A) (hs:starEach (e :: es) X.env=(false,eval e X.env) :: starEach es X.env:=by rfl):DA K mg X ES (e :: es) (cE F A):=PA.imp (xA ha hr hs) λσ H Q q_=>q_.el λρ h ae w re p=>
 ⟨ρ,h,ae,w,re,p.bind.imp λd h1 ρ1 H1 l1 w1 p1 x rx=>⟨ρ1,h1,ae,w1,re.mono l1,p1.bind.imp λds h2 ρ2 H2 l2 w2 p2 vs rs=>p2 ρ2 H2 Le.refl w2 _ (.cons (rx.mono l2) rs)⟩⟩
theorem zV {x1} (h:DA K mg X ES es A):DE K mg X ES (.Tuple es x1 pos) (eFn jC A):=PE.imp (Ax h) λσ H Q q_=>q_.el λρ h ae w re p=>
 ⟨ρ,
  h,ae,w,re,p.bind.imp λds h1 ρ1 H1 l1 w1 p1 vs rs=>by
  unfold jC at p1
  split at p1
  ·rename_i hl
   exact⟨by rw[<- rs.len];exact hl,λq hq=>gi w1 rs hq p1⟩
  ·exact p1.elim⟩
theorem zL (h:DA K mg X ES es A):DE K mg X ES (.List es pos) (eFn bp A):=PE.imp (zE h) λσ H Q q_=>q_.el λρ h ae w re p=>
 ⟨ρ,
  h,ae,w,re,p.bind.imp λds h1 ρ1 H1 l1 w1 p1 vs rs=>by
  unfold bp at p1
  split at p1
  ·rename_i hl
   exact⟨by rw[<- rs.len];exact hl,λq hq=>dO w1 rs hq p1⟩
  ·exact p1.elim⟩
theorem ve {r:List V->Hp->VK->Prop}{g:Fn} (hd:bD K mg r g) (σ:St) (H:Hp) (Q:VK) (q:rdE K mg ES (eFn g A) σ H Q):tCB r (rdA K mg ES A) σ H Q:=by
 obtain⟨ρ,h,ae,w,re,p⟩:=q
 exact⟨ρ,h,ae,w,re,p.bind.imp λds h1 ρ1 H1 l1 w1 p1 vs rs=>hd ρ1 h1 H1 ds vs Q _ w1 rs p1⟩
theorem uX {id:String}{r:List V->Hp->VK->Prop}{g:Fn}{x:Str}{p:Pos} (hc:CallR X (.builtin id) r) (hd:bD K mg r g) (hg:Gl X x) (hm:mg x=none) (hv:bootBuiltins x=some (.builtin id)) (ha:DA K mg X ES (e :: es) A) (hk:X.mg=mg:=by rfl) (hn:x ≠ "__name__":=by decide) (hdb:(x == ("__debug__" : Str))=false:=by decide)
 (he:starEach (e :: es) X.env=(false,eval e X.env) :: starEach es X.env:=by rfl) (hpl:(backTo pos (starEach es X.env)).any (·.1)=false:=by rfl):DE K mg X ES (.Call (.Name x p) (e :: es) [] pos) (eFn g A):=by
 subst hk
 exact PE.imp (uW hc hg hm hv ha hn hdb he hpl) (ve hd)
theorem qK {T:String}{r:List V->Hp->VK->Prop}{g:Fn}{x:Str}{p:Pos} (hc:CallR X (.type T) r) (hd:bD K mg r g) (hg:Gl X x) (hm:mg x=none) (hv:bootBuiltins x=some (.type T)) (ha:DA K mg X ES (e :: es) A) (hk:X.mg=mg:=by rfl) (hn:x ≠ "__name__":=by decide) (hdb:(x == ("__debug__" : Str))=false:=by decide)
 (he:starEach (e :: es) X.env=(false,eval e X.env) :: starEach es X.env:=by rfl) (hpl:(backTo pos (starEach es X.env)).any (·.1)=false:=by rfl):DE K mg X ES (.Call (.Name x p) (e :: es) [] pos) (eFn g A):=by
 subst hk
 exact PE.imp (qD hc hg hm hv ha hn hdb he hpl) (ve hd)
end
end L2
namespace L2
open PySem PySem.Spec PyProof.Rows
def SR.then (r:SR) (f:AE->AH->SR):SR:=match r with
 | .nx ae h=>f ae h
 | .rt d h=>.rt d h
 | .bk ae h=>.bk ae h
 | .ct ae h=>.ct ae h
 | .exc c ae h=>.exc c ae h
 | .stuck=>.stuck
def R.toS {α:Type} (r:R α) (ae:AE) (f:α->AH->SR):SR:=match r with
 | .ok a h=>f a h
 | .exc c h=>.exc c ae h
 | .stuck=>.stuck
def sNx:MS:=λae h=>.nx ae h
def eT (F G:MS):MS:=λae h=>(F ae h).then G
def uw (F:ME):MS:=λae h=>(F ae h).toS ae λd h1=>.rt d h1
def er (F:ME):MS:=λae h=>(F ae h).toS ae λ_ h1=>.nx ae h1
def sIf (c:MT) (F G:MS):MS:=λae h=>(c ae h).toS ae λb h1=>if b=true then F ae h1 else G ae h1
abbrev MG:=D->AE->AH->R AE
abbrev MGs:=List D->AE->AH->R AE
def fD (F:ME) (g:MG):MS:=λae h=>(F ae h).toS ae λd h1=>(g d ae h1).toS ae λam h2=>.nx am h2
def gN (i:Nat):MG:=λd ae h=>.ok (ae.set i (some d)) h
def gsN:MGs:=λds ae h=>match ds with
 | []=>.ok ae h
 | _=>.stuck
def gsC (g:MG) (u:MGs):MGs:=λds ae h=>match ds with
 | d :: r=>(g d ae h).bind λam h'=>u r am h'
 | []=>.stuck
def gT (u:MGs):MG:=λd ae h=>match d with
 | .tup ds=>u ds ae h
 | _=>.stuck
def gS (F G:ME) (w:D->D->D->AH->R Unit):MG:=λv ae h=>(F ae h).bind λo h1=>(G ae h1).bind λi h2=>(w o i v h2).bind λ_ h3=>.ok ae h3
def uE (i j:Nat) (A:MA):MS:=λae h=>(A ae h).toS ae λds h1=>match ds with
 | [d,e]=>.nx ((ae.set i (some d)).set j (some e)) h1
 | _=>.stuck
def mz (c:Str) (A:MA):MS:=λae h=>(A ae h).toS ae λds h1=>if ds.length<=16777216 then .exc c ae h1 else .stuck
section
variable (K:W.Frag) (mg:Str->Option Value)
def rdG (ES:St->XK) (g:MG):TG:=λv σ H Q=>∃ ρ h ae d,Wd K mg ρ h H/\RelE K mg ρ H ae σ/\RelD K mg ρ H d v/\PostG K mg ρ H (ES σ) (λam _ ρ' H'=>∀ σ',RelE K mg ρ' H' am σ'->Q σ' H') (g d ae h)
def rdGs (ES:St->XK) (g:MGs):TGs:=λvs σ H Q=>∃ ρ h ae ds,Wd K mg ρ h H/\RelE K mg ρ H ae σ/\RelDs K mg ρ H ds vs/\PostG K mg ρ H (ES σ) (λam _ ρ' H'=>∀ σ',RelE K mg ρ' H' am σ'->Q σ' H') (g ds ae h)
def DG (X:Cx) (ES:St->XK) (e:Expr) (g:MG):Prop:=PG X e (rdG K mg ES g)
def DGs (X:Cx) (ES:St->XK) (es:List Expr) (g:MGs):Prop:=PGs X es (rdGs K mg ES g)
def jn (X:Cx) (ES:St->XK):Prop:=∀ (pins:List (Addr×Obj)) (σ:St) (H:Hp) (s:Shared) (e:Value) (s':Shared),Inv X pins σ H s->CX1 X.prog X.w X.stack H s (ES σ) e s'->X.xe e s'
end
theorem rdG.el {K:W.Frag}{mg:Str->Option Value}{ES:St->XK}{g:MG}{v:V}{σ:St}{H:Hp}{Q:St->Hp->Prop}{C:Prop} (q:rdG K mg ES g v σ H Q) (k:∀ ρ h ae d,Wd K mg ρ h H->RelE K mg ρ H ae σ->RelD K mg ρ H d v->PostG K mg ρ H (ES σ) (λam _ ρ' H'=>∀ σ',RelE K mg ρ' H' am σ'->Q σ' H') (g d ae h)->C):C:=by
 obtain⟨ρ,h,ae,d,w,re,rd,p⟩:=q
 exact k ρ h ae d w re rd p
theorem rdGs.el {K:W.Frag}{mg:Str->Option Value}{ES:St->XK}{g:MGs}{v:List V}{σ:St}{H:Hp}{Q:St->Hp->Prop}{C:Prop} (q:rdGs K mg ES g v σ H Q) (k:∀ ρ h ae d,Wd K mg ρ h H->RelE K mg ρ H ae σ->RelDs K mg ρ H d v->PostG K mg ρ H (ES σ) (λam _ ρ' H'=>∀ σ',RelE K mg ρ' H' am σ'->Q σ' H') (g d ae h)->C):C:=by
 obtain⟨ρ,h,ae,d,w,re,rd,p⟩:=q
 exact k ρ h ae d w re rd p
section
variable {K:W.Frag}{mg:Str->Option Value}{X:Cx}{ES:St->XK}{ρ:List Addr}{H:Hp}{h:AH}{ae:AE}{σ:St}{De:Ends}
theorem bK {α:Type}{r:R α}{f:α->AH->SR}{k:α->AH->List Addr->Hp->Prop} (p:PostS K mg ρ H De ES (r.toS ae f)) (re:RelE K mg ρ H ae σ)
 (i:∀ a h1 ρ1 H1,Le ρ H ρ1 H1->Wd K mg ρ1 h1 H1->RelE K mg ρ1 H1 ae σ->PostS K mg ρ1 H1 De ES (f a h1)->k a h1 ρ1 H1):PostG K mg ρ H (ES σ) k r:=by
 cases r with
 | ok a h1=>exact λρ1 H1 l1 w1=>i a h1 ρ1 H1 l1 w1 (re.mono l1) (PostS.mono l1 p)
 | exc c h1=>exact λρ1 H1 C l1 w1 m=>p ρ1 H1 σ C l1 w1 (re.mono l1) m
 | stuck=>exact p
theorem eZ {am:AE} (p:PostS K mg ρ H De ES (.nx am h)) (w:Wd K mg ρ h H) (re:RelE K mg ρ H am σ):De.nx σ H:=p ρ H σ Le.refl w re
theorem uj {r:SR}{f:AE->AH->SR}{N:St->Hp->Prop} (p:PostS K mg ρ H De ES (r.then f)) (i:∀ ae1 h1 ρ1 H1 σ1,Le ρ H ρ1 H1->Wd K mg ρ1 h1 H1->RelE K mg ρ1 H1 ae1 σ1->PostS K mg ρ1 H1 De ES (f ae1 h1)->N σ1 H1):PostS K mg ρ H { De with nx:=N } ES r:=by
 cases r with
 | nx ae1 h1=>exact λρ1 H1 σ1 l1 w1 re1=>i ae1 h1 ρ1 H1 σ1 l1 w1 re1 (PostS.mono l1 p)
 | rt d h1=>exact p
 | bk ae1 h1=>exact p
 | ct ae1 h1=>exact p
 | exc c ae1 h1=>exact p
 | stuck=>exact p
end
section
variable {K:W.Frag}{mg:Str->Option Value}{X:Cx}{ES:St->XK}{e a b c o i:Expr}{es:List Expr}{st:Stmt}{sts sts':List Stmt}{F G:ME}{A:MA}{cf:MT}{U V':MS}{g:MG}{gs:MGs}{pos:Pos}
theorem xj:DSs K mg X ES [] sNx:=PSs.imp xt λD σ H q_=>q_.el λρ h ae w re p=>eZ p w re
theorem ni (h1:DS K mg X ES st U):DSs K mg X ES [st] U:=w9 h1
theorem je (h1:DS K mg X ES st U) (h2:DSs K mg X ES sts V'):DSs K mg X ES (st :: sts) (eT U V'):=PSs.imp (ux h1 h2) λD σ H q_=>q_.el λρ h ae w re p=>
 ⟨ρ,h,ae,w,re,uj p λae1 h1 ρ1 H1 σ1 l1 w1 re1 p1=>⟨ρ1,h1,ae1,w1,re1,p1⟩⟩
theorem y8 (he:DE K mg X ES e F):DS K mg X ES (.Return (some e) pos) (uw F):=PS.imp (Am he) λD σ H q_=>q_.el λρ h ae w re p=>
 ⟨ρ,h,ae,w,re,bK p re λd h1 ρ1 H1 l1 w1 re1 p1 v rv=>p1 ρ1 H1 v Le.refl w1 rv⟩
theorem nW (he:DE K mg X ES e F) (hs:swapsWith e none pos.line X.env=pure false:=by rfl):DS K mg X ES (.Expr e pos) (er F):=PS.imp (xv he hs) λD σ H q_=>q_.el λρ h ae w re p=>
 ⟨ρ,h,ae,w,re,bK p re λd h1 ρ1 H1 l1 w1 re1 p1 v rv=>eZ p1 w1 re1⟩
theorem CZ (hc:DT K mg X ES c cf) (ha:DSs K mg X ES sts U) (hb:DSs K mg X ES sts' V'):DS K mg X ES (.If c sts sts' pos) (sIf cf U V'):=PS.imp (Dr hc ha hb) λD σ H q_=>q_.el λρ h ae w re p=>
 ⟨ρ,h,ae,w,re,bK p re λb h1 ρ1 H1 l1 w1 re1 p1=>by
  cases b with
  | true=>exact⟨ρ1,h1,ae,w1,re1,p1⟩
  | false=>exact⟨ρ1,h1,ae,w1,re1,p1⟩⟩
theorem xF {i:Nat}{x:Str} (hN:X.N.Nodup) (hi:X.N[i]?=some x) (hx:Loc X.env.scope x) (hf:X.fn x=true\/X.env.scope.names.lookup x=some .local:=by first | exact .inl rfl | exact .inr rfl | assumption):DG K mg X ES (.Name x pos) (gN i):=
 PG.imp (yj hN hi hx hf) λv σ H Q q_=>q_.el λρ h ae d w re rd p=>p ρ H Le.refl w _ (re.set i rd)
theorem ya:DGs K mg X ES [] gsN:=PGs.imp yi λvs σ H Q q_=>q_.el λρ h ae ds w re rd p=>by
 cases rd with
 | nil=>exact⟨rfl,p ρ H Le.refl w _ re⟩
 | cons r rr=>exact p.elim
theorem u6 (h1:DG K mg X (λ_=>E0) e g) (h2:DGs K mg X (λ_=>E0) es gs)
 (hs:(assignEach (e :: es) X.env).map (·.2)=assign e X.env :: (assignEach es X.env).map (·.2):=by rfl):DGs K mg X (λ_=>E0) (e :: es) (gsC g gs):=PGs.imp (tS h1 h2 hs) λvs σ H Q q_=>q_.el λρ h ae ds w re rd p=>by
 cases rd with
 | nil=>exact p.elim
 | cons r rr=>exact⟨_,_,rfl,ρ,h,ae,_,w,re,r,p.bind.imp λae1 h1 ρ1 H1 l1 w1 p1 σ1 re1=>⟨ρ1,h1,ae1,_,w1,re1,rr.mono l1,p1⟩⟩
theorem yK {k n:Nat} (hK:X.K=K) (hc:X.calm=true) (h:DGs K mg X (λ_=>E0) es gs)
 (hn:(assignEach es X.env).length=n:=by rfl) (hst:(assignEach es X.env).findIdx? (·.1)=none:=by rfl):DG K mg X (λ_=>E0) (.Tuple es k pos) (gT λds ae h=>if ds.length=n then gs ds ae h else .stuck):=by
 subst hK
 refine PG.imp (yn hc h hn hst) λv σ H Q q_=>q_.el λρ h ae d w re rd p=>?_
 unfold gT at p
 cases rd with
 |
  tup q rs=>
  dsimp only at p
  split at p
  ·rename_i hl
   exact⟨_,_,rfl,q,by rw[<- rs.len];exact hl,ρ,h,ae,_,w,re,rs,p⟩
  ·exact p.elim
 | _=>exact p.elim
def noX {α:Type} (r:R α):R α:=match r with
 | .exc _ _=>.stuck
 | .ok a h=>.ok a h
 | .stuck=>.stuck
theorem DG.weak (hg:DG K mg X (λ_=>E0) e g):DG K mg X ES e (λd ae h=>noX (g d ae h)):=PG.imp hg λv σ H Q q_=>q_.el λρ h ae d w re rd p=>by
 refine⟨ρ,h,ae,d,w,re,rd,?_⟩
 try dsimp only at p
 cases q:g d ae h with
 | ok a h1=>rw[q] at p;exact p
 | exc c h1=>rw[q] at p;exact p.elim
 | stuck=>rw[q] at p;exact p.elim
def oC (K:W.Frag) (mg:Str->Option Value) (r:kd) (f:D->D->D->AH->R Unit):Prop:=∀ ρ h H do_ di dv o i v (Q:Hp->Prop) E,Wd K mg ρ h H->RelD K mg ρ H do_ o->RelD K mg ρ H di i->RelD K mg ρ H dv v->PostG K mg ρ H E (λ_ _ _ H'=>Q H') (f do_ di dv h)->r o i v H Q
theorem Aq (he:DE K mg X ES e F) (hg:DG K mg X ES a g) (hs:swapsWithSole [a] e pos.line X.env=pure false:=by rfl) (hw:swappedStores [a] e X.env=pure none:=by rfl)
 (h1:(assignEach [a] X.env).map (·.2)=[assign a X.env]:=by rfl):DS K mg X ES (.Assign [a] e pos) (fD F g):=PS.imp (y9 he hg hs hw h1) λD σ H q_=>q_.el λρ h ae w re p=>
 ⟨ρ,h,ae,w,re,bK p re λd h1 ρ1 H1 l1 w1 re1 p1 v rv=>⟨ρ1,h1,ae,d,w1,re1,rv,bK p1 re1 λae2 h2 ρ2 H2 l2 w2 re2 p2 σ' re'=>eZ p2 w2 re'⟩⟩
theorem A6 {i:Nat}{x:Str}{pos':Pos} (hN:X.N.Nodup) (hi:X.N[i]?=some x) (hx:Loc X.env.scope x) (he:DE K mg X ES e F) (hs:swapsWith e (some (.Name x pos')) pos.line X.env=pure false:=by rfl) (hf:X.fn x=true\/X.env.scope.names.lookup x=some .local:=by first | exact .inl rfl | exact .inr rfl | assumption):
 DS K mg X ES (.Assign [.Name x pos'] e pos) (fD F (gN i)):=PS.imp (AQ hN hi hx he hs hf) λD σ H q_=>q_.el λρ h ae w re p=>
 ⟨ρ,h,ae,w,re,bK p re λd h1 ρ1 H1 l1 w1 re1 p1 v rv=>eZ p1 w1 (re1.set i rv)⟩
theorem Bk {i j:Nat}{x y:Str}{px py pt:Pos}{kt k2 pt2} (hc:X.calm=true) (hN:X.N.Nodup) (hi:X.N[i]?=some x) (hj:X.N[j]?=some y) (hij:i ≠ j)
 (hx:X.env.scope.names.lookup x=some .local) (hy:X.env.scope.names.lookup y=some .local) (ha:DA K mg X ES [a,b] A)
 (hw:swappedStores [.Tuple [.Name x px,.Name y py] kt pt] (.Tuple [a,b] k2 pt2) X.env=pure (some [x,y]))
 (hs:swapsWithSole [.Tuple [.Name x px,.Name y py] kt pt] (.Tuple [a,b] k2 pt2) pos.line X.env=pure false:=by rfl):
 DS K mg X ES (.Assign [.Tuple [.Name x px,.Name y py] kt pt] (.Tuple [a,b] k2 pt2) pos) (uE i j A):=PS.imp (AU hc hN hi hj hij hx hy ha hw hs) λD σ H q_=>q_.el λρ h ae w re p=>
 ⟨ρ,h,ae,w,re,bK p re λds h1 ρ1 H1 l1 w1 re1 p1 vs rs=>by
  split at p1
  ·cases rs with
   |
    cons r1 rs=>
    cases rs with
    |
     cons r2 rs=>
     cases rs
     exact⟨_,_,rfl,eZ p1 w1 ((re1.set i r1).set j r2)⟩
  ·exact p1.elim⟩
theorem vb {x:Str}{C:Addr}{E:XK}{np cpos:Pos} (hc:X.calm=true) (hR:Rz X E) (hg:Gl X x) (hm:mg x=some (.ref C)) (hq:W.excIn X.K C jc "ValueError.__new__"=true) (ha:DA K mg X (λ_=>E) (e :: es) A) (hk:X.mg=mg:=by rfl)
 (he:starEach (e :: es) X.env=(false,eval e X.env) :: starEach es X.env:=by rfl) (be:(backTo cpos (starEach es X.env)).any (·.1)=false:=by rfl) (hd:(x == ("__debug__" : Str))=false:=by decide):
 DS K mg X (λ_=>E) (.Raise (some (.Call (.Name x np) (e :: es) [] cpos)) none pos) (mz x A):=by
 subst hk
 exact
  PS.imp (sZ hc hR hg hm hq ha he be hd) λD σ H q_=>q_.el λρ h ae w re p=>
  ⟨ρ,
   h,ae,w,re,bK p re λds h1 ρ1 H1 l1 w1 re1 p1 vs rs=>by
   split at p1
   ·rename_i hl
    exact⟨by rw[<- rs.len];exact hl,p1 ρ1 H1 σ C Le.refl w1 re1 hm⟩
   ·exact p1.elim⟩
theorem v3 {x:Str}{p:Pos}{k n:Nat}{ps:List Str}{S:Fn} (C:Callee X.prog X.w X.K X.mg X.base x k ps (spD K mg n S)) (hr:Room k X.A) (hg:Gl X x) (hx:jn X ES) (ha:DA K mg X ES (e :: es) A)
 (hdb:(x == ("__debug__" : Str))=false:=by decide) (he:starEach (e :: es) X.env=(false,eval e X.env) :: starEach es X.env:=by rfl) (hpl:(backTo pos (starEach es X.env)).any (·.1)=false:=by rfl):
 DE K mg X ES (.Call (.Name x p) (e :: es) [] pos) (eFn (λds h=>if ds.length=n then S ds h else .stuck) A):=by
 obtain⟨f,fd,F',m,kp,bb,_⟩:=C.ex
 intro pins s σ H Q I hh
 refine wpAny_Call_Name_kw (nE I hg m ?_ hdb)
 have rd:rdA K mg ES A σ H (λvs H1=>spD K mg n S vs H1 Q (ES σ)):=by
  obtain⟨ρ,h,ae,w,re,p⟩:=hh
  refine⟨ρ,h,ae,w,re,p.bind.imp λds h1 ρ1 H1 l1 w1 p1 vs rs=>?_⟩
  split at p1
  ·rename_i hl
   exact⟨ρ1,h1,ds,w1,rs,hl,p1⟩
  ·exact p1.elim
 refine W.callWith_K (h₀:=X.base) I.ok.mod.kin kp (wpAny_mono (ha pos pins s σ H _ I rd) (λus s1 ⟨vs,H1,I1,r,q⟩=>⟨I1.kIn,?_⟩) λ_ _ z=>z) he hpl
 have hl:(us++[]).length=ps.length:=by rw[List.append_nil,<- r.length];exact F'.len _ _ _ _ q
 refine wpAny_call (codeAny_mono (F'.run X.A X.stack s1 H1 ⟨us,[]⟩ us vs Q (ES σ) hr I1.env0 (by simpa using bb s1 us I1.kIn hl) r q) λr s' hq=>?_)
 cases r with
 | error ex=>exact hx pins σ H1 s1 ex s' I1 hq
 |
  ok fl=>
  cases fl with
  | ret u=>exact I1.after hq
  | next=>exact False.elim hq
  | brk=>exact False.elim hq
  | cont=>exact False.elim hq
def fnD (n:Nat) (F:MS):Fn:=λds h=>match F (ds.map some++List.replicate (n - ds.length) none) h with
 | .nx _ h'=>.ok .non h'
 | .rt d h'=>.ok d h'
 | .exc c _ h'=>.exc c h'
 | _=>.stuck
theorem aw {E:XK} (hp:l7 (CX1 X.prog X.w) X E):jn X (λ_=>E):=λpins σ H s e s' I h=>hp pins σ H s e s' I h
theorem eQ:jn X (λ_=>E0):=λpins σ H s e s' I h=>C6 pins σ H s e s' I h
end
section
variable {P:Program}{w:World}{K:W.Frag}{mg:Str->Option Value}{base:Heap}{x:Str}{st:Stmt}{k:Nat}{ps N:List Str}{F:MS}
theorem oO {ρ:List Addr}{H:Hp}{ds:List D}{vs:List V} (rs:RelDs K mg ρ H ds vs):RelE K mg ρ H (ds.map some++List.replicate (N.length - ds.length) none) (dH N vs):=by
 unfold dH
 refine⟨by rw[List.length_append,List.length_append,List.length_map,List.length_map,List.length_replicate,List.length_replicate,rs.len],λi d e=>?_⟩
 by_cases hi:i < ds.length
 ·rw[List.getElem?_append_left (by rw[List.length_map];exact hi),List.getElem?_map] at e
  have e':ds[i]?=some d:=by
   cases q:ds[i]? with
   | none=>rw[q] at e;cases e
   | some z=>rw[q] at e;cases e;rfl
  obtain⟨v,h1,h2⟩:=rs.getD e'
  refine⟨v,?_,h2⟩
  rw[List.getElem?_append_left (by rw[List.length_map,<- rs.len];exact hi),List.getElem?_map,h1];rfl
 ·rw[List.getElem?_append_right (by rw[List.length_map];omega),List.getElem?_replicate] at e
  split at e <;> cases e
theorem Def.okD (D:Def K mg x st) (S:FnScope N ps (ao st))
 (hb:∀ (kV doc pm:Value) (an:Option Addr) (cdv ct:Value) (us:List Value),us.length=ps.length->bindArgs (W.fnOf x x (bX st) (bf st) (ao st) .none kV doc pm an cdv ct) ⟨us,[]⟩=pure (ps.zip us))
 (db:∀ (f:Addr) (cdv:Value) (A:Around) (outer:List Env) (s:Shared) (H:Hp) (E:XK),Room k (A.deeper (envOfC x (ao st) s.heap.objs.size f cdv))->
  DSs K mg (cQ (CX1 P w) P w K mg base N x (ao st) f cdv A outer s H E) (λ_=>E) (bf st) F):Callee P w K mg base x (k + 1) ps (spD K mg ps.length (fnD N.length F)):=by
 refine D.okR S hb (λvs H Q E ⟨ρ,h,ds,w,rs,hl,p⟩=>by rw[<- rs.len];exact hl) λf cdv A outer s H vs Q E hr ⟨ρ,h,ds,w',rs,hl,p⟩=>?_
 refine⟨_,db f cdv A outer s H E hr,ρ,h,_,w',oO rs,?_⟩
 unfold fnD at p
 split at p
 ·rename_i e;rw[e];exact λρ1 H1 σ1 l1 w1 re1=>p ρ1 H1 l1 w1 _ .non
 ·rename_i e;rw[e];exact λρ1 H1 v l1 w1 rv=>p ρ1 H1 l1 w1 v rv
 ·rename_i e;rw[e];exact λρ1 H1 σ1 C l1 w1 re1 m=>p ρ1 H1 C l1 w1 m
 ·exact p.elim
end
end L2
namespace L2
open PySem PySem.Spec PyProof.Rows
def aO (h:AH) (n:Nat):Option (List D):=match h[n]? with
 | some (.lst xs)=>some xs
 | some (.fz xs)=>some xs
 | _=>none
def bZ (h:AH):D->Option (List D)
 | .tup xs=>some xs
 | .ref n=>aO h n
 | .kl xs=>some xs
 | _=>none
section
variable {K:W.Frag}{mg:Str->Option Value}{ρ:List Addr}{H:Hp}{h:AH}
theorem bM (w:Wd K mg ρ h H) {n:Nat}{a:Addr}{xs:List D} (ea:ρ[n]?=some a) (e:aO h n=some xs):∃ vs,SqL K H a vs/\RelDs K mg ρ H xs vs:=by
 unfold aO at e
 split at e
 ·rename_i ys eo
  cases e
  obtain⟨vs,h1,h2⟩:=w.ob n a _ ea eo
  exact⟨vs,SqL.of h1,h2⟩
 ·rename_i ys eo
  cases e
  obtain⟨o,vs,h1,h2⟩:=w.ob n a _ ea eo
  exact⟨vs,.inl (.inr ⟨o,h1⟩),h2⟩
 ·cases e
theorem cZ (w:Wd K mg ρ h H) {d:D}{v:V}{xs:List D} (r:RelD K mg ρ H d v) (e:bZ h d=some xs):∃ p vs,v=.ref p/\(SqL K H p vs\/SqT K H p vs)/\RelDs K mg ρ H xs vs:=by
 cases r with
 |
  tup q rs=>
  have e':some _=some xs:=e
  cases e'
  exact⟨_,_,rfl,.inr q,rs⟩
 |
  ref ea=>
  obtain⟨vs,h1,h2⟩:=bM w ea e
  exact⟨_,vs,rfl,.inl h1,h2⟩
 |
  kl q rs=>
  have e':some _=some xs:=e
  cases e'
  exact⟨_,_,rfl,.inl (.inr q),rs⟩
 | _=>cases e
end
def g2 (f:Int->Int->R D) (x y:D):R D:=match x,y with
 | .int i,.int j=>f i j
 | _,_=>.stuck
def gI (f:Int->Int->D):D->D->AH->R D:=λx y h=>match x,y with
 | .int i,.int j=>.ok (f i j) h
 | _,_=>.stuck
open Classical in
def gIc (C:Int->Int->Prop) (f:Int->Int->D):D->D->AH->R D:=λx y h=>match x,y with
 | .int i,.int j=>if C i j then .ok (f i j) h else .stuck
 | _,_=>.stuck
section
variable {K:W.Frag}{mg:Str->Option Value}{X:Cx}
theorem g9 {f:Int->Int->V}{g:Int->Int->D} (hr:∀ i j ρ H,RelD K mg ρ H (g i j) (f i j)):OpD K mg (rI0 f) (gI g):=λρ h H dx dy x y Q E w rx ry p=>by
 unfold gI at p
 split at p
 ·cases rx;cases ry;exact⟨_,_,rfl,rfl,ay w (hr _ _ ρ H) p⟩
 ·exact p.elim
theorem k8 {C:Int->Int->Prop}{f:Int->Int->V}{g:Int->Int->D} (hr:∀ i j ρ H,RelD K mg ρ H (g i j) (f i j)):OpD K mg (rI C f) (gIc C g):=λρ h H dx dy x y Q E w rx ry p=>by
 unfold gIc at p
 split at p
 ·cases rx;cases ry
  split at p
  ·rename_i hc;exact⟨_,_,rfl,rfl,hc,ay w (hr _ _ ρ H) p⟩
  ·exact p.elim
 ·exact p.elim
def gOr (g g':D->D->AH->R D):D->D->AH->R D:=λx y h=>match g x y h with
 | .stuck=>g' x y h
 | r=>r
theorem OpD.or {r r':R2}{g g':D->D->AH->R D} (a:OpD K mg r g) (b:OpD K mg r' g'):OpD K mg (λx y H Q=>r x y H Q\/r' x y H Q) (gOr g g'):=λρ h H dx dy x y Q E w rx ry p=>by
 unfold gOr at p
 split at p
 ·exact .inr (b ρ h H dx dy x y Q E w rx ry p)
 ·exact .inl (a ρ h H dx dy x y Q E w rx ry p)
end
def iN:D->D->AH->R D:=λx y h=>match x,y with
 | .ref n,.ref m=>match h[n]?,h[m]? with
  | some (.lst xs),some (.lst ys)=>if xs.length + ys.length<=16777216 then .ok (.ref h.length) (h++[.lst (xs++ys)]) else .stuck
  | _,_=>.stuck
 | .tup xs,.tup ys=>if xs.length + ys.length<=16777216 then .ok (.tup (xs++ys)) h else .stuck
 | _,_=>.stuck
def gIx:D->D->AH->R D:=λx y h=>match bZ h x,y with
 | some xs,.int i=>match atI xs i with
  | some d=>.ok d h
  | none=>.stuck
 | _,_=>.stuck
section
variable {K:W.Frag}{mg:Str->Option Value}{X:Cx}
def iC (K:W.Frag):R2:=λx y H Q=>∃ a b ys,x=.ref a/\y=.ref b/\SqT K H a []/\SqT K H b ys/\Q (.ref b) H
theorem xo:OpR X (binaryOp .Add) (iC X.K):=by
 intro pins s σ H x y v u Q I rx ry h
 obtain⟨a,b,ys,rfl,rfl,ha,hb,q⟩:=h
 cases rx
 cases ry
 obtain⟨its,r1,p1,_⟩:=I.tuple ha
 obtain⟨its2,r2,p2,_⟩:=I.tuple hb
 have e:its=[]:=r1.nil_iff.mpr rfl
 subst e
 obtain⟨⟨cls,dd,data,sl⟩,ho,hc,n,hd⟩:=id p1
 obtain⟨⟨cls2,dd2,data2,sl2⟩,ho2,hc2,n2,hd2⟩:=id p2
 simp only at hc hd hc2 hd2
 subst hc hd hc2 hd2
 exact concat_meets ⟨_,ho,rfl⟩ ⟨_,ho2,rfl⟩ noFill_tuple_add seq_tuple_add PySem.F.slot_tuple_add PySem.F.entry_tuple_add (PySem.F.args_tuple_add_2 _ _)
  (tuple_addW0 _ _ _ _ n n2 dd dd2 sl sl2 rfl) ⟨ho,ho2,⟨.ref b,H,I,rfl,q⟩⟩
theorem yc:OpD K mg (λx y H Q=>jZ x y H Q\/(iF K x y H Q\/iC K x y H Q)) iN:=λρ h H dx dy x y Q E w rx ry p=>by
 unfold iN at p
 split at p
 ·cases
   rx with
  |
   ref ea=>
   cases ry with
   |
    ref eb=>
    split at p
    ·rename_i xs ys e1 e2
     split at p
     ·rename_i hl
      obtain⟨vs,q1,r1⟩:=w.ob _ _ _ ea e1
      obtain⟨ws,q2,r2⟩:=w.ob _ _ _ eb e2
      exact .inl ⟨_,_,vs,ws,rfl,rfl,q1,q2,by rw[<- r1.len,<- r2.len];exact hl,λp' hp=>dO w (r1.append r2) hp p⟩
     ·exact p.elim
    ·exact p.elim
 ·cases
   rx with
  |
   tup q1 r1=>
   cases ry with
   |
    tup q2 r2=>
    split at p
    ·rename_i hl
     cases r1 with
     | nil=>exact .inr (.inr ⟨_,_,_,rfl,rfl,q1,q2,ay w (.tup q2 r2) p⟩)
     |
      cons r0 r1=>
      refine .inr (.inl ⟨_,_,_,_,rfl,rfl,q1,q2,(λz=>nomatch z),by rw[<- (RelDs.cons r0 r1).len,<- r2.len];exact hl,λz=>?_,λ_ p' hp=>gi w ((RelDs.cons r0 r1).append r2) hp p⟩)
      subst z
      cases r2
      rw[List.append_nil] at p
      exact ay w (.tup q1 (.cons r0 r1)) p
    ·exact p.elim
 ·exact p.elim
theorem xN {ρ:List Addr}{H:Hp}{xs:List D}{vs:List V} (r:RelDs K mg ρ H xs vs) {i:Int}{d:D} (e:atI xs i=some d):∃ v,atI vs i=some v/\RelD K mg ρ H d v:=by
 unfold atI at e ⊢
 rw[<- r.len]
 cases q:ixN xs.length i with
 | none=>rw[q] at e;cases e
 | some j=>rw[q] at e;exact r.getD e
theorem zi:OpD K mg (λx y H Q=>pA K x y H Q\/oT K x y H Q) gIx:=λρ h H dx dy x y Q E w rx ry p=>by
 unfold gIx at p
 split at p
 ·rename_i xs i e1
  split at p
  ·rename_i d e2
   cases ry
   obtain⟨pa,vs,rfl,hq,rs⟩:=cZ w rx e1
   obtain⟨v,e3,rv⟩:=xN rs e2
   rcases hq with hq | hq
   ·exact .inl ⟨_,_,_,_,rfl,rfl,hq,e3,ay w rv p⟩
   ·exact .inr ⟨_,_,_,_,rfl,rfl,hq,e3,ay w rv p⟩
  ·exact p.elim
 ·exact p.elim
theorem ixK (h:X.K=K):IxR X (λx y H Q=>pA K x y H Q\/oT K x y H Q):=by subst h;exact wC.or AZ
theorem catK (h:X.K=K):OpR X (binaryOp .Add) (λx y H Q=>jZ x y H Q\/(iF K x y H Q\/iC K x y H Q)):=by subst h;exact zv.or (wm.or xo)
end
def cC:Nat->AH->D->Option PyData
 | 0,_,_=>none
 | _ + 1,_,.non=>some .none
 | _ + 1,_,.bl b=>some (.bool b)
 | _ + 1,_,.int i=>some (.int i)
 | _ + 1,_,.str x=>some (.str x)
 | k + 1,h,.tup xs=>(xs.mapM (cC k h)).map .tuple
 | k + 1,h,.ref n=>match aO h n with
  | some xs=>(xs.mapM (cC k h)).map .list
  | none=>none
 | _ + 1,_,_=>none
theorem kq {K:W.Frag}{mg:Str->Option Value}{ρ:List Addr}{H:Hp}{f:D->Option PyData} (hf:∀ d v pd,RelD K mg ρ H d v->f d=some pd->Rep K H v pd):∀ {xs:List D}{vs:List V}{ps:List PyData},RelDs K mg ρ H xs vs->xs.mapM f=some ps->Reps K H vs ps:=by
 intro xs
 induction xs with
 |
  nil=>
  intro vs ps r e
  cases r
  have e':some []=some _:=e
  cases e';exact .nil
 |
  cons x xs ih=>
  intro vs ps r e
  cases r with
  |
   cons r rr=>
   rw[List.mapM_cons] at e
   cases q:f x with
   | none=>rw[q] at e;cases e
   |
    some pd=>
    rw[q] at e
    cases q2:xs.mapM f with
    | none=>rw[q2] at e;cases e
    |
     some pds=>
     rw[q2] at e
     have e':some (pd :: pds)=some ps:=e
     cases e'
     exact .cons (hf _ _ _ r q) (ih rr q2)
theorem dM {K:W.Frag}{mg:Str->Option Value}{ρ:List Addr}{H:Hp}{h:AH} (w:Wd K mg ρ h H):∀ (k:Nat) {d:D}{v:V}{pd:PyData},RelD K mg ρ H d v->cC k h d=some pd->Rep K H v pd
 | 0,_,_,_,_,e=>by cases e
 |
  k + 1,d,v,pd,r,e=>by
  cases r with
  | non=>have e':some _=some pd:=e;cases e';exact .non
  | bl b=>have e':some _=some pd:=e;cases e';exact .bl b
  | int b=>have e':some _=some pd:=e;cases e';exact .int b
  | str b=>have e':some _=some pd:=e;cases e';exact .str b
  |
   tup q rs=>
   rename_i ds
   have e':(ds.mapM (cC k h)).map PyData.tuple=some pd:=e
   cases q2:ds.mapM (cC k h) with
   | none=>rw[q2] at e';cases e'
   |
    some ps=>
    rw[q2] at e'
    cases e'
    exact .tup q (kq (λd v pd r e=>dM w k r e) rs q2)
  |
   ref ea=>
   rename_i n a
   unfold cC at e
   split at e
   ·rename_i xs e1
    obtain⟨vs,h1,h2⟩:=bM w ea e1
    cases q2:xs.mapM (cC k h) with
    | none=>rw[q2] at e;cases e
    |
     some ps=>
     rw[q2] at e
     cases e
     exact .lst h1 (kq (λd v pd r e=>dM w k r e) h2 q2)
   ·cases e
  | _=>cases e
def gJ (h:AH) (x y:D):Option Bool:=match cC 64 h x,cC 64 h y with
 | some a,some b=>if SeqAt.shaped a=true/\SeqAt.shaped b=true then some (PyData.eqv a b) else none
 | _,_=>none
def gEq (neg:Bool):D->D->AH->R D:=λx y h=>match gJ h x y with
 | some b=>.ok (.bl (if neg then !b else b)) h
 | none=>.stuck
section
variable {K:W.Frag}{mg:Str->Option Value}{X:Cx}
theorem nO {ρ:List Addr}{H:Hp}{h:AH}{dx dy:D}{x y:V}{b:Bool} (w:Wd K mg ρ h H) (rx:RelD K mg ρ H dx x) (ry:RelD K mg ρ H dy y) (e:gJ h dx dy=some b):
 ∃ a c,Rep K H x a/\Rep K H y c/\SeqAt.shaped a=true/\SeqAt.shaped c=true/\PyData.eqv a c=b:=by
 unfold gJ at e
 split at e
 ·rename_i a c e1 e2
  split at e
  ·rename_i hs
   cases e
   exact⟨a,c,dM w 64 rx e1,dM w 64 ry e2,hs.1,hs.2,rfl⟩
  ·cases e
 ·cases e
theorem AI:OpD K mg (pM K) (gEq false):=λρ h H dx dy x y Q E w rx ry p=>by
 unfold gEq at p
 split at p
 ·rename_i b e
  obtain⟨a,c,h1,h2,h3,h4,rfl⟩:=nO w rx ry e
  exact⟨a,c,h1,h2,h3,h4,ay w (.bl _) p⟩
 ·exact p.elim
theorem Ay:OpD K mg (o6 K) (gEq true):=λρ h H dx dy x y Q E w rx ry p=>by
 unfold gEq at p
 split at p
 ·rename_i b e
  obtain⟨a,c,h1,h2,h3,h4,rfl⟩:=nO w rx ry e
  exact⟨a,c,h1,h2,h3,h4,ay w (.bl _) p⟩
 ·exact p.elim
end
def ig:D->Bool
 | .non=>true
 | .bl _=>true
 | .int _=>true
 | .str _=>true
 | _=>false
def toV:D->V
 | .bl b=>.bl b
 | .int i=>.int i
 | .str x=>.str x
 | _=>.non
def eqF (x y:D):Bool:=eqV (toV x) (toV y)
def gIn (neg:Bool):D->D->AH->R D:=λx y h=>match bZ h y with
 | some xs=>if ig x=true/\xs.all ig=true then .ok (.bl (if neg then !(xs.any λd=>eqF d x) else xs.any λd=>eqF d x)) h else .stuck
 | none=>.stuck
section
variable {K:W.Frag}{mg:Str->Option Value}{X:Cx}{ρ:List Addr}{H:Hp}
theorem lL {d:D}{v:V} (r:RelD K mg ρ H d v) (f:ig d=true):v=toV d/\ba v=true:=by
 cases r with
 | non=>exact⟨rfl,rfl⟩
 | bl=>exact⟨rfl,rfl⟩
 | int=>exact⟨rfl,rfl⟩
 | str=>exact⟨rfl,rfl⟩
 | _=>cases f
theorem rf:∀ {ds:List D}{vs:List V},RelDs K mg ρ H ds vs->ds.all ig=true->vs=ds.map toV/\vs.all ba=true:=by
 intro ds
 induction ds with
 |
  nil=>
  intro vs r f
  cases r
  exact⟨rfl,rfl⟩
 |
  cons d0 ds ih=>
  intro vs r f
  cases r with
  |
   cons r rr=>
   rw[List.all_cons,Bool.and_eq_true] at f
   obtain⟨rfl,h1⟩:=lL r f.1
   obtain⟨rfl,h2⟩:=ih rr f.2
   exact⟨rfl,by rw[List.all_cons,h1,h2];rfl⟩
theorem zp (neg:Bool):OpD K mg (rIn K neg) (gIn neg):=λρ h H dx dy x y Q E w rx ry p=>by
 unfold gIn at p
 split at p
 ·rename_i xs e
  split at p
  ·rename_i hf
   obtain⟨pa,vs,rfl,hq,rs⟩:=cZ w ry e
   obtain⟨rfl,f1⟩:=lL rx hf.1
   obtain⟨rfl,f2⟩:=rf rs hf.2
   refine⟨pa,_,rfl,hq,f1,f2,?_⟩
   have e2:inV (toV dx) (xs.map toV)=xs.any λd=>eqF d dx:=by
    unfold inV eqF
    rw[List.any_map];rfl
   rw[e2]
   exact ay w (.bl _) p
  ·exact p.elim
 ·exact p.elim
def gX (neg:Bool):D->D->AH->R D:=λx y h=>match x,y with
 | .non,.non=>.ok (.bl (!neg)) h
 | _,.non=>.ok (.bl neg) h
 | _,_=>.stuck
theorem yd:OpD K mg (λx y H Q=>y=.non/\Q (.bl (decide (x=.non))) H) (gX false):=λρ h H dx dy x y Q E w rx ry p=>by
 unfold gX at p
 split at p
 ·cases rx;cases ry;exact⟨rfl,ay w (.bl _) p⟩
 ·rename_i hne
  cases ry
  refine⟨rfl,?_⟩
  have e:decide (x=V.non)=false:=by
   rw[decide_eq_false_iff_not]
   rintro rfl
   cases rx
   exact hne rfl
  rw[e]
  exact ay w (.bl _) p
 ·exact p.elim
theorem uV:OpD K mg (λx y H Q=>y=.non/\Q (.bl (!decide (x=.non))) H) (gX true):=λρ h H dx dy x y Q E w rx ry p=>by
 unfold gX at p
 split at p
 ·cases rx;cases ry;exact⟨rfl,ay w (.bl _) p⟩
 ·rename_i hne
  cases ry
  refine⟨rfl,?_⟩
  have e:decide (x=V.non)=false:=by
   rw[decide_eq_false_iff_not]
   rintro rfl
   cases rx
   exact hne rfl
  rw[e]
  exact ay w (.bl _) p
 ·exact p.elim
end
end L2
namespace L2
open PySem PySem.Spec PyProof.Rows
inductive AIt where
 | lst (n:Nat) (xs:List D) | tup (xs:List D) | rng (lo:Int) (k:Nat) | enm (s:AIt) | zip (s t:AIt)
def ef:Nat->List D->List D
 | _,[]=>[]
 | i,d :: ds=>.tup [.int (i:Nat),d] :: ef (i + 1) ds
def AIt.items:AIt->List D
 | .lst _ xs=>xs
 | .tup xs=>xs
 | .rng lo k=>(List.range k).map λi=>D.int (lo + (i:Nat))
 | .enm s=>ef 0 s.items
 | .zip s t=>List.zipWith (λx y=>.tup [x,y]) s.items t.items
def AIt.guard:AIt->AH->Prop
 | .lst n xs,h=>aO h n=some xs
 | .enm s,h=>s.guard h
 | .zip s t,h=>s.guard h/\t.guard h
 | _,_=>True
def SrcR (K:W.Frag) (mg:Str->Option Value) (ρ:List Addr) (H:Hp):AIt->Bool->Addr->Prop
 | .lst n _,true,a=>ρ[n]?=some a
 | .tup xs,false,p=>∃ vs,SqT K H p vs/\RelDs K mg ρ H xs vs
 | _,_,_=>False
def ItR (K:W.Frag) (mg:Str->Option Value) (ρ:List Addr) (H:Hp):AIt->It->Prop
 | .lst n _,J=>∃ a,ρ[n]?=some a/\J=Itl K a
 | .tup xs,J=>∃ p vs,SqT K H p vs/\RelDs K mg ρ H xs vs/\J=Itt K p
 | .rng lo k,J=>J=Itr lo k
 | .enm s,J=>∃ b a,SrcR K mg ρ H s b a/\J=tU K b a
 | .zip s t,J=>∃ b c a d,SrcR K mg ρ H s b a/\SrcR K mg ρ H t c d/\J=ItZ K b c a d
theorem mH:∀ {ds:List D}{k i:Nat}{e:D},(ef k ds)[i]?=some e->∃ d,ds[i]?=some d/\e=.tup [.int ((k + i:Nat):Int),d]
 | [],_,_,_,q=>by simp [ef] at q
 | d :: ds,k,0,e,q=>⟨d,rfl,by simpa [ef] using q.symm⟩
 |
  d :: ds,k,i + 1,e,q=>by
  obtain⟨d',q1,q2⟩:=mH (ds:=ds) (k:=k + 1) (i:=i) (e:=e) (by simpa [ef] using q)
  refine⟨d',by simpa using q1,?_⟩
  rw[q2]
  congr 4
  omega
theorem lT:∀ (ds:List D) (k:Nat),(ef k ds).length=ds.length
 | [],_=>rfl
 | _ :: ds,k=>by show (ef (k + 1) ds).length + 1=ds.length + 1;rw[lT ds]
section
variable {K:W.Frag}{mg:Str->Option Value}{ρ ρ1:List Addr}{H H1:Hp}{h h1:AH}
theorem SrcR.at_ {s:AIt}{b:Bool}{a:Addr} (r:SrcR K mg ρ H s b a) (l:Le ρ H ρ1 H1) (w:Wd K mg ρ1 h1 H1) (g:s.guard h1):∃ vs,SqB K b H1 a vs/\RelDs K mg ρ1 H1 s.items vs:=by
 cases s with
 |
  lst n xs=>
  cases b with
  | true=>exact bM w (l.pre _ _ r) g
  | false=>exact r.elim
 |
  tup xs=>
  cases b with
  | true=>exact r.elim
  | false=>obtain⟨vs,q,rs⟩:=r;exact⟨vs,l.sqT q,rs.mono l⟩
 | rng _ _=>cases b <;> exact r.elim
 | enm _=>cases b <;> exact r.elim
 | zip _ _=>cases b <;> exact r.elim
theorem ItR.step {it:AIt}{J:It} (hJ:ItR K mg ρ H it J) (l:Le ρ H ρ1 H1) (w:Wd K mg ρ1 h1 H1) (g:it.guard h1):
 (∀ (i:Nat) (d:D),it.items[i]?=some d->J.go i H1/\∀ x H',J.yld i H1 x H'->Le ρ1 H1 ρ1 H'/\Wd K mg ρ1 h1 H'/\RelD K mg ρ1 H' d x)/\J.stop it.items.length H1:=by
 cases it with
 |
  lst n xs=>
  obtain⟨a,ea,rfl⟩:=hJ
  obtain⟨vs,q,rs⟩:=bM w (l.pre _ _ ea) g
  refine⟨λi d e=>?_,vs,q,by rw[<- rs.len];exact Nat.le_refl _⟩
  obtain⟨v,ev,rv⟩:=rs.getD e
  refine⟨⟨vs,v,q,ev⟩,λx H' ⟨e1,y⟩=>?_⟩
  subst e1
  have:=(y vs q).symm.trans ev
  cases this
  exact⟨Le.refl,w,rv⟩
 |
  tup xs=>
  obtain⟨p,vs,q,rs,rfl⟩:=hJ
  have q1:=l.sqT q
  have rs1:=rs.mono l
  refine⟨λi d e=>?_,vs,q1,by rw[<- rs1.len];exact Nat.le_refl _⟩
  obtain⟨v,ev,rv⟩:=rs1.getD e
  refine⟨⟨vs,v,q1,ev⟩,λx H' ⟨e1,y⟩=>?_⟩
  subst e1
  have:=(y vs q1).symm.trans ev
  cases this
  exact⟨Le.refl,w,rv⟩
 |
  rng lo k=>
  cases hJ
  refine⟨λi d e=>?_,?_⟩
  ·have e':((List.range k).map λi=>D.int (lo + (i:Nat)))[i]?=some d:=e
   rw[List.getElem?_map] at e'
   cases q:(List.range k)[i]? with
   | none=>rw[q] at e';cases e'
   |
    some j=>
    rw[q] at e'
    have hj:=List.getElem?_eq_some_iff.mp q
    have e2:=hj.2
    rw[List.getElem_range] at e2
    subst e2
    cases e'
    refine⟨show i < k by simpa using hj.1,λx H' ⟨e1,e2⟩=>?_⟩
    subst e1 e2
    exact⟨Le.refl,w,.int _⟩
  ·show k<=((List.range k).map λi=>D.int (lo + (i:Nat))).length
   simp
 |
  enm s=>
  obtain⟨b,a,r,rfl⟩:=hJ
  obtain⟨vs,q,rs⟩:=r.at_ l w g
  refine⟨λi d e=>?_,vs,q,by show vs.length=(ef 0 s.items).length;rw[lT,rs.len]⟩
  obtain⟨d',q1,rfl⟩:=mH (show (ef 0 s.items)[i]?=some d from e)
  obtain⟨v,ev,rv⟩:=rs.getD q1
  refine⟨⟨vs,v,q,ev⟩,λx H' ⟨p,u,e1,hp,e2,hu⟩=>?_⟩
  subst e1 e2
  have:=(hu vs q).symm.trans ev
  cases this
  rw[Nat.zero_add]
  exact⟨cK hp,w.tuple hp,.tup (SqT.of bH) (.cons (.int _) (.cons (rv.mono (cK hp)) .nil))⟩
 |
  zip s t=>
  obtain⟨b,c,a,d,r1,r2,rfl⟩:=hJ
  obtain⟨vs,q,rs⟩:=r1.at_ l w g.1
  obtain⟨us,q',rs'⟩:=r2.at_ l w g.2
  refine⟨λi e ei=>?_,vs,us,q,q',?_⟩
  ·have ei':(List.zipWith (λx y=>D.tup [x,y]) s.items t.items)[i]?=some e:=ei
   rw[List.getElem?_zipWith] at ei'
   cases k1:s.items[i]? with
   | none=>rw[k1] at ei';cases ei'
   |
    some d1=>
    cases k2:t.items[i]? with
    | none=>rw[k1,k2] at ei';cases ei'
    |
     some d2=>
     rw[k1,k2] at ei'
     cases ei'
     obtain⟨v,ev,rv⟩:=rs.getD k1
     obtain⟨v',ev',rv'⟩:=rs'.getD k2
     refine⟨⟨vs,us,v,v',q,q',ev,ev'⟩,λx H' ⟨p,u,u',e1,hp,e2,hu,hu'⟩=>?_⟩
     subst e1 e2
     have:=(hu vs q).symm.trans ev
     cases this
     have:=(hu' us q').symm.trans ev'
     cases this
     exact⟨cK hp,w.tuple hp,.tup (SqT.of bH) (.cons (rv.mono (cK hp)) (.cons (rv'.mono (cK hp)) .nil))⟩
  ·have hl:(AIt.zip s t).items.length=min s.items.length t.items.length:=List.length_zipWith ..
   rw[hl,rs.len,rs'.len]
   rcases Nat.le_total vs.length us.length with z | z
   ·left;rw[Nat.min_eq_left z];exact List.getElem?_eq_none (Nat.le_refl _)
   ·right;rw[Nat.min_eq_right z];exact List.getElem?_eq_none (Nat.le_refl _)
end
def SR.loop (r:SR) (f:AE->AH->SR):SR:=match r with
 | .nx ae h=>f ae h
 | .ct ae h=>f ae h
 | .bk ae h=>.nx ae h
 | .rt d h=>.rt d h
 | .exc c ae h=>.exc c ae h
 | .stuck=>.stuck
open Classical in
def dQ (G:AH->Prop) (g:MG) (B:MS):List D->MS
 | [],ae,h=>if G h then .nx ae h else .stuck
 | d :: ds,ae,h=>if G h then (g d ae h).toS ae λae1 h1=>(B ae1 h1).loop (dQ G g B ds) else .stuck
abbrev MI:=AE->AH->R AIt
def jT (I:MI) (g:MG) (B:MS):MS:=λae h=>(I ae h).toS ae λit h1=>dQ it.guard g B it.items ae h1
open Classical in
def lcL (G:AH->Prop) (g:MG) (c:MT) (F:ME):List D->List D->AE->AH->R (List D)
 | [],acc,_,h=>if G h then .ok acc h else .stuck
 | d :: ds,acc,ae,h=>if G h/\acc.length < 16777216 then (g d ae h).bind λae1 h1=>(c ae1 h1).bind λb h2=>if b=true then (F ae1 h2).bind λy h3=>lcL G g c F ds (acc++[y]) ae1 h3 else lcL G g c F ds acc ae1 h2 else .stuck
def gq (sub:List (Option Nat)) (ae:AE):AE:=sub.map λo=>o.bind λi=>(ae[i]?).bind id
def eLC (I:MI) (sub:List (Option Nat)) (g:MG) (c:MT) (F:ME):ME:=λae h=>(I ae h).bind λit h1=>(noX (lcL it.guard g c F it.items [] (gq sub ae) h1)).bind bp
def tY:MT:=λ_ h=>.ok true h
section
variable (K:W.Frag) (mg:Str->Option Value)
def rdI (ES:St->XK) (F:MI):TI:=λσ H R'=>∃ ρ h ae,Wd K mg ρ h H/\RelE K mg ρ H ae σ/\PostG K mg ρ H (ES σ) (λit _ ρ' H'=>∀ J,ItR K mg ρ' H' it J->R' J H') (F ae h)
def DI (X:Cx) (ES:St->XK) (tg ad:Expr) (F:MI):Prop:=PI X tg ad (rdI K mg ES F)
end
def tf (F:ME):MI:=λae h=>(F ae h).bind λd h1=>match d with
 | .tup xs=>.ok (.tup xs) h1
 | .ref n=>match aO h1 n with
  | some xs=>.ok (.lst n xs) h1
  | none=>.stuck
 | _=>.stuck
def sA (A:MA):MI:=λae h=>(A ae h).bind λds h1=>match ds with
 | [.int j]=>if -(2 ^ 62)<=j/\j < 2 ^ 62 then .ok (.rng 0 j.toNat) h1 else .stuck
 | _=>.stuck
def fb (d:D) (h:AH):Option AIt:=match d with
 | .tup xs=>some (.tup xs)
 | .ref n=>(aO h n).map (.lst n)
 | _=>none
def ud (A:MA):MI:=λae h=>(A ae h).bind λds h1=>match ds with
 | [d]=>(match fb d h1 with
  | some s=>.ok (.enm s) h1
  | none=>.stuck)
 | _=>.stuck
section
variable {K:W.Frag}{mg:Str->Option Value}{X:Cx}{ES:St->XK}{tg ad e a b c ci:Expr}{F:ME}{A:MA}{I:MI}{g:MG}{cf:MT}{U:MS}{sts:List Stmt}{pos:Pos}
theorem PI.imp {t t':TI} (h:PI X tg ad t) (k:∀ σ H Q,t' σ H Q->t σ H Q):PI X tg ad t':=λpins s σ H Q I w=>h pins s σ H Q I (k σ H Q w)
theorem yA {l:Expr}{tl:TE} (hl:PE X l tl):PI X tg l (λσ H R=>tl σ H λx H1=>(∃ a,x=.ref a/\(∃ xs,SqL X.K H1 a xs)/\R (Itl X.K a) H1)\/(∃ a,x=.ref a/\(∃ xs,SqT X.K H1 a xs)/\R (Itt X.K a) H1)):=by
 intro pins s σ H R I h
 refine thn (hl pins s σ H _ I h) λv s1 ⟨x,H1,I1,r1,q1⟩=>?_
 rcases q1 with ⟨a,e,⟨xs,hq⟩,q⟩ | ⟨a,e,⟨xs,hq⟩,q⟩
 ·subst e
  cases r1
  obtain⟨its,rv,p,hz⟩:=I1.list hq
  refine wpAny_pyIter_list p.isList ?_
  refine⟨s1.heap.objs.size,[s1.heap.objs.size],_,_,H1,rfl,I1.kept (t':=s1.toks) λb o e=>Heap.get?_push_of_some _ e,rq a _,⟨_,Heap.get?_push_size _ rfl,rfl,rfl⟩,λb hb=>?_,q⟩
  have e:b=s1.heap.objs.size:=by simpa using hb
  subst e
  exact I1.fpOk (Nat.le_refl _) (I1.hok.fresh (Nat.le_refl _))
 ·subst e
  cases r1
  obtain⟨its,rv,p,hz⟩:=I1.tuple hq
  refine wpAny_pyIter_tuple (show s1.heap.IsTuple a its.toArray from p) ?_
  refine⟨s1.heap.objs.size,[s1.heap.objs.size],_,_,H1,rfl,I1.kept (t':=s1.toks) λb o e=>Heap.get?_push_of_some _ e,pD a _,⟨_,Heap.get?_push_size _ rfl,rfl,rfl⟩,λb hb=>?_,q⟩
  have e:b=s1.heap.objs.size:=by simpa using hb
  subst e
  exact I1.fpOk (Nat.le_refl _) (I1.hok.fresh (Nat.le_refl _))
theorem Bn (hK:X.K=K) (he:DE K mg X ES e F):DI K mg X ES tg e (tf F):=by
 subst hK
 refine PI.imp (yA he) λσ H R ⟨ρ,h,ae,w,re,p⟩=>⟨ρ,h,ae,w,re,p.bind.imp λd h1 ρ1 H1 l1 w1 p1 v rv=>?_⟩
 cases rv with
 | tup q rs=>exact .inr ⟨_,rfl,⟨_,q⟩,p1 ρ1 H1 Le.refl w1 _ ⟨_,_,q,rs,rfl⟩⟩
 |
  ref ea=>
  dsimp only at p1
  split at p1
  ·rename_i xs e1
   obtain⟨vs,q,rs⟩:=bM w1 ea e1
   exact .inl ⟨_,rfl,⟨_,q⟩,p1 ρ1 H1 Le.refl w1 _ ⟨_,ea,rfl⟩⟩
  ·exact p1.elim
 | _=>exact p1.elim
theorem rR {p:Pos} (hg:Gl X "range") (hm:mg "range"=none) (ha:DA K mg X ES [a] A) (hk:X.mg=mg:=by rfl) (hs:starEach [a] X.env=[(false,eval a X.env)]:=by rfl):DI K mg X ES tg (.Call (.Name "range" p) [a] [] pos) (sA A):=by
 subst hk
 refine PI.imp (rK hg hm ha hs) λσ H R ⟨ρ,h,ae,w,re,p⟩=>⟨ρ,h,ae,w,re,p.bind.imp λds h1 ρ1 H1 l1 w1 p1 vs rs=>?_⟩
 split at p1
 ·cases rs with
  |
   cons r rs=>
   cases r;cases rs
   split at p1
   ·rename_i hb
    exact⟨_,rfl,hb.1,hb.2,p1 ρ1 H1 Le.refl w1 _ rfl⟩
   ·exact p1.elim
 ·exact p1.elim
theorem pX {ρ:List Addr}{H:Hp}{h:AH}{d:D}{v:V}{s:AIt} (w:Wd K mg ρ h H) (r:RelD K mg ρ H d v) (q:fb d h=some s):∃ b p,v=.ref p/\SrcR K mg ρ H s b p/\∃ vs,SqB K b H p vs:=by
 cases r with
 | tup hq rs=>cases q;exact⟨false,_,rfl,⟨_,hq,rs⟩,_,hq⟩
 |
  ref ea=>
  obtain⟨xs,q1,rfl⟩:=Option.map_eq_some_iff.mp q
  obtain⟨vs,h1,h2⟩:=bM w ea q1
  exact⟨true,_,rfl,ea,vs,h1⟩
 | _=>cases q
theorem wg {elts:List Expr}{x1:Nat}{tp p:Pos} (hK:X.K=K) (hg:Gl X "enumerate") (hm:mg "enumerate"=none) (ha:DA K mg X ES [a] A) (hk:X.mg=mg:=by rfl) (hs:starEach [a] X.env=[(false,eval a X.env)]:=by rfl):DI K mg X ES (.Tuple elts x1 tp) (.Call (.Name "enumerate" p) [a] [] pos) (ud A):=by
 subst hk hK
 refine PI.imp (vX hg hm ha hs) λσ H R ⟨ρ,h,ae,w,re,p⟩=>⟨ρ,h,ae,w,re,p.bind.imp λds h1 ρ1 H1 l1 w1 p1 vs rs=>?_⟩
 split at p1
 ·cases rs with
  |
   cons r rs=>
   cases rs
   split at p1
   ·rename_i s q
    obtain⟨b,pa,rfl,sr,xs,hx⟩:=pX w1 r q
    exact⟨b,pa,xs,rfl,hx,p1 ρ1 H1 Le.refl w1 _ ⟨b,pa,sr,rfl⟩⟩
   ·exact p1.elim
 ·exact p1.elim
theorem mP {ρ:List Addr}{H:Hp}{De:Ends}{r:SR}{f:AE->AH->SR}{N:St->Hp->Prop} (p:PostS K mg ρ H De ES (r.loop f)) (i:∀ ae1 h1 ρ1 H1 σ1,Le ρ H ρ1 H1->Wd K mg ρ1 h1 H1->RelE K mg ρ1 H1 ae1 σ1->PostS K mg ρ1 H1 De ES (f ae1 h1)->N σ1 H1):
 PostS K mg ρ H { De with nx:=N,ct:=N,bk:=De.nx } ES r:=by
 cases r with
 | nx ae1 h1=>exact λρ1 H1 σ1 l1 w1 re1=>i ae1 h1 ρ1 H1 σ1 l1 w1 re1 (PostS.mono l1 p)
 | rt d h1=>exact p
 | bk ae1 h1=>exact p
 | ct ae1 h1=>exact λρ1 H1 σ1 l1 w1 re1=>i ae1 h1 ρ1 H1 σ1 l1 w1 re1 (PostS.mono l1 p)
 | exc c ae1 h1=>exact p
 | stuck=>exact p
theorem rP (hp:PassesOwn (model X.prog X.w) X.A X.env X.xe) (hc:X.calm=true) (hi:DI K mg X ES tg ad I) (hg:DG K mg X ES tg g) (hb:DSs K mg X ES sts U)
 (hs:∀ x,foldedSetIterable ad X.env x=pure x:=by intro _;rfl):DS K mg X ES (.For tg ad sts [] pos) (jT I g U):=by
 refine PS.imp (AF hp hc hi hg hb hs) λDe σ H q_=>q_.el λρ h ae w re p=>⟨ρ,h,ae,w,re,bK p re λit h1 ρ1 H1 l1 w1 re1 p1 J hJ=>?_⟩
 refine⟨λi m σ2 H2=>m=it.items.length - i/\i<=it.items.length/\∃ ρ2 h2 ae2,Le ρ1 H1 ρ2 H2/\Wd K mg ρ2 h2 H2/\RelE K mg ρ2 H2 ae2 σ2/\PostS K mg ρ2 H2 De ES (dQ it.guard g U (it.items.drop i) ae2 h2),⟨_,rfl,Nat.zero_le _,ρ1,h1,ae,Le.refl,w1,re1,p1⟩,?_⟩
 rintro i m σ2 H2 ⟨rfl,hi',ρ2,h2,ae2,l2,w2,re2,p2⟩
 by_cases hlt:i < it.items.length
 ·have hd:it.items.drop i=it.items[i] :: it.items.drop (i + 1):=List.drop_eq_getElem_cons hlt
  rw[hd] at p2
  unfold dQ at p2
  split at p2
  ·rename_i hG
   obtain⟨st,_⟩:=hJ.step l2 w2 hG
   obtain⟨go,yl⟩:=st i it.items[i] (List.getElem?_eq_getElem hlt)
   refine .inr ⟨go,λσ' H'=>∃ ρ3 h3 ae3,Le ρ1 H1 ρ3 H'/\Wd K mg ρ3 h3 H'/\RelE K mg ρ3 H' ae3 σ'/\PostS K mg ρ3 H' De ES (dQ it.guard g U (it.items.drop (i + 1)) ae3 h3),
    λσ' H' ⟨ρ3,h3,ae3,q⟩=>⟨_,by omega,rfl,hlt,ρ3,h3,ae3,q⟩,λx H' hy=>?_⟩
   obtain⟨ly,wy,rx⟩:=yl x H' hy
   refine⟨ρ2,h2,ae2,_,wy,re2.mono ly,rx,bK (PostS.mono ly p2) (re2.mono ly) λae3 h3 ρ3 H3 l3 w3 re3 p3 σ' re'=>⟨ρ3,h3,ae3,w3,re',mP p3 λae4 h4 ρ4 H4 σ4 l4 w4 re4 p4=>⟨ρ4,h4,ae4,((l2.trans ly).trans l3).trans l4,w4,re4,p4⟩⟩⟩
  ·exact p2.elim
 ·have hi2:i=it.items.length:=by omega
  subst hi2
  rw[List.drop_length] at p2
  unfold dQ at p2
  split at p2
  ·rename_i hG
   exact .inl ⟨(hJ.step l2 w2 hG).2,eZ p2 w2 re2⟩
  ·exact p2.elim
theorem sf {ρ:List Addr}{H:Hp}{ae:AE}{σ:St} (re:RelE K mg ρ H ae σ) (sub:List (Option Nat)):RelE K mg ρ H (gq sub ae) (bL sub σ):=by
 unfold gq bL
 refine⟨by rw[List.length_map,List.length_map],λj d e=>?_⟩
 rw[List.getElem?_map] at e ⊢
 cases q:sub[j]? with
 | none=>rw[q] at e;cases e
 |
  some o=>
  rw[q] at e
  cases o with
  | none=>cases e
  |
   some i=>
   have e':(ae[i]?).bind id=some d:=Option.some.inj e
   cases q2:ae[i]? with
   | none=>rw[q2] at e';cases e'
   |
    some z=>
    rw[q2] at e'
    have e3:z=some d:=e'
    subst e3
    obtain⟨v,h1,h2⟩:=re.at_ i d q2
    refine⟨v,?_,h2⟩
    show some ((σ[i]?).bind id)=some (some v)
    rw[h1];rfl
theorem iX {α:Type}{ρ:List Addr}{H:Hp}{E:XK}{r:R α}{f:α->AH->R (List D)}{m:List D->AH->R D}{k:D->AH->List Addr->Hp->Prop} (p:PostG K mg ρ H E k ((noX (r.bind f)).bind m)):
 PostG K mg ρ H E0 (λa h1 ρ' H'=>PostG K mg ρ' H' E k ((noX (f a h1)).bind m)) r:=by
 cases r with
 | ok a h1=>exact λρ1 H1 l1 w1=>PostG.mono l1 p
 | exc c h1=>exact p.elim
 | stuck=>exact p.elim
theorem oP {sub:List (Option Nat)} (σ:St) (H:Hp) (Q:VK) (q:rdE K mg ES (eLC I sub g cf F) σ H Q):gb (rdI K mg ES I) sub (rdG K mg (λ_=>E0) g) (rdT K mg (λ_=>E0) cf) (rdE K mg (λ_=>E0) F) σ H Q:=by
 obtain⟨ρ,h,ae,w,re,p⟩:=q
 refine⟨ρ,h,ae,w,re,p.bind.imp λit h1 ρ1 H1 l1 w1 p1 J hJ=>?_⟩
 have re1:=sf (re.mono l1) sub
 refine⟨λi m ys σ2 H2=>m=it.items.length - i/\i<=it.items.length/\∃ ρ2 h2 ae2 acc,Le ρ1 H1 ρ2 H2/\Wd K mg ρ2 h2 H2/\RelE K mg ρ2 H2 ae2 σ2/\RelDs K mg ρ2 H2 acc ys/\
  PostG K mg ρ2 H2 (ES σ) (λd _ ρ' H'=>∀ v,RelD K mg ρ' H' d v->Q v H') ((noX (lcL it.guard g cf F (it.items.drop i) acc ae2 h2)).bind bp),
  ⟨_,rfl,Nat.zero_le _,ρ1,h1,gq sub ae,[],Le.refl,w1,re1,.nil,p1⟩,?_⟩
 rintro i m ys σ2 H2 ⟨rfl,hi',ρ2,h2,ae2,acc,l2,w2,re2,rs,p2⟩
 by_cases hlt:i < it.items.length
 ·have hd:it.items.drop i=it.items[i] :: it.items.drop (i + 1):=List.drop_eq_getElem_cons hlt
  rw[hd] at p2
  unfold lcL at p2
  split at p2
  ·rename_i hG
   obtain⟨st,_⟩:=hJ.step l2 w2 hG.1
   obtain⟨go,yl⟩:=st i it.items[i] (List.getElem?_eq_getElem hlt)
   refine .inr ⟨go,by rw[<- rs.len];exact hG.2,λys' σ' H'=>∃ ρ3 h3 ae3 acc3,Le ρ1 H1 ρ3 H'/\Wd K mg ρ3 h3 H'/\RelE K mg ρ3 H' ae3 σ'/\RelDs K mg ρ3 H' acc3 ys'/\
    PostG K mg ρ3 H' (ES σ) (λd _ ρ' H'=>∀ v,RelD K mg ρ' H' d v->Q v H') ((noX (lcL it.guard g cf F (it.items.drop (i + 1)) acc3 ae3 h3)).bind bp),
    λys' σ' H' ⟨ρ3,h3,ae3,acc3,q⟩=>⟨_,by omega,rfl,hlt,ρ3,h3,ae3,acc3,q⟩,λx H' hy=>?_⟩
   obtain⟨ly,wy,rx⟩:=yl x H' hy
   refine⟨ρ2,h2,ae2,_,wy,re2.mono ly,rx,(iX (PostG.mono ly p2)).imp λae3 h3 ρ3 H3 l3 w3 p3 σ3 re3=>⟨ρ3,h3,ae3,w3,re3,(iX p3).imp λb h4 ρ4 H4 l4 w4 p4=>?_⟩⟩
   cases b with
   | true=>exact⟨ρ4,h4,ae3,w4,re3.mono l4,(iX p4).imp λy h5 ρ5 H5 l5 w5 p5 v rv=>⟨ρ5,h5,ae3,acc++[y],(((l2.trans ly).trans l3).trans l4).trans l5,w5,(re3.mono l4).mono l5,((((rs.mono ly).mono l3).mono l4).mono l5).append (.cons rv .nil),p5⟩⟩
   | false=>exact⟨ρ4,h4,ae3,acc,((l2.trans ly).trans l3).trans l4,w4,re3.mono l4,((rs.mono ly).mono l3).mono l4,p4⟩
  ·exact p2.elim
 ·have hi2:i=it.items.length:=by omega
  subst hi2
  rw[List.drop_length] at p2
  unfold lcL at p2
  split at p2
  ·rename_i hG
   refine .inl ⟨(hJ.step l2 w2 hG).2,?_⟩
   have p3:PostG K mg ρ2 H2 (ES σ) (λd _ ρ' H'=>∀ v,RelD K mg ρ' H' d v->Q v H') (bp acc h2):=p2
   unfold bp at p3
   split at p3
   ·rename_i hl
    exact⟨by rw[<- rs.len];exact hl,λq hq=>dO w2 rs hq p3⟩
   ·exact p3.elim
  ·exact p2.elim
theorem Bt {scope:Scope} (M:List Str) (kn:List (Str×NameKind)) (N:List Str) (sub:List (Option Nat))
 (hc:X.calm=true) (hi:DI K mg X ES tg ad I)
 (hg:∀ cl C s₂ H fp,DG K mg (aE X N scope cl C s₂ H fp) (λ_=>E0) tg g) (he:∀ cl C s₂ H fp,DE K mg (aE X N scope cl C s₂ H fp) (λ_=>E0) ci F)
 (hM:X.N=M:=by rfl) (hkn:X.env.scope.names=kn:=by rfl) (bv:dE M scope.names sub N=true:=by decide)
 (hk:scope.kind=.function:=by rfl) (hnc:∀ x ∈ scope.names,x.2 ≠ .cell:=by decide) (bd:∀ x ∈ scope.names,x.2=.local->scope.names.lookup x.1=some .local:=by decide)
 (hfr:eP kn scope.names=true:=by decide)
 (hsl:sub.length=N.length:=by rfl) (hs:∀ x,foldedSetIterable ad X.env x=pure x:=by intro _;rfl):
 DE K mg X ES (.ListComp ci [⟨tg,ad,[],0⟩] scope pos) (eLC I sub g tY F):=
 PE.imp (BQ M kn N sub hc hi hg he hM hkn bv hk hnc bd hfr hsl hs) λσ H Q q=>by
  have:=oP (cf:=tY) σ H Q q
  obtain⟨ρ,h,ae,w,re,p⟩:=this
  refine⟨ρ,h,ae,w,re,p.imp λit h1 ρ1 H1 l1 w1 k J hJ=>?_⟩
  obtain⟨W,w0,tn⟩:=k J hJ
  refine⟨W,w0,λi m ys σ2 H2 hW=>?_⟩
  rcases tn i m ys σ2 H2 hW with z | ⟨go,hl,Nx,hN,st⟩
  ·exact .inl z
  ·refine .inr ⟨go,hl,Nx,hN,λx H' hy=>?_⟩
   obtain⟨ρ3,h3,ae3,d3,w3,re3,rd3,p3⟩:=st x H' hy
   refine⟨ρ3,h3,ae3,d3,w3,re3,rd3,p3.imp λae4 h4 ρ4 H4 l4 w4 k4 σ4 re4=>?_⟩
   obtain⟨ρ5,h5,ae5,w5,re5,p5⟩:=k4 σ4 re4
   exact p5 ρ5 _ Le.refl w5
theorem xU {scope:Scope} (M:List Str) (kn:List (Str×NameKind)) (N:List Str) (sub:List (Option Nat))
 (hc:X.calm=true) (hi:DI K mg X ES tg ad I)
 (hg:∀ cl C s₂ H fp,DG K mg (aE X N scope cl C s₂ H fp) (λ_=>E0) tg g) (ht:∀ cl C s₂ H fp,DT K mg (aE X N scope cl C s₂ H fp) (λ_=>E0) c cf) (he:∀ cl C s₂ H fp,DE K mg (aE X N scope cl C s₂ H fp) (λ_=>E0) ci F)
 (hM:X.N=M:=by rfl) (hkn:X.env.scope.names=kn:=by rfl) (bv:dE M scope.names sub N=true:=by decide)
 (hk:scope.kind=.function:=by rfl) (hnc:∀ x ∈ scope.names,x.2 ≠ .cell:=by decide) (bd:∀ x ∈ scope.names,x.2=.local->scope.names.lookup x.1=some .local:=by decide)
 (hfr:eP kn scope.names=true:=by decide)
 (hsl:sub.length=N.length:=by rfl) (hs:∀ x,foldedSetIterable ad X.env x=pure x:=by intro _;rfl):
 DE K mg X ES (.ListComp ci [⟨tg,ad,[c],0⟩] scope pos) (eLC I sub g cf F):=
 PE.imp (xk M kn N sub hc hi hg ht he hM hkn bv hk hnc bd hfr hsl hs) λσ H Q q=>oP σ H Q q
theorem yL {sub:List (Option Nat)} (σ:St) (H:Hp) (Q:VK) (q:rdE K mg ES (eLC I sub g tY F) σ H Q):gb (rdI K mg ES I) sub (rdG K mg (λ_=>E0) g) tP (rdE K mg (λ_=>E0) F) σ H Q:=by
 have:=oP (cf:=tY) σ H Q q
 obtain⟨ρ,h,ae,w,re,p⟩:=this
 refine⟨ρ,h,ae,w,re,p.imp λit h1 ρ1 H1 l1 w1 k J hJ=>?_⟩
 obtain⟨W,w0,tn⟩:=k J hJ
 refine⟨W,w0,λi m ys σ2 H2 hW=>?_⟩
 rcases tn i m ys σ2 H2 hW with z | ⟨go,hl,Nx,hN,st⟩
 ·exact .inl z
 ·refine .inr ⟨go,hl,Nx,hN,λx H' hy=>?_⟩
  obtain⟨ρ3,h3,ae3,d3,w3,re3,rd3,p3⟩:=st x H' hy
  refine⟨ρ3,h3,ae3,d3,w3,re3,rd3,p3.imp λae4 h4 ρ4 H4 l4 w4 k4 σ4 re4=>?_⟩
  obtain⟨ρ5,h5,ae5,w5,re5,p5⟩:=k4 σ4 re4
  exact p5 ρ5 _ Le.refl w5
theorem xQ {t:TE}{i:Nat} (ht:∀ σ H Q,rdE K mg ES F σ H Q->t σ H Q) (De:Ends) (σ:St) (H:Hp) (q:rdS K mg ES (fD F (gN i)) De σ H):mi t (jh i) De σ H:=by
 obtain⟨ρ,h,ae,w,re,p⟩:=q
 exact ht σ H _ ⟨ρ,h,ae,w,re,bK p re λd h1 ρ1 H1 l1 w1 re1 p1 v rv=>eZ p1 w1 (re1.set i rv)⟩
theorem BO {scope:Scope}{px spos:Pos}{iT:Nat}{xT:Str} (M:List Str) (kn:List (Str×NameKind)) (N:List Str) (sub:List (Option Nat))
 (hc:X.calm=true) (hN:X.N.Nodup) (hix:X.N[iT]?=some xT) (hxl:Loc X.env.scope xT) (hi:DI K mg X ES tg ad I)
 (hg:∀ cl C s₂ H fp,DG K mg (aE X N scope cl C s₂ H fp) (λ_=>E0) tg g) (he:∀ cl C s₂ H fp,DE K mg (aE X N scope cl C s₂ H fp) (λ_=>E0) ci F)
 (hsw:swapsWith (.ListComp ci [⟨tg,ad,[],0⟩] scope pos) (some (.Name xT px)) spos.line X.env=pure true:=by rfl)
 (hM:X.N=M:=by rfl) (hkn:X.env.scope.names=kn:=by rfl) (bv:dE M scope.names sub N=true:=by decide)
 (hk:scope.kind=.function:=by rfl) (hnc:∀ x ∈ scope.names,x.2 ≠ .cell:=by decide) (bd:∀ x ∈ scope.names,x.2=.local->scope.names.lookup x.1=some .local:=by decide)
 (hfr:eP kn scope.names=true:=by decide)
 (hsl:sub.length=N.length:=by rfl) (hs:∀ x,foldedSetIterable ad X.env x=pure x:=by intro _;rfl) (hf:X.fn xT=true\/X.env.scope.names.lookup xT=some .local:=by first | exact .inl rfl | exact .inr rfl | assumption):
 DS K mg X ES (.Assign [.Name xT px] (.ListComp ci [⟨tg,ad,[],0⟩] scope pos) spos) (fD (eLC I sub g tY F) (gN iT)):=
 PS.imp (CJ M kn N sub hc hN hix hxl hi hg he hsw hM hkn bv hk hnc bd hfr hsl hs hf) (xQ yL)
end
def whN (c:MT) (B:MS):Nat->MS
 | 0,_,_=>.stuck
 | k + 1,ae,h=>(c ae h).toS ae λb h1=>if b=true then (B ae h1).loop (whN c B k) else .nx ae h1
open Classical in
def sWh (c:MT) (B:MS):MS:=λae h=>if q:∃ k,whN c B k ae h ≠ .stuck then whN c B q.choose ae h else .stuck
theorem iY {c:MT}{B:MS}:∀ {k:Nat}{ae:AE}{h:AH},whN c B k ae h ≠ .stuck->whN c B (k + 1) ae h=whN c B k ae h
 | 0,_,_,q=>absurd rfl q
 |
  k + 1,ae,h,q=>by
  have e1:whN c B (k + 2) ae h=(c ae h).toS ae λb h1=>if b=true then (B ae h1).loop (whN c B (k + 1)) else .nx ae h1:=rfl
  have e2:whN c B (k + 1) ae h=(c ae h).toS ae λb h1=>if b=true then (B ae h1).loop (whN c B k) else .nx ae h1:=rfl
  rw[e2] at q
  rw[e1,e2]
  cases r:c ae h with
  | exc _ _=>rfl
  | stuck=>rfl
  |
   ok b h1=>
   rw[r] at q
   cases b with
   | false=>rfl
   |
    true=>
    have q':(B ae h1).loop (whN c B k) ≠ .stuck:=q
    show (B ae h1).loop (whN c B (k + 1))=(B ae h1).loop (whN c B k)
    cases s:B ae h1 with
    | nx a2 h2=>rw[s] at q';exact iY q'
    | ct a2 h2=>rw[s] at q';exact iY q'
    | _=>rfl
theorem rj {c:MT}{B:MS}{k j:Nat}{ae:AE}{h:AH} (q:whN c B k ae h ≠ .stuck) (hj:k<=j):whN c B j ae h=whN c B k ae h:=by
 induction hj with
 | refl=>rfl
 | step _ ih=>rw[iY (by rw[ih];exact q),ih]
theorem qP {c:MT}{B:MS}{k:Nat}{ae:AE}{h:AH} (q:whN c B k ae h ≠ .stuck):sWh c B ae h=whN c B k ae h:=by
 have hq:∃ k,whN c B k ae h ≠ .stuck:=⟨k,q⟩
 unfold sWh
 rw[dif_pos hq]
 rcases Nat.le_total hq.choose k with z | z
 ·exact (rj hq.choose_spec z).symm
 ·exact rj q z
section
variable {K:W.Frag}{mg:Str->Option Value}{X:Cx}{ES:St->XK}{c:Expr}{cf:MT}{U:MS}{sts:List Stmt}{pos:Pos}
theorem ua (hp:PassesOwn (model X.prog X.w) X.A X.env X.xe) (hc:DT K mg X ES c cf) (hb:DSs K mg X ES sts U):DS K mg X ES (.While c sts [] pos) (sWh cf U):=by
 refine PS.imp (sW hp hc hb) λDe σ H q_=>q_.el λρ h ae w re p=>?_
 have hx:∃ k,whN cf U k ae h ≠ .stuck:=Classical.byContradiction λz=>by
  unfold sWh at p
  rw[dif_neg z] at p
  exact p.elim
 obtain⟨k,hk⟩:=hx
 rw[qP hk] at p
 refine⟨λm σ2 H2=>∃ ρ2 h2 ae2,Wd K mg ρ2 h2 H2/\RelE K mg ρ2 H2 ae2 σ2/\PostS K mg ρ2 H2 De ES (whN cf U m ae2 h2),⟨k,ρ,h,ae,w,re,p⟩,?_⟩
 rintro m σ2 H2 ⟨ρ2,h2,ae2,w2,re2,p2⟩
 cases m with
 | zero=>exact p2.elim
 |
  succ m=>
  refine⟨ρ2,h2,ae2,w2,re2,bK p2 re2 λb h3 ρ3 H3 l3 w3 re3 p3=>?_⟩
  cases b with
  | true=>exact⟨λσ' H'=>∃ ρ4 h4 ae4,Wd K mg ρ4 h4 H'/\RelE K mg ρ4 H' ae4 σ'/\PostS K mg ρ4 H' De ES (whN cf U m ae4 h4),λσ' H' q=>⟨m,Nat.lt_succ_self _,q⟩,ρ3,h3,ae2,w3,re3,mP p3 λae4 h4 ρ4 H4 σ4 l4 w4 re4 p4=>⟨ρ4,h4,ae4,w4,re4,p4⟩⟩
  | false=>exact eZ p3 w3 re3
end
end L2
namespace L2
open PySem PySem.Spec PyProof.Rows
def mG:Fn:=λds h=>match ds with
 | [d]=>match bZ h d with
  | some xs=>.ok (.int xs.length) h
  | none=>match d with
   | .str z=>if z.length<=16777216 then .ok (.int z.length) h else .stuck
   | _=>.stuck
 | _=>.stuck
def kS:Fn:=λds h=>match ds with
 | [.int i,.int j]=>.ok (.int (if j > i then j else i)) h
 | _=>.stuck
def lb:Fn:=λds h=>match ds with
 | [.int i,.int j]=>.ok (.int (if j < i then j else i)) h
 | _=>.stuck
def gP:Fn:=λds h=>match ds with
 | [d]=>match bZ h d with
  | some xs=>.ok (.tup xs) h
  | none=>.stuck
 | _=>.stuck
def o4:Fn:=λds h=>match ds with
 | [.int i]=>.ok (.int i) h
 | [.bl b]=>.ok (.int (if b then 1 else 0)) h
 | _=>.stuck
section
variable {K:W.Frag}{mg:Str->Option Value}{X:Cx}
theorem yM:bD K mg (λxs H Q=>(∃ p ys,xs=[.ref p]/\(SqL K H p ys\/SqT K H p ys)/\Q (.int ys.length) H)\/(∃ z,xs=[.str z]/\z.length<=sizeLine/\Q (.int z.length) H)) mG:=λρ h H ds vs Q E w rs p=>by
 unfold mG at p
 split at p
 ·cases
   rs with
  |
   cons r rs=>
   cases rs
   split at p
   ·rename_i xs e
    obtain⟨pa,vs,rfl,hq,rs⟩:=cZ w r e
    exact .inl ⟨_,_,rfl,hq,by rw[<- rs.len];exact ay w (.int _) p⟩
   ·split at p
    ·cases r
     split at p
     ·rename_i hl;exact .inr ⟨_,rfl,hl,ay w (.int _) p⟩
     ·exact p.elim
    ·exact p.elim
 ·exact p.elim
theorem fV (h:X.K=K):CallR X (.builtin "len") (λxs H Q=>(∃ p ys,xs=[.ref p]/\(SqL K H p ys\/SqT K H p ys)/\Q (.int ys.length) H)\/(∃ z,xs=[.str z]/\z.length<=sizeLine/\Q (.int z.length) H)):=by subst h;exact lC.or md
theorem vZ:bD K mg (λxs H Q=>∃ i j,xs=[.int i,.int j]/\Q (.int (if j > i then j else i)) H) kS:=λρ h H ds vs Q E w rs p=>by
 unfold kS at p
 split at p
 ·cases rs with
  | cons r rs=>cases rs with | cons r2 rs=>cases r;cases r2;cases rs;exact⟨_,_,rfl,ay w (.int _) p⟩
 ·exact p.elim
theorem xW:bD K mg (λxs H Q=>∃ i j,xs=[.int i,.int j]/\Q (.int (if j < i then j else i)) H) lb:=λρ h H ds vs Q E w rs p=>by
 unfold lb at p
 split at p
 ·cases rs with
  | cons r rs=>cases rs with | cons r2 rs=>cases r;cases r2;cases rs;exact⟨_,_,rfl,ay w (.int _) p⟩
 ·exact p.elim
theorem tq:bD K mg (λxs H Q=>∃ p ys,xs=[.ref p]/\((SqL K H p ys/\∀ l,H l=none->Q (.ref l) (upd H l (.tup ys)))\/(SqT K H p ys/\Q (.ref p) H))) gP:=λρ h H ds vs Q E w rs p=>by
 unfold gP at p
 split at p
 ·cases rs with
  |
   cons r rs=>
   cases rs
   split at p
   ·rename_i xs e
    obtain⟨pa,vs,rfl,hq,rs⟩:=cZ w r e
    rcases hq with hq | hq
    ·exact⟨_,_,rfl,.inl ⟨hq,λl hl=>gi w rs hl p⟩⟩
    ·exact⟨_,_,rfl,.inr ⟨hq,ay w (.tup hq rs) p⟩⟩
   ·exact p.elim
 ·exact p.elim
theorem yV:bD K mg (λxs H Q=>(∃ i,xs=[.int i]/\Q (.int i) H)\/∃ k,xs=[.bl k]/\Q (.int (if k then 1 else 0)) H) o4:=λρ h H ds vs Q E w rs p=>by
 unfold o4 at p
 split at p
 ·cases rs with
  | cons r rs=>cases r;cases rs;exact .inl ⟨_,rfl,ay w (.int _) p⟩
 ·cases rs with
  | cons r rs=>cases r;cases rs;exact .inr ⟨_,rfl,ay w (.int _) p⟩
 ·exact p.elim
theorem m9 (h:X.K=K):CallR X (.type "tuple") (λxs H Q=>∃ p ys,xs=[.ref p]/\((SqL K H p ys/\∀ l,H l=none->Q (.ref l) (upd H l (.tup ys)))\/(SqT K H p ys/\Q (.ref p) H))):=by subst h;exact kI
end
inductive Cl where
 | b (n:String) | o (x:Str)
 deriving DecidableEq
def tyD (h:AH):D->Option Cl
 | .non=>some (.b "NoneType")
 | .bl _=>some (.b "bool")
 | .int _=>some (.b "int")
 | .str _=>some (.b "str")
 | .tup _=>some (.b "tuple")
 | .exc x=>some (.o x)
 | .ref n=>match h[n]? with
  | some (.lst _)=>some (.b "list")
  | some (.fz _)=>some (.b "list")
  | some (.dct _)=>some (.b "dict")
  | _=>none
 | _=>none
def clD:D->Option Cl
 | .ty n=>some (.b n)
 | .glb x=>some (.o x)
 | _=>none
def ClV (mg:Str->Option Value):Cl->Value->Prop
 | .b n,v=>v=.type n
 | .o x,v=>∃ a,v=.ref a/\mg x=some (.ref a)
abbrev dG:=List (Cl×Cl×Bool)
structure KitsOk (K:W.Frag) (mg:Str->Option Value) (kt:dG):Prop where
 one:∀ p ∈ kt,∀ t v,ClV mg p.1 t->ClV mg p.2.1 v->W.kitOne K t v=some p.2.2
 xc:∀ p ∈ kt,∀ x C,p.1=.o x->mg x=some (.ref C)->XCls K C
def kit (kt:dG) (t c:Cl):Option Bool:=(kt.find? λp=>decide (p.1=t) && decide (p.2.1=c)).map (·.2.2)
def dX (kt:dG) (t:Cl):List Cl->Option Bool
 | []=>some false
 | c :: r=>match kit kt t c with
  | some true=>some true
  | some false=>dX kt t r
  | none=>none
def mO (kt:dG):Fn:=λds h=>match ds with
 | [d,c]=>match tyD h d with
  | some t=>match c with
   | .tup cs=>match cs.mapM clD with
    | some (c0 :: cr)=>match dX kt t (c0 :: cr),kit kt t c0 with
     | some b,some _=>.ok (.bl b) h
     | _,_=>.stuck
    | _=>.stuck
   | c=>match clD c with
    | some cl=>match kit kt t cl with
     | some b=>.ok (.bl b) h
     | none=>.stuck
    | none=>.stuck
  | none=>.stuck
 | _=>.stuck
theorem jJ {kt:dG}{t c:Cl}{b:Bool} (e:kit kt t c=some b):(t,c,b) ∈ kt:=by
 unfold kit at e
 cases q:kt.find? (λp=>decide (p.1=t) && decide (p.2.1=c)) with
 | none=>rw[q] at e;cases e
 |
  some p=>
  rw[q] at e
  have h1:=List.find?_some q
  have h2:=List.mem_of_find?_eq_some q
  simp only[Bool.and_eq_true,decide_eq_true_eq] at h1
  obtain⟨p1,p2,p3⟩:=p
  have e3:p3=b:=Option.some.inj e
  obtain⟨rfl,rfl⟩:=h1
  subst e3
  exact h2
section
variable {K:W.Frag}{mg:Str->Option Value}{X:Cx}{ρ:List Addr}{H:Hp}{h:AH}
theorem nz {kt:dG} (ok:KitsOk K mg kt) (w:Wd K mg ρ h H) {d:D}{v:V}{t c:Cl}{b:Bool} (r:RelD K mg ρ H d v) (e:tyD h d=some t) (k:kit kt t c=some b):∃ tv,TyX K H v tv/\ClV mg t tv:=by
 cases r with
 | non=>cases e;exact⟨_,.of .non,rfl⟩
 | bl=>cases e;exact⟨_,.of (.bl _),rfl⟩
 | int=>cases e;exact⟨_,.of (.int _),rfl⟩
 | str=>cases e;exact⟨_,.of (.str _),rfl⟩
 | tup q rs=>cases e;exact⟨_,.sqT q,rfl⟩
 |
  exc m ex=>
  cases e
  exact⟨_,.exc ex (ok.xc _ (jJ k) _ _ rfl m),_,rfl,m⟩
 |
  ref ea=>
  unfold tyD at e
  dsimp only at e
  split at e
  ·rename_i e1;cases e;obtain⟨vs,h1,h2⟩:=w.ob _ _ _ ea e1;exact⟨_,.of (.lst h1),rfl⟩
  ·rename_i e1;cases e;obtain⟨o,vs,h1,h2⟩:=w.ob _ _ _ ea e1;exact⟨_,.of (.frz h1),rfl⟩
  ·rename_i e1;cases e;obtain⟨ws,h1,_⟩:=w.ob _ _ _ ea e1;exact⟨_,.of (.dK h1),rfl⟩
  ·cases e
 | _=>cases e
theorem nN {d:D}{v:V}{c:Cl} (r:RelD K mg ρ H d v) (e:clD d=some c):∃ cv,dI v=some cv/\ClV mg c cv:=by
 cases r with
 | ty n=>cases e;exact⟨_,rfl,rfl⟩
 | glb m=>cases e;exact⟨_,rfl,_,rfl,m⟩
 | _=>cases e
theorem sT:∀ {ds:List D}{vs:List V}{cs:List Cl},RelDs K mg ρ H ds vs->ds.mapM clD=some cs->∃ cvs,vs.mapM dI=some cvs/\Paired (ClV mg) cs cvs:=by
 intro ds
 induction ds with
 |
  nil=>
  intro vs cs r e
  cases r
  have e':some ([]:List Cl)=some cs:=e
  cases e';exact⟨[],rfl,.nil⟩
 |
  cons d ds ih=>
  intro vs cs r e
  cases r with
  |
   cons r rr=>
   rw[List.mapM_cons] at e
   cases q:clD d with
   | none=>rw[q] at e;cases e
   |
    some c=>
    rw[q] at e
    cases q2:ds.mapM clD with
    | none=>rw[q2] at e;cases e
    |
     some cs'=>
     rw[q2] at e
     have e':some (c :: cs')=some cs:=e
     cases e'
     obtain⟨cv,h1,h2⟩:=nN r q
     obtain⟨cvs,h3,h4⟩:=ih rr q2
     refine⟨cv :: cvs,?_,.cons h2 h4⟩
     rw[List.mapM_cons,h1,h3];rfl
theorem rY {kt:dG} (ok:KitsOk K mg kt) {t:Cl}{tv:Value} (ht:ClV mg t tv):∀ {cs:List Cl}{cvs:List Value}{b:Bool},Paired (ClV mg) cs cvs->dX kt t cs=some b->W.kitAny K tv cvs=some b:=by
 intro cs
 induction cs with
 |
  nil=>
  intro cvs b r e
  cases r
  cases e;rfl
 |
  cons c cs ih=>
  intro cvs b r e
  cases r with
  |
   cons r rr=>
   unfold dX at e
   unfold W.kitAny
   cases q:kit kt t c with
   | none=>rw[q] at e;cases e
   |
    some z=>
    rw[q] at e
    rw[ok.one _ (jJ q) _ _ ht r]
    cases z with
    | true=>exact e
    | false=>exact ih rr e
theorem rU:CallR X (.builtin "isinstance") (λxs H Q=>∃ x tp cs t vs b,xs=[x,.ref tp]/\SqT X.K H tp cs/\TyX X.K H x t/\cs.mapM dI=some vs/\W.kitAny X.K t vs=some b/\Q (.bl b) H):=by
 intro pins s σ H xs us Q I r h
 obtain⟨x,tp,cs,t,vs,b,rfl,ht,ty,hc,hk,q⟩:=h
 obtain⟨u,w',rfl,rx,rc⟩:=iA r
 cases rc
 obtain⟨its,rv,⟨o,e,c,n,d⟩,_⟩:=I.tuple ht
 obtain rfl:=kD hc rv
 obtain⟨Hh,Z,p,hne⟩:=nh I rx ty
 obtain⟨oc,od,odt,osl⟩:=o
 have c':oc=.type "tuple":=c
 have d':odt=.seq its.toArray n:=d
 subst c' d'
 exact W.kia_tup Z I.kIn p e hk hne λtk=>⟨.bl b,H,I.tok _,rfl,q⟩
theorem kN (hK:X.K=K):CallR X (.builtin "isinstance") (λxs H Q=>(∃ x c t v b,xs=[x,c]/\TyX K H x t/\dI c=some v/\W.kitOne K t v=some b/\Q (.bl b) H)\/
 (∃ x tp cs t vs b,xs=[x,.ref tp]/\SqT K H tp cs/\TyX K H x t/\cs.mapM dI=some vs/\W.kitAny K t vs=some b/\Q (.bl b) H)):=by subst hK;exact sH.or rU
theorem zZ {kt:dG} (ok:KitsOk K mg kt):bD K mg (λxs H Q=>(∃ x c t v b,xs=[x,c]/\TyX K H x t/\dI c=some v/\W.kitOne K t v=some b/\Q (.bl b) H)\/
 (∃ x tp cs t vs b,xs=[x,.ref tp]/\SqT K H tp cs/\TyX K H x t/\cs.mapM dI=some vs/\W.kitAny K t vs=some b/\Q (.bl b) H)) (mO kt):=λρ h H ds vs Q E w rs p=>by
 unfold mO at p
 split at p
 ·cases
   rs with
  |
   cons r rs=>
   cases rs with
   |
    cons r2 rs=>
    cases rs
    split at p
    ·rename_i t e1
     split at p
     ·split
       at p
      ·rename_i cs c0 cr e2
       split at p
       ·rename_i b b' e3 e4
        cases r2 with
        |
         tup q rs2=>
         obtain⟨tv,h1,h2⟩:=nz ok w r e1 e4
         obtain⟨cvs,h3,h4⟩:=sT rs2 e2
         exact .inr ⟨_,_,_,tv,cvs,b,rfl,q,h1,h3,rY ok h2 h4 e3,ay w (.bl _) p⟩
       ·exact p.elim
      ·exact p.elim
     ·split at p
      ·rename_i cl e2
       split at p
       ·rename_i b e3
        obtain⟨tv,h1,h2⟩:=nz ok w r e1 e3
        obtain⟨cv,h3,h4⟩:=nN r2 e2
        exact .inl ⟨_,_,tv,cv,b,rfl,h1,h3,ok.one _ (jJ e3) _ _ h2 h4,ay w (.bl _) p⟩
       ·exact p.elim
      ·exact p.elim
    ·exact p.elim
 ·exact p.elim
end
end L2
namespace L2
open PySem PySem.Spec PyProof.Rows
def MtD (K:W.Frag) (mg:Str->Option Value) (r:V->List V->Hp->VK->Prop) (g:D->List D->AH->R D):Prop:=∀ ρ h H dx ds x vs Q E,Wd K mg ρ h H->RelD K mg ρ H dx x->RelDs K mg ρ H ds vs->c4 K mg ρ H Q E (g dx ds h)->r x vs H Q
def gj (h:AH):D->Bool
 | .ref n=>(aO h n).isSome
 | _=>false
def eM (g:D->List D->AH->R D) (F:ME) (A:MA):ME:=λae h=>(F ae h).bind λx h1=>if gj h1 x=true then (A ae h1).bind λds h2=>g x ds h2 else .stuck
section
variable {K:W.Frag}{mg:Str->Option Value}{X:Cx}{ES:St->XK}{o e:Expr}{es:List Expr}{F G:ME}{A:MA}{pos:Pos}
theorem rE {ρ:List Addr}{H:Hp}{h:AH}{d:D}{v:V} (w:Wd K mg ρ h H) (r:RelD K mg ρ H d v) (q:gj h d=true):tyV K "list" v H:=by
 cases r with
 |
  ref ea=>
  obtain⟨xs,e⟩:=Option.isSome_iff_exists.mp q
  obtain⟨vs,h1,_⟩:=bM w ea e
  exact .inl ⟨rfl,vs,h1⟩
 | _=>cases q
theorem uo {name:Str}{id:String}{apos cpos:Pos}{r:V->List V->Hp->VK->Prop}{g:D->List D->AH->R D} (hK:X.K=K) (slot:Slot "list" name id) (hty:typeOf (.builtin id)=pure (.type "method_descriptor")) (hm:MtM X id r) (hd:MtD K mg r g) (ho:DE K mg X ES o F) (ha:DA K mg X ES (e :: es) A)
 (hbase:attributeBase o name X.env (eval o X.env)=eval o X.env:=by rfl)
 (hfew:((backTo cpos (starEach (e :: es) X.env)).all (λx=>!x.1) && (backToKw cpos (keywordEach [] X.env)).all (λx=>x.1.isSome)
  && decide ((e :: es).length + ([]:List Keyword).length + (if ([]:List Keyword).isEmpty then 0 else 1) < 30))=true:=by rfl)
 (hline:(apos.endLine == cpos.line)=true:=by rfl) (hs:starEach (e :: es) X.env=(false,eval e X.env) :: starEach es X.env:=by rfl) (be:(backTo cpos (starEach es X.env)).any (·.1)=false:=by rfl):
 DE K mg X ES (.Call (.Attribute o name apos) (e :: es) [] cpos) (eM g F A):=by
 subst hK
 refine PE.imp (Df PySem.F.plainAttrs_list slot hty hm ho ha hbase hfew hline hs be) λσ H Q q_=>q_.el λρ h ae w re p=>⟨ρ,h,ae,w,re,p.bind.imp λdx h1 ρ1 H1 l1 w1 p1 x rx=>?_⟩
 split at p1
 ·rename_i hl
  exact⟨rE w1 rx hl,ρ1,h1,ae,w1,re.mono l1,p1.bind.imp λds h2 ρ2 H2 l2 w2 p2 vs rs=>hd ρ2 h2 H2 dx ds x vs Q _ w2 (rx.mono l2) rs p2⟩
 ·exact p1.elim
end
def gf (h:AH) (d:D) (f:Nat->List D->R D):R D:=match d with
 | .ref n=>match h[n]? with
  | some (.lst xs)=>f n xs
  | _=>.stuck
 | _=>.stuck
def dh:D->List D->AH->R D:=λx ds h=>gf h x λn xs=>match ds with
 | [d]=>if xs.length < 16777216 then .ok .non (h.set n (.lst (xs++[d]))) else .stuck
 | _=>.stuck
def ek (h:AH) (d:D):List D->Option (List Bool)
 | []=>some []
 | x :: r=>match gJ h x d,ek h d r with
  | some b,some bs=>some (b :: bs)
  | _,_=>none
def ia:D->List D->AH->R D:=λx ds h=>match x,ds with
 | .ref n,[d]=>match (aO h n).bind (ek h d) with
  | some bs=>if bs.idxOf true < bs.length then .ok (.int (bs.idxOf true:Nat)) h else .stuck
  | none=>.stuck
 | _,_=>.stuck
section
variable {K:W.Frag}{mg:Str->Option Value}{X:Cx}{ρ:List Addr}{H:Hp}{h:AH}
theorem kx {Q:VK}{E:XK}{d:D}{v:V}{f:Nat->List D->R D} (w:Wd K mg ρ h H) (r:RelD K mg ρ H d v) (p:c4 K mg ρ H Q E (gf h d f)):
 ∃ n xs a vs,d=.ref n/\h[n]?=some (.lst xs)/\ρ[n]?=some a/\v=.ref a/\H a=some (.lst vs)/\RelDs K mg ρ H xs vs/\c4 K mg ρ H Q E (f n xs):=by
 unfold gf at p
 split at p
 ·cases r with
  |
   ref ea=>
   split at p
   ·rename_i n xs e
    obtain⟨vs,h1,h2⟩:=w.ob _ _ _ ea e
    exact⟨_,_,_,vs,rfl,e,ea,rfl,h1,h2,p⟩
   ·exact p.elim
 ·exact p.elim
theorem mx {Q:VK}{E:XK}{n:Nat}{a:Addr}{vs ws:List V}{ys:List D}{d:D}{v:V} (w:Wd K mg ρ h H) (ea:ρ[n]?=some a) (e:H a=some (.lst vs)) (rs:RelDs K mg ρ H ys ws) (rd:RelD K mg ρ H d v) (p:c4 K mg ρ H Q E (.ok d (h.set n (.lst ys)))):Q v (upd H a (.lst ws)):=by
 have l:Le ρ H ρ (upd H a (.lst ws)):=kW e kO
 exact p ρ _ l (w.write ea e kO ⟨ws,bH,rs.mono l⟩) v (rd.mono l)
theorem qt:MtD K mg nT dh:=λρ h H dx ds x vs Q E w rx rs p=>by
 obtain⟨n,xs,a,us,rfl,e,ea,rfl,h1,h2,p⟩:=kx w rx p
 split at p
 ·cases rs with
  |
   cons r rs=>
   cases rs
   split at p
   ·rename_i hl
    exact⟨a,us,_,rfl,rfl,h1,by rw[<- h2.len];exact hl,mx w ea h1 (h2.append (.cons r .nil)) .non p⟩
   ·exact p.elim
 ·exact p.elim
inductive EqsR (K:W.Frag) (H:Hp) (y:V) (pd:PyData):List V->List Bool->Prop where
 | nil:EqsR K H y pd [] []
 | cons {x:V}{px:PyData}{xs:List V}{bs:List Bool} (rx:Rep K H x px) (hx:SeqAt.shaped px=true) (r:EqsR K H y pd xs bs):EqsR K H y pd (x :: xs) (PyData.eqv px pd :: bs)
def rEqs (K:W.Frag) (H:Hp) (l:Addr) (y:V) (bs:List Bool):Prop:=∃ xs pd,SqL K H l xs/\Rep K H y pd/\SeqAt.shaped pd=true/\EqsR K H y pd xs bs
theorem v8 (w:Wd K mg ρ h H) {d:D}{y:V}{pd:PyData} (ry:RelD K mg ρ H d y) (es:cC 64 h d=some pd):∀ {xs:List D}{vs:List V}{bs:List Bool},RelDs K mg ρ H xs vs->ek h d xs=some bs->EqsR K H y pd vs bs:=by
 intro xs
 induction xs with
 |
  nil=>
  intro vs bs r e
  cases r
  have e':some ([]:List Bool)=some bs:=e
  cases e';exact .nil
 |
  cons x xs ih=>
  intro vs bs r e
  cases r with
  |
   cons r rr=>
   unfold ek at e
   split at e
   ·rename_i b bs' e1 e2
    cases e
    unfold gJ at e1
    rw[es] at e1
    split at e1
    ·rename_i a c e3 e4
     cases e4
     split at e1
     ·rename_i hs
      cases e1
      exact .cons (dM w 64 r e3) hs.1 (ih rr e2)
     ·cases e1
    ·cases e1
   ·cases e
theorem uL {d:D}:∀ {xs:List D}{bs:List Bool},ek h d xs=some bs->xs=[]\/∃ pd,cC 64 h d=some pd/\SeqAt.shaped pd=true
 | [],_,_=>.inl rfl
 |
  x :: xs,bs,e=>by
  right
  unfold ek at e
  split at e
  ·rename_i b bs' e1 e2
   unfold gJ at e1
   split at e1
   ·rename_i a c e3 e4
    split at e1
    ·rename_i hs;exact⟨c,e4,hs.2⟩
    ·cases e1
   ·cases e1
  ·cases e
theorem uu {pins:List (Addr×Obj)}{σ:St}{s:Shared}{y:V}{pd:PyData}{v:Value} (I:Inv X pins σ H s) (hu:X.A.units + 100 < cLine) (ry:Rep X.K H y pd) (rv:RelV y v) (hy:SeqAt.shaped pd=true):∃ e:Value->Bool,∀ {xs:List V}{bs:List Bool}{its:List Value},EqsR X.K H y pd xs bs->Vals xs its->its.map e=bs/\∀ u ∈ its,SeqAt.EqAt X.A.in1 s u v (e u):=by
 classical
 obtain⟨as,q1⟩:=ry.reads I rv
 refine⟨λu=>if q:∃ d as,Reads s.heap u d as/\SeqAt.shaped d=true then PyData.eqv q.choose pd else false,λ{xs bs its} r rr=>?_⟩
 induction r generalizing its with
 | nil=>cases rr;exact⟨rfl,λu hu=>nomatch hu⟩
 |
  cons rx hx r ih=>
  rename_i x px xs bs
  cases rr with
  |
   cons r1 rr=>
   rename_i u us
   obtain⟨ih1,ih2⟩:=ih rr
   obtain⟨as1,q2⟩:=rx.reads I r1
   have hq:∃ d as,Reads s.heap u d as/\SeqAt.shaped d=true:=⟨px,as1,q2,hx⟩
   have e1:(if q:∃ d as,Reads s.heap u d as/\SeqAt.shaped d=true then PyData.eqv q.choose pd else false)=PyData.eqv px pd:=by
    rw[dif_pos hq]
    obtain⟨as2,q3,hs3⟩:=hq.choose_spec
    have:=SeqAt.Reads.unique px hq.choose u _ _ (SeqAt.canLay_of_shaped hx) q2 q3
    rw[<- this]
   refine⟨by rw[List.map_cons,ih1,e1],λw hw=>?_⟩
   rcases List.mem_cons.mp hw with rfl | hw
   ·dsimp only
    rw[e1]
    exact SeqAt.eqAt_reads px pd X.A.in1 s _ _ _ _ q2 q1 (SeqAt.canLay_of_shaped hx) (SeqAt.canLay_of_shaped hy) (SeqAt.room_of_shaped hx (by
     have:X.A.in1.units=X.A.units + 1:=rfl
     rw[this];omega))
   ·exact ih2 w hw
def ip (K:W.Frag):V->List V->Hp->VK->Prop:=λx vs H Q=>∃ l y bs,x=.ref l/\vs=[y]/\rEqs K H l y bs/\bs.idxOf true < bs.length/\Q (.int (bs.idxOf true:Nat)) H
theorem EqsR.len {y:V}{pd:PyData}{xs:List V}{bs:List Bool} (r:EqsR K H y pd xs bs):xs.length=bs.length:=by
 induction r with
 | nil=>rfl
 | cons _ _ _ ih=>rw[List.length_cons,List.length_cons,ih]
theorem u7 (hu:X.A.units + 100 < cLine):MtM X "list.index" (ip X.K):=by
 intro pins s σ H x vs v us Q I rx rv h
 obtain⟨l,y,bs,rfl,rfl,⟨xs,pd,hq,ry,hy,re⟩,hi,q⟩:=h
 cases rx
 obtain⟨u,rfl,ru⟩:=rv.one
 obtain⟨e,he⟩:=uu I hu ry ru hy
 obtain⟨its,r,⟨o,n,eo,hc,hd,hs⟩,hz⟩:=I.list hq
 obtain⟨m1,m2⟩:=he re r
 have hlen:=r.length
 have hbl:=re.len
 have hn:=d7
 have hj:bs.idxOf true < its.toArray.size:=by rw[List.size_toArray];omega
 have eo':s.heap.get? l=some { cls:=.type "list",dict:=o.dict,data:=.seq its.toArray n,slots:=o.slots }:=by
  rw[eo]
  obtain⟨oc,od,odt,osl⟩:=o
  have h1:oc=.type "list":=hc
  have h2:odt=.seq its.toArray n:=hs
  subst h1 h2
  rfl
 have em:∀ (m:Nat) (hm:m < its.toArray.size),bs[m]?=some (e its.toArray[m]):=λm hm=>by
  rw[<- m1,List.getElem?_map]
  have:its[m]?=some its.toArray[m]:=by
   rw[List.getElem?_eq_getElem (by simpa using hm)]
   rfl
  rw[this];rfl
 refine call_meets PySem.F.slot_list_index ⟨_,eo',rfl⟩ PySem.F.entry_list_index (PySem.F.args_list_index_2 _ _)
  (SeqAt.list_indexAt l its.toArray n o.dict o.slots u e (bs.idxOf true) hj (by omega) ?_ ?_) ⟨eo',λw hw=>m2 w (by simpa using hw),?_⟩
 ·have:=em _ hj
  rw[List.getElem?_eq_getElem hi,List.getElem_idxOf] at this
  exact (Option.some.inj this).symm
 ·intro m
   hm hlt
  have:=em m hm
  have hb:m < bs.length:=by omega
  rw[List.getElem?_eq_getElem hb] at this
  have h3
   : bs[m] ≠ true:=λz=>by
   have h4:bs.idxOf true<=m:=by
    have:=List.idxOf_lt_length_iff (l:=bs) (a:=true)
    rcases Nat.lt_or_ge m (bs.idxOf true) with z' | z'
    ·exact absurd z (by
      have h5:=List.not_of_lt_findIdx (xs:=bs) (p:=(· == true)) (i:=m) z'
      simpa using h5)
    ·exact z'
   omega
  have h4:e its.toArray[m]=bs[m]:=(Option.some.inj this).symm
  rw[h4]
  exact Bool.eq_false_iff.mpr h3
 ·exact⟨.int _,H,I.tok _,⟨_,rfl⟩,q⟩
theorem sk:MtD K mg (ip K) ia:=λρ h H dx ds x vs Q E w rx rs p=>by
 unfold ia at p
 split at p
 ·cases
   rx with
  |
   ref ea=>
   cases rs with
   |
    cons r rs=>
    cases rs
    split at p
    ·rename_i bs e
     split at p
     ·rename_i hl
      obtain⟨xs,q,e2⟩:=Option.bind_eq_some_iff.mp e
      obtain⟨vs,h1,h2⟩:=bM w ea q
      rcases uL e2 with rfl | ⟨pd,h3,h4⟩
      ·have e3:some ([]:List Bool)=some bs:=e2
       cases e3
       exact absurd hl (by simp)
      ·exact⟨_,_,bs,rfl,rfl,⟨vs,pd,h1,dM w 64 r h3,h4,v8 w r h3 h2 e2⟩,hl,ay w (.int _) p⟩
     ·exact p.elim
    ·exact p.elim
 ·exact p.elim
theorem rS (h:X.K=K) (hu:X.A.units + 100 < cLine):MtM X "list.index" (ip K):=by subst h;exact u7 hu
theorem Room.u100 {k:Nat}{A:Around} (r:Room k A):A.units + 100 < cLine:=by have:=r.un;omega
end
def wL (o i v:D) (h:AH):R Unit:=match o,i with
 | .ref n,.int k=>match h[n]? with
  | some (.lst xs)=>match ixN xs.length k with
   | some j=>.ok () (h.set n (.lst (xs.set j v)))
   | none=>.stuck
  | _=>.stuck
 | _,_=>.stuck
section
variable {K:W.Frag}{mg:Str->Option Value}{X:Cx}{ES:St->XK}{o i:Expr}{F G:ME}{pos:Pos}
theorem wG:oC K mg oD wL:=λρ h H do_ di dv o i v Q E w ro ri rv p=>by
 unfold wL at p
 split at p
 ·cases
   ro with
  |
   ref ea=>
   cases ri
   split at p
   ·rename_i n k xs e
    split at p
    ·rename_i j ej
     obtain⟨vs,h1,h2⟩:=w.ob _ _ _ ea e
     have l:Le ρ H ρ (upd H _ (.lst (vs.set j v))):=kW h1 kO
     exact⟨_,vs,_,j,rfl,rfl,h1,by rw[<- h2.len];exact ej,p ρ _ l (w.write ea h1 kO ⟨_,bH,(h2.set rv j).mono l⟩)⟩
    ·exact p.elim
   ·exact p.elim
 ·exact p.elim
theorem yS {t:kd}{f:D->D->D->AH->R Unit} (ho:DE K mg X ES o F) (hi:DE K mg X ES i G) (hs:pj X t) (hd:oC K mg t f)
 (ha:∀ v,assign (.Subscript o i pos) X.env v=(do
  let ov <- holding [v] (eval o X.env)
  let iv <- holding [v,ov] (eval i X.env)
  standAt pos
  holding [v,ov,iv] (setItem ov iv v)
  release [v,ov,iv] []):=by intro _;rfl):DG K mg X ES (.Subscript o i pos) (gS F G f):=
 PG.imp (zq ho hi hs ha) λv σ H Q q_=>q_.el λρ h ae d w re rd p=>
  ⟨ρ,h,ae,w,re,p.bind.imp λdo_ h1 ρ1 H1 l1 w1 p1 o' ro=>⟨ρ1,h1,ae,w1,re.mono l1,p1.bind.imp λdi h2 ρ2 H2 l2 w2 p2 i' ri=>
   hd ρ2 h2 H2 do_ di d o' i' v _ _ w2 (ro.mono l2) ri ((rd.mono l1).mono l2) (p2.bind.imp λ_ h3 ρ3 H3 l3 w3 p3=>p3 ρ3 H3 Le.refl w3 σ (((re.mono l1).mono l2).mono l3))⟩⟩
end
def cutD (xs:List D) (lo hi:Option Int):List D:=(xs.drop (HT.sIx xs.length 0 lo)).take (HT.sIx xs.length xs.length hi - HT.sIx xs.length 0 lo)
abbrev MO:=AE->AH->R (Option Int)
def oi:MO:=λ_ h=>.ok none h
def n6 (F:ME):MO:=λae h=>(F ae h).bind λd h1=>match d with
 | .int i=>.ok (some i) h1
 | _=>.stuck
def gSl (x:D) (lo hi:Option Int) (h:AH):R D:=match x with
 | .tup xs=>if HT.sIx xs.length 0 lo=0/\HT.sIx xs.length xs.length hi=xs.length then .stuck else .ok (.tup (cutD xs lo hi)) h
 | .ref n=>match aO h n with
  | some xs=>.ok (.ref h.length) (h++[.lst (cutD xs lo hi)])
  | none=>.stuck
 | .kl xs=>.ok (.ref h.length) (h++[.lst (cutD xs lo hi)])
 | _=>.stuck
def eSl (F:ME) (L U:MO):ME:=λae h=>(F ae h).bind λx h1=>(L ae h1).bind λlo h2=>(U ae h2).bind λhi h3=>gSl x lo hi h3
section
variable {K:W.Frag}{mg:Str->Option Value}{X:Cx}{ES:St->XK}{e:Expr}{F:ME}{L U:MO}{lo hi:Option Expr}{pos p2:Pos}
def rdO (K:W.Frag) (mg:Str->Option Value) (ES:St->XK) (F:MO):TO:=λσ H Q=>∃ ρ h ae,Wd K mg ρ h H/\RelE K mg ρ H ae σ/\PostG K mg ρ H (ES σ) (λo _ ρ' H'=>Q o H') (F ae h)
def DO (K:W.Frag) (mg:Str->Option Value) (X:Cx) (ES:St->XK) (e:Option Expr) (F:MO):Prop:=PO X e (rdO K mg ES F)
theorem xH:DO K mg X ES none oi:=PO.imp xX λσ H Q ⟨ρ,h,ae,w,re,p⟩=>p ρ H Le.refl w
theorem xE (he:DE K mg X ES e F):DO K mg X ES (some e) (n6 F):=PO.imp (wj he) λσ H Q ⟨ρ,h,ae,w,re,p⟩=>⟨ρ,h,ae,w,re,p.bind.imp λd h1 ρ1 H1 l1 w1 p1 v rv=>by
 split at p1
 ·cases rv;exact⟨_,rfl,p1 ρ1 H1 Le.refl w1⟩
 ·exact p1.elim⟩
theorem kf {ρ:List Addr}{H:Hp}{xs:List D}{vs:List V} (r:RelDs K mg ρ H xs vs) (lo hi:Option Int):RelDs K mg ρ H (cutD xs lo hi) (gR vs lo hi):=by
 unfold cutD gR
 rw[<- r.len]
 exact (r.drop _).take _
theorem slK (h:X.K=K):SlR X (λx lo hi H Q=>rSlL K x lo hi H Q\/rSlT K x lo hi H Q):=by subst h;exact wR.or yz
theorem sY (hK:X.K=K) (he:DE K mg X ES e F) (hl:DO K mg X ES lo L) (hu:DO K mg X ES hi U):DE K mg X ES (.Subscript e (.Slice lo hi none p2) pos) (eSl F L U):=
 PE.imp (
  uS (slK hK) he hl hu) λσ H Q q_=>q_.el λρ h ae w re p=>⟨ρ,h,ae,w,re,p.bind.imp λd h1 ρ1 H1 l1 w1 p1 x rx=>⟨ρ1,h1,ae,w1,re.mono l1,p1.bind.imp λlo h2 ρ2 H2 l2 w2 p2=>⟨ρ2,h2,ae,w2,(re.mono l1).mono l2,p2.bind.imp λhi h3 ρ3 H3 l3 w3 p3=>by
  have rx3:=(rx.mono l2).mono l3
  unfold gSl at p3
  split at p3
  ·split at p3
   ·exact p3.elim
   ·rename_i hn
    cases rx3 with
    | tup q rs=>exact .inr ⟨_,_,rfl,q,by rw[<- rs.len];exact hn,λl hl=>gi w3 (kf rs lo hi) hl p3⟩
  ·split at p3
   ·rename_i xs e1
    cases rx3 with
    |
     ref ea=>
     obtain⟨vs,q,rs⟩:=bM w3 ea e1
     exact .inl ⟨_,_,rfl,q,λl hl=>dO w3 (kf rs lo hi) hl p3⟩
   ·exact p3.elim
  ·cases rx3 with
   | kl q rs=>exact .inl ⟨_,_,rfl,.inr q,λl hl=>dO w3 (kf rs lo hi) hl p3⟩
  ·exact p3.elim⟩⟩⟩
end
def mr (d:D) (h:AH):R Bool:=match d with
 | .non=>.ok false h
 | .bl b=>.ok b h
 | .int i=>.ok (i != 0) h
 | d=>match bZ h d with
  | some xs=>.ok (!xs.isEmpty) h
  | none=>.stuck
def tTr (F:ME):MT:=λae h=>(F ae h).bind mr
section
variable {K:W.Frag}{mg:Str->Option Value}{X:Cx}{ES:St->XK}{a:Expr}{F:ME}
theorem uB (hK:X.K=K) (ha:DE K mg X ES a F) (he:∀ bi,isTrue a X.env bi=(do let v <- bi;standAt a.pos;holding [v] (truthy v)):=by intro _;rfl):DT K mg X ES a (tTr F):=by
 subst hK
 refine PT.imp (uv ha he) λσ H Q q_=>q_.el λρ h ae w re p=>⟨ρ,h,ae,w,re,p.bind.imp λd h1 ρ1 H1 l1 w1 p1 x rx=>?_⟩
 have items:∀ {xs:List D},bZ h1 d=some xs->Q (!xs.isEmpty) H1->∃ k,uK X.K x H1 k/\Q k H1:=λ{xs} e q=>by
  obtain⟨pa,vs,rfl,hq,rs⟩:=cZ w1 rx e
  have ee:xs.isEmpty=vs.isEmpty:=by cases rs <;> rfl
  rw[ee] at q
  rcases hq with hq | hq
  ·exact⟨_,.inl ⟨vs,hq,rfl⟩,q⟩
  ·exact⟨_,.inr (.inl ⟨vs,hq,rfl⟩),q⟩
 unfold mr at p1
 split at p1
 ·cases rx;exact⟨_,rfl,p1 ρ1 H1 Le.refl w1⟩
 ·cases rx;exact⟨_,rfl,p1 ρ1 H1 Le.refl w1⟩
 ·cases rx;exact⟨_,rfl,p1 ρ1 H1 Le.refl w1⟩
 ·split at p1
  ·rename_i xs e1;exact items e1 (p1 ρ1 H1 Le.refl w1)
  ·exact p1.elim
end
end L2
namespace L2
open PySem PySem.Spec PyProof.Rows
section
variable {X:Cx}{pins pins2 pn:List (Addr×Obj)}{σ:St}{H:Hp}{s:Shared}{xe:Value->Shared->Prop}
end
section
variable {K:W.Frag}{mg:Str->Option Value}{X:Cx}{ES:St->XK}{x n:Str}{C:Addr}{i:Nat}{body suite:List Stmt}{b₀:Stmt}{B U:MS}{np hpos pos:Pos}{mro:List Str}
end
structure Script (h:AH) (d:D) (ns:List Int):Prop where
 form:(∃ n,d=.ref n/\h[n]?=some (.fz (ns.map D.int)))\/d=.kl (ns.map D.int)
theorem f6 {K:W.Frag}{mg:Str->Option Value}{ρ:List Addr}{H:Hp}:∀ (ns:List Int),RelDs K mg ρ H (ns.map D.int) (ns.map V.int)
 | []=>.nil
 | _ :: r=>.cons (.int _) (f6 r)
theorem u5 {P:Program}{w:World}{K:W.Frag}{mg:Str->Option Value}{base:Heap}{x y:Str}{k:Nat}{S:Fn} (C:Callee P w K mg base x k [y] (spD K mg 1 S))
 (hS:∀ (d:D) (h:AH) (ns:List Int),ns.length<=63->Script h d ns->∃ h',S [d] h=.ok (.bl true) h'):Callee P w K mg base x k [y] (λvs H Q _=>∃ (a:Addr) (ns:List Int),vs=[.ref a]/\ke H/\SqL K H a (ns.map V.int)/\ns.length<=63/\∀ H',Q (.bl true) H'):=by
 refine C.imp λvs H Q E ⟨a,ns,e,hO,hq,hl,q⟩=>?_
 subst e
 rcases hq with (hq | ⟨o,hq⟩) | hq
 ·rcases hO a with z | ⟨o,xs,z⟩ <;> rw[hq] at z <;> cases z
 ·obtain⟨h',e⟩:=hS (.ref 0) [.fz (ns.map D.int)] ns hl ⟨.inl ⟨0,rfl,rfl⟩⟩
  refine⟨[a],[.fz (ns.map D.int)],[.ref 0],⟨rfl,by simp,λn b ob e1 e2=>?_⟩,.cons (.ref rfl) .nil,rfl,?_⟩
  ·cases n with
   | zero=>cases e1;cases e2;exact⟨o,_,hq,f6 ns⟩
   | succ n=>simp at e1
  ·rw[e]
   exact λρ' H' l' w' v rv=>by cases rv;exact q H'
 ·obtain⟨h',e⟩:=hS (.kl (ns.map D.int)) [] ns hl ⟨.inr rfl⟩
  refine⟨[],[],[.kl (ns.map D.int)],⟨rfl,by simp,λn b ob e1 e2=>by simp at e1⟩,.cons (.kl hq (f6 ns)) .nil,rfl,?_⟩
  rw[e]
  exact λρ' H' l' w' v rv=>by cases rv;exact q H'
theorem walk_lawD {l:W.OpenLaw}{q:Program}{loose:List Str}{XP:(Str->Option Value)->Heap->Prop}{YP:World->Heap->Prop}{d:DefRec}{K:Params->W.Frag}{x:Str}{k:Nat} (hn:l.most=some 63) (hdf:d.params.defaults=[]) (hr:Room k callerA)
 (hY:∀ (w:World) (h:Heap),YP w h->(K w.params).In h)
 (F:∀ (w:World) (mg:Str->Option Value) (h:Heap),(K w.params).In h->h.Ns mainGlobals mg->∀ base:Heap,(K w.params).In base->base.Ns mainGlobals mg->Callee l.prog w (K w.params) mg base d.name k [x] (λvs H Q _=>∃ (a:Addr) (ns:List Int),vs=[.ref a]/\ke H/\SqL (K w.params) H a (ns.map V.int)/\ns.length<=63/\∀ H',Q (.bl true) H'))
 (D:∀ (w:World) (mg:Str->Option Value) (h:Heap),(K w.params).In h->h.Ns mainGlobals mg->∃ st,Def (K w.params) mg d.name st/\∀ (kV doc pm:Value) (an:Option Addr) (cdv ct:Value) (us:List Value),us.length=1->bindArgs (W.fnOf d.name d.name (bX st) (bf st) (ao st) .none kV doc pm an cdv ct) ⟨us,[]⟩=pure ([x].zip us)):
 W.WalkO q loose XP YP l.row.toRowW d [] (λf vs=>PySem.call f vs):=by
 refine L2.walk_of (n:=63) (k:=k) (x:=x) (CX:=λw=>CX1 l.prog w) (sp:=λw=>λvs H Q _=>∃ (a:Addr) (ns:List Int),vs=[.ref a]/\ke H/\SqL (K w.params) H a (ns.map V.int)/\ns.length<=63/\∀ H',Q (.bl true) H') hn (by decide) hdf hr hY (λw mg fa h KX G hmg=>?_) (λ_ _ a ns hl hO hS=>⟨a,ns,rfl,hO,hS,hl,λ_=>rfl⟩) λ_ _ _ _ _ ⟨_,_,_,_,_,_,_,_,_,z⟩=>z
 obtain⟨st,Dd,hbind⟩:=D w mg h KX G
 obtain⟨f,fd,Ff,m⟩:=Dd.ex
 have e:=hmg.symm.trans m
 cases e
 obtain⟨oc,od,kV,doc,pm,an,cdv,ct,osl,rfl,lk,hcd⟩:=Ff.ex
 refine⟨_,λs u=>.of_eq (hbind kV doc pm an cdv ct [u] rfl),λbase kb nb=>?_⟩
 obtain⟨f',fd',F',m',kp',b',oc',od',osl',lk'⟩:=(F w mg h KX G base kb nb).ex
 rw[m] at m'
 cases m'
 rw[lk] at lk'
 cases lk'
 exact F'
end L2
namespace L2
open PySem PySem.Spec PyProof.Rows
mutual
inductive Bel (N:Nat):D->Prop where
 | non:Bel N .non
 | bl (b:Bool):Bel N (.bl b)
 | int (i:Int):Bel N (.int i)
 | str (x:Str):Bel N (.str x)
 | ty (n:String):Bel N (.ty n)
 | glb (x:Str):Bel N (.glb x)
 | exc (x:Str):Bel N (.exc x)
 | tup {ds:List D} (r:Bels N ds):Bel N (.tup ds)
 | ref {n:Nat} (h:n < N):Bel N (.ref n)
 | kl {ds:List D} (r:Bels N ds):Bel N (.kl ds)
inductive Bels (N:Nat):List D->Prop where
 | nil:Bels N []
 | cons {d:D}{ds:List D} (r:Bel N d) (rr:Bels N ds):Bels N (d :: ds)
end
def uR (N:Nat):Ob->Prop
 | .lst xs=>Bels N xs
 | .fz xs=>Bels N xs
 | .dct kvs=>Bels N (kvs.map (·.2))
 | _=>True
section
variable {K:W.Frag}{mg:Str->Option Value}{ρ ρ1 ρ2:List Addr}{H H1:Hp}{h:AH}
end
inductive Rf (h:AH):R D->R D->Prop where
 | stuck (r:R D):Rf h r .stuck
 | eq (r:R D):Rf h r r
 | val {d:D}{h2 g:AH} (hl:h2.length=h.length) (ho:∀ (n:Nat) (o:Ob),h2[n]?=some o->h[n]?=some o\/uR h.length o) (hd:Bel h.length d):Rf h (.ok d (h2++g)) (.ok d h2)
 | exc {c:Str}{h2 g:AH} (hl:h2.length=h.length) (ho:∀ (n:Nat) (o:Ob),h2[n]?=some o->h[n]?=some o\/uR h.length o):Rf h (.exc c (h2++g)) (.exc c h2)
 | lst {m:Nat}{h1 h2:AH}{ys:List D} (hl:h2.length=h.length) (ho:∀ (n:Nat) (o:Ob),h2[n]?=some o->h[n]?=some o\/uR h.length o) (hs:∀ (n:Nat) (o:Ob),h2[n]?=some o->h1[n]?=some o) (em:h1[m]?=some (.lst ys)) (hm:h.length<=m) (hy:Bels h.length ys):Rf h (.ok (.ref m) h1) (.ok (.ref h.length) (h2++[.lst ys]))
section
variable {K:W.Frag}{mg:Str->Option Value}{ρ:List Addr}{H:Hp}{h:AH}
end
end L2
namespace L2
open PySem PySem.Spec PyProof.Rows
def pf:D->D->AH->R D:=gOr (gI λi j=>.int (i + j)) iN
def sO:D->D->AH->R D:=gI λi j=>.int (i - j)
def CMulA (i j:Int):Prop:=vk i j\/CMul i j
def u4:D->D->AH->R D:=gIc CMulA λi j=>.int (i * j)
def sg:D->D->AH->R D:=gIc CDivB λi j=>.int (i.fdiv j)
def uA:D->D->AH->R D:=gIc (λ_ j=>j ≠ 0) λi j=>.int (i.fmod j)
def tK:D->D->AH->R D:=gIc j7 λi j=>.int (i ^ j.toNat)
def gLt:D->D->AH->R D:=gI λi j=>.bl (decide (i < j))
def gGt:D->D->AH->R D:=gI λi j=>.bl (decide (j < i))
def gGe:D->D->AH->R D:=gI λi j=>.bl (decide (j<=i))
def oE (n:Nat) (S:Fn) (A:MA):ME:=eFn (λds h=>if ds.length=n then S ds h else .stuck) A
section
variable {K:W.Frag}{mg:Str->Option Value}{X:Cx}
theorem cJ (h:X.K=K):OpR X (binaryOp .Add) (λx y H Q=>rI0 (λi j=>.int (i + j)) x y H Q\/(jZ x y H Q\/(iF K x y H Q\/iC K x y H Q))):=Bj.or (catK h)
theorem zF:OpD K mg (λx y H Q=>rI0 (λi j=>.int (i + j)) x y H Q\/(jZ x y H Q\/(iF K x y H Q\/iC K x y H Q))) pf:=(g9 λ_ _ _ _=>.int _).or yc
theorem zQ:OpD K mg (rI0 λi j=>.int (i - j)) sO:=g9 λ_ _ _ _=>.int _
theorem fK:OpR X (binaryOp .Mult) (rI CMulA λi j=>.int (i * j)):=by
 intro pins s σ H x y v u Q I rx ry h
 obtain⟨i,j,e1,e2,hc,q⟩:=h
 rcases hc with hc | hc
 ·exact vQ pins s σ H x y v u Q I rx ry ⟨i,j,e1,e2,hc,q⟩
 ·exact A9 pins s σ H x y v u Q I rx ry ⟨i,j,e1,e2,hc,q⟩
theorem zk:OpD K mg (rI CMulA λi j=>.int (i * j)) u4:=k8 λ_ _ _ _=>.int _
theorem zK:OpD K mg (rI CDivB λi j=>.int (i.fdiv j)) sg:=k8 λ_ _ _ _=>.int _
theorem zc:OpD K mg (rI (λ_ j=>j ≠ 0) λi j=>.int (i.fmod j)) uA:=k8 λ_ _ _ _=>.int _
theorem zm:OpD K mg (rI j7 λi j=>.int (i ^ j.toNat)) tK:=k8 λ_ _ _ _=>.int _
theorem B2:OpD K mg (rI0 λi j=>.bl (decide (i < j))) gLt:=g9 λ_ _ _ _=>.bl _
theorem CV:OpD K mg (rI0 λi j=>.bl (decide (j < i))) gGt:=g9 λ_ _ _ _=>.bl _
theorem CO:OpD K mg (rI0 λi j=>.bl (decide (j<=i))) gGe:=g9 λ_ _ _ _=>.bl _
variable {ES:St->XK}{e:Expr}{es:List Expr}{A:MA}{pos:Pos}
theorem sd {x:Str}{p:Pos}{k n:Nat}{ps:List Str}{S:Fn} (C:Callee X.prog X.w X.K X.mg X.base x k ps (spD K mg n S)) (hr:Room k X.A) (hg:Gl X x) (hx:jn X ES) (ha:DA K mg X ES (e :: es) A)
 (hdb:(x == ("__debug__" : Str))=false:=by decide) (he:starEach (e :: es) X.env=(false,eval e X.env) :: starEach es X.env:=by rfl) (hpl:(backTo pos (starEach es X.env)).any (·.1)=false:=by rfl):
 DE K mg X ES (.Call (.Name x p) (e :: es) [] pos) (oE n S A):=v3 C hr hg hx ha hdb he hpl
end
section
variable {ae:AE}{h:AH}
@[simp] theorem eu {α β:Type} (a:α) (h:AH) (f:α->AH->R β):(R.ok a h).bind f=f a h:=rfl
end
end L2
namespace L2
open PySem PySem.Spec PyProof.Rows
theorem eY {pd:PyData} (h1:pd.canLay0=true) (h2:pd.depth<=64):SeqAt.shaped pd=true:=by
 unfold SeqAt.shaped
 rw[h1,decide_eq_true h2];rfl
def Sm (n:Nat) (x:Int):Prop:=x.natAbs < 2 ^ n
theorem Sm.bits {n:Nat}{x:Int} (h:Sm n x):Builtin.Int.intBits x<=n:=intBits_le_iff.mpr h
theorem CMulA.left {x y:Int} (h:-(2 ^ 64) < x) (k:x < 2 ^ 64):CMulA x y:=.inr (.inl ⟨h,k⟩)
theorem CMulA.right {x y:Int} (h:-(2 ^ 64) < y) (k:y < 2 ^ 64):CMulA x y:=.inr (.inr ⟨h,k⟩)
theorem CDivB.of {x y:Int} (h0:y ≠ 0) (h:Sm 8000 y):CDivB x y:=⟨h0,h.bits⟩
structure Sz (n:Nat) (q:Rat):Prop where
 top:Sm n q.num
 bot:Sm n (q.den:Int)
section
variable {α β:Type} (ae:AE) (h:AH)
end
def Vl (mg:Str->Option Value) (c:Cl) (u:Value):Prop:=match c with
 | .b n=>u=.type n
 | .o x=>mg x=some u
theorem C0 {K:W.Frag}{mg:Str->Option Value}{c d:Cl}{tu cu t v:Value}{b:Bool} (e:W.kitOne K tu cu=some b) (hc:Vl mg c tu) (hd:Vl mg d cu) (h1:ClV mg c t) (h2:ClV mg d v):W.kitOne K t v=some b:=by
 have f:∀ {c:Cl}{u t:Value},Vl mg c u->ClV mg c t->u=t:=by
  intro c u t h1 h2
  cases c with
  | b n=>exact (show u=_ from h1).trans (show t=_ from h2).symm
  |
   o x=>
   obtain⟨a,rfl,m⟩:=h2
   have h1':mg x=some u:=h1
   rw[m] at h1'
   exact (Option.some.inj h1').symm
 rw[<- f hc h1,<- f hd h2]
 exact e
theorem uy {K:W.Frag}{mg:Str->Option Value}:KitsOk K mg []:=⟨λp hp=>(nomatch hp),λp hp=>(nomatch hp)⟩
theorem aV {K:W.Frag}{mg:Str->Option Value}{c d:Cl}{tu cu:Value}{b:Bool}{kt:dG} (e:W.kitOne K tu cu=some b) (hc:Vl mg c tu) (hd:Vl mg d cu) (hx:∀ x C,c=.o x->mg x=some (.ref C)->XCls K C) (r:KitsOk K mg kt):KitsOk K mg ((c,d,b) :: kt):=
 ⟨λp hp t v h1 h2=>by
  rcases List.mem_cons.mp hp with rfl | hp
  ·exact C0 e hc hd h1 h2
  ·exact r.one p hp t v h1 h2,λp hp x C e' m=>by
  rcases List.mem_cons.mp hp with rfl | hp
  ·exact hx x C e' m
  ·exact r.xc p hp x C e' m⟩
theorem cF {K:W.Frag}{mg:Str->Option Value}{n:String}:∀ x C,Cl.b n=.o x->mg x=some (.ref C)->XCls K C:=λ_ _ e=>nomatch e
end L2
namespace L2
open PySem PySem.Spec PyProof.Rows
theorem ur {P:Program}{w:World}{H:Hp} (h:Heap) (hb:sysModules < h.objs.size):ObjOk P w H (h.push { cls:=.type "dict",data:=.dict #[] }) h.objs.size (.dK []):=
 ⟨Nat.zero_le _,beq_eq_false_iff_ne.mpr (Ne.symm (Nat.ne_of_lt hb)),[],.nil,Heap.DictOf.new h⟩
theorem Inv.big {X:Cx}{pins:List (Addr×Obj)}{σ:St}{H:Hp}{s:Shared} (I:Inv X pins σ H s):sysModules < s.heap.objs.size:=by
 have h:mainGlobals < s.heap.objs.size:=(I.mod.glob.keeps I.bk).lt
 exact Nat.lt_trans (by decide) h
section
variable {K:W.Frag}{mg:Str->Option Value}{X:Cx}{ES:St->XK}{pos:Pos}
end
end L2
namespace L2
open PySem PySem.Spec PyProof.Rows
variable {K:W.Frag}{mg:Str->Option Value}
end L2
namespace L2
open PySem PySem.Spec PyProof.Rows
section
variable {K:W.Frag}{mg:Str->Option Value}{X:Cx}{ES:St->XK}{e:Expr}{es:List Expr}{A:MA}{pos:Pos}
end
end L2
namespace L2
open PySem PySem.Spec PyProof.Rows
section
variable {K:W.Frag}{mg:Str->Option Value}{X:Cx}{ES:St->XK}{e a b c o lo hi:Expr}{F G L U:ME}{pos p2:Pos}{ρ:List Addr}{H:Hp}{h:AH}{ae:AE}
end
end L2
namespace L2
open PySem PySem.Spec PyProof.Rows
section
variable {κ:Type} [DecidableEq κ]
def cR (kvs:List (κ×V)) (k:κ):Option V:=(kvs.find? λkv=>decide (kv.1=k)).map (·.2)
def eD (kvs:List (κ×V)) (k:κ) (v:V):List (κ×V):=
 if (kvs.any λkv=>decide (kv.1=k))=true then kvs.map (λkv=>if kv.1=k then (kv.1,v) else kv) else kvs++[(k,v)]
theorem iW {p:κ×V}{r:List (κ×V)}{k:κ} (e:p.1=k):cR (p :: r) k=some p.2:=by simp [cR,List.find?_cons,e]
theorem iR {p:κ×V}{r:List (κ×V)}{k:κ} (e:¬ p.1=k):cR (p :: r) k=cR r k:=by simp [cR,List.find?_cons,e]
theorem l8 (k:κ):∀ kvs:List (κ×V),(kvs.any λkv=>decide (kv.1=k))=(cR kvs k).isSome
 | []=>rfl
 |
  p :: r=>by
  rw[List.any_cons]
  by_cases e:p.1=k
  ·simp only[iW e,decide_eq_true e,Bool.true_or,Option.isSome_some]
  ·rw[iR e,decide_eq_false e,Bool.false_or];exact l8 k r
theorem mY (kvs:List (κ×V)) (k:κ) (v:V):(eD kvs k v).length<=kvs.length + 1:=by
 unfold eD
 split
 ·rw[List.length_map];omega
 ·rw[List.length_append,List.length_cons,List.length_nil];omega
theorem uI {kvs:List (κ×V)}{k:κ} (v:V) (h:cR kvs k=none):eD kvs k v=kvs++[(k,v)]:=by
 unfold eD
 rw[l8,h]
 exact if_neg (by decide)
theorem KV.val {kvs:List (κ×V)}{vs:List (κ×Value)} (r:KV kvs vs) (k:κ):RelO (cR kvs k) (valueAt vs k):=by
 unfold KV at r
 induction r with
 | nil=>exact True.intro
 |
  @cons p q ps qs h t ih=>
  obtain⟨h1,h2⟩:=h
  by_cases e:p.1=k
  ·have e':q.1=k:=h1.symm.trans e
   have b:valueAt (q :: qs) k=some q.2:=by simp [valueAt,List.find?_cons,e']
   rw[iW e,b];exact h2
  ·have e':¬ q.1=k:=λz=>e (h1.trans z)
   have b:valueAt (q :: qs) k=valueAt qs k:=by simp [valueAt,List.find?_cons,e']
   rw[iR e,b];exact ih
theorem KV.any {kvs:List (κ×V)}{vs:List (κ×Value)} (r:KV kvs vs) (k:κ):(kvs.any λkv=>decide (kv.1=k))=vs.any λkv=>decide (kv.1=k):=by
 unfold KV at r
 induction r with
 | nil=>rfl
 | cons h t ih=>rw[List.any_cons,List.any_cons,ih,h.1]
theorem KV.repl {kvs:List (κ×V)}{vs:List (κ×Value)} (r:KV kvs vs) (k:κ) {y:V}{u:Value} (ry:RelV y u):
 KV (kvs.map λkv=>if kv.1=k then (kv.1,y) else kv) (vs.map λkv=>if kv.1=k then (kv.1,u) else kv):=by
 unfold KV at r ⊢
 induction r with
 | nil=>exact .nil
 |
  @cons p q ps qs h t ih=>
  rw[List.map_cons,List.map_cons]
  refine .cons ?_ ih
  obtain⟨h1,h2⟩:=h
  by_cases e:p.1=k
  ·rw[if_pos e,if_pos (h1.symm.trans e)];exact⟨h1,ry⟩
  ·rw[if_neg e,if_neg (λz=>e (h1.trans z))];exact⟨h1,h2⟩
theorem KV.put {kvs:List (κ×V)}{vs:List (κ×Value)} (r:KV kvs vs) (k:κ) {y:V}{u:Value} (ry:RelV y u):KV (eD kvs k y) (stored vs k u):=by
 unfold eD stored
 rw[r.any k]
 by_cases e:(vs.any λkv=>decide (kv.1=k))=true
 ·rw[if_pos e,if_pos e];exact r.repl k ry
 ·rw[if_neg e,if_neg e];exact Paired.snoc r ⟨rfl,ry⟩
end
theorem og {P:Program}{w:World}{k:Key}{u:Value} (r:RelV (kV k) u):(bh P w).is k u=true:=by
 cases k with
 | inl i=>obtain⟨t,e⟩:=(show ∃ t,u=Value.int i t from r);subst e;exact mU P w i t
 | inr x=>obtain⟨t,e⟩:=(show ∃ t,u=Value.str x t from r);subst e;exact mT P w x t
theorem ku {P:Program}{w:World}:∀ {ks:List Key}{us:List Value},Vals (ks.map kV) us->ItemsAre (bh P w) ks us
 | [],_,r=>by rw[List.map_nil] at r;cases r;exact .nil
 |
  k :: ks,_,r=>by
  rw[List.map_cons] at r
  cases r with
  | cons h t=>exact .cons (og h) (ku t)
abbrev KT (H:Hp):List (List Key×V)->List (List Key×Addr×Value)->Prop:=Paired λp q=>p.1=q.1/\H q.2.1=some (.tup (p.1.map kV))/\RelV p.2 q.2.2
theorem KT.val {H:Hp}{kvs:List (List Key×V)}{xs:List (List Key×Addr×Value)} (r:KT H kvs xs) (k:List Key):RelO (cR kvs k) ((atKey xs k).map (·.2)):=by
 induction r with
 | nil=>exact True.intro
 |
  @cons p q ps qs h t ih=>
  obtain⟨h1,_,h2⟩:=h
  by_cases e:p.1=k
  ·have e':q.1=k:=h1.symm.trans e
   have b:atKey (q :: qs) k=some q.2:=by simp [atKey,List.find?_cons,e']
   rw[iW e,b];exact h2
  ·have e':¬ q.1=k:=λz=>e (h1.trans z)
   have b:atKey (q :: qs) k=atKey qs k:=by simp [atKey,List.find?_cons,e']
   rw[iR e,b];exact ih
section
variable {P:Program}{w:World}{H:Hp}{h:Heap}{a:Addr}
theorem vJ {u:HO} (ok:HOk P w H h) (e:Rd H a u):ObjOk P w H h a u:=e.ok ok
theorem oZ {kvs:List (Key×V)} (ok:HOk P w H h) (e:Rd H a (.dK kvs)):kvs.length<=sizeLine/\(a == sysModules)=false/\∃ vs,KV kvs vs/\h.DictOf (bh P w) a vs:=
 show ObjOk P w H h a (.dK kvs) from vJ ok e
theorem CT {kvs:List (Key×V)} (ok:HOk P w H h) (e:H a=some (.dK kvs)):kvs.length<=sizeLine/\(a == sysModules)=false/\∃ vs,KV kvs vs/\h.DictOf (bh P w) a vs:=oZ ok (.inl e)
theorem qp {ks:List Key} (ok:HOk P w H h) (e:H a=some (.tup (ks.map kV))):(tupleKind (bh P w)).is h ks a:=by
 obtain⟨_,its,r,o,h1,h2,n,h3⟩:=(show ObjOk P w H h a (.tup (ks.map kV)) from ok a _ e)
 exact⟨o,its.toArray,n,h1,h2,h3,by simpa using ku r⟩
theorem vj {kvs:List (List Key×V)} (ok:HOk P w H h) (e:Rd H a (.dT kvs)):kvs.length<=sizeLine/\(a == sysModules)=false/\
 ∃ xs,KT H kvs xs/\h.DictOfH (tupleKind (bh P w)) a xs:=by
 obtain⟨z,y,xs,r,o,es,ep,h1,h2,h3,h4,h5⟩:=(show ObjOk P w H h a (.dT kvs) from vJ ok e)
 refine⟨z,y,xs,r,o,es,ep,h1,h2,h3,h4,λx hx=>?_,h5⟩
 have all:∀ {l:List (List Key×V)}{m:List (List Key×Addr×Value)},KT H l m->∀ x ∈ m,(tupleKind (bh P w)).is h x.1 x.2.1:=by
  intro l m q
  induction q with
  | nil=>intro x hx;exact nomatch hx
  |
   @cons p q ps qs hq t ih=>
   intro x hx
   rcases List.mem_cons.mp hx with e | hx
   ·subst e
    exact qp ok (by rw[<- hq.1];exact hq.2.1)
   ·exact ih x hx
 exact all r x hx
end
def DGet (H:Hp) (a:Addr) (y:V) (r:Option V):Prop:=
 (∃ kvs k,Rd H a (.dK kvs)/\y=kV k/\r=cR kvs k)\/∃ kvs k b,Rd H a (.dT kvs)/\y=.ref b/\H b=some (.tup (k.map kV))/\r=cR kvs k
theorem DGet.k {H:Hp}{a:Addr}{kvs:List (Key×V)}{k:Key} (e:H a=some (.dK kvs)):DGet H a (kV k) (cR kvs k):=.inl ⟨kvs,k,.inl e,rfl,rfl⟩
section
variable {X:Cx}{pins:List (Addr×Obj)}{σ:St}{H:Hp}{s:Shared}{a:Addr}{y v:V}{u r:Value}{o:Option V}{A:Around}{E:Value->Shared->Prop}
theorem pR {Q:Value->Shared->Prop} (hu:A.units + 1 < cLine) (I:Inv X pins σ H s) (g:DGet H a y (some v)) (ry:RelV y u) (h:∀ w' s',Inv X pins σ H s'->RelV v w'->Q w' s'):
 wpAny (model X.prog X.w) A (getItem (.ref a) u) Q E s:=by
 rcases g with ⟨kvs,k,e,ey,l⟩ | ⟨kvs,k,b,e,ey,eb,l⟩
 ·subst ey
  obtain⟨z,hd,vs,rel,dd⟩:=oZ I.hok e
  obtain⟨w',hw,rw'⟩:=RelO.some_of (v:=v) (o:=valueAt vs k) (by rw[l];exact rel.val k)
  exact wpAny_getItem_of (og ry) dd.mapOf hw (h w' _ (I.tok _) rw')
 ·subst ey
  cases (show u=Value.ref b from ry)
  obtain⟨z,hd,xs,rel,dd⟩:=vj I.hok e
  obtain⟨w',hw,rw'⟩:=RelO.some_of (v:=v) (o:=(atKey xs k).map (·.2)) (by rw[l];exact rel.val k)
  obtain⟨p,hp,hp2⟩:=Option.map_eq_some_iff.mp hw
  refine wpAny_getItem_heap (tupleKind_room_in1 hu) (qp I.hok eb) dd hp ?_
  rw[hp2]
  exact h w' _ (I.tok _) rw'
theorem vW {h':Heap}{t':Nat}{ob:HO} (I:Inv X pins σ H s) (mu:Mut (H a)) (hs:Heap.SameBut a s.heap h') (he:∃ q,h'.get? a=some q) (new:ObjOk X.prog X.w (upd H a ob) h' a ob):
 Inv X pins σ (upd H a ob) { s with heap:=h',toks:=t' }:=
 I.write (x:=a) (e:=a) mu (.inl rfl) (λb q hb z=>(hs.2 b hb).trans z) he new
theorem zy {P:Program}{w:World}{H':Hp}{h':Heap}{kvs:List (Key×V)}{vs:List (Key×Value)} (z:kvs.length<=sizeLine) (hd:(a == sysModules)=false) (rel:KV kvs vs) (dd:h'.DictOf (bh P w) a vs):
 ObjOk P w H' h' a (.dK kvs):=⟨z,hd,vs,rel,dd⟩
end
section
variable {X:Cx}{pins:List (Addr×Obj)}{σ:St}{H:Hp}{s:Shared}{a:Addr}{kvs:List (Key×V)}{k:Key}{u:Value}{A:Around}{E:Value->Shared->Prop}
end
def pw (i:Expr):Prop:=∀ ov iv,subscripted i false ov iv=operate [ov,iv] (getItem ov iv)
theorem vS {prog:Program}{w:World}{A:Around}{E:Value->Shared->Prop}{s:Shared}{env:Env}{value ce:Expr}{pos:Pos}{T id:String}{Q:Value->Shared->Prop}
 (hl:typeLookup (.type T) "__getitem__"=pure (some (.builtin id))) (hs:pw ce)
 (h:wpAny (model prog w) A (eval value env) (λo s₁=>wpAny (model prog w) A (eval ce env) (λi s₂=>s₂.TypeIs o T/\wpAny (model prog w) A (getItem o i) Q E s₂) E s₁) E s):
 wpAny (model prog w) A (eval (.Subscript value ce pos) env) Q E s:=by
 refine Subscript_ (wpAny_mono h (λo s₁ h₁=>wpAny_mono h₁ (λi s₂ h₂=>?_) λ_ _ x=>x) λ_ _ x=>x)
 obtain⟨hT,h₂⟩:=h₂
 unfold subscriptTail
 refine wpAny_bind ?_
 rw[getitemInPython_of_ne hT.not_modules]
 refine wpAny_bind (wpAny_specialOf hT hl ?_)
 have fin:wpAny (model prog w) A (subscripted ce false o i) (λr s₃=>wpAny (model prog w) A (letTemporaryGo value o r >>= λ_=>pure r) Q E s₃) E s₂:=by
  rw[hs o i]
  exact wpAny_operating (wpAny_mono h₂ (λr s₃ h₃=>wpAny_bind (wpAny_letTemporaryGo (wpAny_pure h₃))) λ_ _ x=>x)
 first
  | exact wpAny_pure (wpAny_bind fin)
  | exact wpAny_bind (wpAny_pure (wpAny_bind fin))
  | exact wpAny_bind fin
theorem mV {X:Cx}{pins:List (Addr×Obj)}{σ:St}{H:Hp}{s:Shared}{a:Addr}{y:V}{o:Option V} (I:Inv X pins σ H s) (g:DGet H a y o):s.TypeIs (.ref a) "dict":=by
 rcases g with ⟨kvs,k,e,_,_⟩ | ⟨kvs,k,b,e,_,_,_⟩
 ·obtain⟨_,_,vs,_,dd⟩:=oZ I.hok e
  exact dd.typeIs
 ·obtain⟨_,_,xs,_,dd⟩:=vj I.hok e
  exact dd.typeIs
def Cj (td ty:TE):TE:=λσ H Q=>td σ H λx H1=>ty σ H1 λy H2=>∃ a v,x=.ref a/\DGet H2 a y (some v)/\Q v H2
section
variable {X:Cx}{o i e value:Expr}{pos pos' tpos:Pos}{td ty tv:TE}
theorem xf (hu:X.A.units + 1 < cLine) (ho:PE X o td) (hi:PE X i ty) (hs:pw i):PE X (.Subscript o i pos) (Cj td ty):=by
 intro pins s σ H Q I h
 refine vS PySem.F.slot_dict_getitem.lookup hs (thn (ho pins s σ H _ I h) λu s1 ⟨x,H1,I1,rx,q1⟩=>thn (hi pins s1 σ H1 _ I1 q1) λiv s2 ⟨y,H2,I2,ry,a,v,ex,g,q2⟩=>?_)
 subst ex
 obtain rfl:u=Value.ref a:=rx
 exact⟨mV I2 g,pR hu I2 g ry λw' s3 I3 rw'=>⟨v,H2,I3,rw',q2⟩⟩
end
section
variable {X:Cx}{pos:Pos}
end
def jg:List (TE×TE)->St->Hp->(List (V×V)->Hp->Prop)->Prop
 | [],_,H,Q=>Q [] H
 | (tk,tv) :: r,σ,H,Q=>tk σ H λx H1=>tv σ H1 λy H2=>jg r σ H2 λps H3=>Q ((x,y) :: ps) H3
abbrev VV:List (V×V)->List (Value×Value)->Prop:=Paired λp q=>RelV p.1 q.1/\RelV p.2 q.2
def PPs (X:Cx) (pos:Pos) (keys:List (Option Expr)) (values:List Expr) (trs:List (TE×TE)):Prop:=
 ∀
  (pins:List (Addr×Obj)) (s:Shared) (σ:St) (H:Hp) (Q:List (V×V)->Hp->Prop),Inv X pins σ H s->jg trs σ H Q->
  wpAny (model X.prog X.w) X.A (evalPairs (pairTrees keys values X.env pos)) (λvs s'=>∃ ps H',Inv X pins σ H' s'/\VV ps vs/\Q ps H') X.xe s
theorem wc {X:Cx}{pos:Pos}:PPs X pos [] [] []:=λpins s σ H Q I h=>pairTrees_nil_walk ⟨[],H,I,.nil,h⟩
theorem sD {X:Cx}{pos:Pos}{k v:Expr}{ks:List (Option Expr)}{vs:List Expr}{tk tv:TE}{trs:List (TE×TE)} (hk:PE X k tk) (hv:PE X v tv) (hr:PPs X pos ks vs trs):
 PPs X pos (some k :: ks) (v :: vs) ((tk,tv) :: trs):=λpins s σ H Q I h=>
 pairTrees_cons_walk (thn (hk pins s σ H _ I h) λu s1 ⟨x,H1,I1,rx,q1⟩=>thn (hv pins s1 σ H1 _ I1 q1) λw2 s2 ⟨y,H2,I2,ry,q2⟩=>
  thn (hr pins s2 σ H2 _ I2 q2) λws s3 ⟨ps,H3,I3,rel,q3⟩=>⟨(x,y) :: ps,H3,I3,.cons ⟨rx,ry⟩ rel,q3⟩)
def eA (kvs more:List (Key×V)):List (Key×V):=more.foldl (λacc kv=>eD acc kv.1 kv.2) kvs
theorem KV.merge:∀ {more:List (Key×V)}{rs:List (Key×Value)}{kvs:List (Key×V)}{vs:List (Key×Value)},KV more rs->KV kvs vs->KV (eA kvs more) (merged vs rs):=by
 intro more rs kvs vs r
 unfold KV at r
 induction r generalizing kvs vs with
 | nil=>intro q;exact q
 |
  @cons p q ps qs h t ih=>
  intro r0
  have e:KV (eD kvs p.1 p.2) (stored vs q.1 q.2):=by
   have:=r0.put p.1 h.2
   rw[<- h.1];exact this
  exact ih e
theorem gB:∀ (more kvs:List (Key×V)),(eA kvs more).length<=kvs.length + more.length
 | [],kvs=>by show kvs.length<=kvs.length + 0;omega
 |
  p :: r,kvs=>by
  have h1:=gB r (eD kvs p.1 p.2)
  have h2:=mY kvs p.1 p.2
  show (eA (eD kvs p.1 p.2) r).length<=_
  rw[List.length_cons];omega
theorem jv {P:Program}{w:World}:∀ {kvs:List (Key×V)}{ws:List (Value×Value)},VV (kvs.map λkv=>(kV kv.1,kv.2)) ws->∃ rs,Carries (bh P w) ws rs/\KV kvs rs
 | [],_,r=>by rw[List.map_nil] at r;cases r;exact⟨[],True.intro,.nil⟩
 |
  p :: kvs,_,r=>by
  rw[List.map_cons] at r
  cases r with
  |
   @cons a b as bs h t=>
   obtain⟨rs,c,q⟩:=jv (P:=P) (w:=w) t
   obtain⟨b1,b2⟩:=b
   exact⟨(p.1,b2) :: rs,⟨og h.1,rfl,c⟩,.cons ⟨rfl,h.2⟩ q⟩
def B1 (trs:List (TE×TE)):TE:=λσ H Q=>∀ p,H p=none->jg trs σ (upd H p (.dK [])) λps H2=>H2 p=some (.dK [])/\∃ kvs:List (Key×V),ps=kvs.map (λkv=>(kV kv.1,kv.2))/\kvs.length<=15/\Q (.ref p) (upd H2 p (.dK (eA [] kvs)))
theorem wJ {X:Cx}{pos:Pos}{keys:List (Option Expr)}{values:List Expr}{trs:List (TE×TE)} (h:PPs X pos keys values trs) (hall:keys.all (·.isSome)=true) (hl:keys.length=values.length) (h0:keys ≠ [])
 (h15:keys.length<=15):PE X (.Dict keys values pos) (B1 trs):=by
 intro pins s σ H Q I q
 have hn:=I.hok.fresh (Nat.le_refl s.heap.objs.size)
 have I1:=I.laid (a:=s.heap.objs.size) (o:=.dK []) (h':=s.heap.push { cls:=.type "dict",data:=.dict #[] }) (t':=s.toks) (λ_ _ q=>Heap.get?_push_of_some _ q) (Nat.le_refl _) (ur s.heap I.big)
 refine wpAny_Dict_walk (knd:=bh X.prog X.w) hall hl h0 h15 (thn (h pins _ σ _ _ I1 (q _ hn)) λws s2 ⟨ps,H2,I2,rel,e,kvs,ep,lk,q2⟩=>?_)
 subst ep
 obtain⟨rs,c,rk⟩:=jv (P:=X.prog) (w:=X.w) rel
 obtain⟨z,hd,vs0,r0,dd⟩:=CT I2.hok e
 cases r0
 refine⟨rs,c,dd,λh' dd' hs=>⟨.ref s.heap.objs.size,_,?_,rfl,q2⟩⟩
 have hz:(eA [] kvs).length<=sizeLine:=by
  have h1:=gB kvs []
  rw[List.length_nil] at h1
  rw[sizeLine_eq];omega
 have he:∃ q,h'.get? s.heap.objs.size=some q:=let ⟨q,_,_,hq,_⟩:=dd';⟨q,hq⟩
 exact vW I2 (by rw[e];exact True.intro) hs he (zy hz hd (rk.merge .nil) dd')
structure M1 (X:Cx) (o:Expr) (m:Str) (apos:Pos) (e:Expr) (cpos:Pos):Prop where
 base:attributeBase o m X.env (eval o X.env)=eval o X.env
 few:((backTo cpos (starEach [e] X.env)).all (λx=>!x.1) && (backToKw cpos (keywordEach [] X.env)).all (λx=>x.1.isSome)
  && decide (([e]:List Expr).length + ([]:List Keyword).length + (if ([]:List Keyword).isEmpty then 0 else 1) < 30))=true
 line:(apos.endLine == cpos.line)=true
 trees:backTo cpos (starEach [e] X.env)=[(false,eval e X.env)]
structure M2 (X:Cx) (o:Expr) (m:Str) (apos:Pos) (e f:Expr) (cpos:Pos):Prop where
 base:attributeBase o m X.env (eval o X.env)=eval o X.env
 few:((backTo cpos (starEach [e,f] X.env)).all (λx=>!x.1) && (backToKw cpos (keywordEach [] X.env)).all (λx=>x.1.isSome)
  && decide (([e,f]:List Expr).length + ([]:List Keyword).length + (if ([]:List Keyword).isEmpty then 0 else 1) < 30))=true
 line:(apos.endLine == cpos.line)=true
 trees:backTo cpos (starEach [e,f] X.env)=[(false,eval e X.env),(false,eval f X.env)]
section
variable {X:Cx}{pins:List (Addr×Obj)}{σ:St}{H:Hp}{s:Shared}{a:Addr}{y d:V}{u r:Value}{o:Option V}{A:Around}{E:Value->Shared->Prop}
end
section
variable {X:Cx}{o e f:Expr}{apos cpos:Pos}{td ty tx:TE}
end
section
variable {X:Cx}{pins:List (Addr×Obj)}{σ:St}{H:Hp}{s:Shared}{a:Addr}{kvs:List (Key×V)}{A:Around}{E:Value->Shared->Prop}
end
section
variable {X:Cx}{pins:List (Addr×Obj)}{σ:St}{H:Hp}{s:Shared}{a:Addr}{y:V}{u:Value}{A:Around}{E:Value->Shared->Prop}
end
end L2
namespace L2
open PySem PySem.Spec PyProof.Rows
section
variable {prog:Program}{w:World}{A:Around}{E:Value->Shared->Prop}{s:Shared}
end
end L2
namespace L2
open PySem PySem.Spec PyProof.Rows
section
variable {κ α:Type} [DecidableEq κ]
def lkD (kvs:List (κ×α)) (k:κ):Option α:=(kvs.find? λkv=>decide (kv.1=k)).map (·.2)
end
section
variable {K:W.Frag}{mg:Str->Option Value}{ρ:List Addr}{H:Hp}
theorem xG {k:Key}{d:D}:∀ {kvs:List (Key×D)}{ws:List (Key×V)},ws.map (·.1)=kvs.map (·.1)->RelDs K mg ρ H (kvs.map (·.2)) (ws.map (·.2))->lkD kvs k=some d->∃ v,cR ws k=some v/\RelD K mg ρ H d v:=by
 intro kvs
 induction kvs with
 | nil=>intro ws e r q;cases q
 |
  cons p kvs ih=>
  intro ws e r q
  cases ws with
  | nil=>cases e
  |
   cons w ws=>
   obtain⟨k1,d1⟩:=p
   obtain⟨k2,v2⟩:=w
   rw[List.map_cons,List.map_cons] at e
   injection e with e1 e2
   dsimp only at e1
   subst e1
   cases r with
   |
    cons r rr=>
    unfold lkD at q
    unfold cR
    rw[List.find?_cons] at q ⊢
    dsimp only at q ⊢
    by_cases hk:k2=k
    ·rw[decide_eq_true hk] at q ⊢
     cases q
     exact⟨v2,rfl,r⟩
    ·rw[decide_eq_false hk] at q ⊢
     exact ih e2 rr q
def mI:D->D->AH->R D:=λx y h=>match x with
 | .ref n=>(match y with
  | .str k=>(match h[n]? with
   | some (.dct kvs)=>(match lkD kvs (.inr k) with
    | some d=>.ok d h
    | none=>.stuck)
   | _=>.stuck)
  | _=>.stuck)
 | _=>.stuck
variable {X:Cx}{ES:St->XK}{a b:Expr}{F G:ME}{pos:Pos}
theorem wo (hu:X.A.units + 1 < cLine) (ha:DE K mg X ES a F) (hb:DE K mg X ES b G) (hs:pw b):DE K mg X ES (.Subscript a b pos) (eOp mI F G):=PE.imp (xf hu ha hb hs) λσ H Q q_=>q_.el λρ h ae w re p=>⟨ρ,h,ae,w,re,p.bind.imp λdx h1 ρ1 H1 l1 w1 p1 x rx=>⟨ρ1,h1,ae,w1,re.mono l1,p1.bind.imp λdy h2 ρ2 H2 l2 w2 p2 y ry=>by
 have rx2:=rx.mono l2
 unfold mI at p2
 split at p2
 ·split
   at p2
  ·split
    at p2
   ·rename_i n k _ kvs e
    split at p2
    ·rename_i d q
     cases rx2 with
     |
      ref ea=>
      cases ry
      obtain⟨ws,k1,k2,k3⟩:=w2.ob _ _ _ ea e
      obtain⟨v,q1,rv⟩:=xG k2 k3 q
      refine⟨_,v,rfl,?_,ay w2 rv p2⟩
      rw[<- q1]
      exact DGet.k (k:=.inr k) k1
    ·exact p2.elim
   ·exact p2.elim
  ·exact p2.elim
 ·exact p2.elim⟩⟩
def jD (ks:List Str) (A:MA):ME:=λae h=>(A ae (h++[.dct []])).bind λds h2=>match h2[h.length]? with
 | some (.dct [])=>if ks.length=ds.length then .ok (.ref h.length) (h2.set h.length (.dct ((ks.map Sum.inr).zip ds))) else .stuck
 | _=>.stuck
def aL:List (Str×ME)->MA
 | []=>dF
 | p :: r=>cE p.2 (aL r)
def tps (K:W.Frag) (mg:Str->Option Value) (ES:St->XK) (prs:List (Str×ME)):List (TE×TE):=prs.map λp=>(tC (.str p.1),rdE K mg ES p.2)
theorem ml {σ:St}:∀ (prs:List (Str×ME)) {ρ:List Addr}{h:AH}{ae:AE}{H:Hp}{Q:List (V×V)->Hp->Prop},Wd K mg ρ h H->RelE K mg ρ H ae σ->PostG K mg ρ H (ES σ) (λds _ ρ' H'=>∀ vs,RelDs K mg ρ' H' ds vs->Q ((prs.map λp=>V.str p.1).zip vs) H') (aL prs ae h)->jg (tps K mg ES prs) σ H Q
 | [],ρ,h,ae,H,Q,w,re,p=>p ρ H Le.refl w [] .nil
 | pr :: r,ρ,h,ae,H,Q,w,re,p=>⟨ρ,h,ae,w,re,(PostG.bind p).imp λd h1 ρ1 H1 l1 w1 p1 y ry=>ml r w1 (re.mono l1) ((PostG.bind p1).imp λds h2 ρ2 H2 l2 w2 p2 vs rs=>p2 ρ2 H2 Le.refl w2 (y :: vs) (.cons (ry.mono l2) rs))⟩
theorem lM:∀ (more acc:List (Key×V)),((acc++more).map (·.1)).Nodup->eA acc more=acc++more
 | [],acc,_=>(List.append_nil _).symm
 |
  (k,v) :: more,acc,h=>by
  show eA (eD acc k v) more=_
  have hk:cR acc k=none:=by
   unfold cR
   rw[Option.map_eq_none_iff,List.find?_eq_none]
   intro p hp z
   have z:=of_decide_eq_true z
   rw[List.map_append,List.nodup_append] at h
   exact h.2.2 p.1 (List.mem_map_of_mem hp) k (List.mem_cons_self ..) z
  rw[uI v hk,lM more (acc++[(k,v)]) (by rw[List.append_assoc];exact h),List.append_assoc]
  rfl
theorem xh:PPs X pos [] [] (tps K mg ES []):=wc
theorem uT {k:Str}{j:Nat}{kp:Pos}{v:Expr}{ks:List (Option Expr)}{vs:List Expr}{prs:List (Str×ME)} (hv:DE K mg X ES v F) (hr:PPs X pos ks vs (tps K mg ES prs)):PPs X pos (some (.Constant (.str k) j kp) :: ks) (v :: vs) (tps K mg ES ((k,F) :: prs)):=sD qw hv hr
theorem mL:∀ (ks:List Str) (vs:List V),(ks.map V.str).zip vs=((ks.map Sum.inr).zip vs).map λkv:Key×V=>(kV kv.1,kv.2)
 | [],_=>rfl
 | _ :: _,[]=>rfl
 |
  k :: ks,v :: vs=>by
  show (V.str k,v) :: (ks.map V.str).zip vs=_
  rw[mL ks vs]
  rfl
theorem wV {keys:List (Option Expr)}{values:List Expr}{prs:List (Str×ME)} (hp:PPs X pos keys values (tps K mg ES prs)) (hall:keys.all (·.isSome)=true) (hl:keys.length=values.length) (h0:keys ≠ []) (h15:keys.length<=15) (hn:(prs.map (·.1)).Nodup) (hp15:prs.length<=15):DE K mg X ES (.Dict keys values pos) (jD (prs.map (·.1)) (aL prs)):=PE.imp (wJ hp hall hl h0 h15) λσ H Q q_=>q_.el λρ h ae w re p=>λpp hpp=>by
 have l:Le ρ H (ρ++[pp]) (upd H pp (.dK [])):=(cK hpp).trans j0
 have w1:=w.alloc hpp (o:=.dct []) (u:=.dK []) ⟨[],bH,rfl,.nil⟩
 refine ml prs w1 (re.mono l) ((PostG.mono l (PostG.bind p)).imp λds h2 ρ2 H2 l2 w2 p2 vs rs=>?_)
 split at p2
 ·rename_i e
  split at p2
  ·rename_i hlen
   have ea:ρ2[h.length]?=some pp:=l2.pre _ _ (by rw[<- w.len,List.getElem?_append_right (Nat.le_refl _),Nat.sub_self];rfl)
   obtain⟨ws,k1,k2,_⟩:=w2.ob _ _ _ ea e
   have:ws=[]:=by cases ws with | nil=>rfl | cons _ _=>cases k2
   subst this
   have hlv:vs.length=prs.length:=by rw[<- rs.len,<- hlen,List.length_map]
   refine⟨k1,((prs.map (·.1)).map Sum.inr).zip vs,?_,?_,?_⟩
   ·rw[<- mL,List.map_map]
    rfl
   ·rw[List.length_zip,List.length_map,List.length_map]
    omega
   ·have hz:(((prs.map (·.1)).map Sum.inr).zip vs:List (Key×V)).map (·.1)=(prs.map (·.1)).map Sum.inr:=List.map_fst_zip (by rw[List.length_map,List.length_map];omega)
    rw[lM _ [] (by
     rw[List.nil_append,hz]
     exact List.Pairwise.map _ (λa b hab z=>hab (Sum.inr.inj z)) hn),List.nil_append]
    have l3:Le ρ2 H2 ρ2 (upd H2 pp (.dK (((prs.map (·.1)).map Sum.inr).zip vs))):=kW k1 dKNo
    refine p2 ρ2 _ l3 (w2.write ea k1 dKNo ⟨_,bH,?_,?_⟩) _ (.ref ea)
    ·rw[hz,List.map_fst_zip (by rw[List.length_map];omega)]
    ·rw[List.map_snd_zip (by rw[List.length_map];omega),List.map_snd_zip (by rw[List.length_map,List.length_map];omega)]
     exact rs.mono l3
  ·exact p2.elim
 ·exact p2.elim
end
section
variable {X:Cx}
end
section
variable {K:W.Frag}{mg:Str->Option Value}
end
section
variable {K:W.Frag}{mg:Str->Option Value}{X:Cx}{ES:St->XK}{o:Expr}{F:ME}{pos p2:Pos}
end
end L2
namespace L2
open PySem PySem.Spec PySem.Calls PyProof.Rows
section
variable {X:Cx}{K:W.Frag}{mg:Str->Option Value}{ES:St->XK}{es:List Expr}{gs:MGs}{pos:Pos}
end
end L2
namespace L2
open PySem PySem.Spec PySem.Calls PyProof.Rows
section
variable {X:Cx}{K:W.Frag}{mg:Str->Option Value}{ES:St->XK}{a:Expr}{A:MA}{pos q2 p1 p2:Pos}
end
end L2
namespace L2
open PySem PySem.Spec PySem.Calls PyProof.Rows
inductive EntOk (w:World):List DictEntry->List (Str×Int)->Prop
 | nil:EntOk w [] []
 | cons {e:DictEntry}{es:List DictEntry}{k:Str}{i:Int}{t t':Tok}{kvs:List (Str×Int)} (h:e.hash=hashStr w k) (hk:e.key=.str k t) (hv:e.val=.int i t') (r:EntOk w es kvs):EntOk w (e :: es) ((k,i) :: kvs)
section
variable {X:Cx}{K:W.Frag}{mg:Str->Option Value}{w:World}{n:Str}{kvs:List (Str×Int)}
end
end L2
namespace L2
open PySem
end L2
namespace L2
open PySem PySem.Spec PySem.Calls PyProof.Rows
section
variable {X:Cx}{K:W.Frag}{mg:Str->Option Value}
end
end L2
namespace L2
open PySem PySem.Spec PySem.Calls PyProof.Rows
structure RoomU (k:Nat) (A:Around):Prop where
 dp:A.depth + 3 * k + 5 < recursionLimit
 un:A.units + 16 * k + 200 < cLine
structure FnOkU (P:Program) (w:World) (K:W.Frag) (mg:Str->Option Value) (base:Heap) (CX:CXT) (k:Nat) (f:Addr) (fd:FuncData) (ps:List Str) (sp:Sp):Prop where
 len:∀ vs H Q E,sp vs H Q E->vs.length=ps.length
 run:∀ (A:Around) (outer:List Env) (s:Shared) (H:Hp) (args:Args) (us:List Value) (vs:List V) (Q:VK) (E:XK),RoomU k A->Env0 P w K mg base A outer s H->BindsTo s fd args (ps.zip us)->Vals vs us->sp vs H Q E->
  codeAny (model P w) A (.call (.ref f) args) (CR CX outer P w H s Q E) s
section
variable {P:Program}{w:World}{K:W.Frag}{mg:Str->Option Value}{base:Heap}{x:Str}{st:Stmt}{k:Nat}{ps N:List Str}{sp:Sp}
structure CalleeU (P:Program) (w:World) (K:W.Frag) (mg:Str->Option Value) (base:Heap) (x:Str) (k:Nat) (ps:List Str) (sp:Sp):Prop where
 ex:∃ f fd,FnOkU P w K mg base (CX1 P w) k f fd ps sp/\mg x=some (.ref f)/\W.keepIn K (.ref f)=true/\Binds K fd ps []/\∃ oc od osl,K.lookup f=some ⟨oc,od,.func fd,osl⟩
variable {F:MS}
end
section
variable {X:Cx}{K:W.Frag}{mg:Str->Option Value}{ES:St->XK}{e:Expr}{es:List Expr}{A:MA}{pos:Pos}
end
end L2
namespace L2
open PySem PySem.Spec PyProof.Rows
section
variable {X:Cx}
def j9:V->List V->Hp->VK->Prop:=λx vs H Q=>∃ l xs i y,x=.ref l/\vs=[.int i,y]/\H l=some (.lst xs)/\0<=i/\i<=(xs.length:Nat)/\xs.length < sizeLine/\Q .non (upd H l (.lst (xs.take i.toNat++y :: xs.drop i.toNat)))
theorem pZ:MtM X "list.insert" j9:=by
 intro pins s σ H x vs v us Q I rx rv h
 obtain⟨l,xs,i,y,rfl,rfl,hH,h0,h1,hz,q⟩:=h
 cases rx
 obtain⟨u1,u2,rfl,ru1,ru2⟩:=iA rv
 obtain⟨t,rfl⟩:=ru1
 obtain⟨z,its,n,r,hl,e⟩:=I.lstM hH
 have hs:sizeLine=16777216:=rfl
 have hf:Builtin.List.listFitsIndex i=true:=fitsIndex_both (by omega) (by omega)
 refine call_meets PySem.F.slot_list_insert ⟨_,e,rfl⟩ PySem.F.entry_list_insert (PySem.F.args_list_insert_3 _ _ _) (AutoSeq1.list_insert_list_int_val_1 l its.toArray n i t u2 (by rw[hf];decide) (by rw[List.size_toArray];omega)) ⟨e,?_⟩
 refine⟨.non,_,I.lset (its':=its.take i.toNat++u2 :: its.drop i.toNat) hH e ?_ ((r.take _).append (.cons ru2 (r.drop _))) ?_,rfl,q⟩
 ·show (have k:=if i < 0 then (i + (its.toArray.size:Int)).toNat else min i.toNat its.toArray.size;(its.toArray.extract 0 k).push u2++its.toArray.extract k)=_
  rw[if_neg (by omega),List.size_toArray,Nat.min_eq_left (by omega)]
  apply Array.ext'
  simp [List.take_of_length_le]
 ·simp only[List.length_append,List.length_cons,List.length_take,List.length_drop]
  omega
theorem rA {prog:Program}{w:World}{A:Around}{R:Result->Shared->Prop}{I ax S:Addr}{items:Array Value}{lists:List (List Value)}{h0:Heap} (hh:A.in1.handled=none) (hIS:I ≠ S) (hI:h0.objs.size<=I) (hS0:h0.objs.size<=S)
 (hax:h0.IsList ax items) (hn:items.size=lists.length) (hit:∀ (i:Nat) (l:List Value),lists[i]?=some l->∃ c m,items[i]?=some (Value.ref c)/\PySem.IsL h0 c l.toArray m):
 ∀ (bj:List (List Value)) (i:Nat) (s:Shared) (T:Addr) (acc:List Value) (c m:Nat),lists.drop i=bj->i<=lists.length->s.heap.IsListIter I ax i->PySem.IsL s.heap S #[Value.ref T] c->PySem.IsL s.heap T acc.toArray m->T ≠ S->T ≠ I->h0.objs.size<=s.heap.objs.size->
 (∀ b o,h0.get? b=some o->s.heap.get? b=some o)->acc.length + bj.flatten.length<=sizeLine->
 (∀ h' T' m',(∀ b o,h0.get? b=some o->h'.get? b=some o)->PySem.IsL h' T' (acc++bj.flatten).toArray m'->(bj=[]->T'=T)->(bj ≠ []->h0.objs.size<=T')->R (.ok (.ret (.ref T'))) { s with heap:=h' })->
 codeAny (model prog w) A (.builtin "sum.loop" ⟨[.ref I,.ref S,rawInt 2,rawInt 0],[]⟩) R s:=by
 intro bj
 induction bj with
 |
  nil=>
  intro i s T acc c m hd hi st zS hT hTS hTI hsz hk hz hR
  have hi':lists.length<=i:=List.drop_eq_nil_iff.mp hd
  refine codeAny_builtin PySem.F.entry_sum_loop ?_
  rw[Around.under_plainId PySem.F.plain_sum_loop _]
  show wpAny _ A.in1 (PySem.seqItems? (.ref S) >>= _) _ _ s
  refine wpAny_bind (wpAny_seqItems zS rfl ?_)
  show wpAny _ A.in1 (tryCatch (PySem.pyNext (.ref I)) _ >>= _) _ _ s
  refine wpAny_bind (wpAny_tryCatch (wpAny_pyNext_list_end hh st (hax.at λo e=>hk _ o e) (by rw[Array.getElem?_eq_none_iff];omega) λh' xb=>?_))
  refine wpAny_pure (hR h' T m (λb o e=>xb b o (λz=>?_) (hk b o e)) ?_ (λ_=>rfl) λz=>absurd rfl z)
  ·exact absurd (z ▸ Heap.lt_size e:I < h0.objs.size) (Nat.not_lt.mpr hI)
  ·rw[List.flatten_nil,List.append_nil]
   exact xb T _ hTI hT
 |
  cons l bj ih=>
  intro i s T acc c m hd hi st zS hT hTS hTI hsz hk hz hR
  have hli:lists[i]?=some l:=by
   have:=congrArg (λq=>q[0]?) hd
   simpa using this
  obtain⟨cc,mm,hx,hc⟩:=hit i l hli
  have hilt:i < lists.length:=(List.getElem?_eq_some_iff.mp hli).1
  rw[List.flatten_cons,List.length_append] at hz
  refine codeAny_builtin PySem.F.entry_sum_loop ?_
  rw[Around.under_plainId PySem.F.plain_sum_loop _]
  show wpAny _ A.in1 (PySem.seqItems? (.ref S) >>= _) _ _ s
  refine wpAny_bind (wpAny_seqItems zS rfl ?_)
  show wpAny _ A.in1 (tryCatch (PySem.pyNext (.ref I)) _ >>= _) _ _ s
  refine wpAny_bind (wpAny_tryCatch (wpAny_pyNext_list_item st (hax.at λo e=>hk _ o e) hx λh' st' sb=>?_))
  have hold:∀ b o,h0.get? b=some o->h'.get? b=some o:=λb o e=>by
   rw[sb.2 b (λz=>absurd (z ▸ Heap.lt_size e:I < h0.objs.size) (Nat.not_lt.mpr hI))]
   exact hk b o e
  have hT':PySem.IsL h' T acc.toArray m:=(sb.2 T hTI).trans hT
  have zS':PySem.IsL h' S #[.ref T] c:=(sb.2 S (Ne.symm hIS)).trans zS
  have eS:=Heap.lt_size zS'
  have eI:I < h'.objs.size:=by obtain⟨o,e,_⟩:=st';exact Heap.lt_size e
  show wpAny _ A.in1 ((PySem.holding [Value.ref cc] (binaryOp .Add (.ref T) (.ref cc))).attempt >>= _) _ _ _
  refine wpAny_bind (wpAny_attempt (wpAny_holding (PySem.P.add_list hT' (hold _ _ hc) ?_ (by rw[List.size_toArray,List.size_toArray];omega))))
  have ea:acc.toArray++l.toArray=(acc++l).toArray:=by simp
  rw[ea]
  have hB:h0.objs.size<=h'.objs.size:=Nat.le_trans hS0 (Nat.le_of_lt eS)
  generalize hb:h'.objs.size=B at *
  have zB:PySem.IsL (h'.push { cls:=.type "list",data:=.seq (acc++l).toArray }) B (acc++l).toArray 0:=by rw[<- hb];exact Heap.get?_push_size _ rfl
  have old2:∀ b o,h'.get? b=some o->(h'.push { cls:=.type "list",data:=.seq (acc++l).toArray }).get? b=some o:=λb o e=>Heap.get?_push_of_some _ e
  have szp:(h'.push { cls:=.type "list",data:=.seq (acc++l).toArray }).objs.size=B + 1:=by rw[<- hb];exact Heap.size_push ..
  generalize h'.push { cls:=.type "list",data:=.seq (acc++l).toArray }=h2 at *
  show wpAny _ A.in1 (PySem.updateSeq S (λ_=>#[.ref B]) >>= _) _ _ _
  refine wpAny_bind ?_
  have zS2:=old2 _ _ zS'
  refine wpAny_updateSeq zS2 rfl ?_
  have zS3:=Heap.get?_update_self (Obj.mapSeq λ_=>#[Value.ref B]) zS2 rfl
  refine wpAny_bind (wpAny_letGo ?_)
  refine wpAny_bind ?_
  refine wpAny_updateSeq zS3 rfl (wpAny_pure ⟨plainId_quiet PySem.F.plain_sum_loop _,ih (i + 1) _ B (acc++l) _ 0 ?_ (by omega) ?_ (Heap.get?_update_self _ zS3 rfl) ?_ (Nat.ne_of_gt eS) (Nat.ne_of_gt eI) ?_ ?_ (by rw[List.length_append];omega) ?_⟩)
  ·rw[<- List.tail_drop,hd];rfl
  ·exact st'.at λo e=>(Heap.get?_update_other _ _ (Ne.symm hIS)).trans ((Heap.get?_update_other _ _ (Ne.symm hIS)).trans (old2 _ _ e))
  ·exact (Heap.get?_update_other _ _ (Nat.ne_of_lt eS)).trans ((Heap.get?_update_other _ _ (Nat.ne_of_lt eS)).trans zB)
  ·show _<=((h2.update _ _).update _ _).objs.size
   rw[Heap.size_update,Heap.size_update,szp]
   exact Nat.le_succ_of_le hB
  ·intro b o e
   have nb:S ≠ b:=Nat.ne_of_gt (Nat.lt_of_lt_of_le (Heap.lt_size e) hS0)
   exact (Heap.get?_update_other _ _ nb).trans ((Heap.get?_update_other _ _ nb).trans (old2 _ _ (hold b o e)))
  ·intro h3 T' m' k3 e3 e4 e5
   refine hR h3 T' m' k3 (by rw[List.flatten_cons,<- List.append_assoc];exact e3) (λz=>nomatch z) λ_=>?_
   by_cases hr:bj=[]
   ·rw[e4 hr];exact hB
   ·exact e5 hr
theorem rm (a b:Value):argsOk "sum" ⟨[a,b],[]⟩:=by unfold argsOk;kernel_rfl
inductive Lsts (H:Hp):List V->List (List V)->Prop where
 | nil:Lsts H [] []
 | cons {a:Addr}{xs:List V}{vs:List V}{xss:List (List V)} (e:H a=some (.lst xs)) (r:Lsts H vs xss):Lsts H (.ref a :: vs) (xs :: xss)
theorem Lsts.out {pins:List (Addr×Obj)}{s:Shared}{σ:St}{H:Hp}{vs:List V}{xss:List (List V)} (I:Inv X pins σ H s) (r:Lsts H vs xss):∀ {us:List Value},Vals vs us->∃ lists:List (List Value),us.length=lists.length/\Vals xss.flatten lists.flatten/\xss.length=lists.length/\∀ (i:Nat) (l:List Value),lists[i]?=some l->∃ c m,us[i]?=some (Value.ref c)/\PySem.IsL s.heap c l.toArray m:=by
 induction r with
 | nil=>intro us rv;cases rv;exact⟨[],rfl,.nil,rfl,λi l e=>by rw[List.getElem?_nil] at e;cases e⟩
 |
  cons e r ih=>
  intro us rv
  cases rv with
  |
   cons ru rv=>
   cases ru
   obtain⟨lists,h1,h2,h3,h4⟩:=ih rv
   obtain⟨z,its,n,r,hl,e⟩:=I.lstM e
   refine⟨its :: lists,congrArg (· + 1) h1,r.append h2,congrArg (· + 1) h3,λi l q=>?_⟩
   cases i with
   | zero=>cases q;exact⟨_,n,rfl,e⟩
   | succ i=>exact h4 i l q
def oY:List V->Hp->VK->Prop:=λxs H Q=>∃ a b vs ys xss,xs=[.ref a,.ref b]/\H a=some (.lst vs)/\H b=some (.lst ys)/\Lsts H vs xss/\xss ≠ []/\ys.length + xss.flatten.length<=sizeLine/\∀ l,H l=none->Q (.ref l) (upd H l (.lst (ys++xss.flatten)))
theorem pO (hc:X.calm=true):CallR X (.builtin "sum") oY:=by
 intro pins s σ H xs us Q I r h
 obtain⟨a,b,vs,ys,xss,rfl,hA,hB,hL,hne,hz,q⟩:=h
 obtain⟨u1,u2,rfl,r1,r2⟩:=iA r
 cases r1
 cases r2
 obtain⟨_,its,n,rv,hl,e⟩:=I.lstM hA
 obtain⟨_,its2,n2,rv2,hl2,e2⟩:=I.lstM hB
 obtain⟨lists,g1,g2,g3,g4⟩:=Lsts.out I hL rv
 have la:s.heap.IsList a its.toArray:=⟨_,e,rfl,_,rfl⟩
 have al:=Heap.lt_size e
 have bl:=Heap.lt_size e2
 refine call_function_tree PySem.F.kind_sum PySem.F.plain_sum PySem.F.entry_sum (rm _ _) ?_
 unfold PySem.Builtin.«sum»
 simp only[List.length_cons,List.length_nil]
 rw[if_neg (by decide)]
 refine wpAny_bind (wpAny_of_eq (show Builtin.Builtins.bindParams "sum" ["start"] 0 { pos:=[.ref b] }=pure [some (.ref b)] from rfl) ?_)
 refine wpAny_bind (wpAny_pyIter_list la ?_)
 have q1:∀ c o,s.heap.get? c=some o->(s.heap.push { cls:=.type "list_iterator",data:=.fields #[.ref a,.int 0 0] }).get? c=some o:=λc o z=>Heap.get?_push_of_some _ z
 have q2:(s.heap.push { cls:=.type "list_iterator",data:=.fields #[.ref a,.int 0 0] }).IsListIter s.heap.objs.size a 0:=⟨_,Heap.get?_push_size _ rfl,rfl,rfl⟩
 have q3:(s.heap.push { cls:=.type "list_iterator",data:=.fields #[.ref a,.int 0 0] }).objs.size=s.heap.objs.size + 1:=Heap.size_push ..
 generalize s.heap.push { cls:=.type "list_iterator",data:=.fields #[.ref a,.int 0 0] }=h1 at *
 refine wpAny_bind (wpAny_pure ?_)
 simp only[List.forIn_cons,List.forIn_nil]
 have ty:({ s with heap:=h1 }:Shared).TypeIs (.ref b) "list":=⟨_,q1 _ _ e2,rfl⟩
 refine wpAny_bind (wpAny_bind (wpAny_bind (wpAny_isInstance (b:=false) ty PySem.F.sub_list_str ?_)))
 simp only[Bool.false_eq_true,if_false]
 refine wpAny_pure (wpAny_bind (wpAny_bind (wpAny_isInstance (b:=false) ty PySem.F.sub_list_bytes ?_)))
 simp only[Bool.false_eq_true,if_false]
 refine wpAny_pure (wpAny_bind (wpAny_bind (wpAny_isInstance (b:=false) ty PySem.F.sub_list_bytearray ?_)))
 simp only[Bool.false_eq_true,if_false]
 refine wpAny_pure (wpAny_pure ?_)
 refine wpAny_bind (wpAny_newObj_type ?_)
 have p1:∀ c o,h1.get? c=some o->(h1.push { cls:=.type "list",data:=.seq #[.ref b] }).get? c=some o:=λc o z=>Heap.get?_push_of_some _ z
 have p2:PySem.IsL (h1.push { cls:=.type "list",data:=.seq #[.ref b] }) h1.objs.size #[.ref b] 0:=Heap.get?_push_size _ rfl
 have p3:(h1.push { cls:=.type "list",data:=.seq #[.ref b] }).objs.size=h1.objs.size + 1:=Heap.size_push ..
 refine wpAny_pure ⟨plainId_quiet PySem.F.plain_sum_loop _,rA (h0:=s.heap) (items:=its.toArray) (lists:=lists) (I.ok.hd hc) ?_ (Nat.le_refl _) ?_ la (by rw[List.size_toArray];exact g1) (λi l z=>?_) lists 0 _ b its2 0 n2 rfl (Nat.zero_le _) ?_ p2 (p1 _ _ (q1 _ _ e2)) ?_ (Nat.ne_of_lt bl) ?_ (λc o z=>p1 _ _ (q1 _ _ z)) ?_ λh' T' m' k' e' _ f'=>?_⟩
 ·rw[q3];exact Nat.ne_of_lt (Nat.lt_succ_self _)
 ·rw[q3];exact Nat.le_succ _
 ·obtain⟨c,m,y1,y2⟩:=g4 i l z
  exact⟨c,m,by simpa using y1,y2⟩
 ·exact q2.at λo z=>p1 _ _ z
 ·rw[q3];exact Nat.ne_of_lt (Nat.lt_succ_of_lt bl)
 ·show _<=(h1.push _).objs.size
  rw[p3,q3]
  omega
 ·rw[<- hl2,<- g2.length];exact hz
 ·have hne':lists ≠ []:=λz=>by rw[z] at g3;exact hne (List.length_eq_zero_iff.mp g3)
  have fr:=f' hne'
  exact⟨.ref T',_,I.laid (t':=s.toks) k' fr (show ObjOk X.prog X.w _ h' _ (.lst (ys++xss.flatten)) from ⟨by rw[List.length_append];exact hz,_,m',rv2.append g2,e'⟩),rfl,q _ (I.hok.fresh fr)⟩
end
section
variable {K:W.Frag}{mg:Str->Option Value}
def iz:D->List D->AH->R D:=λx ds h=>gf h x λn xs=>match ds with
 | [.int i,d]=>if 0<=i/\i<=(xs.length:Nat)/\xs.length < 16777216 then .ok .non (h.set n (.lst (xs.take i.toNat++d :: xs.drop i.toNat))) else .stuck
 | _=>.stuck
theorem qQ:MtD K mg j9 iz:=λρ h H dx ds x vs Q E w rx rs p=>by
 obtain⟨n,xs,a,us,rfl,e,ea,rfl,h1,h2,p⟩:=kx w rx p
 split at p
 ·cases
   rs with
  |
   cons r rs=>
   cases rs with
   |
    cons r2 rs=>
    cases rs
    cases r
    split at p
    ·rename_i hb
     rw[h2.len] at hb
     exact⟨a,us,_,_,rfl,rfl,h1,hb.1,hb.2.1,hb.2.2,mx w ea h1 ((h2.take _).append (.cons r2 (h2.drop _))) .non p⟩
    ·exact p.elim
 ·exact p.elim
def fS (h:AH):List D->Option (List (List D))
 | []=>some []
 | .ref n :: ds=>match h[n]?,fS h ds with
  | some (.lst xs),some xss=>some (xs :: xss)
  | _,_=>none
 | _ :: _=>none
def jB:Fn:=λds h=>match ds with
 | [.ref a,.ref b]=>match h[a]?,h[b]? with
  | some (.lst vs),some (.lst ys)=>match fS h vs with
   | some xss=>if xss ≠ []/\ys.length + xss.flatten.length<=16777216 then .ok (.ref h.length) (h++[.lst (ys++xss.flatten)]) else .stuck
   | none=>.stuck
  | _,_=>.stuck
 | _=>.stuck
theorem gH {ρ:List Addr}{h:AH}{H:Hp} (w:Wd K mg ρ h H) {n:Nat}{a:Addr}{xs:List D} (ea:ρ[n]?=some a) (e:h[n]?=some (.lst xs)):∃ vs,H a=some (.lst vs)/\RelDs K mg ρ H xs vs:=by
 obtain⟨vs,h1,h2⟩:=w.ob _ _ _ ea e
 exact⟨vs,h1,h2⟩
theorem pL {ρ:List Addr}{h:AH}{H:Hp} (w:Wd K mg ρ h H):∀ {ds:List D}{vs:List V}{xss:List (List D)},RelDs K mg ρ H ds vs->fS h ds=some xss->∃ yss,Lsts H vs yss/\RelDs K mg ρ H xss.flatten yss.flatten/\xss.length=yss.length:=by
 intro ds
 induction ds with
 | nil=>intro vs xss r e;cases r;cases e;exact⟨[],.nil,.nil,rfl⟩
 |
  cons d ds ih=>
  intro vs xss r e
  cases r with
  |
   cons r rr=>
   cases r with
   |
    ref ea=>
    unfold fS at e
    split at e
    ·rename_i xs xss' q1 q2
     cases e
     obtain⟨yss,g1,g2,g3⟩:=ih rr q2
     obtain⟨ys,g4,g5⟩:=gH w ea q1
     exact⟨ys :: yss,.cons g4 g1,g5.append g2,congrArg (· + 1) g3⟩
    ·cases e
   | _=>cases e
theorem yg:bD K mg oY jB:=λρ h H ds vs Q E w rs p=>by
 unfold jB at p
 split at p
 ·cases
   rs with
  |
   cons r1 rs=>
   cases rs with
   |
    cons r2 rs=>
    cases rs
    cases r1 with
    |
     ref ea=>
     cases r2 with
     |
      ref eb=>
      split at p
      ·rename_i vs ys q1 q2
       split at p
       ·rename_i xss q3
        split at p
        ·rename_i hb
         obtain⟨vs',g1,g2⟩:=gH w ea q1
         obtain⟨ys',g3,g4⟩:=gH w eb q2
         obtain⟨yss,g5,g6,g7⟩:=pL w g2 q3
         refine⟨_,_,_,_,yss,rfl,g1,g3,g5,λz=>hb.1 ?_,by rw[<- g4.len,<- g6.len];exact hb.2,λl hl=>dO w (g4.append g6) hl p⟩
         rw[z] at g7
         exact List.length_eq_zero_iff.mp g7
        ·exact p.elim
       ·exact p.elim
      ·exact p.elim
 ·exact p.elim
end
end L2
namespace L2
open PySem PySem.Spec PyProof.Rows
section
variable {X:Cx}{K:W.Frag}{mg:Str->Option Value}
def mh:D->D->AH->R D:=λx y h=>match x,y with
 |
  .str z,.int i=>if z.length<=16777216 then match atI z.cps.toList i with
   | some c=>.ok (.str ⟨#[c]⟩) h
   | none=>.stuck
  else .stuck
 | _,_=>.stuck
theorem vU:OpD K mg tV mh:=λρ h H dx dy x y Q E w rx ry p=>by
 unfold mh at p
 split at p
 ·cases rx
  cases ry
  split at p
  ·rename_i hz
   split at p
   ·rename_i c e
    exact⟨_,_,c,rfl,rfl,hz,e,ay w (.str _) p⟩
   ·exact p.elim
  ·exact p.elim
 ·exact p.elim
def oK:R2:=λx y H Q=>∃ z i,x=.str z/\y=.int i/\z.length<=16/\0<=i/\i<=1000/\Q (.str (Txt.mul z i)) H
theorem wu:OpR X (binaryOp .Mult) oK:=by
 intro pins s σ H x y v u Q I rx ry h
 obtain⟨z,i,rfl,rfl,hz,h0,h1,q⟩:=h
 obtain⟨t,rfl⟩:=rx
 obtain⟨t',rfl⟩:=ry
 exact W.KXi.mul rfl hz (by omega) (by omega) λt'' k _ _=>⟨.str (Txt.mul z i),H,I.tok _,⟨_,rfl⟩,q⟩
def jy:D->D->AH->R D:=λx y h=>match x,y with
 | .str z,.int i=>if z.length<=16/\0<=i/\i<=1000 then .ok (.str (Txt.mul z i)) h else .stuck
 | _,_=>.stuck
theorem ui:OpD K mg oK jy:=λρ h H dx dy x y Q E w rx ry p=>by
 unfold jy at p
 split at p
 ·cases rx
  cases ry
  split at p
  ·rename_i hz
   exact⟨_,_,rfl,rfl,hz.1,hz.2.1,hz.2.2,ay w (.str _) p⟩
  ·exact p.elim
 ·exact p.elim
end
end L2
namespace L3
open PySem PySem.Spec PyProof.Rows L2
set_option genInjectivity true in
inductive Val where
 | non | bl (b:Bool) | int (i:Int) | str (x:Str) | ty (n:String) | glb (x:Str) | exc (x:Str)
 | tup (xs:List Val) | lst (xs:List Val) | kl (xs:List Val) | dct (kvs:List (Key×Val)) | set (xs:List Int)
 deriving Inhabited
mutual
inductive Rd (P:Nat->Prop) (h:AH):D->Val->Prop where
 | non:Rd P h .non .non
 | bl (b:Bool):Rd P h (.bl b) (.bl b)
 | int (i:Int):Rd P h (.int i) (.int i)
 | str (x:Str):Rd P h (.str x) (.str x)
 | ty (n:String):Rd P h (.ty n) (.ty n)
 | glb (x:Str):Rd P h (.glb x) (.glb x)
 | exc (x:Str):Rd P h (.exc x) (.exc x)
 | tup {ds:List D}{vs:List Val} (r:Rds P h ds vs):Rd P h (.tup ds) (.tup vs)
 | kl {ds:List D}{vs:List Val} (r:Rds P h ds vs):Rd P h (.kl ds) (.kl vs)
 | cell {n:Nat}{o:Ob}{v:Val} (p:P n) (e:h[n]?=some o) (r:Rc P h o v):Rd P h (.ref n) v
inductive Rc (P:Nat->Prop) (h:AH):Ob->Val->Prop where
 | lst {ds:List D}{vs:List Val} (r:Rds P h ds vs):Rc P h (.lst ds) (.lst vs)
 | fz {ds:List D}{vs:List Val} (r:Rds P h ds vs):Rc P h (.fz ds) (.kl vs)
 | dct {ws:List (Key×D)}{us:List (Key×Val)} (r:Rk P h ws us):Rc P h (.dct ws) (.dct us)
 | set (xs:List Int):Rc P h (.set xs) (.set xs)
inductive Rds (P:Nat->Prop) (h:AH):List D->List Val->Prop where
 | nil:Rds P h [] []
 | cons {d:D}{v:Val}{ds:List D}{vs:List Val} (r:Rd P h d v) (rr:Rds P h ds vs):Rds P h (d :: ds) (v :: vs)
inductive Rk (P:Nat->Prop) (h:AH):List (Key×D)->List (Key×Val)->Prop where
 | nil:Rk P h [] []
 | cons {k:Key}{d:D}{v:Val}{ds:List (Key×D)}{vs:List (Key×Val)} (r:Rd P h d v) (rr:Rk P h ds vs):Rk P h ((k,d) :: ds) ((k,v) :: vs)
end
section
variable {P P':Nat->Prop}{h h':AH}
abbrev Mov (P P':Nat->Prop) (h h':AH):Prop:=∀ n o,P n->h[n]?=some o->P' n/\h'[n]?=some o
theorem Rd.mono (m:Mov P P' h h') {d:D}{v:Val} (r:Rd P h d v):Rd P' h' d v:=@Rd.rec P h (λd v _=>Rd P' h' d v) (λo v _=>Rc P' h' o v) (λds vs _=>Rds P' h' ds vs) (λws us _=>Rk P' h' ws us) .non (λb=>.bl b) (λi=>.int i) (λx=>.str x) (λn=>.ty n) (λx=>.glb x) (λx=>.exc x) (λ_ ih=>.tup ih) (λ_ ih=>.kl ih) (λp e _ ih=>.cell (m _ _ p e).1 (m _ _ p e).2 ih) (λ_ ih=>.lst ih) (λ_ ih=>.fz ih) (λ_ ih=>.dct ih) (λxs=>.set xs) .nil (λ_ _ a b=>.cons a b) .nil (λ_ _ a b=>.cons a b) d v r
theorem Rds.ind {M:List D->List Val->Prop} (h0:M [] []) (h1:∀ {d v ds vs},Rd P h d v->Rds P h ds vs->M ds vs->M (d :: ds) (v :: vs)) {ds:List D}{vs:List Val} (r:Rds P h ds vs):M ds vs:=by
 induction ds generalizing vs with
 | nil=>cases r;exact h0
 |
  cons d ds ih=>
  cases r with
  | cons r rr=>exact h1 r rr (ih rr)
theorem Rk.ind {M:List (Key×D)->List (Key×Val)->Prop} (h0:M [] []) (h1:∀ {k d v ds vs},Rd P h d v->Rk P h ds vs->M ds vs->M ((k,d) :: ds) ((k,v) :: vs)) {ds:List (Key×D)}{vs:List (Key×Val)} (r:Rk P h ds vs):M ds vs:=by
 induction ds generalizing vs with
 | nil=>cases r;exact h0
 |
  cons d ds ih=>
  cases r with
  | cons r rr=>exact h1 r rr (ih rr)
theorem Rds.mono (m:Mov P P' h h') {d:List D}{v:List Val} (r:Rds P h d v):Rds P' h' d v:=r.ind .nil λr _ ih=>.cons (r.mono m) ih
theorem Rk.mono (m:Mov P P' h h') {d:List (Key×D)}{v:List (Key×Val)} (r:Rk P h d v):Rk P' h' d v:=r.ind .nil λr _ ih=>.cons (r.mono m) ih
theorem Rc.mono (m:Mov P P' h h') {d:Ob}{v:Val} (r:Rc P h d v):Rc P' h' d v:=by
 cases r with
 | lst r=>exact .lst (r.mono m)
 | fz r=>exact .fz (r.mono m)
 | dct r=>exact .dct (r.mono m)
 | set xs=>exact .set xs
theorem Rds.len {ds:List D}{vs:List Val} (r:Rds P h ds vs):ds.length=vs.length:=r.ind (M:=λds vs=>ds.length=vs.length) rfl λ_ _ ih=>congrArg (· + 1) ih
theorem Rds.get {ds:List D}{vs:List Val}{i:Nat}{v:Val} (r:Rds P h ds vs) (e:vs[i]?=some v):∃ d,ds[i]?=some d/\Rd P h d v:=
 r.ind (M:=λds vs=>∀ i,vs[i]?=some v->∃ d,ds[i]?=some d/\Rd P h d v) (λ_ e=>by rw[List.getElem?_nil] at e;cases e) (λr _ ih i e=>match i,e with
  | 0,e=>by cases e;exact⟨_,rfl,r⟩
  | i + 1,e=>ih i e) i e
theorem Rds.append {ds es:List D}{vs ws:List Val} (r:Rds P h ds vs) (q:Rds P h es ws):Rds P h (ds++es) (vs++ws):=r.ind (M:=λds vs=>Rds P h (ds++es) (vs++ws)) q λr _ ih=>.cons r ih
theorem Rds.take {ds:List D}{vs:List Val} (n:Nat) (r:Rds P h ds vs):Rds P h (ds.take n) (vs.take n):=
 r.ind (M:=λds vs=>∀ n:Nat,Rds P h (ds.take n) (vs.take n)) (λn=>by rw[List.take_nil,List.take_nil];exact .nil) (λr _ ih n=>by cases n with | zero=>exact .nil | succ n=>exact .cons r (ih n)) n
theorem Rds.drop {ds:List D}{vs:List Val} (n:Nat) (r:Rds P h ds vs):Rds P h (ds.drop n) (vs.drop n):=
 r.ind (M:=λds vs=>∀ n:Nat,Rds P h (ds.drop n) (vs.drop n)) (λn=>by rw[List.drop_nil,List.drop_nil];exact .nil) (λr rr ih n=>by cases n with | zero=>exact .cons r rr | succ n=>exact ih n) n
theorem Rds.set {d:D}{v:Val} (r:Rd P h d v) {ds:List D}{vs:List Val} (i:Nat) (q:Rds P h ds vs):Rds P h (ds.set i d) (vs.set i v):=
 q.ind (M:=λds vs=>∀ i:Nat,Rds P h (ds.set i d) (vs.set i v)) (λ_=>.nil) (λq qq ih i=>by cases i with | zero=>exact .cons r qq | succ i=>exact .cons q (ih i)) i
def ShR (P:Nat->Prop) (h:AH) (d:D) (v:Val):Prop:=Rd P h d v\/∃ n o,d=.ref n/\h[n]?=some o/\Rc P h o v
inductive ShRs (P:Nat->Prop) (h:AH):List D->List Val->Prop where
 | nil:ShRs P h [] []
 | cons {d:D}{v:Val}{ds:List D}{vs:List Val} (r:ShR P h d v) (rr:ShRs P h ds vs):ShRs P h (d :: ds) (v :: vs)
def Val.items:Val->Option (List Val)
 | .tup xs=>some xs
 | .lst xs=>some xs
 | .kl xs=>some xs
 | _=>none
theorem ShR.int {d:D}{i:Int} (r:ShR P h d (.int i)):d=.int i:=by
 rcases r with r | ⟨n,o,rfl,e,r⟩
 ·cases r with
  | int=>rfl
  | cell p e r=>cases r
 ·cases r
theorem ShR.str {d:D}{i:Str} (r:ShR P h d (.str i)):d=.str i:=by
 rcases r with r | ⟨n,o,rfl,e,r⟩
 ·cases r with
  | str=>rfl
  | cell p e r=>cases r
 ·cases r
theorem ShR.bl {d:D}{i:Bool} (r:ShR P h d (.bl i)):d=.bl i:=by
 rcases r with r | ⟨n,o,rfl,e,r⟩
 ·cases r with
  | bl=>rfl
  | cell p e r=>cases r
 ·cases r
theorem ShR.non {d:D} (r:ShR P h d .non):d=.non:=by
 rcases r with r | ⟨n,o,rfl,e,r⟩
 ·cases r with
  | non=>rfl
  | cell p e r=>cases r
 ·cases r
theorem ShR.exc {d:D}{x:Str} (r:ShR P h d (.exc x)):d=.exc x:=by
 rcases r with r | ⟨n,o,rfl,e,r⟩
 ·cases r with
  | exc=>rfl
  | cell p e r=>cases r
 ·cases r
theorem ShR.ty {d:D}{x:String} (r:ShR P h d (.ty x)):d=.ty x:=by
 rcases r with r | ⟨n,o,rfl,e,r⟩
 ·cases r with
  | ty=>rfl
  | cell p e r=>cases r
 ·cases r
theorem ShR.glb {d:D}{x:Str} (r:ShR P h d (.glb x)):d=.glb x:=by
 rcases r with r | ⟨n,o,rfl,e,r⟩
 ·cases r with
  | glb=>rfl
  | cell p e r=>cases r
 ·cases r
theorem ShR.tup {d:D}{vs:List Val} (r:ShR P h d (.tup vs)):∃ ds,d=.tup ds/\Rds P h ds vs:=by
 rcases r with r | ⟨n,o,rfl,e,r⟩
 ·cases r with
  | tup r=>exact⟨_,rfl,r⟩
  | cell p e r=>cases r
 ·cases r
theorem Rc.seq {n:Nat}{o:Ob}{vs:List Val} (e:h[n]?=some o) (r:Rc P h o (.lst vs)):∃ ds,h[n]?=some (.lst ds)/\aO h n=some ds/\Rds P h ds vs:=by
 cases r with
 | lst r=>exact⟨_,e,by unfold aO;rw[e],r⟩
theorem ShR.lst {d:D}{vs:List Val} (r:ShR P h d (.lst vs)):∃ n ds,d=.ref n/\h[n]?=some (.lst ds)/\aO h n=some ds/\Rds P h ds vs:=by
 rcases r with r | ⟨n,o,rfl,e,r⟩
 ·cases r with
  |
   cell p e r=>
   obtain⟨ds,q,r⟩:=Rc.seq e r
   exact⟨_,ds,rfl,q,r⟩
 ·obtain⟨ds,q,r⟩:=Rc.seq e r
  exact⟨_,ds,rfl,q,r⟩
theorem ShR.kl {d:D}{vs:List Val} (r:ShR P h d (.kl vs)):∃ ds,Rds P h ds vs/\(d=.kl ds\/∃ n,d=.ref n/\aO h n=some ds):=by
 rcases r with r | ⟨n,o,rfl,e,r⟩
 ·cases r with
  | kl r=>exact⟨_,r,.inl rfl⟩
  | cell p e r=>cases r with | fz r=>exact⟨_,r,.inr ⟨_,rfl,by unfold aO;rw[e]⟩⟩
 ·cases r with | fz r=>exact⟨_,r,.inr ⟨_,rfl,by unfold aO;rw[e]⟩⟩
theorem ShR.dct {d:D}{us:List (Key×Val)} (r:ShR P h d (.dct us)):∃ n ws,d=.ref n/\h[n]?=some (.dct ws)/\Rk P h ws us:=by
 rcases r with r | ⟨n,o,rfl,e,r⟩
 ·cases r with
  | cell p e r=>cases r with | dct r=>exact⟨_,_,rfl,e,r⟩
 ·cases r with | dct r=>exact⟨_,_,rfl,e,r⟩
theorem ShR.items {d:D}{v:Val}{vs:List Val} (r:ShR P h d v) (e:v.items=some vs):∃ ds,bZ h d=some ds/\Rds P h ds vs:=by
 cases v with
 | tup xs=>cases e;obtain⟨ds,rfl,q⟩:=r.tup;exact⟨ds,rfl,q⟩
 | lst xs=>cases e;obtain⟨n,ds,rfl,_,e,q⟩:=r.lst;exact⟨ds,e,q⟩
 |
  kl xs=>
  cases e
  obtain⟨ds,q,rfl | ⟨n,rfl,e⟩⟩:=r.kl
  ·exact⟨ds,rfl,q⟩
  ·exact⟨ds,e,q⟩
 | _=>cases e
end
inductive Sl where
 | no | sh (v:Val) | ow (v:Val) | mu (v:Val) | lo (v:Val) | lm (v:Val)
 deriving Inhabited
abbrev E3:=List Sl
def Sl.val:Sl->Option Val
 | .no=>none
 | .sh v=>some v
 | .ow v=>some v
 | .mu v=>some v
 | .lo v=>some v
 | .lm v=>some v
def Sl.mt:Sl->Bool
 | .ow _=>true
 | .mu _=>true
 | _=>false
def Sl.lk:Sl->Bool
 | .lo _=>true
 | .lm _=>true
 | _=>false
abbrev Ns:=List (Option Nat)
def Oc (X:Nat->Prop) (ns:Ns) (n:Nat):Prop:=¬ X n/\some n ∉ ns
def bu:Ob->Prop
 | .fz _=>False
 | .any=>False
 | _=>True
def SlR (P:Nat->Prop) (h0:Nat) (n:Option (Option Nat)) (d:Option (Option D)) (h:AH):Sl->Prop
 | .no=>n=some none
 | .sh v=>n=some none/\∃ x,d=some (some x)/\Rd P h x v
 | .ow v=>∃ m o,n=some (some m)/\d=some (some (.ref m))/\h0<=m/\h[m]?=some o/\bu o/\Rc P h o v
 | .lo v=>∃ m o,n=some (some m)/\d=some (some (.ref m))/\h0<=m/\h[m]?=some o/\bu o/\Rc P h o v
 | .mu v=>∃ m o,n=some (some m)/\d=some (some (.ref m))/\h[m]?=some o/\bu o/\Rc P h o v
 | .lm v=>∃ m o,n=some (some m)/\d=some (some (.ref m))/\h[m]?=some o/\bu o/\Rc P h o v
structure Sat (X:Nat->Prop) (h0:Nat) (ns:Ns) (e:E3) (ae:AE) (h:AH):Prop where
 l1:ae.length=e.length
 l2:ns.length=e.length
 lh:h0<=h.length
 xl:∀ (n:Nat),X n->n < h.length
 inj:∀ (i j n:Nat),ns[i]?=some (some n)->ns[j]?=some (some n)->i=j
 nx:∀ (i n:Nat),ns[i]?=some (some n)->¬ X n
 sl:∀ (i:Nat) (s:Sl),e[i]?=some s->SlR (Oc X ns) h0 (ns[i]?) (ae[i]?) h s
def Mt (ns:Ns) (e:E3) (n:Nat):Prop:=∃ (i:Nat) (s:Sl),ns[i]?=some (some n)/\e[i]?=some s/\s.mt=true
structure Stp (ns:Ns) (e:E3) (h:AH) (ns':Ns) (e':E3) (h':AH):Prop where
 len:h.length<=h'.length
 keep:∀ (m:Nat) (o:Ob),h[m]?=some o->¬ Mt ns e m->h'[m]?=some o
 nw:∀ (i n:Nat),ns'[i]?=some (some n)->ns[i]?=some (some n)\/h.length<=n
 lk:∀ (i:Nat) (s:Sl),e[i]?=some s->s.lk=true->e'[i]?=some s/\ns'[i]?=ns[i]?
 lk':∀ (i:Nat) (s:Sl),e'[i]?=some s->s.lk=true->e[i]?=some s/\ns'[i]?=ns[i]?
 mu:∀ (i:Nat) (v:Val),e'[i]?=some (.mu v)->∃ u,e[i]?=some (.mu u)/\ns'[i]?=ns[i]?
 mu':∀ (i:Nat) (u:Val),e[i]?=some (.mu u)->∃ v,e'[i]?=some (.mu v)/\ns'[i]?=ns[i]?
section
variable {X:Nat->Prop}{h0:Nat}{ns ns' ns1 bn:Ns}{e e' e1 e2:E3}{ae:AE}{h h' h1 h2:AH}
theorem aK {n:Nat}:some n ∈ ns ↔ ∃ i:Nat,ns[i]?=some (some n):=by
 constructor
 ·intro m;exact List.getElem?_of_mem m
 ·rintro⟨i,e⟩;exact List.mem_of_getElem? e
theorem Sat.own (S:Sat X h0 ns e ae h) {i n:Nat} (q:ns[i]?=some (some n)):∃ s v o,e[i]?=some s/\(s.mt=true\/s.lk=true)/\s.val=some v/\ae[i]?=some (some (.ref n))/\h[n]?=some o/\bu o/\Rc (Oc X ns) h o v:=by
 have hi:i < e.length:=by rw[<- S.l2];exact (List.getElem?_eq_some_iff.mp q).1
 have hs:=S.sl i e[i] (List.getElem?_eq_getElem hi)
 refine⟨e[i],?_⟩
 have he:=List.getElem?_eq_getElem hi
 generalize e[i]=s at *
 rw[q] at hs
 cases s with
 | no=>cases hs
 | sh v=>cases hs.1
 | ow v=>obtain⟨m,o,e1,e2,_,e3,e4,e5⟩:=hs;cases e1;exact⟨v,o,he,.inl rfl,rfl,e2,e3,e4,e5⟩
 | lo v=>obtain⟨m,o,e1,e2,_,e3,e4,e5⟩:=hs;cases e1;exact⟨v,o,he,.inr rfl,rfl,e2,e3,e4,e5⟩
 | mu v=>obtain⟨m,o,e1,e2,e3,e4,e5⟩:=hs;cases e1;exact⟨v,o,he,.inl rfl,rfl,e2,e3,e4,e5⟩
 | lm v=>obtain⟨m,o,e1,e2,e3,e4,e5⟩:=hs;cases e1;exact⟨v,o,he,.inr rfl,rfl,e2,e3,e4,e5⟩
theorem Stp.refl:Stp ns e h ns e h:=⟨Nat.le_refl _,λ_ _ q _=>q,λ_ _ q=>.inl q,λ_ _ q _=>⟨q,rfl⟩,λ_ _ q _=>⟨q,rfl⟩,λ_ _ q=>⟨_,q,rfl⟩,λ_ _ q=>⟨_,q,rfl⟩⟩
theorem Stp.trans (S:Sat X h0 ns e ae h) (a:Stp ns e h ns1 e1 h1) (b:Stp ns1 e1 h1 bn e2 h2):Stp ns e h bn e2 h2:=by
 refine⟨Nat.le_trans a.len b.len,λm o q hm=>?_,λi n q=>?_,λi s q hl=>?_,λi s q hl=>?_,λi v q=>?_,λi v q=>?_⟩
 ·refine b.keep m o (a.keep m o q hm) λ⟨i,s,z1,z2,z3⟩=>hm ?_
  have hlt:=(List.getElem?_eq_some_iff.mp q).1
  rcases a.nw i m z1 with z | z
  ·obtain⟨s0,v,o',q1,q2,_⟩:=S.own z
   rcases q2 with q2 | q2
   ·exact⟨i,s0,z,q1,q2⟩
   ·have:=(a.lk i s0 q1 q2).1
    rw[z2] at this
    cases this
    exfalso
    cases s <;> first | cases z3;done | cases q2;done
  ·omega
 ·rcases b.nw i n q with z | z
  ·exact a.nw i n z
  ·exact .inr (Nat.le_trans a.len z)
 ·obtain⟨q1,q2⟩:=a.lk i s q hl
  obtain⟨q3,q4⟩:=b.lk i s q1 hl
  exact⟨q3,q4.trans q2⟩
 ·obtain⟨q1,q2⟩:=b.lk' i s q hl
  obtain⟨q3,q4⟩:=a.lk' i s q1 hl
  exact⟨q3,q2.trans q4⟩
 ·obtain⟨u,q1,q2⟩:=b.mu i v q
  obtain⟨u',q3,q4⟩:=a.mu i u q1
  exact⟨u',q3,q2.trans q4⟩
 ·obtain⟨u,q1,q2⟩:=a.mu' i v q
  obtain⟨u',q3,q4⟩:=b.mu' i u q1
  exact⟨u',q3,q4.trans q2⟩
theorem Stp.mov (S:Sat X h0 ns e ae h) (a:Stp ns e h ns1 e1 h1):Mov (Oc X ns) (Oc X ns1) h h1:=λn o p q=>by
 have hlt:=(List.getElem?_eq_some_iff.mp q).1
 have hm:¬ Mt ns e n:=λ⟨i,s,z,_⟩=>p.2 (aK.mpr ⟨i,z⟩)
 refine⟨⟨p.1,λz=>?_⟩,a.keep n o q hm⟩
 obtain⟨i,z⟩:=aK.mp z
 rcases a.nw i n z with z | z
 ·exact p.2 (aK.mpr ⟨i,z⟩)
 ·omega
theorem a9 {n:Nat}{o:Ob} (q:h[n]?=some o):n < h.length:=(List.getElem?_eq_some_iff.mp q).1
theorem dg {n:Nat}{o:Ob}{g:AH} (q:h[n]?=some o):(h++g)[n]?=some o:=by rw[List.getElem?_append_left (a9 q)];exact q
theorem nY {o:Ob}:(h++[o])[h.length]?=some o:=by rw[List.getElem?_append_right (Nat.le_refl _),Nat.sub_self];rfl
theorem SlR.mono {P P':Nat->Prop}{n:Option (Option Nat)}{d:Option (Option D)}{s:Sl} (m:Mov P P' h h') (k:∀ j o,n=some (some j)->h[j]?=some o->h'[j]?=some o) (r:SlR P h0 n d h s):SlR P' h0 n d h' s:=by
 cases s with
 | no=>exact r
 | sh v=>obtain⟨q,x,q1,q2⟩:=r;exact⟨q,x,q1,q2.mono m⟩
 | ow v=>obtain⟨j,o,q1,q2,q3,q4,q5,q6⟩:=r;exact⟨j,o,q1,q2,q3,k j o q1 q4,q5,q6.mono m⟩
 | lo v=>obtain⟨j,o,q1,q2,q3,q4,q5,q6⟩:=r;exact⟨j,o,q1,q2,q3,k j o q1 q4,q5,q6.mono m⟩
 | mu v=>obtain⟨j,o,q1,q2,q4,q5,q6⟩:=r;exact⟨j,o,q1,q2,k j o q1 q4,q5,q6.mono m⟩
 | lm v=>obtain⟨j,o,q1,q2,q4,q5,q6⟩:=r;exact⟨j,o,q1,q2,k j o q1 q4,q5,q6.mono m⟩
def Xn (X:Nat->Prop) (n:Nat):Nat->Prop:=λm=>X m\/m=n
theorem Sat.grow (S:Sat X h0 ns e ae h) (o:Ob):Sat (Xn X h.length) h0 ns e ae (h++[o]):=by
 have mv:Mov (Oc X ns) (Oc (Xn X h.length) ns) h (h++[o]):=λn o' p q=>⟨⟨λz=>by
  rcases z with z | z
  ·exact p.1 z
  ·have:=a9 q;omega,p.2⟩,dg q⟩
 refine⟨S.l1,S.l2,by rw[List.length_append];have:=S.lh;omega,λn z=>?_,S.inj,λi n q z=>?_,λi s q=>(S.sl i s q).mono mv λj o' _ q'=>dg q'⟩
 ·rw[List.length_append]
  rcases z with z | z
  ·have:=S.xl n z;omega
  ·subst z;show h.length < h.length + 1;omega
 ·rcases z with z | z
  ·exact S.nx i n q z
  ·obtain⟨_,_,_,_,_,_,_,q',_⟩:=S.own q
   have:=a9 q';omega
theorem Sat.weak {Y:Nat->Prop} (S:Sat Y h0 ns e ae h) (hx:∀ n,X n->Y n):Sat X h0 ns e ae h:=
 ⟨S.l1,S.l2,S.lh,λn z=>S.xl n (hx n z),S.inj,λi n q z=>S.nx i n q (hx n z),λi s q=>(S.sl i s q).mono (λn o p q=>⟨⟨λz=>p.1 (hx n z),p.2⟩,q⟩) λ_ _ _ q=>q⟩
theorem Stp.grow (o:Ob):Stp ns e h ns e (h++[o]):=⟨by rw[List.length_append];omega,λ_ _ q _=>dg q,λ_ _ q=>.inl q,λ_ _ q _=>⟨q,rfl⟩,λ_ _ q _=>⟨q,rfl⟩,λ_ _ q=>⟨_,q,rfl⟩,λ_ _ q=>⟨_,q,rfl⟩⟩
end
end L3
namespace L3
open PySem PySem.Spec PyProof.Rows L2
section
variable {X:Nat->Prop}{h0:Nat}{ns ns':Ns}{e e':E3}{ae:AE}{h h' hs:AH}
theorem aZ {α:Type}{l:List α}{i j:Nat}{a b:α} (hi:i < l.length) (q:(l.set i a)[j]?=some b):(j=i/\b=a)\/(j ≠ i/\l[j]?=some b):=by
 rw[List.getElem?_set] at q
 by_cases z:i=j
 ·subst z
  rw[if_pos rfl,if_pos hi] at q
  exact .inl ⟨rfl,(Option.some.inj q).symm⟩
 ·rw[if_neg z] at q
  exact .inr ⟨λy=>z y.symm,q⟩
theorem a8 {α:Type}{l:List α}{i:Nat}{a:α} (hi:i < l.length):(l.set i a)[i]?=some a:=by rw[List.getElem?_set,if_pos rfl,if_pos hi]
theorem aN {α:Type}{l:List α}{i j:Nat}{a:α} (hi:j ≠ i):(l.set i a)[j]?=l[j]?:=by rw[List.getElem?_set_ne (λy=>hi y.symm)]
theorem cL {i n:Nat} (p:Oc X ns n):Oc X (ns.set i none) n:=⟨p.1,λz=>by
 rcases List.mem_or_eq_of_mem_set z with z | z
 ·exact p.2 z
 ·cases z⟩
theorem Sat.putN (S:Sat X h0 ns e ae h) {i:Nat} (hi:i < e.length) {s:Sl}{d:Option D} (q:SlR (Oc X (ns.set i none)) h0 (some none) (some d) h s):Sat X h0 (ns.set i none) (e.set i s) (ae.set i d) h:=by
 have hn:i < ns.length:=by rw[S.l2];exact hi
 have ha:i < ae.length:=by rw[S.l1];exact hi
 refine⟨by rw[List.length_set,List.length_set];exact S.l1,by rw[List.length_set,List.length_set];exact S.l2,S.lh,S.xl,λj k n q1 q2=>?_,λj n q1=>?_,λj s' q1=>?_⟩
 ·rcases aZ hn q1 with ⟨_,z⟩ | ⟨_,z⟩
  ·cases z
  rcases aZ hn q2 with ⟨_,y⟩ | ⟨_,y⟩
  ·cases y
  exact S.inj j k n z y
 ·rcases aZ hn q1 with ⟨_,z⟩ | ⟨_,z⟩
  ·cases z
  exact S.nx j n z
 ·rcases aZ hi q1 with ⟨rfl,rfl⟩ | ⟨z,q2⟩
  ·rw[a8 hn,a8 ha];exact q
  ·rw[aN z,aN z]
   exact (S.sl j s' q2).mono (λn o p q=>⟨cL p,q⟩) λ_ _ _ q=>q
theorem Sat.putN' (S:Sat X h0 ns e ae h) {i:Nat} (hi:i < e.length) {s:Sl} (q:SlR (Oc X (ns.set i none)) h0 (some none) (ae[i]?) h s):Sat X h0 (ns.set i none) (e.set i s) ae h:=by
 have ha:i < ae.length:=by rw[S.l1];exact hi
 have:=S.putN hi (s:=s) (d:=ae[i]) (by rw[List.getElem?_eq_getElem ha] at q;exact q)
 rw[List.set_getElem_self] at this
 exact this
theorem Sat.putO {n:Nat}{o:Ob}{v:Val} (S:Sat (Xn X n) h0 ns e ae h) (hx:¬ X n) {i:Nat} (hi:i < e.length) (hn0:h0<=n) (eo:h[n]?=some o) (hf:bu o) (r:Rc (Oc (Xn X n) ns) h o v):Sat X h0 (ns.set i (some n)) (e.set i (.ow v)) (ae.set i (some (.ref n))) h:=by
 have hn:i < ns.length:=by rw[S.l2];exact hi
 have ha:i < ae.length:=by rw[S.l1];exact hi
 have nn:∀ j:Nat,ns[j]? ≠ some (some n):=λj q=>S.nx j n q (.inr rfl)
 have mv:Mov (Oc (Xn X n) ns) (Oc X (ns.set i (some n))) h h:=λm o' p q=>⟨⟨λz=>p.1 (.inl z),λz=>by
  rcases List.mem_or_eq_of_mem_set z with z | z
  ·exact p.2 z
  ·cases z;exact p.1 (.inr rfl)⟩,q⟩
 refine⟨by rw[List.length_set,List.length_set];exact S.l1,by rw[List.length_set,List.length_set];exact S.l2,S.lh,λm z=>S.xl m (.inl z),λj k m q1 q2=>?_,λj m q1 z=>?_,λj s' q1=>?_⟩
 ·rcases aZ hn q1 with ⟨z1,z⟩ | ⟨z1,z⟩ <;> rcases aZ hn q2 with ⟨y1,y⟩ | ⟨y1,y⟩
  ·rw[z1,y1]
  ·cases z;exact absurd y (nn k)
  ·cases y;exact absurd z (nn j)
  ·exact S.inj j k m z y
 ·rcases aZ hn q1 with ⟨_,y⟩ | ⟨_,y⟩
  ·cases y;exact hx z
  ·exact S.nx j m y (.inl z)
 ·rcases aZ hi q1 with ⟨rfl,rfl⟩ | ⟨z,q2⟩
  ·rw[a8 hn,a8 ha];exact⟨n,o,rfl,rfl,hn0,eo,hf,r.mono mv⟩
  ·rw[aN z,aN z]
   exact (S.sl j s' q2).mono mv λ_ _ _ q=>q
def Sl.pl:Sl->Bool
 | .no=>true
 | .sh _=>true
 | .ow _=>true
 | _=>false
theorem Stp.put {ns0:Ns}{e0:E3} (A:Stp ns0 e0 hs ns e h) {i:Nat} (hi:i < e.length) {x:Option Nat} (hx:∀ n,x=some n->hs.length<=n) {s s0:Sl} (q0:e[i]?=some s0) (p0:s0.pl=true) (p:s.pl=true) (l2:ns.length=e.length):Stp ns0 e0 hs (ns.set i x) (e.set i s) h:=by
 have hn:i < ns.length:=by rw[l2];exact hi
 refine⟨A.len,A.keep,λj n q=>?_,λj s' q hl=>?_,λj s' q hl=>?_,λj v q=>?_,λj v q=>?_⟩
 ·rcases aZ hn q with ⟨_,z⟩ | ⟨_,z⟩
  ·exact .inr (hx n z.symm)
  ·exact A.nw j n z
 ·obtain⟨q1,q2⟩:=A.lk j s' q hl
  have z:j ≠ i:=λz=>by
   subst z
   rw[q0] at q1;cases q1
   cases s0 <;> first | cases p0;done | cases hl;done
  rw[aN z,aN z];exact⟨q1,q2⟩
 ·rcases aZ hi q with ⟨_,z⟩ | ⟨z,q1⟩
  ·subst z;cases s' <;> first | cases p;done | cases hl;done
  ·rw[aN z];exact A.lk' j s' q1 hl
 ·rcases aZ hi q with ⟨_,z⟩ | ⟨z,q1⟩
  ·subst z;cases p
  ·rw[aN z];exact A.mu j v q1
 ·obtain⟨u,q1,q2⟩:=A.mu' j v q
  have z:j ≠ i:=λz=>by
   subst z
   rw[q0] at q1;cases q1;cases p0
  exact⟨u,by rw[aN z];exact q1,by rw[aN z];exact q2⟩
end
inductive Tm where
 | val (v:Val) | new (v:Val) | bor (i:Nat)
inductive R3 (α:Type) where
 | ok (a:α) (e:E3) | exc (c:Str) (e:E3) | stuck
def R3.bind {α β:Type} (r:R3 α) (f:α->E3->R3 β):R3 β:=match r with
 | .ok a e=>f a e
 | .exc c e=>.exc c e
 | .stuck=>.stuck
abbrev ME3:=E3->R3 Tm
abbrev MT3:=E3->R3 Bool
abbrev MA3:=E3->R3 (List Tm)
def Po {δ α:Type} (X:Nat->Prop) (h0:Nat) (ns:Ns) (e:E3) (ae:AE) (h:AH) (rel:Ns->E3->AH->δ->α->Prop) (r2:R δ):R3 α->Prop
 | .stuck=>True
 | .ok t e'=>∃ d h' ns',r2=.ok d h'/\Stp ns e h ns' e' h'/\Sat X h0 ns' e' ae h'/\rel ns' e' h' d t
 | .exc c e'=>∃ h' ns',r2=.exc c h'/\Stp ns e h ns' e' h'/\Sat X h0 ns' e' ae h'
def relE (X:Nat->Prop) (h0 L:Nat) (ae:AE) (ns:Ns) (e:E3) (h:AH) (d:D):Tm->Prop
 | .val v=>Rd (Oc X ns) h d v
 | .new v=>∃ n o,d=.ref n/\L<=n/\¬ X n/\h[n]?=some o/\bu o/\Sat (Xn X n) h0 ns e ae h/\Rc (Oc (Xn X n) ns) h o v
 | .bor i=>ae[i]?=some (some d)
def relT (_:Ns) (_:E3) (_:AH) (b c:Bool):Prop:=b=c
inductive TsR (X:Nat->Prop) (ns:Ns) (ae:AE) (h:AH):List D->List Tm->Prop where
 | nil:TsR X ns ae h [] []
 | val {d:D}{v:Val}{ds:List D}{ts:List Tm} (r:Rd (Oc X ns) h d v) (rr:TsR X ns ae h ds ts):TsR X ns ae h (d :: ds) (.val v :: ts)
 | bor {d:D}{i:Nat}{ds:List D}{ts:List Tm} (q:ae[i]?=some (some d)) (rr:TsR X ns ae h ds ts):TsR X ns ae h (d :: ds) (.bor i :: ts)
def relA (X:Nat->Prop) (ae:AE) (ns:Ns) (_:E3) (h:AH) (ds:List D) (ts:List Tm):Prop:=TsR X ns ae h ds ts
def RE (F:ME) (G:ME3):Prop:=∀ X h0 L ns e ae h,Sat X h0 ns e ae h->L<=h.length->Po X h0 ns e ae h (relE X h0 L ae) (F ae h) (G e)
def RT (F:MT) (G:MT3):Prop:=∀ X h0 ns e ae h,Sat X h0 ns e ae h->Po X h0 ns e ae h relT (F ae h) (G e)
def RA (F:MA) (G:MA3):Prop:=∀ X h0 ns e ae h,Sat X h0 ns e ae h->Po X h0 ns e ae h (relA X ae) (F ae h) (G e)
section
variable {X:Nat->Prop}{h0 L:Nat}{ns ns':Ns}{e e':E3}{ae:AE}{h h':AH}
theorem Po.bind {δ δ' α α':Type}{rel:Ns->E3->AH->δ->α->Prop}{rel':Ns->E3->AH->δ'->α'->Prop}{r2:R δ}{r3:R3 α}{f2:δ->AH->R δ'}{f3:α->E3->R3 α'} (S:Sat X h0 ns e ae h) (p:Po X h0 ns e ae h rel r2 r3)
 (k:∀ d t h' ns' e',Stp ns e h ns' e' h'->Sat X h0 ns' e' ae h'->rel ns' e' h' d t->Po X h0 ns' e' ae h' rel' (f2 d h') (f3 t e')):Po X h0 ns e ae h rel' (r2.bind f2) (r3.bind f3):=by
 cases r3 with
 | stuck=>trivial
 | exc c e'=>obtain⟨h',ns',q,q1,q2⟩:=p;subst q;exact⟨h',ns',rfl,q1,q2⟩
 |
  ok t e'=>
  obtain⟨d,h',ns',q,q1,q2,q3⟩:=p
  subst q
  have:=k d t h' ns' e' q1 q2 q3
  show Po X h0 ns e ae h rel' (f2 d h') (f3 t e')
  generalize f3 t e'=r at *
  cases r with
  | stuck=>trivial
  | exc c e2=>obtain⟨h2,bn,y,y1,y2⟩:=this;exact⟨h2,bn,y,q1.trans S y1,y2⟩
  | ok t2 e2=>obtain⟨d2,h2,bn,y,y1,y2,y3⟩:=this;exact⟨d2,h2,bn,y,q1.trans S y1,y2,y3⟩
theorem Po.ret {δ α:Type}{rel:Ns->E3->AH->δ->α->Prop}{d:δ}{t:α} (S:Sat X h0 ns e ae h) (q:rel ns e h d t):Po X h0 ns e ae h rel (.ok d h) (.ok t e):=⟨d,h,ns,rfl,.refl,S,q⟩
theorem TsR.stp {ds:List D}{ts:List Tm} (S:Sat X h0 ns e ae h) (a:Stp ns e h ns' e' h') (r:TsR X ns ae h ds ts):TsR X ns' ae h' ds ts:=by
 induction r with
 | nil=>exact .nil
 | val r _ ih=>exact .val (r.mono (a.mov S)) ih
 | bor q _ ih=>exact .bor q ih
def rs (e:E3):Tm->Option Val
 | .val v=>some v
 | .new v=>some v
 | .bor i=>(e[i]?).bind Sl.val
theorem Sat.bor (S:Sat X h0 ns e ae h) {i:Nat}{d:D}{v:Val} (q:ae[i]?=some (some d)) (r:(e[i]?).bind Sl.val=some v):ShR (Oc X ns) h d v:=by
 cases z:e[i]? with
 | none=>rw[z] at r;cases r
 |
  some s=>
  rw[z] at r
  have y:=S.sl i s z
  rw[q] at y
  have r':s.val=some v:=r
  cases s with
  | no=>cases r'
  | sh u=>cases r';obtain⟨_,x,e1,e2⟩:=y;cases e1;exact .inl e2
  | ow u=>cases r';obtain⟨m,o,_,e2,_,e3,_,e4⟩:=y;cases e2;exact .inr ⟨m,o,rfl,e3,e4⟩
  | lo u=>cases r';obtain⟨m,o,_,e2,_,e3,_,e4⟩:=y;cases e2;exact .inr ⟨m,o,rfl,e3,e4⟩
  | mu u=>cases r';obtain⟨m,o,_,e2,e3,_,e4⟩:=y;cases e2;exact .inr ⟨m,o,rfl,e3,e4⟩
  | lm u=>cases r';obtain⟨m,o,_,e2,e3,_,e4⟩:=y;cases e2;exact .inr ⟨m,o,rfl,e3,e4⟩
theorem relE.new {d:D}{v:Val} (r:relE X h0 L ae ns e h d (.new v)):Rd (Oc X ns) h d v:=by
 obtain⟨n,o,rfl,_,hx,eo,_,S,rc⟩:=r
 exact .cell ⟨hx,λz=>by obtain⟨i,z⟩:=aK.mp z;exact S.nx i n z (.inr rfl)⟩ eo (rc.mono λm o p q=>⟨⟨λz=>p.1 (.inl z),p.2⟩,q⟩)
theorem relE.sh {d:D}{t:Tm}{v:Val} (S:Sat X h0 ns e ae h) (r:relE X h0 L ae ns e h d t) (q:rs e t=some v):ShR (Oc X ns) h d v:=by
 cases t with
 | val u=>cases q;exact .inl r
 | new u=>cases q;exact .inl r.new
 | bor i=>exact S.bor r q
theorem relE.stp {d:D}{t:Tm} (S:Sat X h0 ns e ae h) (a:Stp ns e h ns' e' h') (r:relE X h0 L ae ns e h d t) (hn:∀ v,t ≠ .new v):relE X h0 L ae ns' e' h' d t:=by
 cases t with
 | val u=>exact Rd.mono (a.mov S) r
 | new u=>exact absurd rfl (hn u)
 | bor i=>exact r
def Tm.drop:Tm->Tm
 | .new v=>.val v
 | t=>t
theorem relE.drop {d:D}{t:Tm} (r:relE X h0 L ae ns e h d t):relE X h0 L ae ns e h d t.drop/\∀ v,t.drop ≠ .new v:=by
 cases t with
 | val u=>exact⟨r,λ_ z=>nomatch z⟩
 | new u=>exact⟨r.new,λ_ z=>nomatch z⟩
 | bor i=>exact⟨r,λ_ z=>nomatch z⟩
def rss (e:E3):List Tm->Option (List Val)
 | []=>some []
 | t :: ts=>match rs e t,rss e ts with
  | some v,some vs=>some (v :: vs)
  | _,_=>none
theorem TsR.sh {ds:List D}{ts:List Tm}{vs:List Val} (S:Sat X h0 ns e ae h) (r:TsR X ns ae h ds ts) (q:rss e ts=some vs):ShRs (Oc X ns) h ds vs:=by
 induction r generalizing vs with
 | nil=>cases q;exact .nil
 |
  val r _ ih=>
  unfold rss at q
  split at q
  ·rename_i e1 e2;cases q;cases e1;exact .cons (.inl r) (ih e2)
  ·cases q
 |
  bor q' _ ih=>
  unfold rss at q
  split at q
  ·rename_i e1 e2;cases q;exact .cons (S.bor q' e1) (ih e2)
  ·cases q
end
inductive Bv where
 | val (v:Val) | new (v:Val) | stuck
def BvR (P:Nat->Prop) (h:AH) (r:R D):Bv->Prop
 | .val v=>∃ d,r=.ok d h/\Rd P h d v
 | .new v=>∃ o,r=.ok (.ref h.length) (h++[o])/\bu o/\Rc P h o v
 | .stuck=>True
def Bv.at (b:Bv) (e:E3):R3 Tm:=match b with
 | .val v=>.ok (.val v) e
 | .new v=>.ok (.new v) e
 | .stuck=>.stuck
theorem BvR.po {X:Nat->Prop}{h0 L:Nat}{ns:Ns}{e:E3}{ae:AE}{h:AH}{r:R D}{b:Bv} (S:Sat X h0 ns e ae h) (hl:L<=h.length) (q:BvR (Oc X ns) h r b):Po X h0 ns e ae h (relE X h0 L ae) r (b.at e):=by
 cases b with
 | stuck=>trivial
 | val v=>obtain⟨d,rfl,r⟩:=q;exact Po.ret S r
 |
  new v=>
  obtain⟨o,rfl,hf,r⟩:=q
  have S':=S.grow o
  refine⟨_,_,ns,rfl,.grow o,S'.weak λn z=>.inl z,h.length,o,rfl,hl,λz=>?_,nY,hf,S',r.mono λn o' p q=>⟨⟨λz=>?_,p.2⟩,dg q⟩⟩
  ·have:=S.xl _ z;omega
  ·rcases z with z | z
   ·exact p.1 z
   ·have:=a9 q;omega
def RU (g2:D->AH->R D) (g3:Val->Bv):Prop:=∀ P h d v,ShR P h d v->BvR P h (g2 d h) (g3 v)
def RO (g2:D->D->AH->R D) (g3:Val->Val->Bv):Prop:=∀ P h d1 d2 v1 v2,ShR P h d1 v1->ShR P h d2 v2->BvR P h (g2 d1 d2 h) (g3 v1 v2)
def RFn (g2:Fn) (g3:List Val->Bv):Prop:=∀ P h ds vs,ShRs P h ds vs->BvR P h (g2 ds h) (g3 vs)
def uD (i:Nat):ME3:=λe=>match e[i]? with
 | some (.sh v)=>.ok (.val v) e
 | some .no=>.stuck
 | some _=>.ok (.bor i) e
 | none=>.stuck
def vC (v:Val):ME3:=λe=>.ok (.val v) e
def vOp (g:Val->Val->Bv) (F G:ME3):ME3:=λe=>(F e).bind λt1 e1=>(G e1).bind λt2 e2=>match rs e2 t1.drop,rs e2 t2 with
 | some v1,some v2=>(g v1 v2).at e2
 | _,_=>.stuck
def vNil:MA3:=λe=>.ok [] e
def vy (F:ME3) (A:MA3):MA3:=λe=>(F e).bind λt e1=>(A e1).bind λts e2=>.ok (t.drop :: ts) e2
def vFn (g:List Val->Bv) (A:MA3):ME3:=λe=>(A e).bind λts e1=>match rss e1 ts with
 | some vs=>(g vs).at e1
 | none=>.stuck
def bR (e:E3):Tm->Option (E3×Val)
 | .val v=>some (e,v)
 | .new v=>some (e,v)
 | .bor i=>match e[i]? with
  | some (.sh v)=>some (e,v)
  | some (.ow v)=>some (e.set i (.sh v),v)
  | _=>none
def dem (e:E3):List Tm->Option (E3×List Val)
 | []=>some (e,[])
 | t :: ts=>match bR e t with
  | some (e1,v)=>match dem e1 ts with
   | some (e2,vs)=>some (e2,v :: vs)
   | none=>none
  | none=>none
def vTup (A:MA3):ME3:=λe=>(A e).bind λts e1=>match dem e1 ts with
 | some (e2,vs)=>if vs.length<=16777216 then .ok (.val (.tup vs)) e2 else .stuck
 | none=>.stuck
def vLst (A:MA3):ME3:=λe=>(A e).bind λts e1=>match dem e1 ts with
 | some (e2,vs)=>if vs.length<=16777216 then .ok (.new (.lst vs)) e2 else .stuck
 | none=>.stuck
def bOf:Option Val->Option Bool
 | some (.bl b)=>some b
 | _=>none
def vIf (c:MT3) (F G:ME3):ME3:=λe=>(c e).bind λb e1=>if b=true then F e1 else G e1
def cOf (F:ME3):MT3:=λe=>(F e).bind λt e1=>match bOf (rs e1 t) with
 | some b=>.ok b e1
 | none=>.stuck
def cAn (c d:MT3):MT3:=λe=>(c e).bind λb e1=>if b=true then d e1 else .ok false e1
def cO (c d:MT3):MT3:=λe=>(c e).bind λb e1=>if b=true then .ok true e1 else d e1
def cNo (c:MT3):MT3:=λe=>(c e).bind λb e1=>.ok (!b) e1
def cY:MT3:=λe=>.ok true e
def o3:Val->Option Bool
 | .non=>some false
 | .bl b=>some b
 | .int i=>some (i != 0)
 | .tup xs=>some (!xs.isEmpty)
 | .lst xs=>some (!xs.isEmpty)
 | .kl xs=>some (!xs.isEmpty)
 | _=>none
def cTr (F:ME3):MT3:=λe=>(F e).bind λt e1=>match (rs e1 t).bind o3 with
 | some b=>.ok b e1
 | none=>.stuck
section
variable {F G:ME}{F3 G3:ME3}{A:MA}{A3:MA3}{c d:MT}{c3 d3:MT3}
theorem za (i:Nat):RE (aT i) (uD i):=λX h0 L ns e ae h S hl=>by
 unfold uD
 cases q:e[i]? with
 | none=>trivial
 |
  some s=>
  have y:=S.sl i s q
  cases s with
  | no=>trivial
  | sh v=>obtain⟨_,x,e1,e2⟩:=y;unfold aT;rw[e1];exact Po.ret S e2
  | ow v=>obtain⟨m,o,_,e2,_⟩:=y;unfold aT;rw[e2];exact Po.ret S e2
  | lo v=>obtain⟨m,o,_,e2,_⟩:=y;unfold aT;rw[e2];exact Po.ret S e2
  | mu v=>obtain⟨m,o,_,e2,_⟩:=y;unfold aT;rw[e2];exact Po.ret S e2
  | lm v=>obtain⟨m,o,_,e2,_⟩:=y;unfold aT;rw[e2];exact Po.ret S e2
theorem lW {d:D}{v:Val} (r:∀ P h,Rd P h d v):RE (eC d) (vC v):=λX h0 L ns e ae h S hl=>Po.ret S (r _ _)
theorem BF {g:D->D->AH->R D}{g3:Val->Val->Bv} (hg:RO g g3) (hF:RE F F3) (hG:RE G G3):RE (eOp g F G) (vOp g3 F3 G3):=λX h0 L ns e ae h S hl=>
 Po.bind S (hF X h0 L ns e ae h S hl) λd1 t1 h1 ns1 e1 a1 S1 r1=>Po.bind S1 (hG X h0 L ns1 e1 ae h1 S1 (Nat.le_trans hl a1.len)) λd2 t2 h2 bn e2 a2 S2 r2=>by
  try dsimp only
  split
  ·rename_i v1 v2 q1 q2
   obtain⟨r1',hn⟩:=r1.drop
   exact BvR.po S2 (Nat.le_trans hl (Nat.le_trans a1.len a2.len)) (hg _ _ _ _ _ _ ((r1'.stp S1 a2 hn).sh S2 q1) (r2.sh S2 q2))
  ·trivial
theorem zh:RA dF vNil:=λX h0 ns e ae h S=>Po.ret S .nil
theorem wB (hF:RE F F3) (hA:RA A A3):RA (cE F A) (vy F3 A3):=λX h0 ns e ae h S=>
 Po.bind S (hF X h0 0 ns e ae h S (Nat.zero_le _)) λd1 t1 h1 ns1 e1 a1 S1 r1=>Po.bind S1 (hA X h0 ns1 e1 ae h1 S1) λds ts h2 bn e2 a2 S2 r2=>by
  obtain⟨r1',hn⟩:=r1.drop
  have r3:=r1'.stp S1 a2 hn
  refine Po.ret S2 ?_
  show TsR X bn ae h2 (d1 :: ds) (t1.drop :: ts)
  generalize t1.drop=t at *
  cases t with
  | val v=>exact .val r3 r2
  | new v=>exact absurd rfl (hn v)
  | bor i=>exact .bor r3 r2
theorem Cy {g:Fn}{g3:List Val->Bv} (hg:RFn g g3) (hA:RA A A3):RE (eFn g A) (vFn g3 A3):=λX h0 L ns e ae h S hl=>
 Po.bind S (hA X h0 ns e ae h S) λds ts h1 ns1 e1 a1 S1 r1=>by
  try dsimp only
  split
  ·rename_i vs q
   exact BvR.po S1 (Nat.le_trans hl a1.len) (hg _ _ _ _ (TsR.sh S1 r1 q))
  ·trivial
theorem yH {X:Nat->Prop}{h0:Nat}{ns:Ns}{e:E3}{ae:AE}{h:AH}{i:Nat}{v:Val} (S:Sat X h0 ns e ae h) (q:e[i]?=some (.ow v)):∃ n,ae[i]?=some (some (.ref n))/\Sat X h0 (ns.set i none) (e.set i (.sh v)) ae h/\Stp ns e h (ns.set i none) (e.set i (.sh v)) h/\Rd (Oc X (ns.set i none)) h (.ref n) v:=by
 obtain⟨n,o,q1,q2,_,q3,_,q4⟩:=S.sl i _ q
 have hi:=(List.getElem?_eq_some_iff.mp q).1
 have hn:i < ns.length:=by rw[S.l2];exact hi
 have r:Rd (Oc X (ns.set i none)) h (.ref n) v:=.cell ⟨S.nx i n q1,λz=>by
  obtain⟨j,z⟩:=aK.mp z
  rcases aZ hn z with ⟨_,y⟩ | ⟨y,z⟩
  ·cases y
  ·exact y (S.inj j i n z q1)⟩ q3 (q4.mono λm o p q=>⟨cL p,q⟩)
 exact⟨n,q2,S.putN' hi ⟨rfl,_,q2,r⟩,Stp.refl.put (x:=none) hi (λ_ z=>by cases z) q rfl rfl S.l2,r⟩
theorem eH {X:Nat->Prop}{h0 L:Nat}{ns:Ns}{e e':E3}{ae:AE}{h:AH}{d:D}{t:Tm}{v:Val} (S:Sat X h0 ns e ae h) (r:relE X h0 L ae ns e h d t) (q:bR e t=some (e',v)):∃ ns',Sat X h0 ns' e' ae h/\Stp ns e h ns' e' h/\Rd (Oc X ns') h d v:=by
 cases t with
 | val u=>cases q;exact⟨ns,S,.refl,r⟩
 | new u=>cases q;exact⟨ns,S,.refl,r.new⟩
 |
  bor i=>
  unfold bR at q
  dsimp only at q
  have r':ae[i]?=some (some d):=r
  split at q
  ·rename_i u q1;cases q
   obtain⟨_,x,e1,e2⟩:=S.sl i _ q1
   rw[r'] at e1;cases e1
   exact⟨ns,S,.refl,e2⟩
  ·rename_i u q1;cases q
   obtain⟨n,e1,S',a',e2⟩:=yH S q1
   rw[r'] at e1;cases e1
   exact⟨_,S',a',e2⟩
  ·cases q
theorem fR {X:Nat->Prop}{h0:Nat}{ae:AE}{h:AH}{ts:List Tm}:∀ {ds:List D}{vs:List Val}{ns:Ns}{e e':E3},Sat X h0 ns e ae h->TsR X ns ae h ds ts->dem e ts=some (e',vs)->∃ ns',Sat X h0 ns' e' ae h/\Stp ns e h ns' e' h/\Rds (Oc X ns') h ds vs:=by
 induction ts with
 | nil=>intro ds vs ns e e' S r q;cases r;cases q;exact⟨ns,S,.refl,.nil⟩
 |
  cons t ts ih=>
  intro ds vs ns e e' S r q
  unfold dem at q
  split at q
  ·rename_i e1 v q1
   split at q
   ·rename_i e2 vs' q2
    cases q
    have hr:∃ d ds',ds=d :: ds'/\relE X h0 0 ae ns e h d t/\TsR X ns ae h ds' ts:=by
     cases r with
     | val r rr=>exact⟨_,_,rfl,r,rr⟩
     | bor r rr=>exact⟨_,_,rfl,r,rr⟩
    obtain⟨d,ds',rfl,hr⟩:=hr
    obtain⟨ns1,S1,a1,r1⟩:=eH S hr.1 q1
    obtain⟨bn,S2,a2,r2⟩:=ih S1 (hr.2.stp S a1) q2
    exact⟨bn,S2,a1.trans S a2,.cons (r1.mono (a2.mov S1)) r2⟩
   ·cases q
  ·cases q
theorem zC (hA:RA A A3):RE (eFn jC A) (vTup A3):=λX h0 L ns e ae h S hl=>
 Po.bind S (hA X h0 ns e ae h S) λds ts h1 ns1 e1 a1 S1 r1=>by
  try dsimp only
  split
  ·rename_i e2 vs q
   split
   ·rename_i hv
    obtain⟨bn,S2,a2,r2⟩:=fR S1 r1 q
    exact⟨.tup ds,h1,bn,by unfold jC;rw[if_pos (by rw[r2.len];exact hv)],a2,S2,.tup r2⟩
   ·trivial
  ·trivial
theorem zg (hA:RA A A3):RE (eFn bp A) (vLst A3):=λX h0 L ns e ae h S hl=>
 Po.bind S (hA X h0 ns e ae h S) λds ts h1 ns1 e1 a1 S1 r1=>by
  try dsimp only
  split
  ·rename_i e2 vs q
   split
   ·rename_i hv
    obtain⟨bn,S2,a2,r2⟩:=fR S1 r1 q
    have p:=BvR.po (r:=bp ds h1) (b:=.new (.lst vs)) S2 (Nat.le_trans hl a1.len) ⟨.lst ds,by unfold bp;rw[if_pos (by rw[r2.len];exact hv)],trivial,.lst r2⟩
    obtain⟨d,h',ns',y,y1,y2,y3⟩:=p
    exact⟨d,h',ns',y,a2.trans S1 y1,y2,y3⟩
   ·trivial
  ·trivial
theorem Bi {X:Nat->Prop}{h0 L:Nat}{ae:AE}{ns1:Ns}{e1:E3}{h1:AH}{d1:D}{t1:Tm}{b:Bool} (S1:Sat X h0 ns1 e1 ae h1) (r1:relE X h0 L ae ns1 e1 h1 d1 t1) (q:bOf (rs e1 t1)=some b):d1=.bl b:=by
 unfold bOf at q
 split at q
 ·rename_i b' q';cases q;exact (r1.sh S1 q').bl
 ·cases q
theorem Cp (hc:RT c c3) (hF:RE F F3) (hG:RE G G3):RE (eIf c F G) (vIf c3 F3 G3):=λX h0 L ns e ae h S hl=>
 Po.bind S (hc X h0 ns e ae h S) λb b' h1 ns1 e1 a1 S1 r1=>by
  cases r1
  try dsimp only
  split
  ·exact hF X h0 L ns1 e1 ae h1 S1 (Nat.le_trans hl a1.len)
  ·exact hG X h0 L ns1 e1 ae h1 S1 (Nat.le_trans hl a1.len)
theorem B9 (hF:RE F F3):RT (tOf F) (cOf F3):=λX h0 ns e ae h S=>
 Po.bind S (hF X h0 0 ns e ae h S (Nat.zero_le _)) λd1 t1 h1 ns1 e1 a1 S1 r1=>by
  try dsimp only
  split
  ·rename_i q;rw[Bi S1 r1 q];exact Po.ret S1 rfl
  ·trivial
theorem B5 (hc:RT c c3) (hd:RT d d3):RT (tAn c d) (cAn c3 d3):=λX h0 ns e ae h S=>
 Po.bind S (hc X h0 ns e ae h S) λb b' h1 ns1 e1 a1 S1 r1=>by
  cases r1
  try dsimp only
  split
  ·exact hd X h0 ns1 e1 ae h1 S1
  ·exact Po.ret S1 rfl
theorem rt_o (hc:RT c c3) (hd:RT d d3):RT (tO c d) (cO c3 d3):=λX h0 ns e ae h S=>
 Po.bind S (hc X h0 ns e ae h S) λb b' h1 ns1 e1 a1 S1 r1=>by
  cases r1
  try dsimp only
  split
  ·exact Po.ret S1 rfl
  ·exact hd X h0 ns1 e1 ae h1 S1
theorem Dk (hc:RT c c3):RT (tNo c) (cNo c3):=λX h0 ns e ae h S=>
 Po.bind S (hc X h0 ns e ae h S) λb b' h1 ns1 e1 a1 S1 r1=>by
  cases r1
  exact Po.ret S1 rfl
theorem rt_y:RT tY cY:=λX h0 ns e ae h S=>Po.ret S rfl
theorem v9 {P:Nat->Prop}{h:AH}{d:D}{v:Val}{b:Bool} (r:ShR P h d v) (q:o3 v=some b):mr d h=.ok b h:=by
 have emp:∀ {ds:List D}{vs:List Val},Rds P h ds vs->ds.isEmpty=vs.isEmpty:=λr=>by cases r <;> rfl
 cases v with
 | non=>cases q;rw[r.non];rfl
 | bl b=>cases q;rw[r.bl];rfl
 | int i=>cases q;rw[r.int];rfl
 | tup xs=>cases q;obtain⟨ds,rfl,r2⟩:=r.tup;show R.ok (!ds.isEmpty) h=_;rw[emp r2]
 |
  lst xs=>
  cases q
  obtain⟨n,ds,rfl,_,e1,r1⟩:=r.lst
  rw[<- emp r1]
  unfold mr bZ;dsimp only;rw[e1]
 |
  kl xs=>
  cases q
  obtain⟨ds,r2,rfl | ⟨n,rfl,e1⟩⟩:=r.kl
  ·show R.ok (!ds.isEmpty) h=_;rw[emp r2]
  ·rw[<- emp r2]
   unfold mr bZ;dsimp only;rw[e1]
 | _=>cases q
theorem Cv (hF:RE F F3):RT (tTr F) (cTr F3):=λX h0 ns e ae h S=>
 Po.bind S (hF X h0 0 ns e ae h S (Nat.zero_le _)) λd1 t1 h1 ns1 e1 a1 S1 r1=>by
  try dsimp only
  split
  ·rename_i b q
   obtain⟨v,q1,q2⟩:=Option.bind_eq_some_iff.mp q
   rw[v9 (r1.sh S1 q1) q2]
   exact Po.ret S1 rfl
  ·trivial
end
end L3
namespace L3
open PySem PySem.Spec PyProof.Rows L2
inductive Rt where
 | val (v:Val) | new (v:Val)
inductive SR3 where
 | nx (e:E3) | rt (r:Rt) (e:E3) | bk (e:E3) | ct (e:E3) | exc (c:Str) (e:E3) | stuck
abbrev MS3:=E3->SR3
def RtR (X:Nat->Prop) (h0:Nat) (ns:Ns) (e:E3) (ae:AE) (h:AH) (d:D):Rt->Prop
 | .val v=>Sat X h0 ns e ae h/\Rd (Oc X ns) h d v
 | .new v=>∃ n o,d=.ref n/\h0<=n/\¬ X n/\h[n]?=some o/\bu o/\Sat (Xn X n) h0 ns e ae h/\Rc (Oc (Xn X n) ns) h o v
def PoS (X:Nat->Prop) (h0:Nat) (ns:Ns) (e:E3) (h:AH) (r2:SR):SR3->Prop
 | .stuck=>True
 | .nx e'=>∃ am h' ns',r2=.nx am h'/\Stp ns e h ns' e' h'/\Sat X h0 ns' e' am h'
 | .bk e'=>∃ am h' ns',r2=.bk am h'/\Stp ns e h ns' e' h'/\Sat X h0 ns' e' am h'
 | .ct e'=>∃ am h' ns',r2=.ct am h'/\Stp ns e h ns' e' h'/\Sat X h0 ns' e' am h'
 | .exc c e'=>∃ am h' ns',r2=.exc c am h'/\Stp ns e h ns' e' h'/\Sat X h0 ns' e' am h'
 | .rt r e'=>∃ d am h' ns',r2=.rt d h'/\Stp ns e h ns' e' h'/\RtR X h0 ns' e' am h' d r
def RS (F:MS) (G:MS3):Prop:=∀ X h0 ns e ae h,Sat X h0 ns e ae h->PoS X h0 ns e h (F ae h) (G e)
def R3.toS {α:Type} (r:R3 α) (f:α->E3->SR3):SR3:=match r with
 | .ok a e=>f a e
 | .exc c e=>.exc c e
 | .stuck=>.stuck
def SR3.then (r:SR3) (f:E3->SR3):SR3:=match r with
 | .nx e=>f e
 | r=>r
section
variable {X:Nat->Prop}{h0 L:Nat}{ns ns1 ns':Ns}{e e1 e':E3}{ae:AE}{h h1 h':AH}
theorem PoS.after {r2:SR}{r3:SR3} (S:Sat X h0 ns e ae h) (a:Stp ns e h ns1 e1 h1) (p:PoS X h0 ns1 e1 h1 r2 r3):PoS X h0 ns e h r2 r3:=by
 cases r3 with
 | stuck=>trivial
 | nx e'=>obtain⟨am,h',ns',q,q1,q2⟩:=p;exact⟨am,h',ns',q,a.trans S q1,q2⟩
 | bk e'=>obtain⟨am,h',ns',q,q1,q2⟩:=p;exact⟨am,h',ns',q,a.trans S q1,q2⟩
 | ct e'=>obtain⟨am,h',ns',q,q1,q2⟩:=p;exact⟨am,h',ns',q,a.trans S q1,q2⟩
 | exc c e'=>obtain⟨am,h',ns',q,q1,q2⟩:=p;exact⟨am,h',ns',q,a.trans S q1,q2⟩
 | rt r e'=>obtain⟨d,am,h',ns',q,q1,q2⟩:=p;exact⟨d,am,h',ns',q,a.trans S q1,q2⟩
theorem PoS.toS {δ α:Type}{rel:Ns->E3->AH->δ->α->Prop}{r2:R δ}{r3:R3 α}{f2:δ->AH->SR}{f3:α->E3->SR3} (p:Po X h0 ns e ae h rel r2 r3)
 (k:∀ d t h' ns' e',Stp ns e h ns' e' h'->Sat X h0 ns' e' ae h'->rel ns' e' h' d t->PoS X h0 ns e h (f2 d h') (f3 t e')):PoS X h0 ns e h (r2.toS ae f2) (r3.toS f3):=by
 cases r3 with
 | stuck=>trivial
 | exc c e'=>obtain⟨h',ns',rfl,q1,q2⟩:=p;exact⟨ae,h',ns',rfl,q1,q2⟩
 | ok t e'=>obtain⟨d,h',ns',rfl,q1,q2,q3⟩:=p;exact k d t h' ns' e' q1 q2 q3
theorem PoS.nx {am:AE} (a:Stp ns e h ns' e' h') (S:Sat X h0 ns' e' am h'):PoS X h0 ns e h (.nx am h') (.nx e'):=⟨am,h',ns',rfl,a,S⟩
end
def wNx:MS3:=λe=>.nx e
def wSeq (F G:MS3):MS3:=λe=>(F e).then G
def vh (F:ME3):MS3:=λe=>(F e).toS λ_ e1=>.nx e1
def wIf (c:MT3) (F G:MS3):MS3:=λe=>(c e).toS λb e1=>if b=true then F e1 else G e1
def jW (t:Tm) (e:E3):SR3:=match t with
 | .val v=>.rt (.val v) e
 | .new v=>.rt (.new v) e
 | .bor i=>match e[i]? with
  | some (.sh v)=>.rt (.val v) e
  | some (.ow v)=>.rt (.new v) (e.set i .no)
  | _=>.stuck
def wRet (F:ME3):MS3:=λe=>(F e).toS jW
def fu (o:Bool) (i:Nat) (t:Tm) (e:E3):SR3:=match e[i]? with
 | some s0=>if s0.pl=true then (match t with
  | .val v=>.nx (e.set i (.sh v))
  | .new v=>.nx (e.set i (if o=true then .ow v else .sh v))
  | .bor j=>match bR e (.bor j) with
   | some (e2,v)=>.nx (e2.set i (.sh v))
   | none=>.stuck) else .stuck
 | none=>.stuck
def wAsg (o:Bool) (i:Nat) (F:ME3):MS3:=λe=>(F e).toS (fu o i)
abbrev MG3:=Val->E3->Option E3
abbrev gY:=List Val->E3->Option E3
def pN (i:Nat):MG3:=λv e=>match e[i]? with
 | some s=>if s.pl=true then some (e.set i (.sh v)) else none
 | none=>none
def psN:gY:=λvs e=>match vs with
 | []=>some e
 | _=>none
def psC (g:MG3) (u:gY):gY:=λvs e=>match vs with
 | v :: r=>(g v e).bind λe1=>u r e1
 | []=>none
def pT (n:Nat) (u:gY):MG3:=λv e=>match v with
 | .tup vs=>if vs.length=n then u vs e else none
 | _=>none
def wPar (i j:Nat) (A:MA3):MS3:=λe=>(A e).toS λts e1=>match dem e1 ts with
 | some (e2,[v,u])=>match (pN i v e2).bind (pN j u) with
  | some e3=>.nx e3
  | none=>.stuck
 | _=>.stuck
def rG (c:Str) (A:MA3):MS3:=λe=>(A e).toS λts e1=>if ts.length<=16777216 then .exc c e1 else .stuck
def RG (g2:MG) (g3:MG3):Prop:=∀ X h0 ns e ae h d v e',Sat X h0 ns e ae h->Rd (Oc X ns) h d v->g3 v e=some e'->∃ am ns',g2 d ae h=.ok am h/\Sat X h0 ns' e' am h/\Stp ns e h ns' e' h
def RGs (g2:MGs) (g3:gY):Prop:=∀ X h0 ns e ae h ds vs e',Sat X h0 ns e ae h->Rds (Oc X ns) h ds vs->g3 vs e=some e'->∃ am ns',g2 ds ae h=.ok am h/\Sat X h0 ns' e' am h/\Stp ns e h ns' e' h
section
variable {F G:ME}{F3 G3:ME3}{A:MA}{A3:MA3}{c d:MT}{c3 d3:MT3}{U V:MS}{U3 V3:MS3}{g:MG}{g3:MG3}{gs:MGs}{gs3:gY}
theorem BA:RS sNx wNx:=λX h0 ns e ae h S=>.nx .refl S
theorem AJ (hU:RS U U3) (hV:RS V V3):RS (eT U V) (wSeq U3 V3):=λX h0 ns e ae h S=>by
 have p:=hU X h0 ns e ae h S
 show PoS X h0 ns e h ((U ae h).then V) ((U3 e).then V3)
 generalize U3 e=r at *
 cases r with
 | stuck=>trivial
 | nx e'=>obtain⟨am,h',ns',q,q1,q2⟩:=p;rw[q];exact PoS.after S q1 (hV X h0 ns' e' am h' q2)
 | bk e'=>obtain⟨am,h',ns',q,q1,q2⟩:=p;rw[q];exact⟨am,h',ns',rfl,q1,q2⟩
 | ct e'=>obtain⟨am,h',ns',q,q1,q2⟩:=p;rw[q];exact⟨am,h',ns',rfl,q1,q2⟩
 | exc c e'=>obtain⟨am,h',ns',q,q1,q2⟩:=p;rw[q];exact⟨am,h',ns',rfl,q1,q2⟩
 | rt r e'=>obtain⟨d,am,h',ns',q,q1,q2⟩:=p;rw[q];exact⟨d,am,h',ns',rfl,q1,q2⟩
theorem xx (hF:RE F F3):RS (er F) (vh F3):=λX h0 ns e ae h S=>PoS.toS (hF X h0 0 ns e ae h S (Nat.zero_le _)) λd t h1 ns1 e1 a1 S1 r1=>.nx a1 S1
theorem BP (hc:RT c c3) (hU:RS U U3) (hV:RS V V3):RS (sIf c U V) (wIf c3 U3 V3):=λX h0 ns e ae h S=>PoS.toS (hc X h0 ns e ae h S) λb b' h1 ns1 e1 a1 S1 r1=>by
 cases r1
 try dsimp only
 split
 ·exact PoS.after S a1 (hU X h0 ns1 e1 ae h1 S1)
 ·exact PoS.after S a1 (hV X h0 ns1 e1 ae h1 S1)
theorem Au (hF:RE F F3):RS (uw F) (wRet F3):=λX h0 ns e ae h S=>PoS.toS (hF X h0 h0 ns e ae h S S.lh) λd t h1 ns1 e1 a1 S1 r1=>by
 cases t with
 | val v=>exact⟨d,ae,h1,ns1,rfl,a1,S1,r1⟩
 | new v=>obtain⟨n,o,q⟩:=r1;exact⟨d,ae,h1,ns1,rfl,a1,n,o,q⟩
 |
  bor i=>
  unfold jW
  dsimp only
  have r':ae[i]?=some (some d):=r1
  split
  ·rename_i v q
   obtain⟨_,x,e1',e2⟩:=S1.sl i _ q
   rw[r'] at e1';cases e1'
   exact⟨d,ae,h1,ns1,rfl,a1,S1,e2⟩
  ·rename_i v q
   obtain⟨n,o,q1,q2,q3,q4,q5,q6⟩:=S1.sl i _ q
   rw[r'] at q2;cases q2
   have hi:=(List.getElem?_eq_some_iff.mp q).1
   have hn:i < ns1.length:=by rw[S1.l2];exact hi
   have mv:Mov (Oc X ns1) (Oc (Xn X n) (ns1.set i none)) h1 h1:=λm o' p q'=>⟨⟨λz=>by
    rcases z with z | rfl
    ·exact p.1 z
    ·exact p.2 (aK.mpr ⟨i,q1⟩),(cL p).2⟩,q'⟩
   have S2:=S1.putN' hi (s:=.no) rfl
   refine⟨.ref n,ae,h1,ns1.set i none,rfl,a1.put (x:=none) hi (λ_ z=>by cases z) q rfl rfl S1.l2,n,o,rfl,q3,S1.nx i n q1,q4,q5,⟨S2.l1,S2.l2,S2.lh,λm z=>?_,S2.inj,λj m qj z=>?_,λj s qj=>?_⟩,q6.mono mv⟩
   ·rcases z with z | rfl
    ·exact S2.xl m z
    ·exact a9 q4
   ·rcases z with z | rfl
    ·exact S2.nx j m qj z
    ·rcases aZ hn qj with ⟨_,y⟩ | ⟨y,z⟩
     ·cases y
     ·exact y (S1.inj j i _ z q1)
   ·rcases aZ hi qj with ⟨rfl,rfl⟩ | ⟨z,qj'⟩
    ·rw[a8 hn];rfl
    ·rw[aN z]
     exact (S1.sl j s qj').mono mv λ_ _ _ q=>q
  ·trivial
theorem zX (o:Bool) (i:Nat) (hF:RE F F3):RS (fD F (gN i)) (wAsg o i F3):=λX h0 ns e ae h S=>PoS.toS (hF X h0 h.length ns e ae h S (Nat.le_refl _)) λd t h1 ns1 e1 a1 S1 r1=>by
 show PoS X h0 ns e h (.nx (ae.set i (some d)) h1) (fu o i t e1)
 unfold fu
 split
 ·rename_i s0 q0
  split
  ·rename_i p0
   have hi:=(List.getElem?_eq_some_iff.mp q0).1
   cases t with
   | val v=>exact .nx (a1.put (x:=none) (s:=.sh v) hi (λ_ z=>by cases z) q0 p0 rfl S1.l2) (S1.putN hi ⟨rfl,d,rfl,Rd.mono (λm o p q=>⟨cL p,q⟩) r1⟩)
   |
    new v=>
    try dsimp only
    split
    ·obtain⟨n,ob,rfl,q1,q2,q3,q4,q5,q6⟩:=r1
     exact .nx (a1.put (x:=some n) (s:=.ow v) hi (λm z=>by cases z;exact q1) q0 p0 rfl S1.l2) (Sat.putO q5 q2 hi (Nat.le_trans S.lh q1) q3 q4 q6)
    ·exact .nx (a1.put (x:=none) (s:=.sh v) hi (λ_ z=>by cases z) q0 p0 rfl S1.l2) (S1.putN hi ⟨rfl,d,rfl,Rd.mono (λm o p q=>⟨cL p,q⟩) r1.new⟩)
   |
    bor j=>
    try dsimp only
    split
    ·rename_i e2 v q2
     obtain⟨bn,S2,a2,r2⟩:=eH S1 r1 q2
     have hq:∃ s2,e2[i]?=some s2/\s2.pl=true:=by
      unfold bR at q2
      dsimp only at q2
      split at q2
      ·cases q2;exact⟨s0,q0,p0⟩
      ·rename_i u q3
       cases q2
       by_cases z:i=j
       ·subst z;exact⟨_,a8 hi,rfl⟩
       ·exact⟨s0,by rw[aN z];exact q0,p0⟩
      ·cases q2
     obtain⟨s2,hq1,hq2⟩:=hq
     have hi2:=(List.getElem?_eq_some_iff.mp hq1).1
     exact .nx ((a1.trans S a2).put (x:=none) (s:=.sh v) hi2 (λ_ z=>by cases z) hq1 hq2 rfl S2.l2) (S2.putN hi2 ⟨rfl,d,rfl,Rd.mono (λm o p q=>⟨cL p,q⟩) r2⟩)
    ·trivial
  ·trivial
 ·trivial
theorem oJ (i:Nat):RG (gN i) (pN i):=λX h0 ns e ae h d v e' S r q=>by
 unfold pN at q
 split at q
 ·rename_i s q0
  split at q
  ·rename_i p0
   cases q
   have hi:=(List.getElem?_eq_some_iff.mp q0).1
   exact⟨_,ns.set i none,rfl,S.putN hi ⟨rfl,d,rfl,Rd.mono (λm o p q=>⟨cL p,q⟩) r⟩,Stp.refl.put (x:=none) (s:=.sh v) hi (λ_ z=>by cases z) q0 p0 rfl S.l2⟩
  ·cases q
 ·cases q
theorem B0:RGs gsN psN:=λX h0 ns e ae h ds vs e' S r q=>by
 cases r with
 | nil=>cases q;exact⟨ae,ns,rfl,S,.refl⟩
 | cons _ _=>cases q
theorem Cd (hg:RG g g3) (hs:RGs gs gs3):RGs (gsC g gs) (psC g3 gs3):=λX h0 ns e ae h ds vs e' S r q=>by
 cases r with
 | nil=>cases q
 |
  cons r rr=>
  obtain⟨e1,q1,q2⟩:=Option.bind_eq_some_iff.mp q
  obtain⟨ae1,ns1,p1,S1,a1⟩:=hg _ _ _ _ _ _ _ _ _ S r q1
  obtain⟨ae2,bn,p2,S2,a2⟩:=hs _ _ _ _ _ _ _ _ _ S1 (rr.mono (a1.mov S)) q2
  refine⟨ae2,bn,?_,S2,a1.trans S a2⟩
  unfold gsC;dsimp only;rw[p1];exact p2
theorem rg_t (n:Nat) (hs:RGs gs gs3):RG (gT λds ae h=>if ds.length=n then gs ds ae h else .stuck) (pT n gs3):=λX h0 ns e ae h d v e' S r q=>by
 unfold pT at q
 split at q
 ·split at q
  ·rename_i hn
   obtain⟨ds,rfl,r2⟩:=ShR.tup (.inl r)
   obtain⟨ae1,ns1,p1,S1,a1⟩:=hs _ _ _ _ _ _ _ _ _ S r2 q
   refine⟨ae1,ns1,?_,S1,a1⟩
   unfold gT;dsimp only;rw[if_pos (by rw[r2.len];exact hn)];exact p1
  ·cases q
 ·cases q
theorem Ad (hg:RG g g3):RG (λd ae h=>noX (g d ae h)) g3:=λX h0 ns e ae h d v e' S r q=>by
 obtain⟨ae1,ns1,p1,S1,a1⟩:=hg _ _ _ _ _ _ _ _ _ S r q
 exact⟨ae1,ns1,by dsimp only;rw[p1];rfl,S1,a1⟩
theorem zO (i j:Nat) (hA:RA A A3):RS (uE i j A) (wPar i j A3):=λX h0 ns e ae h S=>PoS.toS (hA X h0 ns e ae h S) λds ts h1 ns1 e1 a1 S1 r1=>by
 try dsimp only
 cases q:dem e1 ts with
 | none=>trivial
 |
  some w=>
  obtain⟨e2,vs⟩:=w
  obtain⟨bn,S2,a2,r2⟩:=fR S1 r1 q
  match vs,ds,r2 with
  | [],_,_=>trivial
  | [_],_,_=>trivial
  | _ :: _ :: _ :: _,_,_=>trivial
  |
   [v,u],[d,d'],r2=>
   dsimp only
   split
   ·rename_i e3 q3
    obtain⟨e4,q4,q5⟩:=Option.bind_eq_some_iff.mp q3
    cases r2 with
    |
     cons r rr=>
     cases rr with
     |
      cons r' rr=>
      obtain⟨ae3,ns3,p3,S3,a3⟩:=oJ i _ _ _ _ _ _ _ _ _ S2 r q4
      obtain⟨ae4,ns4,p4,S4,a4⟩:=oJ j _ _ _ _ _ _ _ _ _ S3 (r'.mono (a3.mov S2)) q5
      have z3:ae3=ae.set i (some d):=by have:=p3;unfold gN at this;cases this;rfl
      have z4:ae4=ae3.set j (some d'):=by have:=p4;unfold gN at this;cases this;rfl
      subst z4 z3
      exact .nx (((a1.trans S a2).trans S a3).trans S a4) S4
   ·trivial
theorem TsR.len {X:Nat->Prop}{ns:Ns}{ae:AE}{h:AH}{ds:List D}{ts:List Tm} (r:TsR X ns ae h ds ts):ds.length=ts.length:=by
 induction r with
 | nil=>rfl
 | val _ _ ih=>rw[List.length_cons,List.length_cons,ih]
 | bor _ _ ih=>rw[List.length_cons,List.length_cons,ih]
theorem sS (x:Str) (hA:RA A A3):RS (mz x A) (rG x A3):=λX h0 ns e ae h S=>PoS.toS (hA X h0 ns e ae h S) λds ts h1 ns1 e1 a1 S1 r1=>by
 try dsimp only
 by_cases hl:ts.length<=16777216
 ·rw[if_pos hl,if_pos (by rw[TsR.len r1];exact hl)]
  exact⟨ae,h1,ns1,rfl,a1,S1⟩
 ·rw[if_neg hl];trivial
end
def Sl.re (s:Sl) (u:Val):Sl:=match s with
 | .ow _=>.ow u
 | .mu _=>.mu u
 | s=>s
def Sl.mv:Sl->Option Val
 | .ow v=>some v
 | .mu v=>some v
 | _=>none
section
variable {X:Nat->Prop}{h0 L:Nat}{ns ns1 ns':Ns}{e e1 e':E3}{ae:AE}{h h1 h':AH}
theorem Sat.write (S:Sat X h0 ns e ae h) {i:Nat}{s:Sl}{u:Val} (q:e[i]?=some s) (hm:s.mv=some u):∃ n o,ae[i]?=some (some (.ref n))/\h[n]?=some o/\bu o/\Rc (Oc X ns) h o u/\
 ∀ o' u',bu o'->Rc (Oc X ns) h o' u'->Mov (Oc X ns) (Oc X ns) h (h.set n o')/\Sat X h0 ns (e.set i (s.re u')) ae (h.set n o')/\Stp ns e h ns (e.set i (s.re u')) (h.set n o'):=by
 have hi:=(List.getElem?_eq_some_iff.mp q).1
 have key:∃ n o,ns[i]?=some (some n)/\ae[i]?=some (some (.ref n))/\h[n]?=some o/\bu o/\Rc (Oc X ns) h o u/\s.mt=true/\(∀ o' u',bu o'->Rc (Oc X ns) (h.set n o') o' u'->SlR (Oc X ns) h0 (some (some n)) (some (some (.ref n))) (h.set n o') (s.re u')):=by
  have y:=S.sl i s q
  cases s with
  | ow v=>cases hm;obtain⟨n,o,q1,q2,q3,q4,q5,q6⟩:=y;exact⟨n,o,q1,q2,q4,q5,q6,rfl,λo' u' hf r=>⟨n,o',rfl,rfl,q3,a8 (a9 q4),hf,r⟩⟩
  | mu v=>cases hm;obtain⟨n,o,q1,q2,q4,q5,q6⟩:=y;exact⟨n,o,q1,q2,q4,q5,q6,rfl,λo' u' hf r=>⟨n,o',rfl,rfl,a8 (a9 q4),hf,r⟩⟩
  | _=>cases hm
 obtain⟨n,o,k1,k2,k3,k4,k5,k6,k7⟩:=key
 refine⟨n,o,k2,k3,k4,k5,λo' u' hf r=>?_⟩
 have mv:Mov (Oc X ns) (Oc X ns) h (h.set n o'):=λm ob p q'=>⟨p,by
  have:m ≠ n:=λz=>p.2 (aK.mpr ⟨i,by rw[z];exact k1⟩)
  rw[aN this];exact q'⟩
 refine⟨mv,⟨by rw[List.length_set];exact S.l1,by rw[List.length_set];exact S.l2,by rw[List.length_set];exact S.lh,λm z=>by rw[List.length_set];exact S.xl m z,S.inj,S.nx,λj s' qj=>?_⟩,?_⟩
 ·rcases aZ hi qj with ⟨rfl,rfl⟩ | ⟨z,qj'⟩
  ·rw[k1,k2];exact k7 o' u' hf (r.mono mv)
  ·refine (S.sl j s' qj').mono mv λm ob qm qo=>?_
   have:m ≠ n:=λy=>by subst y;exact z (S.inj j i m qm k1)
   rw[aN this];exact qo
 ·refine⟨by rw[List.length_set];exact Nat.le_refl _,λm ob qm hM=>?_,λ_ _ q=>.inl q,λj s' qj hl=>?_,λj s' qj hl=>?_,λj v qj=>?_,λj v qj=>?_⟩
  ·have:m ≠ n:=λy=>by subst y;exact hM ⟨i,s,k1,q,k6⟩
   rw[aN this];exact qm
  ·have z:j ≠ i:=λz=>by subst z;rw[q] at qj;cases qj;cases s <;> first | cases hl;done | cases k6;done
   rw[aN z];exact⟨qj,rfl⟩
  ·rcases aZ hi qj with ⟨_,y⟩ | ⟨z,qj'⟩
   ·subst y;cases s <;> first | cases hl;done | cases k6;done
   ·exact⟨qj',rfl⟩
  ·rcases aZ hi qj with ⟨rfl,y⟩ | ⟨z,qj'⟩
   ·cases s with
    | mu w=>exact⟨w,q,rfl⟩
    | ow w=>cases y
    | _=>cases k6
   ·exact⟨v,qj',rfl⟩
  ·by_cases z:j=i
   ·subst z;rw[q] at qj;cases qj;exact⟨u',a8 hi,rfl⟩
   ·exact⟨v,by rw[aN z];exact qj,rfl⟩
end
def se (w2:D->D->D->AH->R Unit) (w3:Val->Val->Val->Option Val):Prop:=∀ P h n o u di vi d v u',¬ P n->h[n]?=some o->bu o->Rc P h o u->ShR P h di vi->Rd P h d v->w3 u vi v=some u'->∃ o',w2 (.ref n) di d h=.ok () (h.set n o')/\bu o'/\Rc P h o' u'
def wSet (i:Nat) (G:ME3) (F:ME3) (w:Val->Val->Val->Option Val):MS3:=λe=>(F e).toS λt e1=>match (e1[i]?).bind Sl.mv with
 | none=>.stuck
 | some _=>(G e1).toS λt2 e2=>match rs e2 t2 with
  | none=>.stuck
  | some vi=>match bR e2 t.drop with
   | none=>.stuck
   | some (e3,v)=>match e3[i]? with
    | none=>.stuck
    | some s=>match s.mv with
     | none=>.stuck
     | some u=>match w u vi v with
      | some u'=>.nx (e3.set i (s.re u'))
      | none=>.stuck
def RM (m2:D->List D->AH->R D) (m3:Val->List Val->Option (Val×Val)):Prop:=∀ P h n o u ds vs u' v,h[n]?=some o->bu o->Rc P h o u->Rds P h ds vs->m3 u vs=some (u',v)->gj h (.ref n)=true/\∃ o' d,m2 (.ref n) ds h=.ok d (h.set n o')/\bu o'/\Rc P h o' u'/\Rd P h d v
def dN:Val->Bool
 | .lst _=>true
 | _=>false
def tT (i:Nat) (m:Val->List Val->Option (Val×Val)) (A:MA3):ME3:=λe=>match e[i]? with
 | some s=>if (s.mv.map dN)=some true then (A e).bind λts e1=>match dem e1 ts with
  | some (e2,vs)=>match e2[i]? with
   | some s2=>match s2.mv with
    | some u=>match m u vs with
     | some (u',v)=>.ok (.val v) (e2.set i (s2.re u'))
     | none=>.stuck
    | none=>.stuck
   | none=>.stuck
  | none=>.stuck else .stuck
 | none=>.stuck
section
variable {F G:ME}{F3 G3:ME3}{A:MA}{A3:MA3}
theorem wt {X:Nat->Prop}{h0:Nat}{ns:Ns}{e:E3}{ae:AE}{h:AH} (S:Sat X h0 ns e ae h) {i:Nat}{u:Val} (q:(e[i]?).bind Sl.mv=some u):∃ n o,ae[i]?=some (some (.ref n))/\h[n]?=some o/\bu o/\Rc (Oc X ns) h o u:=by
 obtain⟨s,q1,q2⟩:=Option.bind_eq_some_iff.mp q
 obtain⟨n,o,k1,k2,k3,k4,_⟩:=S.write q1 q2
 exact⟨n,o,k1,k2,k3,k4⟩
theorem zH {w2:D->D->D->AH->R Unit}{w3:Val->Val->Val->Option Val} (i:Nat) (hw:se w2 w3) (hG:RE G G3) (hF:RE F F3):RS (fD F (gS (aT i) G w2)) (wSet i G3 F3 w3):=λX h0 ns e ae h S=>PoS.toS (hF X h0 0 ns e ae h S (Nat.zero_le _)) λd t h1 ns1 e1 a1 S1 r1=>by
 try dsimp only
 cases qm:(e1[i]?).bind Sl.mv with
 | none=>trivial
 |
  some u0=>
  obtain⟨n0,o0,b1,b2,b3,b4⟩:=wt S1 qm
  have L2e:∀ h',(gS (aT i) G w2 d ae h').toS ae (λam h2=>SR.nx am h2)=(G ae h').toS ae λdi h2=>(w2 (.ref n0) di d h2).toS ae λ_ h3=>.nx ae h3:=λh'=>by
   unfold gS aT
   rw[b1]
   simp only[eu]
   cases G ae h' with
   |
    ok di h2=>
    simp only[eu]
    show _=(w2 (.ref n0) di d h2).toS ae λ_ h3=>.nx ae h3
    cases w2 (.ref n0) di d h2 <;> rfl
   | exc c h2=>rfl
   | stuck=>rfl
  rw[L2e]
  refine PoS.after S a1 (PoS.toS (hG X h0 0 ns1 e1 ae h1 S1 (Nat.zero_le _)) λdi t2 h2 bn e2 a2 S2 r2=>?_)
  try dsimp only
  cases qi:rs e2 t2 with
  | none=>trivial
  |
   some vi=>
   try dsimp only
   cases qd:bR e2 t.drop with
   | none=>trivial
   |
    some w=>
    obtain⟨e3,v⟩:=w
    try dsimp only
    obtain⟨r1',hn⟩:=r1.drop
    have r3:=r1'.stp S1 a2 hn
    have si:=r2.sh S2 qi
    obtain⟨ns3,S3,a3,r4⟩:=eH S2 r3 qd
    have si3:ShR (Oc X ns3) h2 di vi:=by
     rcases si with z | ⟨n,o,z1,z2,z3⟩
     ·exact .inl (z.mono (a3.mov S2))
     ·exact .inr ⟨n,o,z1,z2,z3.mono (a3.mov S2)⟩
    cases q3:e3[i]? with
    | none=>trivial
    |
     some s=>
     try dsimp only
     cases q4:s.mv with
     | none=>trivial
     |
      some u=>
      try dsimp only
      cases q5:w3 u vi v with
      | none=>trivial
      |
       some u'=>
       obtain⟨n,o,k1,k2,k3,k4,k5⟩:=S3.write q3 q4
       rw[b1] at k1;cases k1
       have nP:¬ Oc X ns3 n0:=λp=>by
        have z1:=((k5 (.lst []) (.lst []) trivial (.lst .nil)).1 _ _ p k2).2
        have z2:=((k5 (.lst [.non]) (.lst [.non]) trivial (.lst (.cons .non .nil))).1 _ _ p k2).2
        rw[a8 (a9 k2)] at z1 z2
        rw[<- z2] at z1
        cases z1
       obtain⟨o',p1,p2,p3⟩:=hw _ _ _ _ _ _ _ _ _ _ nP k2 k3 k4 si3 r4 q5
       obtain⟨mv,S4,a4⟩:=k5 o' u' p2 p3
       rw[p1]
       exact .nx ((a2.trans S1 a3).trans S1 a4) S4
theorem Aw {m2:D->List D->AH->R D}{m3:Val->List Val->Option (Val×Val)} (i:Nat) (hm:RM m2 m3) (hA:RA A A3):RE (eM m2 (aT i) A) (tT i m3 A3):=λX h0 L ns e ae h S hl=>by
 unfold tT
 cases q0:e[i]? with
 | none=>trivial
 |
  some s0=>
  dsimp only
  split
  ·rename_i hz
   obtain⟨u0,z1,z2⟩:=Option.map_eq_some_iff.mp hz
   obtain⟨n0,o0,b1,b2,b3,b4,_⟩:=S.write q0 z1
   have hL:gj h (.ref n0)=true:=by
    cases u0 with
    | lst xs=>obtain⟨ds,_,e1,_⟩:=Rc.seq b2 b4;show (aO h n0).isSome=true;rw[e1];rfl
    | _=>cases z2
   have L2e:eM m2 (aT i) A ae h=(A ae h).bind λds h2=>m2 (.ref n0) ds h2:=by
    unfold eM aT
    rw[b1]
    simp only[eu,hL,if_true]
   rw[L2e]
   refine Po.bind S (hA X h0 ns e ae h S) λds ts h1 ns1 e1 a1 S1 r1=>?_
   try dsimp only
   cases q1:dem e1 ts with
   | none=>trivial
   |
    some w=>
    obtain⟨e2,vs⟩:=w
    try dsimp only
    obtain⟨bn,S2,a2,r2⟩:=fR S1 r1 q1
    cases q2:e2[i]? with
    | none=>trivial
    |
     some s2=>
     try dsimp only
     cases q3:s2.mv with
     | none=>trivial
     |
      some u=>
      try dsimp only
      cases q4:m3 u vs with
      | none=>trivial
      |
       some w=>
       obtain⟨u',v⟩:=w
       obtain⟨n,o,k1,k2,k3,k4,k5⟩:=S2.write q2 q3
       rw[b1] at k1;cases k1
       obtain⟨_,o',d,p1,p2,p3,p4⟩:=hm _ _ _ _ _ _ _ _ _ k2 k3 k4 r2 q4
       obtain⟨mv,S4,a4⟩:=k5 o' u' p2 p3
       exact⟨d,_,bn,p1,a2.trans S1 a4,S4,p4.mono mv⟩
  ·trivial
end
end L3
namespace L3
open PySem PySem.Spec PyProof.Rows L2
def fW:Sl->Sl
 | .ow v=>.lo v
 | .mu v=>.lm v
 | s=>s
def iu:Sl->Sl
 | .lo v=>.ow v
 | .lm v=>.mu v
 | s=>s
def lock (e:E3) (k:Nat):E3:=match e[k]? with
 | some s=>e.set k (fW s)
 | none=>e
def unlock (e:E3) (k:Nat):E3:=match e[k]? with
 | some s=>e.set k (iu s)
 | none=>e
def lockO (e:E3):Option Nat->E3
 | some k=>lock e k
 | none=>e
def df (e:E3):Option Nat->E3
 | some k=>unlock e k
 | none=>e
section
variable {X:Nat->Prop}{h0 L:Nat}{ns ns1 ns':Ns}{e e1 e':E3}{ae am:AE}{h h1 h':AH}
theorem SlR.lock {P:Nat->Prop}{n:Option (Option Nat)}{d:Option (Option D)}{s:Sl} (r:SlR P h0 n d h s):SlR P h0 n d h (fW s):=by cases s <;> exact r
theorem SlR.unlock {P:Nat->Prop}{n:Option (Option Nat)}{d:Option (Option D)}{s:Sl} (r:SlR P h0 n d h s):SlR P h0 n d h (iu s):=by cases s <;> exact r
theorem Sat.lock (S:Sat X h0 ns e ae h) (k:Nat):Sat X h0 ns (lock e k) ae h:=by
 unfold L3.lock
 split
 ·rename_i s q
  have hi:=(List.getElem?_eq_some_iff.mp q).1
  refine⟨by rw[List.length_set];exact S.l1,by rw[List.length_set];exact S.l2,S.lh,S.xl,S.inj,S.nx,λj s' qj=>?_⟩
  rcases aZ hi qj with ⟨rfl,rfl⟩ | ⟨z,qj'⟩
  ·exact (S.sl j s q).lock
  ·exact S.sl j s' qj'
 ·exact S
theorem Sat.unlock (S:Sat X h0 ns e ae h) (k:Nat):Sat X h0 ns (unlock e k) ae h:=by
 unfold L3.unlock
 split
 ·rename_i s q
  have hi:=(List.getElem?_eq_some_iff.mp q).1
  refine⟨by rw[List.length_set];exact S.l1,by rw[List.length_set];exact S.l2,S.lh,S.xl,S.inj,S.nx,λj s' qj=>?_⟩
  rcases aZ hi qj with ⟨rfl,rfl⟩ | ⟨z,qj'⟩
  ·exact (S.sl j s q).unlock
  ·exact S.sl j s' qj'
 ·exact S
theorem fT {k j:Nat} (z:j ≠ k):(lock e k)[j]?=e[j]?:=by
 unfold lock;split
 ·rw[aN z]
 ·rfl
theorem ff {k j:Nat} (z:j ≠ k):(unlock e k)[j]?=e[j]?:=by
 unfold unlock;split
 ·rw[aN z]
 ·rfl
theorem kc {k:Nat}{s:Sl} (q:e[k]?=some s):(lock e k)[k]?=some (fW s):=by
 unfold lock;rw[q];exact a8 (List.getElem?_eq_some_iff.mp q).1
theorem gG {k:Nat}{s:Sl} (q:e[k]?=some s):(unlock e k)[k]?=some (iu s):=by
 unfold unlock;rw[q];exact a8 (List.getElem?_eq_some_iff.mp q).1
theorem Stp.unlock {k:Nat}{s:Sl} (q:e[k]?=some s) (hs:s.mt=true) (a:Stp ns (L3.lock e k) h ns' e' h'):Stp ns e h ns' (L3.unlock e' k) h':=by
 have hl:(fW s).lk=true:=by cases s <;> first | rfl | cases hs
 have hu:iu (fW s)=s:=by cases s <;> first | rfl | cases hs
 obtain⟨qk,nk⟩:=a.lk k _ (kc q) hl
 refine⟨a.len,λm o qm hM=>a.keep m o qm λ⟨j,s',z1,z2,z3⟩=>hM ?_,a.nw,λj s' qj hj=>?_,λj s' qj hj=>?_,λj v qj=>?_,λj v qj=>?_⟩
 ·by_cases z:j=k
  ·subst z;exact⟨j,s,z1,q,hs⟩
  ·rw[fT z] at z2;exact⟨j,s',z1,z2,z3⟩
 ·have z:j ≠ k:=λz=>by subst z;rw[q] at qj;cases qj;cases s <;> first | cases hs;done | cases hj;done
  rw[ff z]
  exact a.lk j s' (by rw[fT z];exact qj) hj
 ·have z:j ≠ k:=λz=>by
   subst z
   rw[gG qk,hu] at qj;cases qj;cases s <;> first | cases hs;done | cases hj;done
  rw[ff z] at qj
  obtain⟨y1,y2⟩:=a.lk' j s' qj hj
  rw[fT z] at y1
  exact⟨y1,y2⟩
 ·by_cases z:j=k
  ·subst z;rw[gG qk,hu] at qj;cases qj;exact⟨v,q,nk⟩
  ·rw[ff z] at qj
   obtain⟨u,y1,y2⟩:=a.mu j v qj
   rw[fT z] at y1
   exact⟨u,y1,y2⟩
 ·by_cases z:j=k
  ·subst z;rw[q] at qj;cases qj;exact⟨v,by rw[gG qk,hu],nk⟩
  ·obtain⟨u,y1,y2⟩:=a.mu' j v (by rw[fT z];exact qj)
   exact⟨u,by rw[ff z];exact y1,y2⟩
end
abbrev MI3:=E3->R3 (List Val×Option Nat)
def Stay (X:Nat->Prop) (ns:Ns) (k:Option Nat) (h h':AH):Prop:=∀ (m:Nat) (o:Ob),h[m]?=some o->(Oc X ns m\/∃ j:Nat,k=some j/\ns[j]?=some (some m))->h'[m]?=some o
def lj (X:Nat->Prop) (ns:Ns) (e:E3) (h:AH) (it:AIt) (p:List Val×Option Nat):Prop:=
 Rds (Oc X ns) h it.items p.1/\(∀ h',Stay X ns p.2 h h'->it.guard h')/\∀ k:Nat,p.2=some k->∃ s,e[k]?=some s/\s.mt=true
def RI (I:MI) (J:MI3):Prop:=∀ X h0 ns e ae h,Sat X h0 ns e ae h->Po X h0 ns e ae h (lj X) (I ae h) (J e)
def fg:Val->Option (List Val)
 | .tup xs=>some xs
 | .lst xs=>some xs
 | _=>none
def fE (t:Tm) (e:E3):Option (List Val×Option Nat):=match t with
 | .val v=>(fg v).map λxs=>(xs,none)
 | .new v=>(fg v).map λxs=>(xs,none)
 | .bor k=>match e[k]? with
  | some (.sh v)=>(fg v).map λxs=>(xs,none)
  | some (.ow (.lst xs))=>some (xs,some k)
  | some (.mu (.lst xs))=>some (xs,some k)
  | _=>none
def vN (F:ME3):MI3:=λe=>(F e).bind λt e1=>match fE t e1 with
 | some p=>.ok p e1
 | none=>.stuck
def jd:Nat->List Val->List Val
 | _,[]=>[]
 | i,d :: ds=>.tup [.int (i:Nat),d] :: jd (i + 1) ds
def vD (A:MA3):MI3:=λe=>(A e).bind λts e1=>match ts with
 | [t]=>(match fE t e1 with
  | some p=>.ok (jd 0 p.1,p.2) e1
  | none=>.stuck)
 | _=>.stuck
def pe (lo:Int) (k:Nat):List Val:=(List.range k).map λi=>Val.int (lo + (i:Nat))
structure RgB (j:Int):Prop where
 lo:-(2 ^ 62)<=j
 hi:j < 2 ^ 62
def d9:List Val->Option (List Val)
 | [.int j]=>@ite _ (RgB j) (Classical.propDecidable _) (some (pe 0 j.toNat)) none
 | _=>none
def tR (f:List Val->Option (List Val)) (A:MA3):MI3:=λe=>(A e).bind λts e1=>match (rss e1 ts).bind f with
 | some xs=>.ok (xs,none) e1
 | none=>.stuck
section
variable {F:ME}{F3:ME3}{A:MA}{A3:MA3}
theorem oV {X:Nat->Prop}{h0:Nat}{ns:Ns}{e:E3}{ae:AE}{h:AH}{d:D}{v:Val}{xs:List Val} (S:Sat X h0 ns e ae h) (r:Rd (Oc X ns) h d v) (q:fg v=some xs):∃ it,fb d h=some it/\lj X ns e h it (xs,none):=by
 cases v with
 |
  tup ys=>
  cases q
  obtain⟨ds,rfl,r2⟩:=ShR.tup (.inl r)
  exact⟨_,rfl,r2,λ_ _=>trivial,λ_ z=>nomatch z⟩
 |
  lst ys=>
  cases q
  cases r with
  |
   cell p eo rc=>
   rename_i n o
   obtain⟨ds,_,e1,r1⟩:=Rc.seq eo rc
   refine⟨.lst n ds,by unfold fb;dsimp only;rw[e1];rfl,r1,λh' st=>?_,λ_ z=>nomatch z⟩
   show aO h' n=some ds
   have:=st n o eo (.inl p)
   unfold aO at e1 ⊢
   rw[eo] at e1
   rw[this];exact e1
 | _=>cases q
theorem pU {X:Nat->Prop}{h0 L:Nat}{ns:Ns}{e:E3}{ae:AE}{h:AH}{d:D}{t:Tm}{p:List Val×Option Nat} (S:Sat X h0 ns e ae h) (r:relE X h0 L ae ns e h d t) (q:fE t e=some p):∃ it,fb d h=some it/\lj X ns e h it p:=by
 cases t with
 | val v=>obtain⟨xs,q1,rfl⟩:=Option.map_eq_some_iff.mp q;exact oV S r q1
 | new v=>obtain⟨xs,q1,rfl⟩:=Option.map_eq_some_iff.mp q;exact oV S r.new q1
 |
  bor k=>
  have r':ae[k]?=some (some d):=r
  have own:∀ {s xs},e[k]?=some s->s.mv=some (.lst xs)->∃ it,fb d h=some it/\lj X ns e h it (xs,some k):=λ{s xs} q qm=>by
   have hns:∃ n,ns[k]?=some (some n)/\ae[k]?=some (some (.ref n)):=by
    have y:=S.sl k s q
    cases s with
    | ow v=>obtain⟨n,o,y1,y2,_⟩:=y;exact⟨n,y1,y2⟩
    | mu v=>obtain⟨n,o,y1,y2,_⟩:=y;exact⟨n,y1,y2⟩
    | _=>cases qm
   obtain⟨n,y1,y2⟩:=hns
   obtain⟨n',o,k1,k2,k3,k4,_⟩:=S.write q qm
   rw[y2] at k1;cases k1
   rw[r'] at y2;cases y2
   obtain⟨ds,_,e2,r2⟩:=Rc.seq k2 k4
   refine⟨.lst n ds,by unfold fb;dsimp only;rw[e2];rfl,r2,λh' st=>?_,λj z=>?_⟩
   ·show aO h' n=some ds
    have:=st n o k2 (.inr ⟨k,rfl,y1⟩)
    unfold aO at e2 ⊢
    rw[k2] at e2
    rw[this];exact e2
   ·cases z;exact⟨s,q,by cases s <;> first | rfl | cases qm⟩
  unfold fE at q
  dsimp only at q
  split at q
  ·rename_i v qs
   obtain⟨_,x,e2,r2⟩:=S.sl k _ qs
   rw[r'] at e2;cases e2
   obtain⟨xs,q1,rfl⟩:=Option.map_eq_some_iff.mp q
   exact oV S r2 q1
  ·rename_i xs qs;cases q;exact own qs rfl
  ·rename_i xs qs;cases q;exact own qs rfl
  ·cases q
def uq (d:D) (h:AH):R AIt:=match d with
 | .tup xs=>.ok (.tup xs) h
 | .ref n=>match aO h n with
  | some xs=>.ok (.lst n xs) h
  | none=>.stuck
 | _=>.stuck
theorem vY {d:D}{h:AH}{it:AIt} (q:fb d h=some it):uq d h=.ok it h:=by
 cases d with
 | tup xs=>cases q;rfl
 |
  ref n=>
  obtain⟨xs,y1,rfl⟩:=Option.map_eq_some_iff.mp (show (aO h n).map (AIt.lst n)=some it from q)
  unfold uq;dsimp only;rw[y1]
 | _=>cases q
theorem yq (hF:RE F F3):RI (tf F) (vN F3):=λX h0 ns e ae h S=>
 Po.bind S (hF X h0 0 ns e ae h S (Nat.zero_le _)) λd t h1 ns1 e1 a1 S1 r1=>by
  show Po X h0 ns1 e1 ae h1 (lj X) (uq d h1) _
  cases q:fE t e1 with
  | none=>trivial
  |
   some p=>
   dsimp only
   obtain⟨it,q1,q2⟩:=pU S1 r1 q
   exact⟨it,h1,ns1,vY q1,.refl,S1,q2⟩
theorem xi {P:Nat->Prop}{h:AH}{ds:List D}{vs:List Val} (k:Nat) (r:Rds P h ds vs):Rds P h (ef k ds) (jd k vs):=
 r.ind (M:=λds vs=>∀ k,Rds P h (ef k ds) (jd k vs)) (λ_=>.nil) (λr _ ih k=>.cons (.tup (.cons (.int _) (.cons r .nil))) (ih (k + 1))) k
theorem tsr1 {X:Nat->Prop}{h0:Nat}{ns:Ns}{e:E3}{ae:AE}{h:AH}{ds:List D}{t:Tm} (r:TsR X ns ae h ds [t]):∃ d,ds=[d]/\relE X h0 0 ae ns e h d t:=by
 cases r with
 | val r rr=>cases rr;exact⟨_,rfl,r⟩
 | bor r rr=>cases rr;exact⟨_,rfl,r⟩
theorem Ar (hA:RA A A3):RI (ud A) (vD A3):=λX h0 ns e ae h S=>
 Po.bind S (hA X h0 ns e ae h S) λds ts h1 ns1 e1 a1 S1 r1=>by
  match ts,r1 with
  | [],_=>trivial
  | _ :: _ :: _,_=>trivial
  |
   [t],r1=>
   obtain⟨d,rfl,r2⟩:=tsr1 (h0:=h0) (e:=e1) r1
   dsimp only
   cases q:fE t e1 with
   | none=>trivial
   |
    some p=>
    obtain⟨it,q1,q2,q3,q4⟩:=pU S1 r2 q
    rw[q1]
    exact⟨.enm it,h1,ns1,rfl,.refl,S1,xi 0 q2,q3,q4⟩
theorem wW {P:Nat->Prop}{h:AH} (lo:Int) (k:Nat):Rds P h (AIt.rng lo k).items (pe lo k):=by
 show Rds P h ((List.range k).map λi=>D.int (lo + (i:Nat))) ((List.range k).map λi=>Val.int (lo + (i:Nat)))
 generalize List.range k=l
 induction l with
 | nil=>exact .nil
 | cons i l ih=>exact .cons (.int _) ih
theorem gv {P:Nat->Prop}{h:AH}{ds:List D}{v:Val} (r:ShRs P h ds [v]):∃ d,ds=[d]/\ShR P h d v:=by
 cases r with | cons r rr=>cases rr;exact⟨_,rfl,r⟩
theorem o1 {P:Nat->Prop}{h:AH}{ds:List D}{v u:Val} (r:ShRs P h ds [v,u]):∃ d d',ds=[d,d']/\ShR P h d v/\ShR P h d' u:=by
 cases r with | cons r rr=>cases rr with | cons r' rr=>cases rr;exact⟨_,_,rfl,r,r'⟩
theorem CU {f2:List D->AH->R AIt}{f3:List Val->Option (List Val)} (hf:∀ P h ds vs xs,ShRs P h ds vs->f3 vs=some xs->∃ lo k,f2 ds h=.ok (.rng lo k) h/\xs=pe lo k) (hA:RA A A3):RI (λae h=>(A ae h).bind f2) (tR f3 A3):=λX h0 ns e ae h S=>
 Po.bind S (hA X h0 ns e ae h S) λds ts h1 ns1 e1 a1 S1 r1=>by
  try dsimp only
  split
  ·rename_i xs q
   obtain⟨vs,q1,q2⟩:=Option.bind_eq_some_iff.mp q
   obtain⟨lo,k,p1,rfl⟩:=hf _ _ _ _ _ (TsR.sh S1 r1 q1) q2
   rw[p1]
   exact Po.ret S1 ⟨wW _ _,λ_ _=>trivial,λ_ z=>nomatch z⟩
  ·trivial
theorem Ae (hA:RA A A3):RI (sA A) (tR d9 A3):=CU (f2:=λds h1=>match ds with
 | [.int j]=>if -(2 ^ 62)<=j/\j < 2 ^ 62 then .ok (.rng 0 j.toNat) h1 else .stuck
 |
  _=>.stuck) (λP h ds vs xs r q=>by
  unfold d9 at q
  split at q
  ·split at q
   ·rename_i hb
    cases q
    obtain⟨d,rfl,r2⟩:=gv r
    obtain rfl:=r2.int
    exact⟨_,_,by dsimp only;rw[if_pos ⟨hb.lo,hb.hi⟩],rfl⟩
   ·cases q
  ·cases q) hA
end
def SR3.loop (r:SR3) (f:E3->SR3):SR3:=match r with
 | .nx e=>f e
 | .ct e=>f e
 | .bk e=>.nx e
 | .rt d e=>.rt d e
 | .exc c e=>.exc c e
 | .stuck=>.stuck
def dU (g:MG3) (B:MS3):List Val->MS3
 | [],e=>.nx e
 | v :: vs,e=>match g v e with
  | some e1=>(B e1).loop (dU g B vs)
  | none=>.stuck
def SR3.unl (k:Option Nat) (r:SR3):SR3:=match r with
 | .nx e=>.nx (df e k)
 | .ct e=>.ct (df e k)
 | .bk e=>.bk (df e k)
 | .rt d e=>.rt d (df e k)
 | .exc c e=>.exc c (df e k)
 | .stuck=>.stuck
def wFor (I:MI3) (g:MG3) (B:MS3):MS3:=λe=>(I e).toS λp e1=>(dU g B p.1 (lockO e1 p.2)).unl p.2
section
variable {I:MI}{I3:MI3}{g:MG}{g3:MG3}{B:MS}{B3:MS3}{c:MT}{c3:MT3}{F:ME}{F3:ME3}
theorem PoS.loop {X:Nat->Prop}{h0:Nat}{ns:Ns}{e:E3}{ae:AE}{h:AH}{r2:SR}{r3:SR3}{f2:AE->AH->SR}{f3:E3->SR3} (p:PoS X h0 ns e h r2 r3)
 (k:∀ am h' ns' e',Stp ns e h ns' e' h'->Sat X h0 ns' e' am h'->PoS X h0 ns e h (f2 am h') (f3 e')):PoS X h0 ns e h (r2.loop f2) (r3.loop f3):=by
 cases r3 with
 | stuck=>trivial
 | nx e'=>obtain⟨am,h',ns',q,q1,q2⟩:=p;rw[q];exact k am h' ns' e' q1 q2
 | ct e'=>obtain⟨am,h',ns',q,q1,q2⟩:=p;rw[q];exact k am h' ns' e' q1 q2
 | bk e'=>obtain⟨am,h',ns',q,q1,q2⟩:=p;rw[q];exact⟨am,h',ns',rfl,q1,q2⟩
 | exc c e'=>obtain⟨am,h',ns',q,q1,q2⟩:=p;rw[q];exact⟨am,h',ns',rfl,q1,q2⟩
 | rt r e'=>obtain⟨d,am,h',ns',q,q1,q2⟩:=p;rw[q];exact⟨d,am,h',ns',rfl,q1,q2⟩
theorem x6 {X:Nat->Prop}{h0:Nat}{ns ns':Ns}{e e':E3}{ae:AE}{h h':AH}{k:Option Nat} (S:Sat X h0 ns e ae h) (hk:∀ j:Nat,k=some j->∃ s,e[j]?=some s/\s.mt=true) (a:Stp ns (lockO e k) h ns' e' h'):Stay X ns k h h':=λm o q hm=>by
 refine a.keep m o q λ⟨i,s,z1,z2,z3⟩=>?_
 rcases hm with hm | ⟨j,rfl,hj⟩
 ·exact hm.2 (aK.mpr ⟨i,z1⟩)
 ·have:i=j:=S.inj i j m z1 hj
  subst this
  obtain⟨s',y1,y2⟩:=hk i rfl
  have:(lockO e (some i))[i]?=some (fW s'):=kc y1
  rw[this] at z2;cases z2
  cases s' <;> first | cases y2;done | cases z3;done
theorem PoS.unl {X:Nat->Prop}{h0:Nat}{ns:Ns}{e:E3}{h:AH}{k:Option Nat}{r2:SR}{r3:SR3} (hk:∀ j:Nat,k=some j->∃ s,e[j]?=some s/\s.mt=true) (p:PoS X h0 ns (lockO e k) h r2 r3):PoS X h0 ns e h r2 (r3.unl k):=by
 cases k with
 | none=>cases r3 <;> exact p
 |
  some j=>
  obtain⟨s,y1,y2⟩:=hk j rfl
  cases r3 with
  | stuck=>trivial
  | nx e'=>obtain⟨am,h',ns',q,q1,q2⟩:=p;exact⟨am,h',ns',q,q1.unlock y1 y2,q2.unlock j⟩
  | ct e'=>obtain⟨am,h',ns',q,q1,q2⟩:=p;exact⟨am,h',ns',q,q1.unlock y1 y2,q2.unlock j⟩
  | bk e'=>obtain⟨am,h',ns',q,q1,q2⟩:=p;exact⟨am,h',ns',q,q1.unlock y1 y2,q2.unlock j⟩
  | exc c e'=>obtain⟨am,h',ns',q,q1,q2⟩:=p;exact⟨am,h',ns',q,q1.unlock y1 y2,q2.unlock j⟩
  |
   rt r e'=>
   obtain⟨d,am,h',ns',q,q1,q2⟩:=p
   refine⟨d,am,h',ns',q,q1.unlock y1 y2,?_⟩
   cases r with
   | val v=>exact⟨q2.1.unlock j,q2.2⟩
   | new v=>obtain⟨n,o,z1,z2,z3,z4,z5,z6,z7⟩:=q2;exact⟨n,o,z1,z2,z3,z4,z5,z6.unlock j,z7⟩
theorem Sat.lockO {X:Nat->Prop}{h0:Nat}{ns:Ns}{e:E3}{ae:AE}{h:AH} (S:Sat X h0 ns e ae h) (k:Option Nat):Sat X h0 ns (lockO e k) ae h:=by
 cases k with
 | none=>exact S
 | some k=>exact S.lock k
theorem xm {X:Nat->Prop}{h0:Nat}{ns:Ns}{e:E3}{ae:AE}{h:AH}{G:AH->Prop} (S:Sat X h0 ns e ae h) (hg:RG g g3) (hB:RS B B3) (hG:∀ ns' e' h',Stp ns e h ns' e' h'->G h'):
 ∀ {ds:List D}{vs:List Val},Rds (Oc X ns) h ds vs->∀ {ns1:Ns}{e1:E3}{ae1:AE}{h1:AH},Stp ns e h ns1 e1 h1->Sat X h0 ns1 e1 ae1 h1->PoS X h0 ns e h (dQ G g B ds ae1 h1) (dU g3 B3 vs e1):=by
 intro ds
 induction ds with
 |
  nil=>
  intro vs r ns1 e1 ae1 h1 a1 S1
  cases r
  unfold dQ
  rw[if_pos (hG _ _ _ a1)]
  exact .nx a1 S1
 |
  cons d0 ds ih=>
  intro vs r ns1 e1 ae1 h1 a1 S1
  cases r with
  |
   cons r rr=>
   unfold dQ dU
   rw[if_pos (hG _ _ _ a1)]
   split
   ·rename_i e2 q
    obtain⟨ae2,bn,p2,S2,a2⟩:=hg _ _ _ _ _ _ _ _ _ S1 (r.mono (a1.mov S)) q
    rw[p2]
    have a12:=a1.trans S a2
    show PoS X h0 ns e h ((B ae2 h1).loop _) _
    refine PoS.loop (ae:=ae) (PoS.after S a12 (hB X h0 bn e2 ae2 h1 S2)) λae3 h3 ns3 e3 a3 S3=>ih rr a3 S3
   ·trivial
theorem yO (hI:RI I I3) (hg:RG g g3) (hB:RS B B3):RS (jT I g B) (wFor I3 g3 B3):=λX h0 ns e ae h S=>PoS.toS (hI X h0 ns e ae h S) λit p h1 ns1 e1 a1 S1 r1=>by
 obtain⟨r2,gd,hk⟩:=r1
 refine PoS.after S a1 (PoS.unl hk ?_)
 have S2:=S1.lockO p.2
 exact xm S2 hg hB (λns' e' h' a=>gd h' (x6 S1 hk a)) r2 .refl S2
def whV (c:MT3) (B:MS3):Nat->MS3
 | 0,_=>.stuck
 | k + 1,e=>(c e).toS λb e1=>if b=true then (B e1).loop (whV c B k) else .nx e1
open Classical in
def wWh (c:MT3) (B:MS3):MS3:=λe=>if q:∃ k,whV c B k e ≠ .stuck then whV c B q.choose e else .stuck
theorem iU {c:MT3}{B:MS3}:∀ {k:Nat}{e:E3},whV c B k e ≠ .stuck->whV c B (k + 1) e=whV c B k e
 | 0,_,q=>absurd rfl q
 |
  k + 1,e,q=>by
  have e1:whV c B (k + 2) e=(c e).toS λb e1=>if b=true then (B e1).loop (whV c B (k + 1)) else .nx e1:=rfl
  have e2:whV c B (k + 1) e=(c e).toS λb e1=>if b=true then (B e1).loop (whV c B k) else .nx e1:=rfl
  rw[e2] at q
  rw[e1,e2]
  cases r:c e with
  | exc _ _=>rfl
  | stuck=>rfl
  |
   ok b h1=>
   rw[r] at q
   cases b with
   | false=>rfl
   |
    true=>
    have q':(B h1).loop (whV c B k) ≠ .stuck:=q
    show (B h1).loop (whV c B (k + 1))=(B h1).loop (whV c B k)
    cases s:B h1 with
    | nx a2=>rw[s] at q';exact iU q'
    | ct a2=>rw[s] at q';exact iU q'
    | _=>rfl
theorem qW {c:MT3}{B:MS3}{k j:Nat}{e:E3} (q:whV c B k e ≠ .stuck) (hj:k<=j):whV c B j e=whV c B k e:=by
 induction hj with
 | refl=>rfl
 | step _ ih=>rw[iU (by rw[ih];exact q),ih]
theorem jz {c:MT3}{B:MS3}{k:Nat}{e:E3} (q:whV c B k e ≠ .stuck):wWh c B e=whV c B k e:=by
 have hq:∃ k,whV c B k e ≠ .stuck:=⟨k,q⟩
 unfold wWh
 rw[dif_pos hq]
 rcases Nat.le_total hq.choose k with z | z
 ·exact (qW hq.choose_spec z).symm
 ·exact qW q z
theorem uz (c:MT3) (B:MS3) (e:E3):wWh c B e=(c e).toS λb e1=>if b=true then (B e1).loop (wWh c B) else .nx e1:=by
 by_cases q:∃ k,whV c B k e ≠ .stuck
 ·obtain⟨k,q⟩:=q
  rw[jz q]
  cases k with
  | zero=>exact absurd rfl q
  |
   succ k=>
   have e2:whV c B (k + 1) e=(c e).toS λb e1=>if b=true then (B e1).loop (whV c B k) else .nx e1:=rfl
   rw[e2] at q ⊢
   cases r:c e with
   | exc _ _=>rfl
   | stuck=>rfl
   |
    ok b h1=>
    rw[r] at q
    cases b with
    | false=>rfl
    |
     true=>
     have q':(B h1).loop (whV c B k) ≠ .stuck:=q
     show (B h1).loop (whV c B k)=(B h1).loop (wWh c B)
     cases s:B h1 with
     | nx a2=>rw[s] at q';exact (jz q').symm
     | ct a2=>rw[s] at q';exact (jz q').symm
     | _=>rfl
 ·have e0:wWh c B e=.stuck:=by unfold wWh;rw[dif_neg q]
  rw[e0]
  have hs:∀ k,whV c B (k + 1) e=.stuck:=λk=>Classical.byContradiction λz=>q ⟨_,z⟩
  cases r:c e with
  | stuck=>rfl
  |
   exc c' h'=>
   have:=hs 0
   unfold whV at this
   rw[r] at this
   cases this
  |
   ok b h1=>
   cases b with
   |
    false=>
    have:=hs 0
    unfold whV at this
    rw[r] at this
    cases this
   |
    true=>
    have h2:∀ k,(B h1).loop (whV c B k)=.stuck:=λk=>by
     have:=hs k
     unfold whV at this
     rw[r] at this
     exact this
    show SR3.stuck=(B h1).loop (wWh c B)
    have lim:∀ a2,(∀ k,whV c B k a2=.stuck)->wWh c B a2=.stuck:=λa2 z=>by
     unfold wWh
     rw[dif_neg (λ⟨k,y⟩=>y (z k))]
    cases s:B h1 with
    | nx a2=>rw[s] at h2;exact (lim a2 h2).symm
    | ct a2=>rw[s] at h2;exact (lim a2 h2).symm
    | stuck=>rfl
    | _=>have:=h2 0;rw[s] at this;cases this
theorem AL {X:Nat->Prop}{h0:Nat}{ns:Ns}{e:E3}{h:AH}{r2:SR}{r3:SR3} (p:PoS X h0 ns e h r2 r3) (q:r3 ≠ .stuck):r2 ≠ .stuck:=by
 cases r3 with
 | stuck=>exact absurd rfl q
 | nx e'=>obtain⟨am,h',ns',z,_⟩:=p;rw[z];intro y;cases y
 | ct e'=>obtain⟨am,h',ns',z,_⟩:=p;rw[z];intro y;cases y
 | bk e'=>obtain⟨am,h',ns',z,_⟩:=p;rw[z];intro y;cases y
 | exc c e'=>obtain⟨am,h',ns',z,_⟩:=p;rw[z];intro y;cases y
 | rt r e'=>obtain⟨d,am,h',ns',z,_⟩:=p;rw[z];intro y;cases y
theorem qT (hc:RT c c3) (hB:RS B B3):∀ (k:Nat) (X:Nat->Prop) (h0:Nat) (ns:Ns) (e:E3) (ae:AE) (h:AH),Sat X h0 ns e ae h->PoS X h0 ns e h (whN c B k ae h) (whV c3 B3 k e)
 | 0,_,_,_,_,_,_,_=>trivial
 |
  k + 1,X,h0,ns,e,ae,h,S=>by
  refine PoS.toS (hc X h0 ns e ae h S) λb b' h1 ns1 e1 a1 S1 r1=>?_
  cases r1
  try dsimp only
  split
  ·exact PoS.after S a1 (PoS.loop (ae:=ae) (hB X h0 ns1 e1 ae h1 S1) λae2 h2 bn e2 a2 S2=>PoS.after S1 a2 (qT hc hB k X h0 bn e2 ae2 h2 S2))
  ·exact .nx a1 S1
theorem BJ (hc:RT c c3) (hB:RS B B3):RS (sWh c B) (wWh c3 B3):=λX h0 ns e ae h S=>by
 by_cases q:∃ k,whV c3 B3 k e ≠ .stuck
 ·obtain⟨k,q⟩:=q
  rw[jz q]
  have p:=qT hc hB k X h0 ns e ae h S
  rw[qP (AL p q)]
  exact p
 ·unfold wWh;rw[dif_neg q];trivial
end
end L3
namespace L3
open PySem PySem.Spec PyProof.Rows L2
def dS (o:Option Nat) (s:Sl) (e:E3):E3:=match o,s with
 | some i,.mu v=>(match e[i]? with
  | some t=>e.set i (t.re v)
  | none=>e)
 | _,_=>e
def aX:List (Option Nat)->E3->E3->E3
 | o :: sub,s :: inner,e=>aX sub inner (dS o s e)
 | _,_,e=>e
theorem nC {o:Option Nat}{s:Sl}{e:E3}{i:Nat} (hn:∀ v,o=some i->s=.mu v->False):(dS o s e)[i]?=e[i]?:=by
 unfold dS
 split
 ·rename_i i' v
  split
  ·rename_i t q
   by_cases z:i=i'
   ·subst z;exact (hn v rfl rfl).elim
   ·rw[aN z]
  ·rfl
 ·rfl
theorem jL:∀ {sub:List (Option Nat)}{e2 e:E3}{i:Nat},(∀ (j:Nat) v,sub[j]?=some (some i)->e2[j]?=some (.mu v)->False)->(aX sub e2 e)[i]?=e[i]?
 | [],_,_,_,_=>rfl
 | _ :: _,[],_,_,_=>rfl
 |
  o :: sub,s :: e2,e,i,hn=>by
  show (aX sub e2 (dS o s e))[i]?=_
  rw[jL (λj v q1 q2=>hn (j + 1) v (by simpa using q1) (by simpa using q2))]
  exact nC λv z1 z2=>hn 0 v (by rw[z1];rfl) (by rw[z2];rfl)
theorem nG:∀ {sub:List (Option Nat)}{e2 e:E3}{i j:Nat}{v:Val},(∀ (j k:Nat) i,sub[j]?=some (some i)->sub[k]?=some (some i)->j=k)->sub[j]?=some (some i)->e2[j]?=some (.mu v)->(aX sub e2 e)[i]?=(e[i]?).map (Sl.re · v)
 | [],_,_,_,j,_,_,q,_=>by simp at q
 | _ :: _,[],_,_,j,_,_,_,q=>by simp at q
 |
  o :: sub,s :: e2,e,i,0,v,hj,q1,q2=>by
  have z1:o=some i:=by simpa using q1
  have z2:s=.mu v:=by simpa using q2
  subst z1 z2
  show (aX sub e2 (dS (some i) (.mu v) e))[i]?=_
  rw[jL (λk u y1 _=>by have:=hj 0 (k + 1) i rfl (by simpa using y1);omega)]
  unfold dS
  dsimp only
  split
  ·rename_i t q;rw[a8 (List.getElem?_eq_some_iff.mp q).1,q];rfl
  ·rename_i q;rw[q];rfl
 |
  o :: sub,s :: e2,e,i,j + 1,v,hj,q1,q2=>by
  show (aX sub e2 (dS o s e))[i]?=_
  have q1':sub[j]?=some (some i):=by simpa using q1
  rw[nG (λa b c y1 y2=>by have:=hj (a + 1) (b + 1) c (by simpa using y1) (by simpa using y2);omega) q1' (by simpa using q2)]
  rw[nC λv z1 _=>by have:=hj 0 (j + 1) i (by rw[z1];rfl) q1;omega]
def bw (sub:List (Option Nat)) (ns:Ns):Ns:=sub.map λo=>o.bind λi=>(ns[i]?).bind id
theorem bF {sub:List (Option Nat)}{ns:Ns}{j n:Nat} (q:(bw sub ns)[j]?=some (some n)):∃ i,sub[j]?=some (some i)/\ns[i]?=some (some n):=by
 unfold bw at q
 rw[List.getElem?_map] at q
 cases z:sub[j]? with
 | none=>rw[z] at q;cases q
 |
  some o=>
  rw[z] at q
  cases o with
  | none=>cases q
  |
   some i=>
   refine⟨i,rfl,?_⟩
   have q':(ns[i]?).bind id=some n:=Option.some.inj q
   cases y:ns[i]? with
   | none=>rw[y] at q';cases q'
   | some w=>rw[y] at q';have:w=some n:=q';rw[this]
theorem xa {sub:List (Option Nat)}{ns:Ns}{j i:Nat}{w:Option Nat} (q:sub[j]?=some (some i)) (q2:ns[i]?=some w):(bw sub ns)[j]?=some w:=by
 unfold bw
 rw[List.getElem?_map,q]
 show some ((ns[i]?).bind id)=some w
 rw[q2];rfl
structure Lnk (sub:List (Option Nat)) (e ei:E3):Prop where
 inj:∀ (j k:Nat) (i:Nat),sub[j]?=some (some i)->sub[k]?=some (some i)->j=k
 mu:∀ (j:Nat) (v:Val),ei[j]?=some (.mu v)->∃ (i:Nat) (s:Sl),sub[j]?=some (some i)/\e[i]?=some s/\s.mt=true
 mt:∀ (j:Nat) (s:Sl),ei[j]?=some s->s.mt=true->∃ v,s=.mu v
theorem Sat.back {X Y:Nat->Prop}{h0:Nat}{ns bn:Ns}{e ei e2:E3}{ae:AE}{h h2:AH}{sub:List (Option Nat)} (S:Sat X h0 ns e ae h) (K:Lnk sub e ei) (a:Stp (bw sub ns) ei h bn e2 h2)
 (hY:∀ n,Y n->n < h2.length/\(X n\/h.length<=n)) (hXY:∀ n,X n->Y n)
 (hc:∀ (j:Nat) v n,e2[j]?=some (.mu v)->bn[j]?=some (some n)->∃ o,h2[n]?=some o/\bu o/\Rc (Oc Y ns) h2 o v):Sat Y h0 ns (aX sub e2 e) ae h2/\Stp ns e h ns (aX sub e2 e) h2:=by
 have hM:∀ n,Mt (bw sub ns) ei n->Mt ns e n:=λn ⟨j,s,z1,z2,z3⟩=>by
  obtain⟨v,rfl⟩:=K.mt j s z2 z3
  obtain⟨i,s',y1,y2,y3⟩:=K.mu j v z2
  obtain⟨i',y4,y5⟩:=bF z1
  rw[y1] at y4;cases y4
  exact⟨i,s',y5,y2,y3⟩
 have mv:Mov (Oc X ns) (Oc Y ns) h h2:=λn o p q=>⟨⟨λz=>by
  rcases (hY n z).2 with z | z
  ·exact p.1 z
  ·have:=a9 q;omega,p.2⟩,a.keep n o q λz=>by
   obtain⟨j,s,z1,_⟩:=z
   obtain⟨i,_,y⟩:=bF z1
   exact p.2 (aK.mpr ⟨i,y⟩)⟩
 have key:∀ i:Nat,(∃ (j:Nat) (v:Val) (s:Sl),sub[j]?=some (some i)/\e2[j]?=some (.mu v)/\e[i]?=some s/\s.mt=true/\(aX sub e2 e)[i]?=some (s.re v)/\bn[j]?=ns[i]?)\/((∀ n,ns[i]?=some (some n)->¬ Mt (bw sub ns) ei n)/\(aX sub e2 e)[i]?=e[i]?):=λi=>by
  by_cases hx:∃ (j:Nat) (v:Val),sub[j]?=some (some i)/\e2[j]?=some (.mu v)
  ·obtain⟨j,v,q1,q2⟩:=hx
   obtain⟨u,q3,q4⟩:=a.mu j v q2
   obtain⟨i',s,y1,y2,y3⟩:=K.mu j u q3
   rw[q1] at y1;cases y1
   refine .inl ⟨j,v,s,q1,q2,y2,y3,by rw[nG K.inj q1 q2,y2];rfl,?_⟩
   rw[q4]
   have hl:i < ns.length:=by rw[S.l2];exact (List.getElem?_eq_some_iff.mp y2).1
   rw[List.getElem?_eq_getElem hl]
   exact xa q1 (List.getElem?_eq_getElem hl)
  ·refine .inr ⟨λn q ⟨j,s,z1,z2,z3⟩=>hx ?_,jL λj v y1 y2=>hx ⟨j,v,y1,y2⟩⟩
   obtain⟨v,rfl⟩:=K.mt j s z2 z3
   obtain⟨i',y4,y5⟩:=bF z1
   have:i'=i:=S.inj i' i n y5 q
   subst this
   obtain⟨v',y6,_⟩:=a.mu' j v z2
   exact⟨j,v',y4,y6⟩
 have lenB:(aX sub e2 e).length=e.length:=by
  clear key hc a K S hY hXY hM mv
  induction sub generalizing e2 e with
  | nil=>rfl
  |
   cons o sub ih=>
   cases e2 with
   | nil=>rfl
   |
    cons s e2=>
    show (aX sub e2 (dS o s e)).length=_
    rw[ih]
    unfold dS
    split
    ·split
     ·rw[List.length_set]
     ·rfl
    ·rfl
 refine⟨⟨by rw[lenB];exact S.l1,by rw[lenB];exact S.l2,Nat.le_trans S.lh a.len,λn z=>(hY n z).1,S.inj,λi n q z=>?_,λi s q=>?_⟩,⟨a.len,λm o q hm=>a.keep m o q λz=>hm (hM m z),λ_ _ q=>.inl q,λi s q hl=>?_,λi s q hl=>?_,λi v q=>?_,λi v q=>?_⟩⟩
 ·rcases (hY n z).2 with z | z
  ·exact S.nx i n q z
  ·obtain⟨_,_,_,_,_,_,_,q',_⟩:=S.own q
   have:=a9 q';omega
 ·rcases key i with ⟨j,v,s0,k1,k2,k3,k4,k5,k6⟩ | ⟨k1,k2⟩
  ·rw[k5] at q;cases q
   have y:=S.sl i s0 k3
   cases s0 with
   |
    ow u=>
    obtain⟨n,o,y1,y2,y3,_⟩:=y
    obtain⟨o',z1,z2,z3⟩:=hc j v n k2 (by rw[k6];exact y1)
    exact⟨n,o',y1,y2,y3,z1,z2,z3⟩
   |
    mu u=>
    obtain⟨n,o,y1,y2,_⟩:=y
    obtain⟨o',z1,z2,z3⟩:=hc j v n k2 (by rw[k6];exact y1)
    exact⟨n,o',y1,y2,z1,z2,z3⟩
   | _=>cases k4
  ·rw[k2] at q
   exact (S.sl i s q).mono mv λn o q1 q2=>a.keep n o q2 (k1 n q1)
 ·rcases key i with ⟨j,v,s0,k1,k2,k3,k4,k5,k6⟩ | ⟨k1,k2⟩
  ·rw[k3] at q;cases q;cases s <;> first | cases hl;done | cases k4;done
  ·rw[k2];exact⟨q,rfl⟩
 ·rcases key i with ⟨j,v,s0,k1,k2,k3,k4,k5,k6⟩ | ⟨k1,k2⟩
  ·rw[k5] at q;cases q;cases s0 <;> first | cases hl;done | cases k4;done
  ·rw[k2] at q;exact⟨q,rfl⟩
 ·rcases key i with ⟨j,u,s0,k1,k2,k3,k4,k5,k6⟩ | ⟨k1,k2⟩
  ·rw[k5] at q
   cases s0 with
   | mu w=>exact⟨w,k3,rfl⟩
   | ow w=>cases q
   | _=>cases k4
  ·rw[k2] at q;exact⟨v,q,rfl⟩
 ·rcases key i with ⟨j,u,s0,k1,k2,k3,k4,k5,k6⟩ | ⟨k1,k2⟩
  ·rw[k3] at q;cases q;exact⟨u,k5,rfl⟩
  ·exact⟨v,by rw[k2];exact q,rfl⟩
def inS:Sl->Sl
 | .ow v=>.mu v
 | .lo v=>.lm v
 | s=>s
def bE (sub:List (Option Nat)) (e:E3):E3:=sub.map λo=>match o with
 | none=>.no
 | some i=>match e[i]? with
  | some s=>inS s
  | none=>.no
def lcV (g:MG3) (c:MT3) (F:ME3):List Val->List Val->E3->R3 (List Val)
 | [],acc,e=>.ok acc e
 | v :: vs,acc,e=>if acc.length < 16777216 then (match g v e with
  | none=>.stuck
  | some e1=>(c e1).bind λb e2=>if b=true then (F e2).bind λt e3=>(match bR e3 t with
   | some (e4,y)=>lcV g c F vs (acc++[y]) e4
   | none=>.stuck) else lcV g c F vs acc e2) else .stuck
def vLC (I:MI3) (sub:List (Option Nat)) (g:MG3) (c:MT3) (F:ME3):ME3:=λe=>(I e).bind λp e1=>match lcV g c F p.1 [] (bE sub (lockO e1 p.2)) with
 | .ok ys e2=>if ys.length<=16777216 then .ok (.new (.lst ys)) (df (aX sub e2 (lockO e1 p.2)) p.2) else .stuck
 | _=>.stuck
def jl (sub:List (Option Nat)):Prop:=∀ (j k:Nat) (i:Nat),sub[j]?=some (some i)->sub[k]?=some (some i)->j=k
theorem qA {sub:List (Option Nat)} (h:(sub.filterMap id).Nodup):jl sub:=by
 induction sub with
 | nil=>intro j k i q;simp at q
 |
  cons o sub ih=>
  have bv:(sub.filterMap id).Nodup:=by
   cases o with
   | none=>simpa using h
   | some i=>rw[List.filterMap_cons] at h;simp at h;exact h.2
  have hno:∀ (i k:Nat),o=some i->sub[k]?=some (some i)->False:=λi k z q=>by
   subst z
   rw[List.filterMap_cons] at h
   simp at h
   exact h.1 (List.mem_of_getElem? q)
  intro j k i q1 q2
  cases j with
  |
   zero=>
   cases k with
   | zero=>rfl
   | succ k=>exact (hno i k (by simpa using q1) (by simpa using q2)).elim
  |
   succ j=>
   cases k with
   | zero=>exact (hno i j (by simpa using q2) (by simpa using q1)).elim
   | succ k=>exact congrArg (· + 1) (ih bv j k i (by simpa using q1) (by simpa using q2))
def Xin (X:Nat->Prop) (ns:Ns) (sub:List (Option Nat)) (n:Nat):Prop:=X n\/(some n ∈ ns/\some n ∉ bw sub ns)
theorem iP {sub:List (Option Nat)}{ns:Ns}{n:Nat} (q:some n ∈ bw sub ns):some n ∈ ns:=by
 obtain⟨j,q⟩:=aK.mp q
 obtain⟨i,_,q2⟩:=bF q
 exact aK.mpr ⟨i,q2⟩
theorem f9 {sub:List (Option Nat)}{e:E3}{j:Nat}{s:Sl} (q:(bE sub e)[j]?=some s):(sub[j]?=some none/\s=.no)\/(∃ i,sub[j]?=some (some i)/\((e[i]?=none/\s=.no)\/∃ t,e[i]?=some t/\s=inS t)):=by
 unfold bE at q
 rw[List.getElem?_map] at q
 cases z:sub[j]? with
 | none=>rw[z] at q;cases q
 |
  some o=>
  rw[z] at q
  cases o with
  | none=>cases q;exact .inl ⟨rfl,rfl⟩
  |
   some i=>
   refine .inr ⟨i,rfl,?_⟩
   have q':=Option.some.inj q
   dsimp only at q'
   cases y:e[i]? with
   | none=>rw[y] at q';exact .inl ⟨rfl,q'.symm⟩
   | some t=>rw[y] at q';exact .inr ⟨t,rfl,q'.symm⟩
theorem Sat.inner {X:Nat->Prop}{h0:Nat}{ns:Ns}{e:E3}{ae:AE}{h:AH}{sub:List (Option Nat)} (S:Sat X h0 ns e ae h) (hs:jl sub):Sat (Xin X ns sub) h0 (bw sub ns) (bE sub e) (gq sub ae) h:=by
 refine⟨by unfold gq bE;rw[List.length_map,List.length_map],by unfold bw bE;rw[List.length_map,List.length_map],S.lh,λn z=>?_,λj k n q1 q2=>?_,λj n q z=>?_,λj s q=>?_⟩
 ·rcases z with z | ⟨z,_⟩
  ·exact S.xl n z
  ·obtain⟨i,z⟩:=aK.mp z
   obtain⟨_,_,_,_,_,_,_,q',_⟩:=S.own z
   exact a9 q'
 ·obtain⟨i,y1,y2⟩:=bF q1
  obtain⟨i',y3,y4⟩:=bF q2
  have:=S.inj i i' n y2 y4
  subst this
  exact hs j k i y1 y3
 ·rcases z with z | ⟨_,z⟩
  ·obtain⟨i,y1,y2⟩:=bF q
   exact S.nx i n y2 z
  ·exact z (aK.mpr ⟨j,q⟩)
 ·have mv:Mov (Oc X ns) (Oc (Xin X ns sub) (bw sub ns)) h h:=λn o p q=>⟨⟨λz=>by
   rcases z with z | ⟨z,_⟩
   ·exact p.1 z
   ·exact p.2 z,λz=>p.2 (iP z)⟩,q⟩
  have hj:∀ {o},sub[j]?=some o->(bw sub ns)[j]?=some (o.bind λi=>(ns[i]?).bind id)/\(gq sub ae)[j]?=some (o.bind λi=>(ae[i]?).bind id):=λ{o} z=>by
   unfold bw gq
   rw[List.getElem?_map,List.getElem?_map,z]
   exact⟨rfl,rfl⟩
  rcases f9 q with ⟨z,rfl⟩ | ⟨i,z,⟨y,rfl⟩ | ⟨t,y,rfl⟩⟩
  ·rw[(hj z).1];rfl
  ·rw[(hj z).1]
   show some ((ns[i]?).bind id)=some none
   have:ns[i]?=none:=by
    rw[List.getElem?_eq_none_iff] at y ⊢
    rw[S.l2];exact y
   rw[this];rfl
  ·have k:=(S.sl i t y).mono mv λ_ _ _ q=>q
   rw[(hj z).1,(hj z).2]
   show SlR _ h0 (some ((ns[i]?).bind id)) (some ((ae[i]?).bind id)) h (inS t)
   have w1:∀ x,ns[i]?=some x->some ((ns[i]?).bind id)=some x:=λx q=>by rw[q];rfl
   have w2:∀ x,ae[i]?=some x->some ((ae[i]?).bind id)=some x:=λx q=>by rw[q];rfl
   cases t with
   | no=>rw[w1 _ k];rfl
   | sh v=>obtain⟨k1,x,k2,k3⟩:=k;rw[w1 _ k1,w2 _ k2];exact⟨rfl,x,rfl,k3⟩
   | ow v=>obtain⟨m,o,k1,k2,_,k3⟩:=k;rw[w1 _ k1,w2 _ k2];exact⟨m,o,rfl,rfl,k3⟩
   | lo v=>obtain⟨m,o,k1,k2,_,k3⟩:=k;rw[w1 _ k1,w2 _ k2];exact⟨m,o,rfl,rfl,k3⟩
   | mu v=>obtain⟨m,o,k1,k2,k3⟩:=k;rw[w1 _ k1,w2 _ k2];exact⟨m,o,rfl,rfl,k3⟩
   | lm v=>obtain⟨m,o,k1,k2,k3⟩:=k;rw[w1 _ k1,w2 _ k2];exact⟨m,o,rfl,rfl,k3⟩
theorem nV {sub:List (Option Nat)}{e:E3} (hs:jl sub):Lnk sub e (bE sub e):=by
 refine⟨hs,λj v q=>?_,λj s q hm=>?_⟩
 ·rcases f9 q with ⟨_,z⟩ | ⟨i,z,⟨_,y⟩ | ⟨t,y,y2⟩⟩
  ·cases z
  ·cases y
  ·refine⟨i,t,z,y,?_⟩
   cases t <;> first | rfl | cases y2
 ·rcases f9 q with ⟨_,z⟩ | ⟨i,z,⟨_,y⟩ | ⟨t,y,y2⟩⟩
  ·subst z;cases hm
  ·subst y;cases hm
  ·subst y2
   cases t with
   | ow v=>exact⟨v,rfl⟩
   | mu v=>exact⟨v,rfl⟩
   | _=>cases hm
section
variable {I:MI}{I3:MI3}{g:MG}{g3:MG3}{c:MT}{c3:MT3}{F:ME}{F3:ME3}
theorem Af {X:Nat->Prop}{h0:Nat}{ns:Ns}{e:E3}{ae:AE}{h:AH}{G:AH->Prop} (S:Sat X h0 ns e ae h) (hg:RG g g3) (hc:RT c c3) (hF:RE F F3) (hG:∀ ns' e' h',Stp ns e h ns' e' h'->G h') {ys:List Val}{e2:E3}:
 ∀
  {ds:List D}{vs:List Val},Rds (Oc X ns) h ds vs->∀ {acc:List D}{accv:List Val}{ns1:Ns}{e1:E3}{ae1:AE}{h1:AH},Stp ns e h ns1 e1 h1->Sat X h0 ns1 e1 ae1 h1->Rds (Oc X ns1) h1 acc accv->lcV g3 c3 F3 vs accv e1=.ok ys e2->
  ∃ dy h2 bn ae2,lcL G g c F ds acc ae1 h1=.ok dy h2/\Stp ns e h bn e2 h2/\Sat X h0 bn e2 ae2 h2/\Rds (Oc X bn) h2 dy ys:=by
 intro ds
 induction ds with
 |
  nil=>
  intro vs r acc accv ns1 e1 ae1 h1 a1 S1 ra q
  cases r
  unfold lcL
  rw[if_pos (hG _ _ _ a1)]
  cases q
  exact⟨acc,h1,ns1,ae1,rfl,a1,S1,ra⟩
 |
  cons d0 ds ih=>
  intro vs r acc accv ns1 e1 ae1 h1 a1 S1 ra q
  cases r with
  |
   cons r rr=>
   rename_i v vs
   unfold lcV at q
   unfold lcL
   by_cases hl:accv.length < 16777216
   ·rw[if_pos hl] at q
    rw[if_pos ⟨hG _ _ _ a1,by rw[ra.len];exact hl⟩]
    cases q1:g3 v e1 with
    | none=>rw[q1] at q;cases q
    |
     some e3=>
     rw[q1] at q
     dsimp only at q
     obtain⟨ae3,ns3,p3,S3,a3⟩:=hg _ _ _ _ _ _ _ _ _ S1 (r.mono (a1.mov S)) q1
     rw[p3,eu]
     have a13:=a1.trans S a3
     have pc:=hc X h0 ns3 e3 ae3 h1 S3
     cases q4:c3 e3 with
     | stuck=>rw[q4] at q;cases q
     | exc _ _=>rw[q4] at q;cases q
     |
      ok b e4=>
      rw[q4] at q pc
      obtain⟨b',h4,ns4,p4,a4,S4,rfl⟩:=pc
      rw[p4,eu]
      have a14:=a13.trans S a4
      have ra4:=(ra.mono (a3.mov S1)).mono (a4.mov S3)
      have q':(if b'=true then (F3 e4).bind λt e3=>(match bR e3 t with
       | some (e4,y)=>lcV g3 c3 F3 _ (accv++[y]) e4
       | none=>.stuck) else lcV g3 c3 F3 _ accv e4)=.ok ys e2:=q
      by_cases hb:b'=true
      ·rw[if_pos hb] at q' ⊢
       have pF:=hF X h0 0 ns4 e4 ae3 h4 S4 (Nat.zero_le _)
       cases q5:F3 e4 with
       | stuck=>rw[q5] at q';cases q'
       | exc _ _=>rw[q5] at q';cases q'
       |
        ok t e5=>
        rw[q5] at q' pF
        obtain⟨d5,h5,ns5,p5,a5,S5,r5⟩:=pF
        rw[p5,eu]
        have q'':(match bR e5 t with
         | some (e4,y)=>lcV g3 c3 F3 _ (accv++[y]) e4
         | none=>.stuck)=.ok ys e2:=q'
        cases q6:bR e5 t with
        | none=>rw[q6] at q'';cases q''
        |
         some w=>
         obtain⟨e6,y⟩:=w
         rw[q6] at q''
         obtain⟨ns6,S6,a6,r6⟩:=eH S5 r5 q6
         exact ih rr ((a14.trans S a5).trans S a6) S6 (((ra4.mono (a5.mov S4)).mono (a6.mov S5)).append (.cons r6 .nil)) q''
      ·rw[if_neg hb] at q' ⊢
       exact ih rr a14 S4 ra4 q'
   ·rw[if_neg hl] at q;cases q
theorem C3 {sub:List (Option Nat)} (hs:(sub.filterMap id).Nodup) (hI:RI I I3) (hg:RG g g3) (hc:RT c c3) (hF:RE F F3):RE (eLC I sub g c F) (vLC I3 sub g3 c3 F3):=λX h0 L ns e ae h S hl=>
 Po.bind
  S (hI X h0 ns e ae h S) λit p h1 ns1 e1 a1 S1 r1=>by
  try dsimp only
  obtain⟨r2,gd,hk⟩:=r1
  have hs':=qA hs
  have S2:=S1.lockO p.2
  have S3:=S2.inner hs'
  cases q:lcV g3 c3 F3 p.1 [] (bE sub (lockO e1 p.2)) with
  | stuck=>trivial
  | exc _ _=>trivial
  |
   ok ys e2=>
   dsimp only
   split
   ·rename_i hy
    have gd':∀ ns' e' h',Stp (bw sub ns1) (bE sub (lockO e1 p.2)) h1 ns' e' h'->it.guard h':=λns' e' h' a=>gd h' λm o qm hm=>a.keep m o qm λ⟨j,s,z1,z2,z3⟩=>by
     obtain⟨i,y1,y2⟩:=bF z1
     rcases hm with hm | ⟨k,hk1,hk2⟩
     ·exact hm.2 (aK.mpr ⟨i,y2⟩)
     ·have:i=k:=S1.inj i k m y2 hk2
      subst this
      obtain⟨s',w1,w2⟩:=hk i hk1
      rcases f9 z2 with ⟨z,_⟩ | ⟨i',z,y⟩
      ·rw[y1] at z;cases z
      ·rw[y1] at z;cases z
       have hl:(lockO e1 p.2)[i]?=some (fW s'):=by rw[hk1];exact kc w1
       rcases y with ⟨y,_⟩ | ⟨t,y,rfl⟩
       ·rw[hl] at y;cases y
       ·rw[hl] at y;cases y
        cases s' <;> first | cases w2;done | cases z3;done
    have mvi:Mov (Oc X ns1) (Oc (Xin X ns1 sub) (bw sub ns1)) h1 h1:=λn o p q=>⟨⟨λz=>by
     rcases z with z | ⟨z,_⟩
     ·exact p.1 z
     ·exact p.2 z,λz=>p.2 (iP z)⟩,q⟩
    obtain⟨dy,h2,bn,ae2,p2,a2,S4,r4⟩:=Af (G:=it.guard) S3 hg hc hF gd' (r2.mono mvi) .refl S3 .nil q
    have k3:∀ n,Oc (Xin X ns1 sub) bn n->Oc X ns1 n:=λn z=>⟨λy=>z.1 (.inl y),λy=>by
     by_cases w:some n ∈ bw sub ns1
     ·obtain⟨j,w⟩:=aK.mp w
      obtain⟨s,v,o,b1,b2,_⟩:=S3.own w
      rcases b2 with b2 | b2
      ·obtain⟨v',rfl⟩:=(nV (e:=lockO e1 p.2) hs').mt j s b1 b2
       obtain⟨u,c1,c2⟩:=a2.mu' j v' b1
       exact z.2 (aK.mpr ⟨j,by rw[c2];exact w⟩)
      ·obtain⟨c1,c2⟩:=a2.lk j s b1 b2
       exact z.2 (aK.mpr ⟨j,by rw[c2];exact w⟩)
     ·exact z.1 (.inr ⟨y,w⟩)⟩
    have bk:=S2.back (Y:=X) (nV hs') a2 (λn z=>⟨Nat.lt_of_lt_of_le (S2.xl n z) a2.len,.inl z⟩) (λ_ z=>z) λj v n q1 q2=>by
     obtain⟨s,u,o,b1,b2,b3,b4,b5,b6,b7⟩:=S4.own q2
     rw[q1] at b1;cases b1
     cases b3
     exact⟨o,b5,b6,b7.mono λm o' z y=>⟨k3 m z,y⟩⟩
    obtain⟨S5,a5⟩:=bk
    have r5:Rds (Oc X ns1) h2 dy ys:=r4.mono λm o' z y=>⟨k3 m z,y⟩
    have fin:∀ (e':E3),Sat X h0 ns1 e' ae h2->Stp ns1 e1 h1 ns1 e' h2->Po X h0 ns1 e1 ae h1 (relE X h0 L ae) ((noX (lcL it.guard g c F it.items [] (gq sub ae) h1)).bind bp) (.ok (.new (.lst ys)) e'):=λe' S6 a6=>by
     rw[p2]
     have pp:=BvR.po (L:=L) (r:=bp dy h2) (b:=.new (.lst ys)) S6 (Nat.le_trans hl (Nat.le_trans a1.len a6.len)) ⟨.lst dy,by unfold bp;rw[if_pos (by rw[r5.len];exact hy)],trivial,.lst r5⟩
     obtain⟨d,h',ns',y,y1,y2,y3⟩:=pp
     exact⟨d,h',ns',y,a6.trans S1 y1,y2,y3⟩
    cases hp:p.2 with
    |
     none=>
     rw[hp] at S5 a5
     exact fin _ S5 a5
    |
     some k=>
     rw[hp] at S5 a5
     obtain⟨s,w1,w2⟩:=hk k hp
     exact fin _ (S5.unlock k) (a5.unlock w1 w2)
   ·trivial
end
end L3
namespace L3
open PySem PySem.Spec PyProof.Rows L2
inductive R3F where
 | ok (r:Rt) (mv:List Val) | exc (c:Str) (mv:List Val) | stuck
abbrev Fn3:=List Val->R3F
def sl1 (b:Bool) (v:Val):Sl:=if b=true then .mu v else .sh v
def sls (ms:List Bool) (vs:List Val):E3:=List.zipWith sl1 ms vs
def aJ:List Bool->List Val->E3
 | true :: ms,v :: vs=>.mu v :: aJ ms vs
 | true :: ms,[]=>.no :: aJ ms []
 | false :: ms,vs=>.no :: aJ ms vs
 | [],_=>[]
def muV:List Bool->E3->Option (List Val)
 | true :: ms,.mu v :: e=>(muV ms e).map (v :: ·)
 | true :: _,_=>none
 | false :: ms,_ :: e=>muV ms e
 | false :: _,[]=>none
 | [],_=>some []
def RFp (X:Nat->Prop) (ps:Ns) (ms:List Bool) (vs:List Val) (ds:List D) (h:AH) (r2:R D):R3F->Prop
 | .stuck=>True
 | .ok r mv=>∃ d h',r2=.ok d h'/\Stp ps (sls ms vs) h ps (aJ ms mv) h'/\RtR X h.length ps (aJ ms mv) (ds.map some) h' d r
 | .exc c mv=>∃ h',r2=.exc c h'/\Stp ps (sls ms vs) h ps (aJ ms mv) h'/\Sat X h.length ps (aJ ms mv) (ds.map some) h'
def RF (ms:List Bool) (G2:Fn) (G3:Fn3):Prop:=∀ X ps ds vs h,vs.length=ms.length->Sat X h.length ps (sls ms vs) (ds.map some) h->RFp X ps ms vs ds h (G2 ds h) (G3 vs)
def fnV (ms:List Bool) (N:Nat) (F:MS3):Fn3:=λvs=>if vs.length=ms.length then (match F (sls ms vs++List.replicate (N - vs.length) .no) with
 | .nx e=>(match muV ms e with | some mv=>.ok (.val .non) mv | none=>.stuck)
 | .rt r e=>(match muV ms e with | some mv=>.ok r mv | none=>.stuck)
 | .exc c e=>(match muV ms e with | some mv=>.exc c mv | none=>.stuck)
 | _=>.stuck) else .stuck
theorem dW {ms:List Bool}{vs:List Val}{i:Nat}{s:Sl} (q:(sls ms vs)[i]?=some s):∃ b v,ms[i]?=some b/\vs[i]?=some v/\s=sl1 b v:=by
 unfold sls at q
 rw[List.getElem?_zipWith] at q
 cases h1:ms[i]? with
 | none=>rw[h1] at q;cases q
 |
  some b=>
  cases h2:vs[i]? with
  | none=>rw[h1,h2] at q;cases q
  | some v=>rw[h1,h2] at q;cases q;exact⟨b,v,rfl,rfl,rfl⟩
theorem eR:∀ {ms:List Bool}{e:E3}{mv:List Val}{i:Nat}{s:Sl},muV ms e=some mv->(aJ ms mv)[i]?=some s->(ms[i]?=some false/\s=.no)\/(ms[i]?=some true/\∃ v,e[i]?=some (.mu v)/\s=.mu v)
 | [],_,_,_,_,_,q=>by unfold aJ at q;simp at q
 |
  true :: ms,.mu v :: e,mv,i,s,q,q2=>by
  obtain⟨mv',z1,z2⟩:=Option.map_eq_some_iff.mp (show (muV ms e).map (v :: ·)=some mv from q)
  subst z2
  cases i with
  | zero=>
   right;have:Sl.mu v=s:=by simpa [aJ] using q2
   subst this;exact⟨rfl,v,rfl,rfl⟩
  |
   succ i=>
   have:=eR (i:=i) (s:=s) z1 (by simpa [aJ] using q2)
   simpa using this
 | true :: ms,[],mv,i,s,q,q2=>by cases q
 | true :: ms,.no :: e,mv,i,s,q,q2=>by cases q
 | true :: ms,.sh v :: e,mv,i,s,q,q2=>by cases q
 | true :: ms,.ow v :: e,mv,i,s,q,q2=>by cases q
 | true :: ms,.lo v :: e,mv,i,s,q,q2=>by cases q
 | true :: ms,.lm v :: e,mv,i,s,q,q2=>by cases q
 | false :: ms,[],mv,i,s,q,q2=>by cases q
 |
  false :: ms,t :: e,mv,i,s,q,q2=>by
  cases i with
  | zero=>
   left;have:Sl.no=s:=by simpa [aJ] using q2
   exact⟨rfl,this.symm⟩
  |
   succ i=>
   have:=eR (i:=i) (s:=s) (show muV ms e=some mv from q) (by simpa [aJ] using q2)
   simpa using this
theorem j8:∀ {ms:List Bool}{e:E3}{mv:List Val}{i:Nat},muV ms e=some mv->ms[i]?=some true->∃ v,e[i]?=some (.mu v)/\(aJ ms mv)[i]?=some (.mu v)
 | [],_,_,i,_,q=>by simp at q
 |
  true :: ms,.mu v :: e,mv,i,q,q2=>by
  obtain⟨mv',z1,z2⟩:=Option.map_eq_some_iff.mp (show (muV ms e).map (v :: ·)=some mv from q)
  subst z2
  cases i with
  | zero=>exact⟨v,rfl,rfl⟩
  |
   succ i=>
   obtain⟨u,y1,y2⟩:=j8 (i:=i) z1 (by simpa using q2)
   exact⟨u,by simpa using y1,by simpa [aJ] using y2⟩
 | true :: ms,[],mv,i,q,q2=>by cases q
 | true :: ms,.no :: e,mv,i,q,q2=>by cases q
 | true :: ms,.sh v :: e,mv,i,q,q2=>by cases q
 | true :: ms,.ow v :: e,mv,i,q,q2=>by cases q
 | true :: ms,.lo v :: e,mv,i,q,q2=>by cases q
 | true :: ms,.lm v :: e,mv,i,q,q2=>by cases q
 | false :: ms,[],mv,i,q,q2=>by cases q
 |
  false :: ms,t :: e,mv,i,q,q2=>by
  cases i with
  | zero=>simp at q2
  |
   succ i=>
   obtain⟨u,y1,y2⟩:=j8 (i:=i) (show muV ms e=some mv from q) (by simpa using q2)
   exact⟨u,by simpa using y1,by simpa [aJ] using y2⟩
theorem eG:∀ {ms:List Bool}{mv:List Val},(aJ ms mv).length=ms.length
 | [],_=>rfl
 | true :: ms,v :: mv=>by show (aJ ms mv).length + 1=ms.length + 1;rw[eG]
 | true :: ms,[]=>by show (aJ ms []).length + 1=ms.length + 1;rw[eG]
 | false :: ms,mv=>by show (aJ ms mv).length + 1=ms.length + 1;rw[eG]
theorem vt {ms:List Bool}{N:Nat}{F:MS}{F3:MS3} (hF:RS F F3):RF ms (fnD N F) (fnV ms N F3):=λX ps ds vs h hl S=>by
 unfold fnV
 rw[if_pos hl]
 have lS:(sls ms vs).length=vs.length:=by unfold sls;rw[List.length_zipWith];omega
 have lD:ds.length=vs.length:=by have:=S.l1;rw[List.length_map] at this;omega
 have lP:ps.length=vs.length:=by have:=S.l2;omega
 have S1
  : Sat X h.length (ps++List.replicate (N - vs.length) none) (sls ms vs++List.replicate (N - vs.length) .no) (ds.map some++List.replicate (N - vs.length) none) h:=by
  have mns:∀ n,some n ∈ ps++List.replicate (N - vs.length) (none:Option Nat) ↔ some n ∈ ps:=λn=>by
   rw[List.mem_append]
   constructor
   ·rintro (z | z)
    ·exact z
    ·have:=List.eq_of_mem_replicate z;cases this
   ·exact .inl
  have gns:∀ {i n:Nat},(ps++List.replicate (N - vs.length) (none:Option Nat))[i]?=some (some n)->ps[i]?=some (some n):=λ{i n} q=>by
   rw[List.getElem?_append] at q
   split at q
   ·exact q
   ·rw[List.getElem?_replicate] at q;split at q <;> cases q
  refine⟨?_,?_,S.lh,S.xl,λi j n q1 q2=>S.inj i j n (gns q1) (gns q2),λi n q=>S.nx i n (gns q),λi s q=>?_⟩
  ·rw[List.length_append,List.length_append,List.length_replicate,List.length_replicate,S.l1]
  ·rw[List.length_append,List.length_append,List.length_replicate,List.length_replicate,S.l2]
  ·rw[List.getElem?_append] at q
   split at q
   ·rename_i hi
    have k:=S.sl i s q
    rw[List.getElem?_append_left (by omega),List.getElem?_append_left (by rw[List.length_map];omega)]
    exact k.mono (λn o p q=>⟨⟨p.1,λz=>p.2 ((mns n).mp z)⟩,q⟩) λ_ _ _ q=>q
   ·rename_i hi
    rw[List.getElem?_replicate] at q
    split at q
    ·cases q
     rw[List.getElem?_append_right (by omega),List.getElem?_replicate,if_pos (by omega)]
     rfl
    ·cases q
 have p:=hF _ _ _ _ _ _ S1
 have e2:fnD N F ds h=match F (ds.map some++List.replicate (N - vs.length) none) h with
  | .nx _ h'=>.ok .non h'
  | .rt d h'=>.ok d h'
  | .exc c _ h'=>.exc c h'
  | _=>.stuck:=by rw[<- lD];rfl
 rw[e2]
 have fin:∀ (Y:Nat->Prop) (ns':Ns) (e':E3) (am:AE) (h':AH) (mv:List Val),(∀ n,X n->Y n)->Stp (ps++List.replicate (N - vs.length) none) (sls ms vs++List.replicate (N - vs.length) .no) h ns' e' h'->Sat Y h.length ns' e' am h'->muV ms e'=some mv->
  Stp ps (sls ms vs) h ps (aJ ms mv) h'/\Sat Y h.length ps (aJ ms mv) (ds.map some) h'/\∀ n,Oc Y ns' n->Oc Y ps n:=by
  intro Y ns' e' am h' mv hXY a S2 qm
  have kmu:∀ {i:Nat},ms[i]?=some true->∃ v u n o,e'[i]?=some (.mu v)/\(aJ ms mv)[i]?=some (.mu v)/\(sls ms vs)[i]?=some (.mu u)/\ns'[i]?=ps[i]?/\ps[i]?=some (some n)/\(ds.map some)[i]?=some (some (.ref n))/\h'[n]?=some o/\bu o/\Rc (Oc Y ns') h' o v:=by
   intro i hi
   obtain⟨v,y1,y2⟩:=j8 qm hi
   have hil:i < ms.length:=(List.getElem?_eq_some_iff.mp hi).1
   obtain⟨u,y3,y4⟩:=a.mu i v y1
   rw[List.getElem?_append_left (by omega)] at y3 y4
   obtain⟨n,o,z1,z2,_⟩:=S.sl i _ y3
   obtain⟨n',o',w1,w2,w3,w4,w5⟩:=S2.sl i _ y1
   rw[y4,z1] at w1;cases w1
   exact⟨v,u,n,o',y1,y2,y3,y4,z1,z2,w3,w4,w5⟩
  have kown:∀ {i n:Nat},ps[i]?=some (some n)->ms[i]?=some true:=λ{i n} q=>by
   obtain⟨s,v,o,z1,z2,_⟩:=S.own q
   obtain⟨b,u,y1,_,y2⟩:=dW z1
   cases b with
   | true=>exact y1
   | false=>subst y2;rcases z2 with z2 | z2 <;> cases z2
  have koc:∀ n,Oc Y ns' n->Oc Y ps n:=λn z=>⟨z.1,λy=>by
   obtain⟨i,y⟩:=aK.mp y
   obtain⟨v,u,n',o,_,_,_,k1,k2,_⟩:=kmu (kown y)
   exact z.2 (aK.mpr ⟨i,by rw[k1];exact y⟩)⟩
  refine⟨⟨a.len,λm o q hm=>a.keep m o q λ⟨i,s,z1,z2,z3⟩=>hm ?_,λ_ _ q=>.inl q,λi s q hl'=>?_,λi s q hl'=>?_,λi v q=>?_,λi v q=>?_⟩,⟨?_,?_,Nat.le_trans (Nat.le_refl _) a.len,S2.xl,S.inj,λi n q z=>?_,λi s q=>?_⟩,koc⟩
  ·rw[List.getElem?_append] at z1
   split at z1
   ·rename_i hi
    rw[List.getElem?_append_left (by omega)] at z2
    exact⟨i,s,z1,z2,z3⟩
   ·rw[List.getElem?_replicate] at z1;split at z1 <;> cases z1
  ·obtain⟨b,u,_,_,y⟩:=dW q
   subst y
   cases b <;> cases hl'
  ·rcases eR qm q with ⟨_,z⟩ | ⟨_,v,_,z⟩ <;> subst z <;> cases hl'
  ·rcases eR qm q with ⟨_,z⟩ | ⟨z,_⟩
   ·cases z
   ·obtain⟨v',u,n,o,_,_,k1,_⟩:=kmu z
    exact⟨u,k1,rfl⟩
  ·obtain⟨b,u,y1,_,y2⟩:=dW q
   cases b with
   | false=>cases y2
   |
    true=>
    obtain⟨v',u,n,o,_,k0,k1,_⟩:=kmu y1
    exact⟨v',k0,rfl⟩
  ·rw[List.length_map,eG];omega
  ·rw[eG];omega
  ·obtain⟨v,u,n',o,_,_,_,k1,k2,_⟩:=kmu (kown q)
   exact S2.nx i n (by rw[k1];exact q) z
  ·rcases eR qm q with ⟨z,rfl⟩ | ⟨z,v,z2,rfl⟩
   ·have hil:i < ms.length:=(List.getElem?_eq_some_iff.mp z).1
    have hi:i < (sls ms vs).length:=by omega
    obtain⟨b,u,y1,_,y2⟩:=dW (List.getElem?_eq_getElem hi)
    rw[z] at y1;cases y1
    have k:=S.sl i _ (List.getElem?_eq_getElem hi)
    rw[y2] at k
    exact k.1
   ·obtain⟨v',u,n,o,k0,_,_,k1,k2,k3,k4,k5,k6⟩:=kmu z
    rw[z2] at k0;cases k0
    exact⟨n,o,k2,k3,k4,k5,k6.mono λm o' y q=>⟨koc m y,q⟩⟩
 generalize F3 (sls ms vs++List.replicate (N - vs.length) .no)=r3 at *
 cases r3 with
 | stuck=>trivial
 | bk _=>trivial
 | ct _=>trivial
 |
  nx e'=>
  obtain⟨am,h',ns',q,a,S2⟩:=p
  rw[q]
  dsimp only
  cases qm:muV ms e' with
  | none=>trivial
  |
   some mv=>
   obtain⟨a3,S3,koc⟩:=fin X ns' e' am h' mv (λ_ z=>z) a S2 qm
   exact⟨.non,h',rfl,a3,S3,.non⟩
 |
  exc c e'=>
  obtain⟨am,h',ns',q,a,S2⟩:=p
  rw[q]
  dsimp only
  cases qm:muV ms e' with
  | none=>trivial
  |
   some mv=>
   obtain⟨a3,S3,koc⟩:=fin X ns' e' am h' mv (λ_ z=>z) a S2 qm
   exact⟨h',rfl,a3,S3⟩
 |
  rt r e'=>
  obtain⟨d,am,h',ns',q,a,rr⟩:=p
  rw[q]
  dsimp only
  cases qm:muV ms e' with
  | none=>trivial
  |
   some mv=>
   cases r with
   |
    val v=>
    obtain⟨a3,S3,koc⟩:=fin X ns' e' am h' mv (λ_ z=>z) a rr.1 qm
    exact⟨d,h',rfl,a3,S3,rr.2.mono λm o y q=>⟨koc m y,q⟩⟩
   |
    new v=>
    obtain⟨n,o,z1,z2,z3,z4,z5,z6,z7⟩:=rr
    obtain⟨a3,S3,koc⟩:=fin (Xn X n) ns' e' am h' mv (λ_ z=>.inl z) a z6 qm
    exact⟨d,h',rfl,a3,n,o,z1,z2,z3,z4,z5,S3,z7.mono λm o y q=>⟨koc m y,q⟩⟩
def fC (i:Nat):List Tm->Bool
 | .bor j :: ts=>(i == j) || fC i ts
 | _ :: ts=>fC i ts
 | []=>false
def ka (i:Nat):List Bool->List Tm->Bool
 | true :: ms,.bor j :: ts=>(i == j) || ka i ms ts
 | _ :: ms,_ :: ts=>ka i ms ts
 | _,_=>false
def okA (e:E3):List Bool->List Tm->Bool
 | true :: ms,.bor i :: ts=>((e[i]?).bind Sl.mv).isSome && !(fC i ts) && okA e ms ts
 | true :: _,_ :: _=>false
 | false :: ms,.bor i :: ts=>!(ka i ms ts) && okA e ms ts
 | false :: ms,_ :: ts=>okA e ms ts
 | [],[]=>true
 | _,_=>false
def jP (b:Bool) (t:Tm):Option Nat:=match b,t with
 | true,.bor i=>some i
 | _,_=>none
def bz (ms:List Bool) (ts:List Tm):List (Option Nat):=List.zipWith jP ms ts
def aP (e:E3):List Bool->List Tm->List Nat
 | false :: ms,.bor i :: ts=>(match e[i]? with
  | some (.sh _)=>aP e ms ts
  | _=>i :: aP e ms ts)
 | _ :: ms,_ :: ts=>aP e ms ts
 | _,_=>[]
mutual
def ba:Val->Bool
 | .tup xs=>d8 xs
 | .lst _=>false
 | .kl _=>false
 | .dct _=>false
 | .set _=>false
 | _=>true
def d8:List Val->Bool
 | []=>true
 | v :: vs=>ba v && d8 vs
end
def jE:List (Key×Val)->Bool
 | []=>true
 | (_,v) :: vs=>ba v && jE vs
def cq:Val->Bool
 | .lst xs=>d8 xs
 | .dct xs=>jE xs
 | .set _=>true
 | _=>false
def iw:Rt->Bool
 | .val v=>ba v
 | .new v=>cq v
def j5 (e:E3):List Nat->Option E3
 | []=>some e
 | i :: is=>match bR e (.bor i) with
  | some (e1,_)=>j5 e1 is
  | none=>none
def Rt.tm:Rt->Tm
 | .val v=>.val v
 | .new v=>.new v
def vm (ms:List Bool) (G:Fn3) (A:MA3):ME3:=λe=>(A e).bind λts e1=>match rss e1 ts with
 | none=>.stuck
 | some vs=>if okA e1 ms ts=true then (match G vs with
  | .stuck=>.stuck
  | .ok r mv=>if (aP e1 ms ts).isEmpty || (iw r && mv.all cq) then .ok r.tm (aX (bz ms ts) (aJ ms mv) e1) else (match j5 e1 (aP e1 ms ts) with
   | some e2=>.ok r.tm (aX (bz ms ts) (aJ ms mv) e2)
   | none=>.stuck)
  | .exc c mv=>if (aP e1 ms ts).isEmpty || mv.all cq then .exc c (aX (bz ms ts) (aJ ms mv) e1) else .stuck) else .stuck
section
variable {P P':Nat->Prop}{h h':AH}
theorem Rd.flat {d:D}{v:Val} (f:ba v=true) (r:Rd P h d v):Rd P' h' d v:=
 @Rd.rec P h (λd v _=>ba v=true->Rd P' h' d v) (λo v _=>ba v=true->Rd P' h' .non v) (λds vs _=>d8 vs=true->Rds P' h' ds vs) (λws us _=>True) (λ_=>.non) (λb _=>.bl b) (λi _=>.int i) (λx _=>.str x) (λn _=>.ty n) (λx _=>.glb x) (λx _=>.exc x) (λ_ ih f=>.tup (ih f)) (λ_ _ f=>absurd f Bool.false_ne_true) (λ_ _ r _ f=>by cases r <;> exact absurd f Bool.false_ne_true) (λ_ _ f=>absurd f Bool.false_ne_true) (λ_ _ f=>absurd f Bool.false_ne_true) (λ_ _ f=>absurd f Bool.false_ne_true) (λ_ f=>absurd f Bool.false_ne_true) (λ_=>.nil) (λ_ _ a b f=>.cons (a (Bool.and_eq_true .. ▸ f).1) (b (Bool.and_eq_true .. ▸ f).2)) trivial (λ_ _ _ _=>trivial) d v r f
theorem Rds.flat {d:List D}{v:List Val} (f:d8 v=true) (r:Rds P h d v):Rds P' h' d v:=
 r.ind (M:=λds vs=>d8 vs=true->Rds P' h' ds vs) (λ_=>.nil) (λr _ ih f=>by
  rw[d8,Bool.and_eq_true] at f
  exact .cons (Rd.flat f.1 r) (ih f.2)) f
theorem Rk.flat {d:List (Key×D)}{v:List (Key×Val)} (f:jE v=true) (r:Rk P h d v):Rk P' h' d v:=
 r.ind (M:=λds vs=>jE vs=true->Rk P' h' ds vs) (λ_=>.nil) (λr _ ih f=>by
  rw[jE,Bool.and_eq_true] at f
  exact .cons (Rd.flat f.1 r) (ih f.2)) f
theorem Rc.flat {o:Ob}{v:Val} (f:cq v=true) (r:Rc P h o v):Rc P' h' o v:=by
 cases r with
 | lst r=>exact .lst (Rds.flat (by simpa [cq] using f) r)
 | fz r=>simp [cq] at f
 | dct r=>exact .dct (Rk.flat (by simpa [cq] using f) r)
 | set xs=>exact .set xs
end
theorem jQ {i:Nat}:∀ {ts:List Tm}{k:Nat},ts[k]?=some (.bor i)->fC i ts=true
 | [],_,q=>by simp at q
 |
  t :: ts,0,q=>by
  have:t=.bor i:=by simpa using q
  subst this;simp [fC]
 |
  t :: ts,k + 1,q=>by
  have:=jQ (ts:=ts) (k:=k) (by simpa using q)
  cases t <;> simp [fC,this]
theorem nR {i:Nat}:∀ {ms:List Bool}{ts:List Tm}{k:Nat},ms[k]?=some true->ts[k]?=some (.bor i)->ka i ms ts=true
 | [],_,_,q,_=>by simp at q
 | _ :: _,[],_,_,q=>by simp at q
 |
  b :: ms,t :: ts,0,q1,q=>by
  have:t=.bor i:=by simpa using q
  have:b=true:=by simpa using q1
  subst_vars;simp [ka]
 |
  b :: ms,t :: ts,k + 1,q1,q=>by
  have:=nR (ms:=ms) (ts:=ts) (k:=k) (by simpa using q1) (by simpa using q)
  cases b <;> cases t <;> simp [ka,this]
theorem jK {e:E3}:∀ {ms:List Bool}{ts:List Tm}{k:Nat},okA e ms ts=true->ms[k]?=some true->∃ i,ts[k]?=some (.bor i)/\∃ u,(e[i]?).bind Sl.mv=some u
 | [],_,_,_,q=>by simp at q
 | b :: ms,[],_,o,_=>by cases b <;> simp [okA] at o
 |
  b :: ms,t :: ts,0,o,q=>by
  have:b=true:=by simpa using q
  subst this
  cases t with
  |
   bor i=>
   simp only[okA,Bool.and_eq_true] at o
   exact⟨i,rfl,Option.isSome_iff_exists.mp o.1.1⟩
  | _=>simp [okA] at o
 |
  b :: ms,t :: ts,k + 1,o,q=>by
  have o':okA e ms ts=true:=by
   cases b <;> cases t <;> simp only[okA,Bool.and_eq_true] at o <;> first | exact o.2 | exact o | (simp at o;done)
  obtain⟨i,y⟩:=jK (k:=k) o' (by simpa using q)
  exact⟨i,by simpa using y⟩
theorem fG {e:E3}:∀ {ms:List Bool}{ts:List Tm}{k j i:Nat},okA e ms ts=true->ms[k]?=some true->ts[k]?=some (.bor i)->ts[j]?=some (.bor i)->j=k
 | [],_,_,_,_,_,q,_,_=>by simp at q
 | b :: ms,[],_,_,_,o,_,_,_=>by cases b <;> simp [okA] at o
 | b :: ms,t :: ts,0,0,i,o,q1,q2,q3=>rfl
 |
  b :: ms,t :: ts,0,j + 1,i,o,q1,q2,q3=>by
  have h1:b=true:=by simpa using q1
  have h2:t=.bor i:=by simpa using q2
  subst h1 h2
  simp only[okA,Bool.and_eq_true] at o
  have:=jQ (i:=i) (ts:=ts) (k:=j) (by simpa using q3)
  rw[this] at o
  simp at o
 |
  b :: ms,t :: ts,k + 1,0,i,o,q1,q2,q3=>by
  have h2:t=.bor i:=by simpa using q3
  subst h2
  have hm:=nR (i:=i) (ms:=ms) (ts:=ts) (k:=k) (by simpa using q1) (by simpa using q2)
  have hb:=jQ (i:=i) (ts:=ts) (k:=k) (by simpa using q2)
  cases b <;> simp [okA,hm,hb] at o
 |
  b :: ms,t :: ts,k + 1,j + 1,i,o,q1,q2,q3=>by
  have o':okA e ms ts=true:=by
   cases b <;> cases t <;> simp only[okA,Bool.and_eq_true] at o <;> first | exact o.2 | exact o | (simp at o;done)
  exact congrArg (· + 1) (fG (k:=k) (j:=j) (i:=i) o' (by simpa using q1) (by simpa using q2) (by simpa using q3))
theorem fP {e:E3}:∀ {ms:List Bool}{ts:List Tm},okA e ms ts=true->ms.length=ts.length
 | [],[],_=>rfl
 | [],_ :: _,o=>by simp [okA] at o
 | b :: ms,[],o=>by cases b <;> simp [okA] at o
 |
  b :: ms,t :: ts,o=>by
  have o':okA e ms ts=true:=by
   cases b <;> cases t <;> simp only[okA,Bool.and_eq_true] at o <;> first | exact o.2 | exact o | (simp at o;done)
  exact congrArg (· + 1) (fP o')
theorem iS {e:E3}:∀ {ms:List Bool}{ts:List Tm}{k i:Nat},ms[k]?=some false->ts[k]?=some (.bor i)->(∀ v,e[i]? ≠ some (.sh v))->i ∈ aP e ms ts
 | [],_,_,_,q,_,_=>by simp at q
 | _ :: _,[],_,_,_,q,_=>by simp at q
 |
  b :: ms,t :: ts,0,i,q1,q2,hn=>by
  have h1:b=false:=by simpa using q1
  have h2:t=.bor i:=by simpa using q2
  subst h1 h2
  unfold aP
  split
  ·rename_i v q;exact absurd q (hn v)
  ·exact List.mem_cons_self ..
 |
  b :: ms,t :: ts,k + 1,i,q1,q2,hn=>by
  have ih:=iS (ms:=ms) (ts:=ts) (k:=k) (by simpa using q1) (by simpa using q2) hn
  cases b <;> cases t <;> simp only[aP] <;> first | exact ih | (split;exact ih;exact List.mem_cons_of_mem _ ih)
theorem c8 {ms:List Bool}{ts:List Tm}{k i:Nat} (q:(bz ms ts)[k]?=some (some i)):ms[k]?=some true/\ts[k]?=some (.bor i):=by
 unfold bz at q
 rw[List.getElem?_zipWith] at q
 cases h1:ms[k]? with
 | none=>rw[h1] at q;cases q
 |
  some b=>
  cases h2:ts[k]? with
  | none=>rw[h1,h2] at q;cases q
  |
   some t=>
   rw[h1,h2] at q
   have q':jP b t=some i:=Option.some.inj q
   cases b <;> cases t <;> first | (cases q';done) | (cases q';exact⟨rfl,rfl⟩)
theorem xV {ms:List Bool}{ts:List Tm}{k i:Nat} (q1:ms[k]?=some true) (q2:ts[k]?=some (.bor i)):(bz ms ts)[k]?=some (some i):=by
 unfold bz
 rw[List.getElem?_zipWith,q1,q2];rfl
theorem nu {e:E3}:∀ {ts:List Tm}{vs:List Val}{k:Nat}{v:Val},rss e ts=some vs->vs[k]?=some v->∃ t,ts[k]?=some t/\rs e t=some v
 | [],_,_,_,q,q2=>by cases q;simp at q2
 |
  t :: ts,vs,k,v,q,q2=>by
  unfold rss at q
  split at q
  ·rename_i u us e1 e2
   cases q
   cases k with
   | zero=>
    have:u=v:=by simpa using q2
    subst this;exact⟨t,rfl,e1⟩
   |
    succ k=>
    obtain⟨t',y1,y2⟩:=nu (k:=k) e2 (by simpa using q2)
    exact⟨t',by simpa using y1,y2⟩
  ·cases q
theorem iG {e:E3}:∀ {ts:List Tm}{vs:List Val},rss e ts=some vs->vs.length=ts.length
 | [],_,q=>by cases q;rfl
 |
  t :: ts,vs,q=>by
  unfold rss at q
  split at q
  ·rename_i u us e1 e2;cases q;exact congrArg (· + 1) (iG e2)
  ·cases q
theorem TsR.get {X:Nat->Prop}{ns:Ns}{ae:AE}{h:AH}:∀ {ds:List D}{ts:List Tm}{k:Nat}{t:Tm},TsR X ns ae h ds ts->ts[k]?=some t->∃ d,ds[k]?=some d/\((∃ v,t=.val v/\Rd (Oc X ns) h d v)\/∃ i,t=.bor i/\ae[i]?=some (some d))
 | _,_,_,_,.nil,q=>by simp at q
 | _,_,0,_,.val r rr,q=>by have:=(by simpa using q:Tm.val _=_);subst this;exact⟨_,rfl,.inl ⟨_,rfl,r⟩⟩
 | _,_,0,_,.bor r rr,q=>by have:=(by simpa using q:Tm.bor _=_);subst this;exact⟨_,rfl,.inr ⟨_,rfl,r⟩⟩
 | _,_,k + 1,t,.val r rr,q=>by obtain⟨d,y⟩:=rr.get (k:=k) (by simpa using q);exact⟨d,by simpa using y⟩
 | _,_,k + 1,t,.bor r rr,q=>by obtain⟨d,y⟩:=rr.get (k:=k) (by simpa using q);exact⟨d,by simpa using y⟩
def Xc (X:Nat->Prop) (ns:Ns) (e:E3) (ms:List Bool) (ts:List Tm) (n:Nat):Prop:=(X n\/some n ∈ ns)/\some n ∉ bw (bz ms ts) ns/\∀ i ∈ aP e ms ts,ns[i]? ≠ some (some n)
theorem lG {X:Nat->Prop}{h0:Nat}{ns:Ns}{e:E3}{ae:AE}{h:AH}{ms:List Bool}{ts:List Tm}{ds:List D}{vs:List Val} (S:Sat X h0 ns e ae h) (rt:TsR X ns ae h ds ts) (qv:rss e ts=some vs) (ok:okA e ms ts=true):
 Sat (Xc X ns e ms ts) h.length (bw (bz ms ts) ns) (sls ms vs) (ds.map some) h:=by
 have l1:=fP ok
 have l2:=iG qv
 have l3:=TsR.len rt
 have hs:jl (bz ms ts):=λj k i q1 q2=>fG ok (c8 q2).1 (c8 q2).2 (c8 q1).2
 have mv:Mov (Oc X ns) (Oc (Xc X ns e ms ts) (bw (bz ms ts) ns)) h h:=λn o p q=>⟨⟨λz=>by
  rcases z.1 with z | z
  ·exact p.1 z
  ·exact p.2 z,λz=>p.2 (iP z)⟩,q⟩
 refine⟨?_,?_,Nat.le_refl _,λn z=>?_,λj k n q1 q2=>?_,λj n q z=>z.2.1 (aK.mpr ⟨j,q⟩),λk s q=>?_⟩
 ·unfold sls;rw[List.length_map,List.length_zipWith];omega
 ·unfold bw bz sls;rw[List.length_map,List.length_zipWith,List.length_zipWith];omega
 ·rcases z.1 with z | z
  ·exact S.xl n z
  ·obtain⟨i,z⟩:=aK.mp z
   obtain⟨_,_,_,_,_,_,_,q',_⟩:=S.own z
   exact a9 q'
 ·obtain⟨i,y1,y2⟩:=bF q1
  obtain⟨i',y3,y4⟩:=bF q2
  have:=S.inj i i' n y2 y4
  subst this
  exact hs j k i y1 y3
 ·obtain⟨b,v,
   q1,q2,rfl⟩:=dW q
  obtain⟨t,q3,q4⟩:=nu qv q2
  obtain⟨d,q5,q6⟩:=rt.get q3
  have qd:(ds.map some)[k]?=some (some d):=by rw[List.getElem?_map,q5];rfl
  rw[qd]
  have qn:(bw (bz ms ts) ns)[k]?=some ((jP b t).bind λi=>(ns[i]?).bind id):=by
   unfold bw bz
   rw[List.getElem?_map,List.getElem?_zipWith,q1,q3];rfl
  rw[qn]
  cases b with
  |
   true=>
   obtain⟨i,y1,u,y2⟩:=jK ok q1
   rw[q3] at y1;cases y1
   have q4':(e[i]?).bind Sl.val=some v:=q4
   obtain⟨s,z1,z2⟩:=Option.bind_eq_some_iff.mp y2
   rw[z1] at q4'
   have hv:s.val=some v:=q4'
   have huv:u=v:=by cases s <;> first | cases z2;done | (cases z2;cases hv;rfl)
   subst huv
   have hns:∃ n,ns[i]?=some (some n):=by
    have y:=S.sl i s z1
    cases s with
    | ow v=>obtain⟨n,o,y1,_⟩:=y;exact⟨n,y1⟩
    | mu v=>obtain⟨n,o,y1,_⟩:=y;exact⟨n,y1⟩
    | _=>cases z2
   obtain⟨n,hn⟩:=hns
   obtain⟨n',o,k1,k2,k3,k4,_⟩:=S.write z1 z2
   rcases q6 with ⟨_,z,_⟩ | ⟨i',z,q6⟩
   ·cases z
   ·cases z
    rw[q6] at k1;cases k1
    obtain⟨_,_,_,_,_,_,w,_⟩:=S.own hn
    rw[q6] at w;cases w
    exact⟨n,o,by show some ((ns[i]?).bind id)=_;rw[hn];rfl,rfl,k2,k3,k4.mono mv⟩
  |
   false=>
   refine⟨by cases t <;> rfl,d,rfl,?_⟩
   rcases q6 with ⟨u,rfl,q6⟩ | ⟨i,rfl,q6⟩
   ·cases q4;exact q6.mono mv
   ·have q4':(
     e[i]?).bind Sl.val=some v:=q4
    rcases S.bor q6 q4' with z | ⟨n,o,rfl,z1,z2⟩
    ·exact z.mono mv
    ·refine .cell ⟨λy=>?_,λy=>?_⟩ z1 (z2.mono mv)
     ·
      by_cases hsh:∃ w,e[i]?=some (.sh w)
      ·obtain⟨w,hsh⟩:=hsh
       obtain⟨_,x,w1,w2⟩:=S.sl i _ hsh
       rw[q6] at w1;cases w1
       cases w2 with
       | cell p _ _=>rcases y.1 with y | y;exact p.1 y;exact p.2 y
      ·have hl:=iS q1 q3 λw z=>hsh ⟨w,z⟩
       cases w:ns[i]? with
       |
        none=>
        have hi:i < e.length:=by
         cases z:e[i]? with
         | none=>rw[z] at q4';cases q4'
         | some _=>exact (List.getElem?_eq_some_iff.mp z).1
        rw[List.getElem?_eq_none_iff,S.l2] at w
        omega
       |
        some w'=>
        cases w' with
        |
         none=>
         cases z:e[i]? with
         | none=>rw[z] at q4';cases q4'
         |
          some s=>
          have k:=S.sl i s z
          rw[w] at k
          cases s with
          | no=>rw[z] at q4';cases q4'
          | sh w=>exact hsh ⟨w,z⟩
          | ow w=>obtain⟨_,_,k,_⟩:=k;cases k
          | lo w=>obtain⟨_,_,k,_⟩:=k;cases k
          | mu w=>obtain⟨_,_,k,_⟩:=k;cases k
          | lm w=>obtain⟨_,_,k,_⟩:=k;cases k
        |
         some n'=>
         obtain⟨_,_,_,_,_,_,w2,_⟩:=S.own w
         rw[q6] at w2;cases w2
         exact y.2.2 i hl w
     ·obtain⟨j,y⟩:=aK.mp y
      obtain⟨i',y1,y2⟩:=bF y
      obtain⟨y3,y4⟩:=c8 y1
      obtain⟨_,_,_,_,_,_,w2,_⟩:=S.own y2
      have:i'
       = i:=by
       cases w:ns[i]? with
       |
        none=>
        have hi:i < e.length:=by
         cases z:e[i]? with
         | none=>rw[z] at q4';cases q4'
         | some _=>exact (List.getElem?_eq_some_iff.mp z).1
        rw[List.getElem?_eq_none_iff,S.l2] at w
        omega
       |
        some w'=>
        cases w' with
        |
         some n'=>
         obtain⟨_,_,_,_,_,_,w3,_⟩:=S.own w
         rw[q6] at w3;cases w3
         exact S.inj i' i n y2 w
        |
         none=>
         cases z:e[i]? with
         | none=>rw[z] at q4';cases q4'
         |
          some s=>
          have k:=S.sl i s z
          rw[w,q6] at k
          cases s with
          | no=>rw[z] at q4';cases q4'
          |
           sh w=>
           obtain⟨_,x,k1,k2⟩:=k
           cases k1
           cases k2 with
           | cell p _ _=>exact (p.2 (aK.mpr ⟨i',y2⟩)).elim
          | ow w=>obtain⟨_,_,k,_⟩:=k;cases k
          | lo w=>obtain⟨_,_,k,_⟩:=k;cases k
          | mu w=>obtain⟨_,_,k,_⟩:=k;cases k
          | lm w=>obtain⟨_,_,k,_⟩:=k;cases k
      subst this
      have:=fG ok y3 y4 q3
      subst this
      rw[q1] at y3;cases y3
end L3
namespace L3
open PySem PySem.Spec PyProof.Rows L2
theorem dR:∀ {ms:List Bool}{mv:List Val}{j:Nat}{v:Val},(aJ ms mv)[j]?=some (.mu v)->v ∈ mv
 | [],_,_,_,q=>by simp [aJ] at q
 | true :: ms,u :: mv,0,v,q=>by
  have:Sl.mu u=.mu v:=by simpa [aJ] using q
  cases this;exact List.mem_cons_self ..
 | true :: ms,u :: mv,j + 1,v,q=>List.mem_cons_of_mem _ (dR (ms:=ms) (mv:=mv) (j:=j) (by simpa [aJ] using q))
 | true :: ms,[],0,v,q=>by simp [aJ] at q
 | true :: ms,[],j + 1,v,q=>dR (ms:=ms) (mv:=[]) (j:=j) (by simpa [aJ] using q)
 | false :: ms,mv,0,v,q=>by simp [aJ] at q
 | false :: ms,mv,j + 1,v,q=>dR (ms:=ms) (mv:=mv) (j:=j) (by simpa [aJ] using q)
theorem ja {e:E3}:∀ {ms:List Bool}{ts:List Tm}{i:Nat},i ∈ aP e ms ts->∃ k:Nat,ms[k]?=some false/\ts[k]?=some (.bor i)
 | [],_,_,q=>by simp [aP] at q
 | _ :: _,[],_,q=>by simp [aP] at q
 |
  b :: ms,t :: ts,i,q=>by
  have up:i ∈ aP e ms ts->∃ k:Nat,(b :: ms)[k]?=some false/\(t :: ts)[k]?=some (.bor i):=λz=>by
   obtain⟨k,y1,y2⟩:=ja z
   exact⟨k + 1,by simpa using y1,by simpa using y2⟩
  cases b <;> cases t <;> simp only[aP] at q <;> first | exact up q | skip
  split at q
  ·exact up q
  ·rcases List.mem_cons.mp q with rfl | q
   ·exact⟨0,rfl,rfl⟩
   ·exact up q
theorem wA {e e1:E3}{i:Nat}{v:Val} (q:bR e (.bor i)=some (e1,v)):(∀ j,j ≠ i->e1[j]?=e[j]?)/\e1[i]?=some (.sh v)/\(e[i]?).bind Sl.val=some v:=by
 unfold bR at q
 dsimp only at q
 split at q
 ·rename_i u q1;cases q;exact⟨λ_ _=>rfl,q1,by rw[q1];rfl⟩
 ·rename_i u q1;cases q;exact⟨λj z=>aN z,a8 (List.getElem?_eq_some_iff.mp q1).1,by rw[q1];rfl⟩
 ·cases q
theorem l9 {X:Nat->Prop}{h0:Nat}{ae:AE}{h:AH}:∀ {is:List Nat}{ns:Ns}{e e2:E3},Sat X h0 ns e ae h->(∀ i ∈ is,∃ d,ae[i]?=some (some d))->j5 e is=some e2->∃ bn,Sat X h0 bn e2 ae h/\Stp ns e h bn e2 h/\(∀ i,i ∉ is->e2[i]?=e[i]?)/\(∀ i ∈ is,∃ v,e2[i]?=some (.sh v))/\∀ i:Nat,(e2[i]?).bind Sl.val=(e[i]?).bind Sl.val
 | [],ns,e,e2,S,_,q=>by cases q;exact⟨ns,S,.refl,λ_ _=>rfl,(λ_ z=>by cases z),λ_=>rfl⟩
 |
  i :: is,ns,e,e2,S,hd,q=>by
  unfold j5 at q
  split at q
  ·rename_i e1 v q1
   obtain⟨d,hd0⟩:=hd i (List.mem_cons_self ..)
   obtain⟨ns1,S1,a1,r1⟩:=eH (L:=0) (t:=.bor i) S hd0 q1
   obtain⟨bn,S2,a2,k1,k2,k3⟩:=l9 S1 (λj z=>hd j (List.mem_cons_of_mem _ z)) q
   obtain⟨y1,y2,y3⟩:=wA q1
   refine⟨bn,S2,a1.trans S a2,λj hj=>?_,λj hj=>?_,λj=>?_⟩
   ·rw[List.mem_cons,not_or] at hj
    rw[k1 j hj.2,y1 j hj.1]
   ·by_cases z:j ∈ is
    ·exact k2 j z
    ·rcases List.mem_cons.mp hj with rfl | hj
     ·exact⟨v,by rw[k1 j z];exact y2⟩
     ·exact absurd hj z
   ·rw[k3 j]
    by_cases z:j=i
    ·subst z;rw[y2,y3];rfl
    ·rw[y1 j z]
  ·cases q
theorem ki {e e2:E3}:∀ {ms:List Bool}{ts:List Tm},(∀ (k i:Nat),ms[k]?=some true->ts[k]?=some (.bor i)->e2[i]?=e[i]?)->okA e ms ts=true->okA e2 ms ts=true
 | [],[],_,o=>rfl
 | [],_ :: _,_,o=>by simp [okA] at o
 | b :: ms,[],_,o=>by cases b <;> simp [okA] at o
 |
  b :: ms,t :: ts,hk,o=>by
  have o':okA e ms ts=true:=by
   cases b <;> cases t <;> simp only[okA,Bool.and_eq_true] at o <;> first | exact o.2 | exact o | (simp at o;done)
  have ih:=ki (λk i q1 q2=>hk (k + 1) i (by simpa using q1) (by simpa using q2)) o'
  cases b with
  | false=>cases t <;> simp only[okA,Bool.and_eq_true] at o ⊢ <;> first | exact⟨o.1,ih⟩ | exact ih
  |
   true=>
   cases t with
   |
    bor i=>
    simp only[okA,Bool.and_eq_true] at o ⊢
    rw[hk 0 i rfl rfl]
    exact⟨o.1,ih⟩
   | _=>simp [okA] at o
theorem mD {e:E3}:∀ {ms:List Bool}{ts:List Tm},(∀ (k i:Nat),ms[k]?=some false->ts[k]?=some (.bor i)->∃ v,e[i]?=some (.sh v))->aP e ms ts=[]
 | [],_,_=>by simp [aP]
 | _ :: _,[],_=>by simp [aP]
 |
  b :: ms,t :: ts,hk=>by
  have ih:=mD (λk i q1 q2=>hk (k + 1) i (by simpa using q1) (by simpa using q2))
  cases b <;> cases t <;> simp only[aP] <;> first | exact ih | skip
  rename_i i
  obtain⟨v,q⟩:=hk 0 i rfl rfl
  rw[q];exact ih
theorem kC {e e2:E3} (hv:∀ i:Nat,(e2[i]?).bind Sl.val=(e[i]?).bind Sl.val):∀ (ts:List Tm),rss e2 ts=rss e ts
 | []=>rfl
 |
  t :: ts=>by
  unfold rss
  rw[kC hv ts]
  have:rs e2 t=rs e t:=by
   cases t with
   | bor i=>exact hv i
   | _=>rfl
  rw[this]
theorem mB {e:E3}{ms:List Bool}{ts:List Tm}{vs:List Val} (ok:okA e ms ts=true):Lnk (bz ms ts) e (sls ms vs):=by
 refine⟨λj k i q1 q2=>fG ok (c8 q2).1 (c8 q2).2 (c8 q1).2,λj v q=>?_,λj s q hm=>?_⟩
 ·obtain⟨b,u,q1,_,q2⟩:=dW q
  cases b with
  | false=>cases q2
  |
   true=>
   obtain⟨i,y1,w,y2⟩:=jK ok q1
   obtain⟨s,z1,z2⟩:=Option.bind_eq_some_iff.mp y2
   exact⟨i,s,xV q1 y1,z1,by cases s <;> first | rfl | cases z2⟩
 ·obtain⟨b,u,q1,_,q2⟩:=dW q
  cases b with
  | false=>subst q2;cases hm
  | true=>exact⟨u,q2⟩
section
variable {X:Nat->Prop}{h0 L:Nat}{ns:Ns}{e:E3}{ae:AE}{h:AH}{ms:List Bool}{ts:List Tm}{ds:List D}{vs:List Val}{S2:Fn}{G3:Fn3}
theorem iq (Y:Nat->Prop) (hY:∀ n,Y n->X n\/Y n) {n:Nat} (hl:aP e ms ts=[]) (z:¬ Xc X ns e ms ts n) (z2:some n ∉ bw (bz ms ts) ns):Oc X ns n:=by
 refine⟨λy=>z ⟨.inl y,z2,λi hi=>by rw[hl] at hi;cases hi⟩,λy=>z ⟨.inr y,z2,λi hi=>by rw[hl] at hi;cases hi⟩⟩
theorem nQ {r:Rt}{mv:List Val} (S:Sat X h0 ns e ae h) (hL:L<=h.length) (rt:TsR X ns ae h ds ts) (qv:rss e ts=some vs) (ok:okA e ms ts=true) (hG:RF ms S2 G3) (q:G3 vs=.ok r mv) (hf:aP e ms ts=[]\/(iw r=true/\mv.all cq=true)):
 Po X h0 ns e ae h (relE X h0 L ae) (S2 ds h) (.ok r.tm (aX (bz ms ts) (aJ ms mv) e)):=by
 have p:=hG _ _ ds vs h (by rw[iG qv,fP ok]) (lG S rt qv ok)
 rw[q] at p
 obtain⟨d,h',p1,a,rr⟩:=p
 have K:=mB (vs:=vs) ok
 have xcl:∀ n,X n->n < h.length:=S.xl
 cases r with
 |
  val v=>
  obtain⟨S3,rv⟩:=rr
  obtain⟨S4,a4⟩:=S.back (Y:=X) K a (λn z=>⟨Nat.lt_of_lt_of_le (xcl n z) a.len,.inl z⟩) (λ_ z=>z) λj w n q1 q2=>by
   obtain⟨s,u,o,b1,b2,b3,b4,b5,b6,b7⟩:=S3.own q2
   rw[q1] at b1;cases b1;cases b3
   rcases hf with hf | hf
   ·exact⟨o,b5,b6,b7.mono λm o' z y=>⟨iq X (λ_ z=>.inl z) hf z.1 z.2,y⟩⟩
   ·exact⟨o,b5,b6,b7.flat (List.all_eq_true.mp hf.2 w (dR q1))⟩
  refine⟨d,h',ns,p1,a4,S4,?_⟩
  rcases hf with hf | hf
  ·exact rv.mono λm o' z y=>⟨iq X (λ_ z=>.inl z) hf z.1 z.2,y⟩
  ·exact rv.flat hf.1
 |
  new v=>
  obtain⟨n,o,z1,z2,z3,z4,z5,S3,z7⟩:=rr
  have hnx:¬ X n:=λy=>by have:=xcl n y;omega
  have kk:∀ m,Oc (Xn (Xc X ns e ms ts) n) (bw (bz ms ts) ns) m->aP e ms ts=[]->Oc (Xn X n) ns m:=λm z hf=>by
   have:=iq X (λ_ z=>.inl z) hf (λy=>z.1 (.inl y)) z.2
   exact⟨λy=>by
    rcases y with y | y
    ·exact this.1 y
    ·exact z.1 (.inr y),this.2⟩
  obtain⟨S4,a4⟩:=S.back (Y:=Xn X n) K a (λm z=>by
   rcases z with z | rfl
   ·exact⟨Nat.lt_of_lt_of_le (xcl m z) a.len,.inl z⟩
   ·exact⟨a9 z4,.inr z2⟩) (λ_ z=>.inl z) λj w n' q1 q2=>by
   obtain⟨s,u,o,b1,b2,b3,b4,b5,b6,b7⟩:=S3.own q2
   rw[q1] at b1;cases b1;cases b3
   rcases hf with hf | hf
   ·exact⟨o,b5,b6,b7.mono λm o' z y=>⟨kk m z hf,y⟩⟩
   ·exact⟨o,b5,b6,b7.flat (List.all_eq_true.mp hf.2 w (dR q1))⟩
  refine⟨d,h',ns,p1,a4,S4.weak λ_ z=>.inl z,n,o,z1,Nat.le_trans hL z2,hnx,z4,z5,S4,?_⟩
  rcases hf with hf | hf
  ·exact z7.mono λm o' z y=>⟨kk m z hf,y⟩
  ·exact z7.flat hf.1
theorem sU {c:Str}{mv:List Val} (S:Sat X h0 ns e ae h) (rt:TsR X ns ae h ds ts) (qv:rss e ts=some vs) (ok:okA e ms ts=true) (hG:RF ms S2 G3) (q:G3 vs=.exc c mv) (hf:aP e ms ts=[]\/mv.all cq=true):
 Po X h0 ns e ae h (relE X h0 L ae) (S2 ds h) (.exc c (aX (bz ms ts) (aJ ms mv) e)):=by
 have p:=hG _ _ ds vs h (by rw[iG qv,fP ok]) (lG S rt qv ok)
 rw[q] at p
 obtain⟨h',p1,a,S3⟩:=p
 have K:=mB (vs:=vs) ok
 obtain⟨S4,a4⟩:=S.back (Y:=X) K a (λn z=>⟨Nat.lt_of_lt_of_le (S.xl n z) a.len,.inl z⟩) (λ_ z=>z) λj w n q1 q2=>by
  obtain⟨s,u,o,b1,b2,b3,b4,b5,b6,b7⟩:=S3.own q2
  rw[q1] at b1;cases b1;cases b3
  rcases hf with hf | hf
  ·exact⟨o,b5,b6,b7.mono λm o' z y=>⟨iq X (λ_ z=>.inl z) hf z.1 z.2,y⟩⟩
  ·exact⟨o,b5,b6,b7.flat (List.all_eq_true.mp hf w (dR q1))⟩
 exact⟨h',ns,p1,a4,S4⟩
theorem yb {A:MA}{A3:MA3}{n:Nat} (hn:n=ms.length) (hG:RF ms S2 G3) (hA:RA A A3):RE (oE n S2 A) (vm ms G3 A3):=λX h0 L ns e ae h S hl=>
 Po.bind
  S (hA X h0 ns e ae h S) λds ts h1 ns1 e1 a1 S1 r1=>by
  try dsimp only
  cases qv:rss e1 ts with
  | none=>trivial
  |
   some vs=>
   dsimp only
   by_cases ok:okA e1 ms ts=true
   ·rw[if_pos ok]
    have hlen:ds.length=n:=by rw[hn,fP ok];exact TsR.len r1
    rw[if_pos hlen]
    have hL:L<=h1.length:=Nat.le_trans hl a1.len
    cases q:G3 vs with
    | stuck=>trivial
    |
     exc c mv=>
     dsimp only
     by_cases hf:((aP e1 ms ts).isEmpty || mv.all cq)=true
     ·rw[if_pos hf]
      refine sU S1 r1 qv ok hG q ?_
      rw[Bool.or_eq_true] at hf
      rcases hf with hf | hf
      ·exact .inl (List.isEmpty_iff.mp hf)
      ·exact .inr hf
     ·rw[if_neg hf];trivial
    |
     ok r mv=>
     dsimp only
     by_cases hf:((aP e1 ms ts).isEmpty || (iw r && mv.all cq))=true
     ·rw[if_pos hf]
      refine nQ S1 hL r1 qv ok hG q ?_
      rw[Bool.or_eq_true,Bool.and_eq_true] at hf
      rcases hf with hf | hf
      ·exact .inl (List.isEmpty_iff.mp hf)
      ·exact .inr hf
     ·rw[if_neg hf]
      cases qd:j5 e1 (aP e1 ms ts) with
      | none=>trivial
      |
       some e2=>
       dsimp only
       obtain⟨bn,S2',a2,k1,k2,k3⟩:=l9 S1 (λi hi=>by
        obtain⟨k,_,y⟩:=ja hi
        obtain⟨d,_,z⟩:=r1.get y
        rcases z with ⟨_,z,_⟩ | ⟨j,z,z2⟩
        ·cases z
        ·cases z;exact⟨d,z2⟩) qd
       have ok2:okA e2 ms ts=true:=ki (λk i q1 q2=>k1 i λz=>by
        obtain⟨k',y1,y2⟩:=ja z
        have:=fG ok q1 q2 y2
        subst this
        rw[q1] at y1;cases y1) ok
       have ln:aP e2 ms ts=[]:=mD λk i q1 q2=>by
        by_cases z:i ∈ aP e1 ms ts
        ·exact k2 i z
        ·rw[k1 i z]
         exact Classical.byContradiction λw=>z (iS q1 q2 λv y=>w ⟨v,y⟩)
       have pp:=nQ (L:=L) S2' hL (r1.stp S1 a2) (by rw[kC k3];exact qv) ok2 hG q (.inl ln)
       obtain⟨d,h',ns',y,y1,y2,y3⟩:=pp
       exact⟨d,h',ns',y,a2.trans S1 y1,y2,y3⟩
   ·rw[if_neg ok];trivial
end
def RMv (m2:D->List D->AH->R D) (m3:Val->List Val->Bv):Prop:=∀ P h d v ds vs,ShR P h d v->dN v=true->ShRs P h ds vs->BvR P h (m2 d ds h) (m3 v vs)
def vx (m:Val->List Val->Bv) (F:ME3) (A:MA3):ME3:=λe=>(F e).bind λt e1=>if (rs e1 t).map dN=some true then (A e1).bind λts e2=>(match rs e2 t.drop,rss e2 ts with
 | some v,some vs=>if dN v=true then (m v vs).at e2 else .stuck
 | _,_=>.stuck) else .stuck
theorem ub {P:Nat->Prop}{h:AH}{d:D}{v:Val} (r:ShR P h d v) (q:dN v=true):gj h d=true:=by
 cases v with
 | lst xs=>obtain⟨n,ds,rfl,_,e1,_⟩:=r.lst;show (aO h n).isSome=true;rw[e1];rfl
 | _=>cases q
theorem vT {m2:D->List D->AH->R D}{m3:Val->List Val->Bv}{F:ME}{F3:ME3}{A:MA}{A3:MA3} (hm:RMv m2 m3) (hF:RE F F3) (hA:RA A A3):RE (eM m2 F A) (vx m3 F3 A3):=λX h0 L ns e ae h S hl=>
 Po.bind
  S (hF X h0 L ns e ae h S hl) λd t h1 ns1 e1 a1 S1 r1=>by
  try dsimp only
  split
  ·by_cases hq:(rs e1 t).map dN=some true
   ·rw[if_pos hq]
    refine Po.bind S1 (hA X h0 ns1 e1 ae h1 S1) λds ts h2 bn e2 a2 S2 r2=>?_
    try dsimp only
    split
    ·rename_i v vs q1 q2
     obtain⟨r1',hn⟩:=r1.drop
     by_cases hv:dN v=true
     ·rw[if_pos hv]
      exact BvR.po S2 (Nat.le_trans hl (Nat.le_trans a1.len a2.len)) (hm _ _ _ _ _ _ ((r1'.stp S1 a2 hn).sh S2 q1) hv (TsR.sh S2 r2 q2))
     ·rw[if_neg hv];trivial
    ·trivial
   ·rw[if_neg hq];trivial
  ·rename_i hL
   by_cases hq:(rs e1 t).map dN=some true
   ·obtain⟨v,z1,z2⟩:=Option.map_eq_some_iff.mp hq
    exact absurd (ub (r1.sh S1 z1) z2) hL
   ·rw[if_neg hq];trivial
end L3
namespace L3
open PySem PySem.Spec PyProof.Rows L2
def aI (f:Int->Int->Val):Val->Val->Bv:=λx y=>match x,y with
 | .int i,.int j=>.val (f i j)
 | _,_=>.stuck
open Classical in
def aIc (C:Int->Int->Prop) (f:Int->Int->Val):Val->Val->Bv:=λx y=>match x,y with
 | .int i,.int j=>if C i j then .val (f i j) else .stuck
 | _,_=>.stuck
def oI:Val->Val->Bv:=λx y=>match x,y with
 | .lst xs,.lst ys=>if xs.length + ys.length<=16777216 then .new (.lst (xs++ys)) else .stuck
 | .tup xs,.tup ys=>if xs.length + ys.length<=16777216 then .val (.tup (xs++ys)) else .stuck
 | _,_=>.stuck
def uO:Val->Val->Bv:=λx y=>match x,y with
 | .int i,.int j=>.val (.int (i + j))
 | x,y=>oI x y
def aMin:=aI λi j=>.int (i - j)
def oQ:=aIc CMulA λi j=>.int (i * j)
def oA:=aIc CDivB λi j=>.int (i.fdiv j)
def pJ:=aIc (λ_ j=>j ≠ 0) λi j=>.int (i.fmod j)
def pK:=aIc j7 λi j=>.int (i ^ j.toNat)
def aLt:=aI λi j=>.bl (decide (i < j))
def aGt:=aI λi j=>.bl (decide (j < i))
def aGe:=aI λi j=>.bl (decide (j<=i))
def aIx:Val->Val->Bv:=λx y=>match x.items,y with
 | some xs,.int i=>(match atI xs i with
  | some v=>.val v
  | none=>.stuck)
 | _,_=>.stuck
section
theorem oM {f2:Int->Int->D}{f3:Int->Int->Val} (hr:∀ i j P h,Rd P h (f2 i j) (f3 i j)):RO (gI f2) (aI f3):=λP h d1 d2 v1 v2 r1 r2=>by
 unfold aI
 split
 ·obtain rfl:=r1.int;obtain rfl:=r2.int;exact⟨_,rfl,hr _ _ P h⟩
 ·trivial
theorem kZ {C:Int->Int->Prop}{f2:Int->Int->D}{f3:Int->Int->Val} (hr:∀ i j P h,Rd P h (f2 i j) (f3 i j)):RO (gIc C f2) (aIc C f3):=λP h d1 d2 v1 v2 r1 r2=>by
 unfold aIc
 split
 ·obtain rfl:=r1.int;obtain rfl:=r2.int
  split
  ·rename_i hc;exact⟨_,by unfold gIc;dsimp only;rw[if_pos hc],hr _ _ P h⟩
  ·trivial
 ·trivial
theorem Aa:RO iN oI:=λP h d1 d2 v1 v2 r1 r2=>by
 unfold oI
 split
 ·obtain⟨n,ds,rfl,e1,_,q1⟩:=r1.lst
  obtain⟨m,es,rfl,e2,_,q2⟩:=r2.lst
  split
  ·rename_i hl
   exact⟨.lst (ds++es),by unfold iN;dsimp only;rw[e1,e2];dsimp only;rw[if_pos (by rw[q1.len,q2.len];exact hl)],trivial,.lst (q1.append q2)⟩
  ·trivial
 ·obtain⟨ds,rfl,q1⟩:=r1.tup
  obtain⟨es,rfl,q2⟩:=r2.tup
  split
  ·rename_i hl
   exact⟨_,by unfold iN;dsimp only;rw[if_pos (by rw[q1.len,q2.len];exact hl)],.tup (q1.append q2)⟩
  ·trivial
 ·trivial
theorem yD:RO pf uO:=λP h d1 d2 v1 v2 r1 r2=>by
 unfold uO
 split
 ·obtain rfl:=r1.int;obtain rfl:=r2.int;exact⟨_,rfl,.int _⟩
 ·rename_i hn
  have k:=Aa P h d1 d2 v1 v2 r1 r2
  have e:pf d1 d2 h=iN d1 d2 h\/oI v1 v2=.stuck:=by
   cases v1 <;> first | (right;rfl) | (left;skip)
   ·obtain⟨ds,rfl,_⟩:=r1.tup;rfl
   ·obtain⟨n,ds,rfl,_⟩:=r1.lst;rfl
  rcases e with e | e
  ·rw[e];exact k
  ·rw[e];trivial
theorem zx:RO sO aMin:=oM λ_ _ _ _=>.int _
theorem yP:RO u4 oQ:=kZ λ_ _ _ _=>.int _
theorem zA:RO sg oA:=kZ λ_ _ _ _=>.int _
theorem z8:RO uA pJ:=kZ λ_ _ _ _=>.int _
theorem AV:RO tK pK:=kZ λ_ _ _ _=>.int _
theorem Dq:RO gLt aLt:=oM λ_ _ _ _=>.bl _
theorem Co:RO gGt aGt:=oM λ_ _ _ _=>.bl _
theorem Dn:RO gGe aGe:=oM λ_ _ _ _=>.bl _
theorem CH {P:Nat->Prop}{h:AH}{ds:List D}{vs:List Val} (r:Rds P h ds vs) {i:Int}{v:Val} (e:atI vs i=some v):∃ d,atI ds i=some d/\Rd P h d v:=by
 unfold atI at e ⊢
 rw[r.len]
 cases q:ixN vs.length i with
 | none=>rw[q] at e;cases e
 | some j=>rw[q] at e;exact r.get e
theorem Cz:RO gIx aIx:=λP h d1 d2 v1 v2 r1 r2=>by
 unfold aIx
 split
 ·rename_i xs i e1
  obtain⟨ds,e2,q⟩:=r1.items e1
  obtain rfl:=r2.int
  split
  ·rename_i v e3
   obtain⟨d,e4,q2⟩:=CH q e3
   exact⟨d,by unfold gIx;rw[e2];dsimp only;rw[e4],q2⟩
  ·trivial
 ·trivial
end
mutual
def bV:Nat->Val->Option PyData
 | 0,_=>none
 | _ + 1,.non=>some .none
 | _ + 1,.bl b=>some (.bool b)
 | _ + 1,.int i=>some (.int i)
 | _ + 1,.str x=>some (.str x)
 | k + 1,.tup xs=>(cW k xs).map .tuple
 | k + 1,.lst xs=>(cW k xs).map .list
 | _ + 1,_=>none
def cW:Nat->List Val->Option (List PyData)
 | _,[]=>some []
 | k,x :: xs=>match bV k x,cW k xs with
  | some a,some b=>some (a :: b)
  | _,_=>none
end
theorem uM {P:Nat->Prop}{h:AH}{k:Nat} (hk:∀ d v pd,Rd P h d v->bV k v=some pd->cC k h d=some pd):∀ {ds:List D}{vs:List Val}{ps:List PyData},Rds P h ds vs->cW k vs=some ps->ds.mapM (cC k h)=some ps:=by
 intro ds
 induction ds with
 |
  nil=>
  intro vs ps r q
  cases r
  unfold cW at q
  cases q
  rfl
 |
  cons d0 ds ih=>
  intro vs ps r q
  cases r with
  |
   cons r rr=>
   unfold cW at q
   split at q
   ·rename_i a b e1 e2
    cases q
    rw[List.mapM_cons,hk _ _ _ r e1,ih rr e2];rfl
   ·cases q
theorem jS {P:Nat->Prop}{h:AH}:∀ (k:Nat) (d:D) (v:Val) (pd:PyData),ShR P h d v->bV k v=some pd->cC k h d=some pd
 | 0,_,_,_,_,q=>by unfold bV at q;cases q
 |
  k + 1,d,v,pd,r,q=>by
  have ih:∀ {ds:List D}{vs:List Val}{ps:List PyData},Rds P h ds vs->cW k vs=some ps->ds.mapM (cC k h)=some ps:=uM λd v pd r q=>jS k d v pd (.inl r) q
  cases v with
  | non=>obtain rfl:=r.non;simp only[bV] at q;cases q;rfl
  | bl b=>obtain rfl:=r.bl;simp only[bV] at q;cases q;rfl
  | int b=>obtain rfl:=r.int;simp only[bV] at q;cases q;rfl
  | str b=>obtain rfl:=r.str;simp only[bV] at q;cases q;rfl
  |
   tup xs=>
   obtain⟨ds,rfl,r2⟩:=r.tup
   simp only[bV] at q
   obtain⟨ps,q1,rfl⟩:=Option.map_eq_some_iff.mp q
   show (ds.mapM (cC k h)).map PyData.tuple=_
   rw[ih r2 q1];rfl
  |
   lst xs=>
   obtain⟨n,ds,rfl,_,e1,r2⟩:=r.lst
   simp only[bV] at q
   obtain⟨ps,q1,rfl⟩:=Option.map_eq_some_iff.mp q
   unfold cC
   rw[e1]
   show (ds.mapM (cC k h)).map PyData.list=_
   rw[ih r2 q1];rfl
  | _=>simp only[bV] at q;cases q
def bW (x y:Val):Option Bool:=match bV 64 x,bV 64 y with
 | some a,some b=>if SeqAt.shaped a=true/\SeqAt.shaped b=true then some (PyData.eqv a b) else none
 | _,_=>none
def aEq (neg:Bool):Val->Val->Bv:=λx y=>match bW x y with
 | some b=>.val (.bl (if neg then !b else b))
 | none=>.stuck
theorem pV {P:Nat->Prop}{h:AH}{d1 d2:D}{v1 v2:Val}{b:Bool} (r1:ShR P h d1 v1) (r2:ShR P h d2 v2) (q:bW v1 v2=some b):gJ h d1 d2=some b:=by
 unfold bW at q
 split at q
 ·rename_i a c e1 e2
  unfold gJ
  rw[jS 64 _ _ _ r1 e1,jS 64 _ _ _ r2 e2]
  exact q
 ·cases q
theorem vz (neg:Bool):RO (gEq neg) (aEq neg):=λP h d1 d2 v1 v2 r1 r2=>by
 unfold aEq
 split
 ·rename_i b q
  exact⟨_,by unfold gEq;rw[pV r1 r2 q],.bl _⟩
 ·trivial
def jr:Val->Bool
 | .non=>true
 | .bl _=>true
 | .int _=>true
 | .str _=>true
 | _=>false
def oz:Val->V
 | .bl b=>.bl b
 | .int i=>.int i
 | .str x=>.str x
 | _=>.non
def eq1 (x y:Val):Bool:=eqV (oz x) (oz y)
def aIn (neg:Bool):Val->Val->Bv:=λx y=>match y.items with
 | some xs=>if jr x=true/\xs.all jr=true then .val (.bl (if neg then !(xs.any λd=>eq1 d x) else xs.any λd=>eq1 d x)) else .stuck
 | none=>.stuck
theorem m6 {P:Nat->Prop}{h:AH}{d:D}{v:Val} (r:ShR P h d v) (f:jr v=true):ig d=true/\toV d=oz v:=by
 cases v with
 | non=>obtain rfl:=r.non;exact⟨rfl,rfl⟩
 | bl b=>obtain rfl:=r.bl;exact⟨rfl,rfl⟩
 | int b=>obtain rfl:=r.int;exact⟨rfl,rfl⟩
 | str b=>obtain rfl:=r.str;exact⟨rfl,rfl⟩
 | _=>cases f
theorem tW {P:Nat->Prop}{h:AH} (x:D) (y:Val) (hx:toV x=oz y):∀ {ds:List D}{vs:List Val},Rds P h ds vs->vs.all jr=true->ds.all ig=true/\(ds.any λd=>eqF d x)=vs.any λd=>eq1 d y:=by
 intro ds
 induction ds with
 |
  nil=>
  intro vs r f
  cases r
  exact⟨rfl,rfl⟩
 |
  cons d0 ds ih=>
  intro vs r f
  cases r with
  |
   cons r rr=>
   rw[List.all_cons,Bool.and_eq_true] at f
   obtain⟨h1,h2⟩:=m6 (.inl r) f.1
   obtain⟨h3,h4⟩:=ih rr f.2
   refine⟨by rw[List.all_cons,h1,h3];rfl,?_⟩
   rw[List.any_cons,List.any_cons,h4]
   unfold eqF eq1
   rw[h2,hx]
theorem Cn (neg:Bool):RO (gIn neg) (aIn neg):=λP h d1 d2 v1 v2 r1 r2=>by
 unfold aIn
 split
 ·rename_i xs e
  obtain⟨ds,e2,q⟩:=r2.items e
  split
  ·rename_i hf
   obtain⟨f1,f2⟩:=m6 r1 hf.1
   obtain⟨f3,f4⟩:=tW d1 v1 f2 q hf.2
   exact⟨_,by unfold gIn;rw[e2];dsimp only;rw[if_pos ⟨f1,f3⟩,f4],.bl _⟩
  ·trivial
 ·trivial
def ou (neg:Bool):Val->Val->Bv:=λx y=>match x,y with
 | .non,.non=>.val (.bl (!neg))
 | _,.non=>.val (.bl neg)
 | _,_=>.stuck
theorem pP (neg:Bool):RO (gX neg) (ou neg):=λP h d1 d2 v1 v2 r1 r2=>by
 unfold ou
 split
 ·obtain rfl:=r1.non;obtain rfl:=r2.non;exact⟨_,rfl,.bl _⟩
 ·rename_i hn
  obtain rfl:=r2.non
  have:d1 ≠ .non:=by
   rintro rfl
   rcases r1 with r | ⟨n,o,z,_⟩
   ·cases r;exact hn rfl
   ·cases z
  refine⟨_,?_,.bl neg⟩
  unfold gX
  split
  ·exact absurd rfl this
  ·rfl
  ·rename_i h1 h2;exact (h1 rfl).elim
 ·trivial
def u3:List Val->Bv:=λvs=>match vs with
 | [v]=>(match v.items with
  | some xs=>.val (.int xs.length)
  | none=>(match v with
   | .str z=>if z.length<=16777216 then .val (.int z.length) else .stuck
   | _=>.stuck))
 | _=>.stuck
def pb:List Val->Bv:=λvs=>match vs with
 | [.int i,.int j]=>.val (.int (if j > i then j else i))
 | _=>.stuck
def oX:List Val->Bv:=λvs=>match vs with
 | [.int i,.int j]=>.val (.int (if j < i then j else i))
 | _=>.stuck
def lF:List Val->Bv:=λvs=>match vs with
 | [v]=>(match v.items with
  | some xs=>.val (.tup xs)
  | none=>.stuck)
 | _=>.stuck
def uh:List Val->Bv:=λvs=>match vs with
 | [.int i]=>.val (.int i)
 | [.bl b]=>.val (.int (if b then 1 else 0))
 | _=>.stuck
theorem yw:RFn mG u3:=λP h ds vs r=>by
 unfold u3
 split
 ·obtain⟨d,hd,rr1⟩:=gv r;subst hd;clear r;have r:=rr1
  split
  ·rename_i xs e
   obtain⟨es,e2,q⟩:=r.items e
   exact⟨_,by unfold mG;dsimp only;rw[e2],by rw[<- q.len];exact .int _⟩
  ·split
   ·rename_i z _
    obtain rfl:=r.str
    split
    ·rename_i hl;exact⟨_,by show (if z.length<=16777216 then _ else _)=_;rw[if_pos hl],.int _⟩
    ·trivial
   ·trivial
 ·trivial
theorem w6:RFn kS pb:=λP h ds vs r=>by
 unfold pb
 split
 ·obtain⟨d,d',hd,rr1,r'⟩:=o1 r;subst hd;clear r;have r:=rr1;obtain rfl:=r.int;obtain rfl:=r'.int;exact⟨_,rfl,.int _⟩
 ·trivial
theorem xn:RFn lb oX:=λP h ds vs r=>by
 unfold oX
 split
 ·obtain⟨d,d',hd,rr1,r'⟩:=o1 r;subst hd;clear r;have r:=rr1;obtain rfl:=r.int;obtain rfl:=r'.int;exact⟨_,rfl,.int _⟩
 ·trivial
theorem tM:RFn gP lF:=λP h ds vs r=>by
 unfold lF
 split
 ·obtain⟨d,hd,rr1⟩:=gv r;subst hd;clear r;have r:=rr1
  split
  ·rename_i xs e
   obtain⟨es,e2,q⟩:=r.items e
   exact⟨_,by unfold gP;dsimp only;rw[e2],.tup q⟩
  ·trivial
 ·trivial
theorem Bc:RFn o4 uh:=λP h ds vs r=>by
 unfold uh
 split
 ·obtain⟨d,hd,rr1⟩:=gv r;subst hd;clear r;have r:=rr1;obtain rfl:=r.int;exact⟨_,rfl,.int _⟩
 ·obtain⟨d,hd,rr1⟩:=gv r;subst hd;clear r;have r:=rr1;obtain rfl:=r.bl;exact⟨_,rfl,.int _⟩
 ·trivial
def tyC:Val->Option Cl
 | .non=>some (.b "NoneType")
 | .bl _=>some (.b "bool")
 | .int _=>some (.b "int")
 | .str _=>some (.b "str")
 | .tup _=>some (.b "tuple")
 | .exc x=>some (.o x)
 | .lst _=>some (.b "list")
 | .dct _=>some (.b "dict")
 | _=>none
def clV:Val->Option Cl
 | .ty n=>some (.b n)
 | .glb x=>some (.o x)
 | _=>none
def o8:List Val->Option (List Cl)
 | []=>some []
 | v :: vs=>match clV v,o8 vs with
  | some c,some cs=>some (c :: cs)
  | _,_=>none
def Dp:Val->Option (List Cl)
 | .tup cs=>o8 cs
 | v=>(clV v).map ([·])
def sE (kt:dG):List Val->Bv:=λvs=>match vs with
 | [v,c]=>(match tyC v,Dp c with
  | some t,some (c0 :: cr)=>(match dX kt t (c0 :: cr),kit kt t c0 with
   | some b,some _=>.val (.bl b)
   | _,_=>.stuck)
  | _,_=>.stuck)
 | _=>.stuck
theorem Dh {P:Nat->Prop}{h:AH}{d:D}{v:Val}{t:Cl} (r:ShR P h d v) (q:tyC v=some t):tyD h d=some t:=by
 cases v with
 | non=>obtain rfl:=r.non;exact q
 | bl b=>obtain rfl:=r.bl;exact q
 | int b=>obtain rfl:=r.int;exact q
 | str b=>obtain rfl:=r.str;exact q
 | exc b=>obtain rfl:=r.exc;exact q
 | tup b=>obtain⟨ds,rfl,_⟩:=r.tup;exact q
 | lst b=>obtain⟨n,ds,rfl,e,_⟩:=r.lst;unfold tyD;dsimp only;rw[e];exact q
 | dct b=>obtain⟨n,ds,rfl,e,_⟩:=r.dct;unfold tyD;dsimp only;rw[e];exact q
 | _=>cases q
theorem vf {P:Nat->Prop}{h:AH}{d:D}{v:Val}{c:Cl} (r:ShR P h d v) (q:clV v=some c):clD d=some c:=by
 cases v with
 | ty b=>obtain rfl:=r.ty;exact q
 | glb b=>obtain rfl:=r.glb;exact q
 | _=>cases q
theorem Aj {P:Nat->Prop}{h:AH}:∀ {ds:List D}{vs:List Val}{cs:List Cl},Rds P h ds vs->o8 vs=some cs->ds.mapM clD=some cs:=by
 intro ds
 induction ds with
 |
  nil=>
  intro vs cs r q
  cases r
  cases q
  rfl
 |
  cons d0 ds ih=>
  intro vs cs r q
  cases r with
  |
   cons r rr=>
   unfold o8 at q
   split at q
   ·rename_i c cs' e1 e2
    cases q
    rw[List.mapM_cons,vf (.inl r) e1,ih rr e2];rfl
   ·cases q
theorem zP (kt:dG):RFn (mO kt) (sE kt):=λP h ds vs r=>by
 unfold sE
 split
 ·rename_i v c
  obtain⟨d,d',rfl,r1,r2⟩:=o1 r
  split
  ·rename_i t c0 cr e1 e2
   have e3:=Dh r1 e1
   split
   ·rename_i b b' e4 e5
    refine⟨.bl b,?_,.bl b⟩
    unfold mO
    dsimp only
    rw[e3]
    dsimp only
    by_cases ht:∃ cs,c=.tup cs
    ·obtain⟨cs,rfl⟩:=ht
     obtain⟨es,rfl,q⟩:=r2.tup
     dsimp only
     rw[Aj q e2]
     dsimp only
     rw[e4,e5]
    ·have e2':(clV c).map ([·])=some (c0 :: cr):=by
      cases c with
      | tup cs=>exact absurd ⟨cs,rfl⟩ ht
      | _=>exact e2
     obtain⟨cl,y1,y2⟩:=Option.map_eq_some_iff.mp e2'
     cases y2
     have y3:=vf r2 y1
     have hd:∀ cs,d' ≠ .tup cs:=λcs z=>by subst z;cases y3
     split
     ·rename_i cs;exact absurd rfl (hd cs)
     ·rw[y3]
      dsimp only
      have:kit kt t c0=some b:=by
       unfold dX at e4
       rw[e5] at e4 ⊢
       cases b' with
       | true=>exact e4
       | false=>unfold dX at e4;exact e4
      rw[this]
   ·trivial
  ·trivial
 ·trivial
def eg (xs:List Val) (lo hi:Option Int):List Val:=(xs.drop (HT.sIx xs.length 0 lo)).take (HT.sIx xs.length xs.length hi - HT.sIx xs.length 0 lo)
abbrev MO3:=E3->R3 (Option Int)
def tQ (_:Ns) (_:E3) (_:AH) (b c:Option Int):Prop:=b=c
def ROp (F:MO) (G:MO3):Prop:=∀ X h0 ns e ae h,Sat X h0 ns e ae h->Po X h0 ns e ae h tQ (F ae h) (G e)
def rT:MO3:=λe=>.ok none e
def qu (F:ME3):MO3:=λe=>(F e).bind λt e1=>match rs e1 t with
 | some (.int i)=>.ok (some i) e1
 | _=>.stuck
def aSl (x:Val) (lo hi:Option Int):Bv:=match x with
 | .tup xs=>if HT.sIx xs.length 0 lo=0/\HT.sIx xs.length xs.length hi=xs.length then .stuck else .val (.tup (eg xs lo hi))
 | .lst xs=>.new (.lst (eg xs lo hi))
 | .kl xs=>.new (.lst (eg xs lo hi))
 | _=>.stuck
def vSl (F:ME3) (L U:MO3):ME3:=λe=>(F e).bind λt e1=>(L e1).bind λlo e2=>(U e2).bind λhi e3=>match rs e3 t.drop with
 | some v=>(aSl v lo hi).at e3
 | none=>.stuck
theorem vR:ROp oi rT:=λX h0 ns e ae h S=>Po.ret S rfl
theorem xg {F:ME}{F3:ME3} (hF:RE F F3):ROp (n6 F) (qu F3):=λX h0 ns e ae h S=>
 Po.bind S (hF X h0 0 ns e ae h S (Nat.zero_le _)) λd t h1 ns1 e1 a1 S1 r1=>by
  by_cases hq:∃ i,rs e1 t=some (.int i)
  ·obtain⟨i,hq⟩:=hq
   have hd:=(r1.sh S1 hq).int
   subst hd
   show Po X h0 ns1 e1 ae h1 tQ (R.ok (some i) h1) (match rs e1 t with | some (.int i)=>R3.ok (some i) e1 | _=>.stuck)
   rw[hq]
   exact Po.ret S1 rfl
  ·have:(match rs e1 t with | some (.int i)=>R3.ok (some i) e1 | _=>.stuck)=(.stuck:R3 (Option Int)):=by
    split
    ·rename_i i q;exact absurd ⟨i,q⟩ hq
    ·rfl
   show Po X h0 ns1 e1 ae h1 tQ _ (match rs e1 t with | some (.int i)=>R3.ok (some i) e1 | _=>.stuck)
   rw[this];trivial
theorem Cr {F:ME}{F3:ME3}{L U:MO}{L3' U3:MO3} (hF:RE F F3) (hL:ROp L L3') (hU:ROp U U3):RE (eSl F L U) (vSl F3 L3' U3):=λX h0 LL ns e ae h S hl=>
 Po.bind
  S (hF X h0 LL ns e ae h S hl) λd t h1 ns1 e1 a1 S1 r1=>Po.bind S1 (hL X h0 ns1 e1 ae h1 S1) λlo lo' h2 bn e2 a2 S2 r2=>Po.bind S2 (hU X h0 bn e2 ae h2 S2) λhi hi' h3 ns3 e3 a3 S3 r3=>by
  cases r2;cases r3
  obtain⟨r1',hn⟩:=r1.drop
  have r4:=(r1'.stp S1 a2 hn).stp S2 a3 hn
  try dsimp only
  split
  ·rename_i v q
   have rr:=r4.sh S3 q
   refine BvR.po S3 (Nat.le_trans hl (Nat.le_trans a1.len (Nat.le_trans a2.len a3.len))) ?_
   unfold aSl
   split
   ·rename_i xs
    obtain⟨ds,rfl,q1⟩:=rr.tup
    split
    ·trivial
    ·rename_i hne
     refine⟨_,by unfold gSl;dsimp only;rw[if_neg (by rw[q1.len];exact hne)],.tup ?_⟩
     unfold L2.cutD eg
     rw[q1.len]
     exact (q1.drop _).take _
   ·rename_i xs
    obtain⟨n,ds,rfl,_,e1,q1⟩:=rr.lst
    refine⟨.lst (L2.cutD ds lo hi),by unfold gSl;dsimp only;rw[e1],trivial,.lst ?_⟩
    unfold L2.cutD eg
    rw[q1.len]
    exact (q1.drop _).take _
   ·rename_i xs
    have key:∃ ds,gSl d lo hi h3=.ok (.ref h3.length) (h3++[.lst (L2.cutD ds lo hi)])/\Rds (Oc X ns3) h3 ds xs:=by
     rcases rr with rr | ⟨n,o,rfl,e,rr⟩
     ·cases rr with
      | kl q1=>exact⟨_,rfl,q1⟩
      | cell p e rc=>cases rc with | fz q1=>exact⟨_,by unfold gSl aO;dsimp only;rw[e],q1⟩
     ·cases rr with | fz q1=>exact⟨_,by unfold gSl aO;dsimp only;rw[e],q1⟩
    obtain⟨ds,e1,q1⟩:=key
    refine⟨.lst (L2.cutD ds lo hi),e1,trivial,.lst ?_⟩
    unfold L2.cutD eg
    rw[q1.len]
    exact (q1.drop _).take _
   ·trivial
  ·trivial
section
variable {P:Nat->Prop}{h:AH}
theorem vF {n:Nat}{o:Ob}{xs:List Val} (e:h[n]?=some o) (r:Rc P h o (.lst xs)):gj h (.ref n)=true/\∃ ds,h[n]?=some (.lst ds)/\Rds P h ds xs/\∀ f,gf h (.ref n) f=f n ds:=by
 obtain⟨ds,e1,e2,q⟩:=Rc.seq e r
 refine⟨by show (aO h n).isSome=true;rw[e2];rfl,ds,e1,q,λf=>?_⟩
 unfold gf;dsimp only;rw[e1]
theorem rds1 {ds:List D}{v:Val} (r:Rds P h ds [v]):∃ d,ds=[d]/\Rd P h d v:=by
 cases r with | cons r rr=>cases rr;exact⟨_,rfl,r⟩
end
def sL:Val->Val->Val->Option Val:=λu i v=>match u,i with
 | .lst xs,.int k=>(match ixN xs.length k with
  | some j=>some (.lst (xs.set j v))
  | none=>none)
 | _,_=>none
theorem Ag:se wL sL:=λP h n o u di vi d v u' _ e hf r ri rd q=>by
 unfold sL at q
 split at q
 ·split at q
  ·rename_i j hj
   cases q
   obtain⟨q1,es,q2,q3,q4⟩:=vF e r
   obtain rfl:=ri.int
   refine⟨.lst (es.set j d),?_,trivial,.lst (q3.set rd j)⟩
   unfold wL;dsimp only;rw[q2];dsimp only;rw[q3.len,hj]
  ·cases q
 ·cases q
def jY (d:Val):List Val->Option (List Bool)
 | []=>some []
 | x :: r=>match bW x d,jY d r with
  | some b,some bs=>some (b :: bs)
  | _,_=>none
def fQ:Val->List Val->Bv:=λx vs=>match x,vs with
 | .lst xs,[d]=>(match jY d xs with
  | some bs=>if bs.idxOf true < bs.length then .val (.int (bs.idxOf true:Nat)) else .stuck
  | none=>.stuck)
 | _,_=>.stuck
theorem Bu {P:Nat->Prop}{h:AH}{d:D}{v:Val} (rd:ShR P h d v):∀ {ds:List D}{vs:List Val}{bs:List Bool},Rds P h ds vs->jY v vs=some bs->ek h d ds=some bs:=by
 intro ds
 induction ds with
 |
  nil=>
  intro vs bs r q
  cases r
  cases q
  rfl
 |
  cons d0 ds ih=>
  intro vs bs r q
  cases r with
  |
   cons r rr=>
   unfold jY at q
   split at q
   ·rename_i b bs' e1 e2
    cases q
    unfold ek
    rw[pV (.inl r) rd e1,ih rr e2]
   ·cases q
theorem rM:RMv ia fQ:=λP h d v ds vs r hv rs=>by
 unfold fQ
 split
 ·rename_i xs w
  obtain⟨n,es,rfl,_,e1,q⟩:=r.lst
  obtain⟨d',rfl,r'⟩:=gv rs
  split
  ·rename_i bs eb
   split
   ·rename_i hl
    refine⟨_,?_,.int _⟩
    unfold ia
    dsimp only
    rw[e1]
    show (match ek h d' es with | some bs=>_ | none=>_)=_
    rw[Bu r' q eb]
    dsimp only
    rw[if_pos hl]
   ·trivial
  ·trivial
 ·trivial
end L3
namespace L3
open PySem PySem.Spec PyProof.Rows L2
structure PEx where
 F:ME
 G:ME3
 ok:RE F G
structure PTs where
 F:MT
 G:MT3
 ok:RT F G
structure PAs where
 F:MA
 G:MA3
 ok:RA F G
structure PSt where
 F:MS
 G:MS3
 ok:RS F G
structure PGt where
 F:MG
 G:MG3
 ok:RG F G
structure PGs where
 F:MGs
 G:gY
 ok:RGs F G
structure PIt where
 F:MI
 G:MI3
 ok:RI F G
structure POp where
 F:MO
 G:MO3
 ok:ROp F G
structure PO2 where
 F:D->D->AH->R D
 G:Val->Val->Bv
 ok:RO F G
structure PU1 where
 F:D->AH->R D
 G:Val->Bv
 ok:RU F G
structure PBf where
 F:Fn
 G:List Val->Bv
 ok:RFn F G
structure PMm where
 F:D->List D->AH->R D
 G:Val->List Val->Option (Val×Val)
 ok:RM F G
structure PMv where
 F:D->List D->AH->R D
 G:Val->List Val->Bv
 ok:RMv F G
structure PSe where
 F:D->D->D->AH->R Unit
 G:Val->Val->Val->Option Val
 ok:se F G
structure PFn where
 ms:List Bool
 F:Fn
 G:Fn3
 ok:RF ms F G
structure PFx (ms:List Bool) where
 F:Fn
 G:Fn3
 ok:RF ms F G
noncomputable section
def PFx.fn {ms:List Bool} (p:PFx ms):PFn:=⟨ms,p.F,p.G,p.ok⟩
def ag (i:Nat):PEx:=⟨aT i,uD i,za i⟩
def ar (i:Int):PEx:=⟨eC (.int i),vC (.int i),lW λ_ _=>.int i⟩
def pBl (i:Bool):PEx:=⟨eC (.bl i),vC (.bl i),lW λ_ _=>.bl i⟩
def bU (i:Str):PEx:=⟨eC (.str i),vC (.str i),lW λ_ _=>.str i⟩
def iL:PEx:=⟨eC .non,vC .non,lW λ_ _=>.non⟩
def pTy (i:String):PEx:=⟨eC (.ty i),vC (.ty i),lW λ_ _=>.ty i⟩
def pOp (o:PO2) (a b:PEx):PEx:=⟨eOp o.F a.F b.F,vOp o.G a.G b.G,BF o.ok a.ok b.ok⟩
def aq:PAs:=⟨dF,vNil,zh⟩
def ah (a:PEx) (r:PAs):PAs:=⟨cE a.F r.F,vy a.G r.G,wB a.ok r.ok⟩
def pFn (o:PBf) (a:PAs):PEx:=⟨eFn o.F a.F,vFn o.G a.G,Cy o.ok a.ok⟩
def ft (a:PAs):PEx:=⟨eFn jC a.F,vTup a.G,zC a.ok⟩
def cD (a:PAs):PEx:=⟨eFn bp a.F,vLst a.G,zg a.ok⟩
def pIf (c:PTs) (a b:PEx):PEx:=⟨eIf c.F a.F b.F,vIf c.G a.G b.G,Cp c.ok a.ok b.ok⟩
def qOf (a:PEx):PTs:=⟨tOf a.F,cOf a.G,B9 a.ok⟩
def qTr (a:PEx):PTs:=⟨tTr a.F,cTr a.G,Cv a.ok⟩
def qAn (a b:PTs):PTs:=⟨tAn a.F b.F,cAn a.G b.G,B5 a.ok b.ok⟩
def qO (a b:PTs):PTs:=⟨tO a.F b.F,cO a.G b.G,rt_o a.ok b.ok⟩
def qNo (a:PTs):PTs:=⟨tNo a.F,cNo a.G,Dk a.ok⟩
def qY:PTs:=⟨tY,cY,rt_y⟩
def xNx:PSt:=⟨sNx,wNx,BA⟩
def bI (a:PEx):PSt:=⟨uw a.F,wRet a.G,Au a.ok⟩
def o5 (a:PEx):PSt:=⟨er a.F,vh a.G,xx a.ok⟩
def aH (a b:PSt):PSt:=⟨eT a.F b.F,wSeq a.G b.G,AJ a.ok b.ok⟩
def xIf (c:PTs) (a b:PSt):PSt:=⟨sIf c.F a.F b.F,wIf c.G a.G b.G,BP c.ok a.ok b.ok⟩
def bg (o:Bool) (i:Nat) (a:PEx):PSt:=⟨fD a.F (gN i),wAsg o i a.G,zX o i a.ok⟩
def gtN (i:Nat):PGt:=⟨gN i,pN i,oJ i⟩
def ib:PGs:=⟨gsN,psN,B0⟩
def dw (a:PGt) (b:PGs):PGs:=⟨gsC a.F b.F,psC a.G b.G,Cd a.ok b.ok⟩
def gtT (n:Nat) (a:PGs):PGt:=⟨gT λds ae h=>if ds.length=n then a.F ds ae h else .stuck,pT n a.G,rg_t n a.ok⟩
def gtX (a:PGt):PGt:=⟨λd ae h=>noX (a.F d ae h),a.G,Ad a.ok⟩
def ph (i j:Nat) (a:PAs):PSt:=⟨uE i j a.F,wPar i j a.G,zO i j a.ok⟩
def mJ (c:Str) (a:PAs):PSt:=⟨mz c a.F,rG c a.G,sS c a.ok⟩
def pB (i:Nat) (w:PSe) (k a:PEx):PSt:=⟨fD a.F (gS (aT i) k.F w.F),wSet i k.G a.G w.G,zH i w.ok k.ok a.ok⟩
def uN (i:Nat) (m:PMm) (a:PAs):PEx:=⟨eM m.F (aT i) a.F,tT i m.G a.G,Aw i m.ok a.ok⟩
def kR (m:PMv) (a:PEx) (b:PAs):PEx:=⟨eM m.F a.F b.F,vx m.G a.G b.G,vT m.ok a.ok b.ok⟩
def cn (a:PEx):PIt:=⟨tf a.F,vN a.G,yq a.ok⟩
def eU (a:PAs):PIt:=⟨sA a.F,tR d9 a.G,Ae a.ok⟩
def oH (a:PAs):PIt:=⟨ud a.F,vD a.G,Ar a.ok⟩
def iJ (i:PIt) (g:PGt) (b:PSt):PSt:=⟨jT i.F g.F b.F,wFor i.G g.G b.G,yO i.ok g.ok b.ok⟩
def xWh (c:PTs) (b:PSt):PSt:=⟨sWh c.F b.F,wWh c.G b.G,BJ c.ok b.ok⟩
def pLC (i:PIt) (sub:List (Option Nat)) (hs:(sub.filterMap id).Nodup) (g:PGt) (c:PTs) (a:PEx):PEx:=⟨eLC i.F sub g.F c.F a.F,vLC i.G sub g.G c.G a.G,C3 hs i.ok g.ok c.ok a.ok⟩
def aF (f:PFn) (a:PAs):PEx:=⟨oE f.ms.length f.F a.F,vm f.ms f.G a.G,yb rfl f.ok a.ok⟩
def oN:POp:=⟨oi,rT,vR⟩
def oS (a:PEx):POp:=⟨n6 a.F,qu a.G,xg a.ok⟩
def pSl (a:PEx) (l u:POp):PEx:=⟨eSl a.F l.F u.F,vSl a.G l.G u.G,Cr a.ok l.ok u.ok⟩
def PFx.none (ms:List Bool) (N:Nat:=0):PFx ms:=⟨λ_ _=>.stuck,λ_=>.stuck,λ_ _ _ _ _ _ _=>trivial⟩
def PFx.of (ms:List Bool) (N:Nat) (c:PSt):PFx ms:=⟨fnD N c.F,fnV ms N c.G,vt c.ok⟩
def fnP (ms:List Bool) (N:Nat) (c:PSt):PFn:=⟨ms,fnD N c.F,fnV ms N c.G,vt c.ok⟩
def b0:PO2:=⟨pf,uO,yD⟩
def va:PO2:=⟨sO,aMin,zx⟩
def dB:PO2:=⟨u4,oQ,yP⟩
def dn:PO2:=⟨sg,oA,zA⟩
def bx:PO2:=⟨uA,pJ,z8⟩
def gL:PO2:=⟨tK,pK,AV⟩
def bLt:PO2:=⟨gLt,aLt,Dq⟩
def bGt:PO2:=⟨gGt,aGt,Co⟩
def bGe:PO2:=⟨gGe,aGe,Dn⟩
def bIx:PO2:=⟨gIx,aIx,Cz⟩
def bEq:PO2:=⟨gEq false,aEq false,vz false⟩
def bNe:PO2:=⟨gEq true,aEq true,vz true⟩
def bIn:PO2:=⟨gIn false,aIn false,Cn false⟩
def bIs:PO2:=⟨gX false,ou false,pP false⟩
def pC:PO2:=⟨gX true,ou true,pP true⟩
def dA:PBf:=⟨mG,u3,yw⟩
def mK:PBf:=⟨kS,pb,w6⟩
def jm:PBf:=⟨lb,oX,xn⟩
def iB:PBf:=⟨gP,lF,tM⟩
def kY:PBf:=⟨o4,uh,Bc⟩
def dY (kt:dG):PBf:=⟨mO kt,sE kt,zP kt⟩
def fJ:PMv:=⟨ia,fQ,rM⟩
def seL:PSe:=⟨wL,sL,Ag⟩
end
theorem j6 {P:Nat->Prop}{h:AH}:∀ (ns:List Int),Rds P h (ns.map D.int) (ns.map Val.int)
 | []=>.nil
 | _ :: r=>.cons (.int _) (j6 r)
theorem law3 (p:PFn) (hm:p.ms=[false]) (hG:∀ ns:List Int,ns.length<=63->p.G [.kl (ns.map .int)]=.ok (.val (.bl true)) []) (d:D) (h:AH) (ns:List Int) (hl:ns.length<=63) (sc:Script h d ns):∃ h',p.F [d] h=.ok (.bl true) h':=by
 have hp:=p.ok
 rw[hm] at hp
 have rd:Rd (Oc (λ_=>False) [none]) h d (.kl (ns.map .int)):=by
  rcases sc.form with ⟨n,rfl,e⟩ | rfl
  ·exact .cell ⟨λz=>z,by simp⟩ e (.fz (j6 ns))
  ·exact .kl (j6 ns)
 have S:Sat (λ_=>False) h.length [none] (sls [false] [.kl (ns.map .int)]) ([d].map some) h:=by
  refine⟨rfl,rfl,Nat.le_refl _,λ_ z=>z.elim,λi j n q=>?_,λi n q z=>z,λi s q=>?_⟩
  ·cases i with
   | zero=>simp at q
   | succ i=>simp at q
  ·cases i with
   |
    zero=>
    have:sl1 false (.kl (ns.map .int))=s:=by simpa [sls] using q
    subst this
    exact⟨rfl,d,rfl,rd⟩
   | succ i=>simp [sls] at q
 have:=hp _ _ [d] [.kl (ns.map .int)] h rfl S
 rw[hG ns hl] at this
 obtain⟨d',h',e,_,_,r⟩:=this
 cases r with
 | bl=>exact⟨h',e⟩
 | cell p e r=>cases r
section
variable (e:E3)
@[simp] theorem ic {α β:Type} (a:α) (f:α->E3->R3 β):(R3.ok a e).bind f=f a e:=rfl
@[simp] theorem Cw {α:Type} (a:α) (f:α->E3->SR3):(R3.ok a e).toS f=f a e:=rfl
@[simp] theorem Cc (f:E3->SR3):(SR3.nx e).then f=f e:=rfl
@[simp] theorem BD (r:Rt) (f:E3->SR3):(SR3.rt r e).then f=.rt r e:=rfl
@[simp] theorem vE (f:E3->SR3):(SR3.nx e).loop f=f e:=rfl
@[simp] theorem vp (f:E3->SR3):(SR3.ct e).loop f=f e:=rfl
@[simp] theorem BV (r:SR3):r.unl none=r:=by cases r <;> rfl
@[simp] theorem sC:lockO e none=e:=rfl
@[simp] theorem n5:df e none=e:=rfl
@[simp] theorem yZ (v:Val):(Bv.val v).at e=.ok (.val v) e:=rfl
@[simp] theorem AK (v:Val):(Bv.new v).at e=.ok (.new v) e:=rfl
@[simp] theorem zJ (v:Val):rs e (.val v)=some v:=rfl
@[simp] theorem yC (v:Val):rs e (.new v)=some v:=rfl
@[simp] theorem yN (i:Nat):rs e (.bor i)=(e[i]?).bind Sl.val:=rfl
@[simp] theorem zf (v:Val):(Tm.val v).drop=.val v:=rfl
@[simp] theorem Be (v:Val):(Tm.new v).drop=.val v:=rfl
@[simp] theorem AM (i:Nat):(Tm.bor i).drop=.bor i:=rfl
@[simp] theorem x4:rss e []=some []:=rfl
@[simp] theorem tH (t:Tm) (ts:List Tm):rss e (t :: ts)=match rs e t,rss e ts with
 | some v,some vs=>some (v :: vs)
 | _,_=>none:=rfl
@[simp] theorem A4 (v:Val):bR e (.val v)=some (e,v):=rfl
@[simp] theorem Bm:dem e []=some (e,[]):=rfl
@[simp] theorem wN (t:Tm) (ts:List Tm):dem e (t :: ts)=match bR e t with
 | some (e1,v)=>match dem e1 ts with
  | some (e2,vs)=>some (e2,v :: vs)
  | none=>none
 | none=>none:=rfl
@[simp] theorem yr (b:Bool):bOf (some (.bl b))=some b:=rfl
@[simp] theorem Bw (i:Nat):(ag i).G e=match e[i]? with
 | some (.sh v)=>.ok (.val v) e
 | some .no=>.stuck
 | some _=>.ok (.bor i) e
 | none=>.stuck:=rfl
@[simp] theorem CW (i:Int):(ar i).G e=.ok (.val (.int i)) e:=rfl
@[simp] theorem v_bl (i:Bool):(pBl i).G e=.ok (.val (.bl i)) e:=rfl
@[simp] theorem BZ (i:Str):(bU i).G e=.ok (.val (.str i)) e:=rfl
@[simp] theorem C9:iL.G e=.ok (.val .non) e:=rfl
@[simp] theorem v_ty (i:String):(pTy i).G e=.ok (.val (.ty i)) e:=rfl
@[simp] theorem v_op (o:PO2) (a b:PEx):(pOp o a b).G e=(a.G e).bind λt1 e1=>(b.G e1).bind λt2 e2=>match rs e2 t1.drop,rs e2 t2 with
 | some v1,some v2=>(o.G v1 v2).at e2
 | _,_=>.stuck:=rfl
@[simp] theorem CA:aq.G e=.ok [] e:=rfl
@[simp] theorem yY (a:PEx) (r:PAs):(ah a r).G e=(a.G e).bind λt e1=>(r.G e1).bind λts e2=>.ok (t.drop :: ts) e2:=rfl
@[simp] theorem v_fn (o:PBf) (a:PAs):(pFn o a).G e=(a.G e).bind λts e1=>match rss e1 ts with
 | some vs=>(o.G vs).at e1
 | none=>.stuck:=rfl
@[simp] theorem BK (a:PAs):(ft a).G e=(a.G e).bind λts e1=>match dem e1 ts with
 | some (e2,vs)=>if vs.length<=16777216 then .ok (.val (.tup vs)) e2 else .stuck
 | none=>.stuck:=rfl
@[simp] theorem CG (a:PAs):(cD a).G e=(a.G e).bind λts e1=>match dem e1 ts with
 | some (e2,vs)=>if vs.length<=16777216 then .ok (.new (.lst vs)) e2 else .stuck
 | none=>.stuck:=rfl
@[simp] theorem v_if (c:PTs) (a b:PEx):(pIf c a b).G e=(c.G e).bind λk e1=>if k=true then a.G e1 else b.G e1:=rfl
@[simp] theorem c_of (a:PEx):(qOf a).G e=(a.G e).bind λt e1=>match bOf (rs e1 t) with
 | some b=>.ok b e1
 | none=>.stuck:=rfl
@[simp] theorem c_tr (a:PEx):(qTr a).G e=(a.G e).bind λt e1=>match (rs e1 t).bind o3 with
 | some b=>.ok b e1
 | none=>.stuck:=rfl
@[simp] theorem c_an (a b:PTs):(qAn a b).G e=(a.G e).bind λk e1=>if k=true then b.G e1 else .ok false e1:=rfl
@[simp] theorem c_o (a b:PTs):(qO a b).G e=(a.G e).bind λk e1=>if k=true then .ok true e1 else b.G e1:=rfl
@[simp] theorem c_no (a:PTs):(qNo a).G e=(a.G e).bind λk e1=>.ok (!k) e1:=rfl
@[simp] theorem x_nx:xNx.G e=.nx e:=rfl
@[simp] theorem Cm (a:PEx):(bI a).G e=(a.G e).toS jW:=rfl
@[simp] theorem v7 (v:Val):jW (.val v) e=.rt (.val v) e:=rfl
@[simp] theorem xD (v:Val):jW (.new v) e=.rt (.new v) e:=rfl
@[simp] theorem xJ (i:Nat):jW (.bor i) e=match e[i]? with
 | some (.sh v)=>.rt (.val v) e
 | some (.ow v)=>.rt (.new v) (e.set i .no)
 | _=>.stuck:=rfl
@[simp] theorem y0 (a:PEx):(o5 a).G e=(a.G e).toS λ_ e1=>.nx e1:=rfl
@[simp] theorem vI (a b:PSt):(aH a b).G e=(a.G e).then b.G:=rfl
@[simp] theorem x_if (c:PTs) (a b:PSt):(xIf c a b).G e=(c.G e).toS λk e1=>if k=true then a.G e1 else b.G e1:=rfl
@[simp] theorem BM (o:Bool) (i:Nat) (a:PEx):(bg o i a).G e=(a.G e).toS (fu o i):=rfl
@[simp] theorem Ct:Sl.no.pl=true:=rfl
@[simp] theorem Ck (v:Val):(Sl.sh v).pl=true:=rfl
@[simp] theorem vV (o:Bool) (i:Nat) (v:Val):fu o i (.val v) e=match e[i]? with
 | some s0=>if s0.pl=true then .nx (e.set i (.sh v)) else .stuck
 | none=>.stuck:=by unfold fu;rfl
@[simp] theorem uf (i:Nat) (v:Val):fu true i (.new v) e=match e[i]? with
 | some s0=>if s0.pl=true then .nx (e.set i (.ow v)) else .stuck
 | none=>.stuck:=by unfold fu;rfl
@[simp] theorem ug (i:Nat) (v:Val):fu false i (.new v) e=match e[i]? with
 | some s0=>if s0.pl=true then .nx (e.set i (.sh v)) else .stuck
 | none=>.stuck:=by unfold fu;rfl
@[simp] theorem g_n (i:Nat) (v:Val):(gtN i).G v e=match e[i]? with
 | some s=>if s.pl=true then some (e.set i (.sh v)) else none
 | none=>none:=rfl
@[simp] theorem g_sn:ib.G [] e=some e:=rfl
@[simp] theorem g_sc (a:PGt) (b:PGs) (v:Val) (vs:List Val):(dw a b).G (v :: vs) e=(a.G v e).bind λe1=>b.G vs e1:=rfl
@[simp] theorem g_t (n:Nat) (a:PGs) (vs:List Val):(gtT n a).G (.tup vs) e=if vs.length=n then a.G vs e else none:=rfl
@[simp] theorem g_x (a:PGt) (v:Val):(gtX a).G v e=a.G v e:=rfl
@[simp] theorem Dg (i j:Nat) (a:PAs):(ph i j a).G e=(a.G e).toS λts e1=>match dem e1 ts with
 | some (e2,[v,u])=>match (pN i v e2).bind (pN j u) with
  | some e3=>.nx e3
  | none=>.stuck
 | _=>.stuck:=rfl
@[simp] theorem CF (i:Nat) (v:Val):pN i v e=match e[i]? with
 | some s=>if s.pl=true then some (e.set i (.sh v)) else none
 | none=>none:=rfl
@[simp] theorem wx (c:Str) (a:PAs):(mJ c a).G e=(a.G e).toS λts e1=>if ts.length<=16777216 then .exc c e1 else .stuck:=rfl
@[simp] theorem CB (i:Nat) (w:PSe) (k a:PEx):(pB i w k a).G e=(a.G e).toS λt e1=>match (e1[i]?).bind Sl.mv with
 | none=>.stuck
 | some _=>(k.G e1).toS λt2 e2=>match rs e2 t2 with
  | none=>.stuck
  | some vi=>match bR e2 t.drop with
   | none=>.stuck
   | some (e3,v)=>match e3[i]? with
    | none=>.stuck
    | some s=>match s.mv with
     | none=>.stuck
     | some u=>match w.G u vi v with
      | some u'=>.nx (e3.set i (s.re u'))
      | none=>.stuck:=rfl
@[simp] theorem CK (v:Val):(Sl.ow v).mv=some v:=rfl
@[simp] theorem B7 (v:Val):(Sl.mu v).mv=some v:=rfl
@[simp] theorem BY (v u:Val):(Sl.ow v).re u=.ow u:=rfl
@[simp] theorem C5 (v u:Val):(Sl.mu v).re u=.mu u:=rfl
@[simp] theorem zd (v:Val):(Sl.ow v).val=some v:=rfl
@[simp] theorem zT (v:Val):(Sl.mu v).val=some v:=rfl
@[simp] theorem Cq (i:Nat) (m:PMm) (a:PAs):(uN i m a).G e=match e[i]? with
 | some s=>if (s.mv.map dN)=some true then (a.G e).bind λts e1=>match dem e1 ts with
  | some (e2,vs)=>match e2[i]? with
   | some s2=>match s2.mv with
    | some u=>match m.G u vs with
     | some (u',v)=>.ok (.val v) (e2.set i (s2.re u'))
     | none=>.stuck
    | none=>.stuck
   | none=>.stuck
  | none=>.stuck else .stuck
 | none=>.stuck:=rfl
@[simp] theorem tJ (xs:List Val):dN (.lst xs)=true:=rfl
@[simp] theorem A0 (m:PMv) (a:PEx) (b:PAs):(kR m a b).G e=(a.G e).bind λt e1=>if (rs e1 t).map dN=some true then (b.G e1).bind λts e2=>(match rs e2 t.drop,rss e2 ts with
 | some v,some vs=>if dN v=true then (m.G v vs).at e2 else .stuck
 | _,_=>.stuck) else .stuck:=rfl
@[simp] theorem Bs (a:PEx):(cn a).G e=(a.G e).bind λt e1=>match fE t e1 with
 | some p=>.ok p e1
 | none=>.stuck:=rfl
@[simp] theorem CN (a:PAs):(oH a).G e=(a.G e).bind λts e1=>match ts with
 | [t]=>(match fE t e1 with
  | some p=>.ok (jd 0 p.1,p.2) e1
  | none=>.stuck)
 | _=>.stuck:=rfl
@[simp] theorem Ah (v:Val):fE (.val v) e=(fg v).map λxs=>(xs,none):=rfl
@[simp] theorem zt (v:Val):fE (.new v) e=(fg v).map λxs=>(xs,none):=rfl
@[simp] theorem zG (xs:List Val):fg (.tup xs)=some xs:=rfl
@[simp] theorem yE (xs:List Val):fg (.lst xs)=some xs:=rfl
@[simp] theorem Cf (a:PAs):(eU a).G e=(a.G e).bind λts e1=>match (rss e1 ts).bind d9 with
 | some xs=>.ok (xs,none) e1
 | none=>.stuck:=rfl
@[simp] theorem Ce (i:PIt) (g:PGt) (b:PSt):(iJ i g b).G e=(i.G e).toS λp e1=>(dU g.G b.G p.1 (lockO e1 p.2)).unl p.2:=rfl
theorem gx (g:MG3) (B:MS3) (v:Val) (vs:List Val):dU g B (v :: vs) e=match g v e with
 | some e1=>(B e1).loop (dU g B vs)
 | none=>.stuck:=rfl
theorem x_wh (c:PTs) (b:PSt):(xWh c b).G e=(c.G e).toS λk e1=>if k=true then (b.G e1).loop (xWh c b).G else .nx e1:=uz c.G b.G e
@[simp] theorem v_lc (i:PIt) (sub:List (Option Nat)) (hs:(sub.filterMap id).Nodup) (g:PGt) (c:PTs) (a:PEx):(pLC i sub hs g c a).G e=(i.G e).bind λp e1=>match lcV g.G c.G a.G p.1 [] (bE sub (lockO e1 p.2)) with
 | .ok ys e2=>if ys.length<=16777216 then .ok (.new (.lst ys)) (df (aX sub e2 (lockO e1 p.2)) p.2) else .stuck
 | _=>.stuck:=rfl
@[simp] theorem z9 (f:PFn) (a:PAs):(aF f a).G e=(a.G e).bind λts e1=>match rss e1 ts with
 | none=>.stuck
 | some vs=>if okA e1 f.ms ts=true then (match f.G vs with
  | .stuck=>.stuck
  | .ok r mv=>if (aP e1 f.ms ts).isEmpty || (iw r && mv.all cq) then .ok r.tm (aX (bz f.ms ts) (aJ f.ms mv) e1) else (match j5 e1 (aP e1 f.ms ts) with
   | some e2=>.ok r.tm (aX (bz f.ms ts) (aJ f.ms mv) e2)
   | none=>.stuck)
  | .exc c mv=>if (aP e1 f.ms ts).isEmpty || mv.all cq then .exc c (aX (bz f.ms ts) (aJ f.ms mv) e1) else .stuck) else .stuck:=rfl
@[simp] theorem Bp (v:Val):(Rt.val v).tm=.val v:=rfl
@[simp] theorem zM (v:Val):(Rt.new v).tm=.new v:=rfl
@[simp] theorem o_n:oN.G e=.ok none e:=rfl
@[simp] theorem o_s (a:PEx):(oS a).G e=(a.G e).bind λt e1=>match rs e1 t with
 | some (.int i)=>.ok (some i) e1
 | _=>.stuck:=rfl
@[simp] theorem v_sl (a:PEx) (l u:POp):(pSl a l u).G e=(a.G e).bind λt e1=>(l.G e1).bind λlo e2=>(u.G e2).bind λhi e3=>match rs e3 t.drop with
 | some v=>(aSl v lo hi).at e3
 | none=>.stuck:=rfl
theorem iZ (ms:List Bool) (N:Nat) (c:PSt) (vs:List Val):(fnP ms N c).G vs=if vs.length=ms.length then (match c.G (sls ms vs++List.replicate (N - vs.length) .no) with
 | .nx e=>(match muV ms e with | some mv=>.ok (.val .non) mv | none=>.stuck)
 | .rt r e=>(match muV ms e with | some mv=>.ok r mv | none=>.stuck)
 | .exc c e=>(match muV ms e with | some mv=>.exc c mv | none=>.stuck)
 | _=>.stuck) else .stuck:=rfl
theorem fc (ms:List Bool) (N:Nat) (c:PSt) (vs:List Val):(PFx.of ms N c).G vs=if vs.length=ms.length then (match c.G (sls ms vs++List.replicate (N - vs.length) .no) with
 | .nx e=>(match muV ms e with | some mv=>.ok (.val .non) mv | none=>.stuck)
 | .rt r e=>(match muV ms e with | some mv=>.ok r mv | none=>.stuck)
 | .exc c e=>(match muV ms e with | some mv=>.exc c mv | none=>.stuck)
 | _=>.stuck) else .stuck:=rfl
@[simp] theorem Ci {ms:List Bool} (p:PFx ms):p.fn.ms=ms:=rfl
@[simp] theorem fx_G {ms:List Bool} (p:PFx ms) (vs:List Val):p.fn.G vs=p.G vs:=rfl
end
@[simp] theorem Bz (i j:Int):b0.G (.int i) (.int j)=.val (.int (i + j)):=rfl
@[simp] theorem Dc (i j:Int):va.G (.int i) (.int j)=.val (.int (i - j)):=rfl
@[simp] theorem k_lt (i j:Int):bLt.G (.int i) (.int j)=.val (.bl (decide (i < j))):=rfl
@[simp] theorem k_gt (i j:Int):bGt.G (.int i) (.int j)=.val (.bl (decide (j < i))):=rfl
@[simp] theorem k_ge (i j:Int):bGe.G (.int i) (.int j)=.val (.bl (decide (j<=i))):=rfl
theorem ij {i j:Int} (c:CMulA i j):dB.G (.int i) (.int j)=.val (.int (i * j)):=by show oQ (.int i) (.int j)=_;unfold oQ aIc;dsimp only;rw[if_pos c]
theorem oh {i j:Int} (c:CDivB i j):dn.G (.int i) (.int j)=.val (.int (i.fdiv j)):=by show oA (.int i) (.int j)=_;unfold oA aIc;dsimp only;rw[if_pos c]
theorem fe {i j:Int} (c:j ≠ 0):bx.G (.int i) (.int j)=.val (.int (i.fmod j)):=by show pJ (.int i) (.int j)=_;unfold pJ aIc;dsimp only;rw[if_pos c]
theorem vL {i j:Int} (c:j7 i j):gL.G (.int i) (.int j)=.val (.int (i ^ j.toNat)):=by show pK (.int i) (.int j)=_;unfold pK aIc;dsimp only;rw[if_pos c]
@[simp] theorem k_ix (x:Val) (i:Int):bIx.G x (.int i)=match x.items with
 | some xs=>(match atI xs i with
  | some v=>.val v
  | none=>.stuck)
 | none=>.stuck:=by show aIx x (.int i)=_;unfold aIx;cases x.items <;> rfl
@[simp] theorem Ap (xs:List Val):(Val.tup xs).items=some xs:=rfl
@[simp] theorem zY (xs:List Val):(Val.lst xs).items=some xs:=rfl
@[simp] theorem CQ (xs:List Val):(Val.kl xs).items=some xs:=rfl
@[simp] theorem k_eq (x y:Val):bEq.G x y=match bW x y with
 | some b=>.val (.bl b)
 | none=>.stuck:=by show aEq false x y=_;unfold aEq;cases bW x y <;> rfl
@[simp] theorem k_ne (x y:Val):bNe.G x y=match bW x y with
 | some b=>.val (.bl (!b))
 | none=>.stuck:=by show aEq true x y=_;unfold aEq;cases bW x y <;> rfl
@[simp] theorem kX (x y:Int):bW (.int x) (.int y)=some (x == y):=rfl
@[simp] theorem BG (x y:Bool):bW (.bl x) (.bl y)=some (x == y):=by cases x <;> cases y <;> rfl
theorem jw {x y:Str} (hx:PyData.strOk x=true) (hy:PyData.strOk y=true):bW (.str x) (.str y)=some (x == y):=by
 unfold bW
 show (if SeqAt.shaped (.str x)=true/\SeqAt.shaped (.str y)=true then _ else _)=_
 rw[if_pos ⟨eY hx (Nat.zero_le _),eY hy (Nat.zero_le _)⟩]
 rfl
@[simp] theorem k_is (x:Val):bIs.G x .non=match x with
 | .non=>.val (.bl true)
 | _=>.val (.bl false):=by cases x <;> rfl
@[simp] theorem BN (v:Val):dA.G [v]=match v.items with
 | some xs=>.val (.int xs.length)
 | none=>(match v with
  | .str z=>if z.length<=16777216 then .val (.int z.length) else .stuck
  | _=>.stuck):=rfl
@[simp] theorem BU (i j:Int):mK.G [.int i,.int j]=.val (.int (if j > i then j else i)):=rfl
@[simp] theorem Br (i j:Int):jm.G [.int i,.int j]=.val (.int (if j < i then j else i)):=rfl
@[simp] theorem xr (v:Val):iB.G [v]=match v.items with
 | some xs=>.val (.tup xs)
 | none=>.stuck:=rfl
@[simp] theorem AY (b:Bool):kY.G [.bl b]=.val (.int (if b then 1 else 0)):=rfl
theorem qS {K:W.Frag}{mg:Str->Option Value}{X:Cx}{ES:L2.St->XK}{sts:List Stmt}:DSs K mg X ES sts (λ_ _=>.stuck):=λpins s σ H D I ⟨_,_,_,_,_,p⟩=>p.elim
end L3
namespace L3
open PySem PySem.Spec PyProof.Rows L2
section
variable (K:W.Frag) (mg:Str->Option Value) (X:Cx) (ES:L2.St->XK)
@[irreducible] def DE (e:Expr) (F:ME):Prop:=L2.DE K mg X ES e F
@[irreducible] def DT (e:Expr) (F:MT):Prop:=L2.DT K mg X ES e F
@[irreducible] def DA (es:List Expr) (F:MA):Prop:=L2.DA K mg X ES es F
@[irreducible] def DS (st:Stmt) (F:MS):Prop:=L2.DS K mg X ES st F
@[irreducible] def DSs (st:List Stmt) (F:MS):Prop:=L2.DSs K mg X ES st F
@[irreducible] def DI (tg ad:Expr) (F:MI):Prop:=L2.DI K mg X ES tg ad F
end
section
variable {K:W.Frag}{mg:Str->Option Value}{X:Cx}{ES:L2.St->XK}{e a b c o i tg ad ci:Expr}{es:List Expr}{st:Stmt}{sts sts':List Stmt}{p q r:PEx}{A:PAs}{t u:PTs}{x y:PSt}{g:PGt}{gs:PGs}{I:PIt}{pos:Pos}
theorem aa (i:Nat) {x:Str} (hN:X.N[i]?=some x:=by rfl) (hv:Vis X.env.scope x:=by first | exact Or.inl rfl | exact Or.inr (Or.inl rfl) | exact Or.inr (Or.inr rfl)) (hd:(x == ("__debug__" : Str))=false:=by decide) (hcd:(x == ("__classdict__" : Str))=false:=by decide):DE K mg X ES (.Name x pos) (ag i).F:=by with_unfolding_all exact Bq i hN hv hd hcd
theorem ak {i:Int}{j:Nat}:DE K mg X ES (.Constant (.int i) j pos) (ar i).F:=by with_unfolding_all exact Av
theorem jt {i:Bool}{j:Nat}:DE K mg X ES (.Constant (.bool i) j pos) (pBl i).F:=by with_unfolding_all exact C4
theorem gU {j:Nat}:DE K mg X ES (.Constant .none j pos) iL.F:=by with_unfolding_all exact yy
theorem bt {i:Str}{j:Nat}:DE K mg X ES (.Constant (.str i) j pos) (bU i).F:=by with_unfolding_all exact A1
theorem kP {x:Str}{n:String} (hg:Gl X x) (hm:mg x=none) (hv:bootBuiltins x=some (.type n)) (he:X.mg=mg:=by rfl) (hn:x ≠ "__name__":=by decide) (hd:(x == ("__debug__" : Str))=false:=by decide):DE K mg X ES (.Name x pos) (pTy n).F:=by with_unfolding_all exact BX hg hm hv he hn hd
theorem aG {op:Operator}{r':R2}{k:PO2} (ho:OpR X (binaryOp op) r') (hd:OpD K mg r' k.F) (ha:DE K mg X ES a p.F) (hb:DE K mg X ES b q.F):DE K mg X ES (.BinOp a op b pos) (pOp k p q).F:=by with_unfolding_all exact Di ho hd ha hb
theorem aD {r':R2}{k:PO2} (hr:IxR X r') (hd:OpD K mg r' k.F) (ha:DE K mg X ES a p.F) (hb:DE K mg X ES b q.F) (hs:iD b):DE K mg X ES (.Subscript a b pos) (pOp k p q).F:=by with_unfolding_all exact vA hr hd ha hb hs
theorem gF {op:CmpOp}{r':R2}{k:PO2} (ho:OpR X (compareOp op) r') (hd:OpD K mg r' k.F) (ha:DE K mg X ES a p.F) (hb:DE K mg X ES b q.F) (hm:behindInMarks op b=false):DE K mg X ES (.Compare a [op] [b] pos) (pOp k p q).F:=by with_unfolding_all exact Bg ho hd ha hb hm
theorem bB {op:CmpOp}{r':R2}{k:PO2} (ho:OpR X (compareOp op) r') (hd:OpD K mg r' k.F) (ha:DE K mg X ES a p.F) (hb:DE K mg X ES b q.F) (hm:behindInMarks op b=false):DT K mg X ES (.Compare a [op] [b] pos) (qOf (pOp k p q)).F:=by with_unfolding_all exact yu ho hd ha hb hm
theorem hZ (ha:DE K mg X ES a p.F) (he:∀ bi,isTrue a X.env bi=(do let v <- bi;standAt a.pos;holding [v] (truthy v)):=by intro _;rfl):DT K mg X ES a (qOf p).F:=by with_unfolding_all exact Ac ha he
theorem lR (hK:X.K=K) (ha:DE K mg X ES a p.F) (he:∀ bi,isTrue a X.env bi=(do let v <- bi;standAt a.pos;holding [v] (truthy v)):=by intro _;rfl):DT K mg X ES a (qTr p).F:=by with_unfolding_all exact uB hK ha he
theorem jq (ha:DT K mg X ES a t.F):DT K mg X ES (.UnaryOp .Not a pos) (qNo t).F:=by with_unfolding_all exact y7 ha
theorem xK (ha:DT K mg X ES a t.F):DW K mg X ES (.BoolOp .And [a] pos) t.F:=by with_unfolding_all exact wF ha
theorem pS (ha:DT K mg X ES a t.F):DW K mg X ES (.BoolOp .Or [a] pos) t.F:=by with_unfolding_all exact zI ha
theorem zR (ha:DT K mg X ES a t.F) (hb:DW K mg X ES (.BoolOp .And (b :: es) pos) u.F):DW K mg X ES (.BoolOp .And (a :: b :: es) pos) (qAn t u).F:=by with_unfolding_all exact zu ha hb
theorem oq (ha:DT K mg X ES a t.F) (hb:DW K mg X ES (.BoolOp .Or (b :: es) pos) u.F):DW K mg X ES (.BoolOp .Or (a :: b :: es) pos) (qO t u).F:=by with_unfolding_all exact By ha hb
theorem ZW.dt (h:DW K mg X ES a t.F):DT K mg X ES a t.F:=by with_unfolding_all exact DW.dt h
theorem kQ (hc:DT K mg X ES c t.F) (ha:DE K mg X ES a p.F) (hb:DE K mg X ES b q.F):DE K mg X ES (.IfExp c a b pos) (pIf t p q).F:=by with_unfolding_all exact CD hc ha hb
theorem ai:DA K mg X ES [] aq.F:=by with_unfolding_all exact rQ
theorem af (ha:DE K mg X ES e p.F) (hr:DA K mg X ES es A.F) (hs:starEach (e :: es) X.env=(false,eval e X.env) :: starEach es X.env:=by rfl):DA K mg X ES (e :: es) (ah p A).F:=by with_unfolding_all exact nK ha hr hs
theorem fU {x1} (h:DA K mg X ES es A.F):DE K mg X ES (.Tuple es x1 pos) (ft A).F:=by with_unfolding_all exact zV h
theorem bA (h:DA K mg X ES es A.F):DE K mg X ES (.List es pos) (cD A).F:=by with_unfolding_all exact zL h
theorem aY {id:String}{r':List V->Hp->VK->Prop}{k:PBf}{x:Str}{p0:Pos} (hc:CallR X (.builtin id) r') (hd:bD K mg r' k.F) (hg:Gl X x) (hm:mg x=none) (hv:bootBuiltins x=some (.builtin id)) (ha:DA K mg X ES (e :: es) A.F) (hk:X.mg=mg:=by rfl) (hn:x ≠ "__name__":=by decide) (hdb:(x == ("__debug__" : Str))=false:=by decide) (he:starEach (e :: es) X.env=(false,eval e X.env) :: starEach es X.env:=by rfl) (hpl:(backTo pos (starEach es X.env)).any (·.1)=false:=by rfl):DE K mg X ES (.Call (.Name x p0) (e :: es) [] pos) (pFn k A).F:=by with_unfolding_all exact uX hc hd hg hm hv ha hk hn hdb he hpl
theorem fo {id:String}{r':List V->Hp->VK->Prop}{k:PBf}{x:Str}{p0:Pos} (hc:CallR X (.type id) r') (hd:bD K mg r' k.F) (hg:Gl X x) (hm:mg x=none) (hv:bootBuiltins x=some (.type id)) (ha:DA K mg X ES (e :: es) A.F) (hk:X.mg=mg:=by rfl) (hn:x ≠ "__name__":=by decide) (hdb:(x == ("__debug__" : Str))=false:=by decide) (he:starEach (e :: es) X.env=(false,eval e X.env) :: starEach es X.env:=by rfl) (hpl:(backTo pos (starEach es X.env)).any (·.1)=false:=by rfl):DE K mg X ES (.Call (.Name x p0) (e :: es) [] pos) (pFn k A).F:=by with_unfolding_all exact qK hc hd hg hm hv ha hk hn hdb he hpl
theorem aA {f:PFn}{x:Str}{p0:Pos}{k n:Nat}{ps:List Str} (C:Callee X.prog X.w X.K X.mg X.base x k ps (spD K mg n f.F)) (hr:Room k X.A) (hg:Gl X x) (hx:jn X ES) (ha:DA K mg X ES (e :: es) A.F) (hn:f.ms.length=n:=by rfl) (hdb:(x == ("__debug__" : Str))=false:=by decide) (he:starEach (e :: es) X.env=(false,eval e X.env) :: starEach es X.env:=by rfl) (hpl:(backTo pos (starEach es X.env)).any (·.1)=false:=by rfl):DE K mg X ES (.Call (.Name x p0) (e :: es) [] pos) (aF f A).F:=by
 subst hn
 with_unfolding_all exact sd C hr hg hx ha hdb he hpl
theorem bJ:DSs K mg X ES [] xNx.F:=by with_unfolding_all exact xj
theorem az (h1:DS K mg X ES st x.F):DSs K mg X ES [st] x.F:=by with_unfolding_all exact ni h1
theorem au (h1:DS K mg X ES st x.F) (h2:DSs K mg X ES sts y.F):DSs K mg X ES (st :: sts) (aH x y).F:=by with_unfolding_all exact je h1 h2
theorem a0 (he:DE K mg X ES e p.F):DS K mg X ES (.Return (some e) pos) (bI p).F:=by with_unfolding_all exact y8 he
theorem v5 (he:DE K mg X ES e p.F) (hs:swapsWith e none pos.line X.env=pure false:=by rfl):DS K mg X ES (.Expr e pos) (o5 p).F:=by with_unfolding_all exact nW he hs
theorem c6 (hc:DT K mg X ES c t.F) (ha:DSs K mg X ES sts x.F) (hb:DSs K mg X ES sts' y.F):DS K mg X ES (.If c sts sts' pos) (xIf t x y).F:=by with_unfolding_all exact CZ hc ha hb
theorem aS {i:Nat}{x:Str} (hN:X.N.Nodup) (hi:X.N[i]?=some x) (hx:Loc X.env.scope x) (hf:X.fn x=true\/X.env.scope.names.lookup x=some .local:=by first | exact .inl rfl | exact .inr rfl | assumption):DG K mg X ES (.Name x pos) (gtN i).F:=xF hN hi hx hf
theorem m8:DGs K mg X ES [] ib.F:=ya
theorem gg (h1:DG K mg X (λ_=>E0) e g.F) (h2:DGs K mg X (λ_=>E0) es gs.F) (hs:(assignEach (e :: es) X.env).map (·.2)=assign e X.env :: (assignEach es X.env).map (·.2):=by rfl):DGs K mg X (λ_=>E0) (e :: es) (dw g gs).F:=u6 h1 h2 hs
theorem qJ {k n:Nat} (hK:X.K=K) (hc:X.calm=true) (h:DGs K mg X (λ_=>E0) es gs.F) (hn:(assignEach es X.env).length=n:=by rfl) (hst:(assignEach es X.env).findIdx? (·.1)=none:=by rfl):DG K mg X (λ_=>E0) (.Tuple es k pos) (gtT n gs).F:=yK hK hc h hn hst
theorem ZG.weak (hg:DG K mg X (λ_=>E0) e g.F):DG K mg X ES e (gtX g).F:=DG.weak hg
theorem nM {j:Nat}{w:PSe}{r':kd}{p1:Pos} (he:DE K mg X ES e p.F) (ho:DE K mg X ES o (ag j).F) (hi:DE K mg X ES i q.F) (hs':pj X r') (hd:oC K mg r' w.F) (hs:swapsWithSole [.Subscript o i p1] e pos.line X.env=pure false:=by rfl) (hw:swappedStores [.Subscript o i p1] e X.env=pure none:=by rfl) (h1:(assignEach [.Subscript o i p1] X.env).map (·.2)=[assign (.Subscript o i p1) X.env]:=by rfl)
 (ha:∀ v,assign (.Subscript o i p1) X.env v=(do
  let ov <- holding [v] (eval o X.env)
  let iv <- holding [v,ov] (eval i X.env)
  standAt p1
  holding [v,ov,iv] (setItem ov iv v)
  release [v,ov,iv] []):=by intro _;rfl):DS K mg X ES (.Assign [.Subscript o i p1] e pos) (pB j w q p).F:=by with_unfolding_all exact Aq he (yS ho hi hs' hd ha) hs hw h1
theorem aU {ow:Bool}{i:Nat}{x:Str}{pos':Pos} (hN:X.N.Nodup) (hi:X.N[i]?=some x) (hx:Loc X.env.scope x) (he:DE K mg X ES e p.F) (hs:swapsWith e (some (.Name x pos')) pos.line X.env=pure false:=by rfl) (hf:X.fn x=true\/X.env.scope.names.lookup x=some .local:=by first | exact .inl rfl | exact .inr rfl | assumption):DS K mg X ES (.Assign [.Name x pos'] e pos) (bg ow i p).F:=by with_unfolding_all exact A6 hN hi hx he hs hf
theorem p6 {i j:Nat}{x y:Str}{px py pt:Pos}{kt k2 pt2} (hc:X.calm=true) (hN:X.N.Nodup) (hi:X.N[i]?=some x) (hj:X.N[j]?=some y) (hij:i ≠ j) (hx:X.env.scope.names.lookup x=some .local) (hy:X.env.scope.names.lookup y=some .local) (ha:DA K mg X ES [a,b] A.F) (hw:swappedStores [.Tuple [.Name x px,.Name y py] kt pt] (.Tuple [a,b] k2 pt2) X.env=pure (some [x,y])) (hs:swapsWithSole [.Tuple [.Name x px,.Name y py] kt pt] (.Tuple [a,b] k2 pt2) pos.line X.env=pure false:=by rfl):DS K mg X ES (.Assign [.Tuple [.Name x px,.Name y py] kt pt] (.Tuple [a,b] k2 pt2) pos) (ph i j A).F:=by with_unfolding_all exact Bk hc hN hi hj hij hx hy ha hw hs
theorem u9 {x:Str}{C:Addr}{E:XK}{np cpos:Pos} (hc:X.calm=true) (hR:Rz X E) (hg:Gl X x) (hm:mg x=some (.ref C)) (hq:W.excIn X.K C jc "ValueError.__new__"=true) (ha:DA K mg X (λ_=>E) (e :: es) A.F) (hk:X.mg=mg:=by rfl) (he:starEach (e :: es) X.env=(false,eval e X.env) :: starEach es X.env:=by rfl) (be:(backTo cpos (starEach es X.env)).any (·.1)=false:=by rfl) (hd:(x == ("__debug__" : Str))=false:=by decide):DS K mg X (λ_=>E) (.Raise (some (.Call (.Name x np) (e :: es) [] cpos)) none pos) (mJ x A).F:=by with_unfolding_all exact vb hc hR hg hm hq ha hk he be hd
theorem cT (hK:X.K=K) (he:DE K mg X ES e p.F):DI K mg X ES tg e (cn p).F:=by with_unfolding_all exact Bn hK he
theorem de {p0:Pos} (hg:Gl X "range") (hm:mg "range"=none) (ha:DA K mg X ES [a] A.F) (hk:X.mg=mg:=by rfl) (hs:starEach [a] X.env=[(false,eval a X.env)]:=by rfl):DI K mg X ES tg (.Call (.Name "range" p0) [a] [] pos) (eU A).F:=by with_unfolding_all exact rR hg hm ha hk hs
theorem wO {elts:List Expr}{x1:Nat}{tp p0:Pos} (hK:X.K=K) (hg:Gl X "enumerate") (hm:mg "enumerate"=none) (ha:DA K mg X ES [a] A.F) (hk:X.mg=mg:=by rfl) (hs:starEach [a] X.env=[(false,eval a X.env)]:=by rfl):DI K mg X ES (.Tuple elts x1 tp) (.Call (.Name "enumerate" p0) [a] [] pos) (oH A).F:=by with_unfolding_all exact wg hK hg hm ha hk hs
theorem gD (hp:PassesOwn (model X.prog X.w) X.A X.env X.xe) (hc:X.calm=true) (hi:DI K mg X ES tg ad I.F) (hg:DG K mg X ES tg g.F) (hb:DSs K mg X ES sts x.F) (hs:∀ x,foldedSetIterable ad X.env x=pure x:=by intro _;rfl):DS K mg X ES (.For tg ad sts [] pos) (iJ I g x).F:=by with_unfolding_all exact rP hp hc hi hg hb hs
theorem lH (hp:PassesOwn (model X.prog X.w) X.A X.env X.xe) (hc:DT K mg X ES c t.F) (hb:DSs K mg X ES sts x.F):DS K mg X ES (.While c sts [] pos) (xWh t x).F:=by with_unfolding_all exact ua hp hc hb
theorem gr {scope:Scope} (M:List Str) (kn:List (Str×NameKind)) (N:List Str) (sub:List (Option Nat)) {hsb:(sub.filterMap id).Nodup} (hc:X.calm=true) (hi:DI K mg X ES tg ad I.F) (hg:∀ cl C s₂ H fp,DG K mg (aE X N scope cl C s₂ H fp) (λ_=>E0) tg g.F) (he:∀ cl C s₂ H fp,DE K mg (aE X N scope cl C s₂ H fp) (λ_=>E0) ci p.F) (hM:X.N=M:=by rfl) (hkn:X.env.scope.names=kn:=by rfl) (bv:dE M scope.names sub N=true:=by decide) (hk:scope.kind=.function:=by rfl) (hnc:∀ x ∈ scope.names,x.2 ≠ .cell:=by decide) (bd:∀ x ∈ scope.names,x.2=.local->scope.names.lookup x.1=some .local:=by decide) (hfr:eP kn scope.names=true:=by decide) (hsl:sub.length=N.length:=by rfl) (hs:∀ x,foldedSetIterable ad X.env x=pure x:=by intro _;rfl):DE K mg X ES (.ListComp ci [⟨tg,ad,[],0⟩] scope pos) (pLC I sub hsb g qY p).F:=by with_unfolding_all exact Bt M kn N sub hc hi hg he hM hkn bv hk hnc bd hfr hsl hs
theorem xy {scope:Scope} (M:List Str) (kn:List (Str×NameKind)) (N:List Str) (sub:List (Option Nat)) {hsb:(sub.filterMap id).Nodup} (hc:X.calm=true) (hi:DI K mg X ES tg ad I.F) (hg:∀ cl C s₂ H fp,DG K mg (aE X N scope cl C s₂ H fp) (λ_=>E0) tg g.F) (ht:∀ cl C s₂ H fp,DT K mg (aE X N scope cl C s₂ H fp) (λ_=>E0) c t.F) (he:∀ cl C s₂ H fp,DE K mg (aE X N scope cl C s₂ H fp) (λ_=>E0) ci p.F) (hM:X.N=M:=by rfl) (hkn:X.env.scope.names=kn:=by rfl) (bv:dE M scope.names sub N=true:=by decide) (hk:scope.kind=.function:=by rfl) (hnc:∀ x ∈ scope.names,x.2 ≠ .cell:=by decide) (bd:∀ x ∈ scope.names,x.2=.local->scope.names.lookup x.1=some .local:=by decide) (hfr:eP kn scope.names=true:=by decide) (hsl:sub.length=N.length:=by rfl) (hs:∀ x,foldedSetIterable ad X.env x=pure x:=by intro _;rfl):DE K mg X ES (.ListComp ci [⟨tg,ad,[c],0⟩] scope pos) (pLC I sub hsb g t p).F:=by with_unfolding_all exact xU M kn N sub hc hi hg ht he hM hkn bv hk hnc bd hfr hsl hs
theorem pE {ow:Bool}{px spos:Pos}{iT:Nat}{xT:Str}{scope:Scope} (M:List Str) (kn:List (Str×NameKind)) (N:List Str) (sub:List (Option Nat)) {hsb:(sub.filterMap id).Nodup} (hc:X.calm=true) (hN:X.N.Nodup) (hix:X.N[iT]?=some xT) (hxl:Loc X.env.scope xT) (hi:DI K mg X ES tg ad I.F) (hg:∀ cl C s₂ H fp,DG K mg (aE X N scope cl C s₂ H fp) (λ_=>E0) tg g.F) (he:∀ cl C s₂ H fp,DE K mg (aE X N scope cl C s₂ H fp) (λ_=>E0) ci p.F) (hsw:swapsWith (.ListComp ci [⟨tg,ad,[],0⟩] scope pos) (some (.Name xT px)) spos.line X.env=pure true:=by rfl) (hM:X.N=M:=by rfl) (hkn:X.env.scope.names=kn:=by rfl) (bv:dE M scope.names sub N=true:=by decide) (hk:scope.kind=.function:=by rfl) (hnc:∀ x ∈ scope.names,x.2 ≠ .cell:=by decide) (bd:∀ x ∈ scope.names,x.2=.local->scope.names.lookup x.1=some .local:=by decide) (hfr:eP kn scope.names=true:=by decide) (hsl:sub.length=N.length:=by rfl) (hs:∀ x,foldedSetIterable ad X.env x=pure x:=by intro _;rfl) (hf:X.fn xT=true\/X.env.scope.names.lookup xT=some .local:=by first | exact .inl rfl | exact .inr rfl | assumption):DS K mg X ES (.Assign [.Name xT px] (.ListComp ci [⟨tg,ad,[],0⟩] scope pos) spos) (bg ow iT (pLC I sub hsb g qY p)).F:=by with_unfolding_all exact BO M kn N sub hc hN hix hxl hi hg he hsw hM hkn bv hk hnc bd hfr hsl hs hf
theorem zN {j:Nat}{name:Str}{id:String}{apos cpos:Pos}{r':V->List V->Hp->VK->Prop}{k:PMm} (hK:X.K=K) (slot:Slot "list" name id) (hty:typeOf (.builtin id)=pure (.type "method_descriptor")) (hm:MtM X id r') (hd:MtD K mg r' k.F) (ho:DE K mg X ES o (ag j).F) (ha:DA K mg X ES (e :: es) A.F) (hbase:attributeBase o name X.env (eval o X.env)=eval o X.env:=by rfl) (hfew:((backTo cpos (starEach (e :: es) X.env)).all (λx=>!x.1) && (backToKw cpos (keywordEach [] X.env)).all (λx=>x.1.isSome) && decide ((e :: es).length + ([]:List Keyword).length + (if ([]:List Keyword).isEmpty then 0 else 1) < 30))=true:=by rfl) (hline:(apos.endLine == cpos.line)=true:=by rfl) (hs:starEach (e :: es) X.env=(false,eval e X.env) :: starEach es X.env:=by rfl) (be:(backTo cpos (starEach es X.env)).any (·.1)=false:=by rfl):DE K mg X ES (.Call (.Attribute o name apos) (e :: es) [] cpos) (uN j k A).F:=by with_unfolding_all exact uo hK slot hty hm hd ho ha hbase hfew hline hs be
theorem nj {name:Str}{id:String}{apos cpos:Pos}{r':V->List V->Hp->VK->Prop}{k:PMv} (hK:X.K=K) (slot:Slot "list" name id) (hty:typeOf (.builtin id)=pure (.type "method_descriptor")) (hm:MtM X id r') (hd:MtD K mg r' k.F) (ho:DE K mg X ES o p.F) (ha:DA K mg X ES (e :: es) A.F) (hbase:attributeBase o name X.env (eval o X.env)=eval o X.env:=by rfl) (hfew:((backTo cpos (starEach (e :: es) X.env)).all (λx=>!x.1) && (backToKw cpos (keywordEach [] X.env)).all (λx=>x.1.isSome) && decide ((e :: es).length + ([]:List Keyword).length + (if ([]:List Keyword).isEmpty then 0 else 1) < 30))=true:=by rfl) (hline:(apos.endLine == cpos.line)=true:=by rfl) (hs:starEach (e :: es) X.env=(false,eval e X.env) :: starEach es X.env:=by rfl) (be:(backTo cpos (starEach es X.env)).any (·.1)=false:=by rfl):DE K mg X ES (.Call (.Attribute o name apos) (e :: es) [] cpos) (kR k p A).F:=by with_unfolding_all exact uo hK slot hty hm hd ho ha hbase hfew hline hs be
theorem fO:DO K mg X ES none oN.F:=xH
theorem fL (he:DE K mg X ES e p.F):DO K mg X ES (some e) (oS p).F:=by with_unfolding_all exact xE he
theorem eF {l u:POp}{lo hi:Option Expr}{p2:Pos} (hK:X.K=K) (he:DE K mg X ES e p.F) (hl:DO K mg X ES lo l.F) (hu:DO K mg X ES hi u.F):DE K mg X ES (.Subscript e (.Slice lo hi none p2) pos) (pSl p l u).F:=by with_unfolding_all exact sY hK he hl hu
theorem cH:OpD K mg (λx y H Q=>rI0 (λi j=>.int (i + j)) x y H Q\/(jZ x y H Q\/(iF K x y H Q\/iC K x y H Q))) b0.F:=zF
theorem Bl:OpD K mg (rI0 λi j=>.int (i - j)) va.F:=zQ
theorem fN:OpD K mg (rI CMulA λi j=>.int (i * j)) dB.F:=zk
theorem js:OpD K mg (rI CDivB λi j=>.int (i.fdiv j)) dn.F:=zK
theorem cS:OpD K mg (rI (λ_ j=>j ≠ 0) λi j=>.int (i.fmod j)) bx.F:=zc
theorem p8:OpD K mg (rI j7 λi j=>.int (i ^ j.toNat)) gL.F:=zm
theorem vd:OpD K mg (rI0 λi j=>.bl (decide (i < j))) bLt.F:=B2
theorem CC:OpD K mg (rI0 λi j=>.bl (decide (j < i))) bGt.F:=CV
theorem BC:OpD K mg (rI0 λi j=>.bl (decide (j<=i))) bGe.F:=CO
theorem aC:OpD K mg (λx y H Q=>pA K x y H Q\/oT K x y H Q) bIx.F:=zi
theorem eW:OpD K mg (pM K) bEq.F:=AI
theorem kU:OpD K mg (o6 K) bNe.F:=Ay
theorem vK:OpD K mg (rIn K false) bIn.F:=(zp false)
theorem vB:OpD K mg (λx y H Q=>y=.non/\Q (.bl (decide (x=.non))) H) bIs.F:=yd
theorem zb:OpD K mg (λx y H Q=>y=.non/\Q (.bl (!decide (x=.non))) H) pC.F:=uV
theorem eL:bD K mg (λxs H Q=>(∃ p ys,xs=[.ref p]/\(SqL K H p ys\/SqT K H p ys)/\Q (.int ys.length) H)\/(∃ z,xs=[.str z]/\z.length<=sizeLine/\Q (.int z.length) H)) dA.F:=yM
theorem xO:bD K mg (λxs H Q=>∃ i j,xs=[.int i,.int j]/\Q (.int (if j > i then j else i)) H) mK.F:=vZ
theorem nS:bD K mg (λxs H Q=>∃ i j,xs=[.int i,.int j]/\Q (.int (if j < i then j else i)) H) jm.F:=xW
theorem lz:bD K mg (λxs H Q=>∃ p ys,xs=[.ref p]/\((SqL K H p ys/\∀ l,H l=none->Q (.ref l) (upd H l (.tup ys)))\/(SqT K H p ys/\Q (.ref p) H))) iB.F:=tq
theorem rn:bD K mg (λxs H Q=>(∃ i,xs=[.int i]/\Q (.int i) H)\/∃ k,xs=[.bl k]/\Q (.int (if k then 1 else 0)) H) kY.F:=yV
theorem jH {kt:dG} (ok:KitsOk K mg kt):bD K mg (λxs H Q=>(∃ x c t v b,xs=[x,c]/\TyX K H x t/\dI c=some v/\W.kitOne K t v=some b/\Q (.bl b) H)\/
 (∃ x tp cs t vs b,xs=[x,.ref tp]/\SqT K H tp cs/\TyX K H x t/\cs.mapM dI=some vs/\W.kitAny K t vs=some b/\Q (.bl b) H)) (dY kt).F:=zZ ok
theorem lr:MtD K mg (ip K) fJ.F:=sk
theorem nc:oC K mg oD seL.F:=wG
variable {P:Program}{w:World}{base:Heap}{fx:Str}{fst:Stmt}{k n m:Nat}{ps N:List Str}{ms:List Bool}
theorem okP (D:Def K mg fx fst) (S:FnScope N ps (ao fst))
 (hb:∀ (kV doc pm:Value) (an:Option Addr) (cdv ct:Value) (us:List Value),us.length=ps.length->bindArgs (W.fnOf fx fx (bX fst) (bf fst) (ao fst) .none kV doc pm an cdv ct) ⟨us,[]⟩=pure (ps.zip us))
 (db:∀ (f:Addr) (cdv:Value) (A:Around) (outer:List Env) (s:Shared) (H:Hp) (E:XK),Room k (A.deeper (envOfC fx (ao fst) s.heap.objs.size f cdv))->
  DSs K mg (cQ (CX1 P w) P w K mg base N fx (ao fst) f cdv A outer s H E) (λ_=>E) (bf fst) x.F) (hn:ps.length=n:=by rfl) (hm:N.length=m:=by rfl):Callee P w K mg base fx (k + 1) ps (spD K mg n (fnP ms m x).F):=by
 subst hn hm
 with_unfolding_all exact D.okD S hb db
theorem okX (D:Def K mg fx fst) (S:FnScope N ps (ao fst))
 (hb:∀ (kV doc pm:Value) (an:Option Addr) (cdv ct:Value) (us:List Value),us.length=ps.length->bindArgs (W.fnOf fx fx (bX fst) (bf fst) (ao fst) .none kV doc pm an cdv ct) ⟨us,[]⟩=pure (ps.zip us))
 (db:∀ (f:Addr) (cdv:Value) (A:Around) (outer:List Env) (s:Shared) (H:Hp) (E:XK),Room k (A.deeper (envOfC fx (ao fst) s.heap.objs.size f cdv))->
  DSs K mg (cQ (CX1 P w) P w K mg base N fx (ao fst) f cdv A outer s H E) (λ_=>E) (bf fst) x.F) (hn:ps.length=n:=by rfl) (hm:N.length=m:=by rfl):Callee P w K mg base fx (k + 1) ps (spD K mg n (PFx.of ms m x).F):=by
 subst hn hm
 with_unfolding_all exact D.okD S hb db
theorem ok0 (D:Def K mg fx fst) (S:FnScope N ps (ao fst))
 (hb:∀ (kV doc pm:Value) (an:Option Addr) (cdv ct:Value) (us:List Value),us.length=ps.length->bindArgs (W.fnOf fx fx (bX fst) (bf fst) (ao fst) .none kV doc pm an cdv ct) ⟨us,[]⟩=pure (ps.zip us)) (hn:ps.length=n:=by rfl):Callee P w K mg base fx (k + 1) ps (spD K mg n (PFx.none ms).F):=by
 subst hn
 exact D.okD (F:=λ_ _=>.stuck) S hb λ_ _ _ _ _ _ _ _=>qS
end
end L3
namespace L3
open PySem PySem.Spec PyProof.Rows L2
theorem yU (b:Bool) (ms:List Bool) (v:Val) (vs:List Val):sls (b :: ms) (v :: vs)=sl1 b v :: sls ms vs:=rfl
theorem xP:sls [] []=[]:=rfl
theorem C8 (v:Val):sl1 true v=.mu v:=rfl
theorem BL (v:Val):sl1 false v=.sh v:=rfl
section
variable (e:E3)
theorem x5:okA e [] []=true:=rfl
theorem yo (i:Nat) (ms:List Bool) (ts:List Tm):okA e (true :: ms) (.bor i :: ts)=(((e[i]?).bind Sl.mv).isSome && !(fC i ts) && okA e ms ts):=rfl
theorem zU (v:Val) (ms:List Bool) (ts:List Tm):okA e (false :: ms) (.val v :: ts)=okA e ms ts:=rfl
theorem uJ (i:Nat):fC i []=false:=rfl
theorem zW (i:Nat) (v:Val) (ts:List Tm):fC i (.val v :: ts)=fC i ts:=rfl
theorem qG:aP e [] []=[]:=rfl
theorem xI (v:Val) (ms:List Bool) (ts:List Tm):aP e (false :: ms) (.val v :: ts)=aP e ms ts:=rfl
theorem yI (t:Tm) (ms:List Bool) (ts:List Tm):aP e (true :: ms) (t :: ts)=aP e ms ts:=by cases t <;> rfl
end
theorem qR:bz [] []=[]:=rfl
theorem yf (b:Bool) (t:Tm) (ms:List Bool) (ts:List Tm):bz (b :: ms) (t :: ts)=jP b t :: bz ms ts:=rfl
theorem wq (i:Nat):jP true (.bor i)=some i:=rfl
theorem ym (t:Tm):jP false t=none:=by cases t <;> rfl
theorem uF (e:E3):aX [] [] e=e:=rfl
theorem Bf (o:Option Nat) (sub:List (Option Nat)) (s:Sl) (i e:E3):aX (o :: sub) (s :: i) e=aX sub i (dS o s e):=rfl
theorem ye (i:Nat) (v:Val) (e:E3):dS (some i) (.mu v) e=match e[i]? with
 | some t=>e.set i (t.re v)
 | none=>e:=rfl
theorem yQ (s:Sl) (e:E3):dS none s e=e:=rfl
theorem uY (vs:List Val):aJ [] vs=[]:=rfl
theorem yX (ms:List Bool) (v:Val) (vs:List Val):aJ (true :: ms) (v :: vs)=.mu v :: aJ ms vs:=rfl
theorem z0 (ms:List Bool) (vs:List Val):aJ (false :: ms) vs=.no :: aJ ms vs:=by cases vs <;> rfl
theorem xB (e:E3):muV [] e=some []:=by cases e <;> rfl
theorem BI (ms:List Bool) (v:Val) (e:E3):muV (true :: ms) (.mu v :: e)=(muV ms e).map (v :: ·):=rfl
theorem Cs (ms:List Bool) (s:Sl) (e:E3):muV (false :: ms) (s :: e)=muV ms e:=by cases s <;> rfl
theorem qF (v:Val):iw (.val v)=ba v:=rfl
theorem pW (v:Val):iw (.new v)=cq v:=rfl
theorem qb (xs:List Val):cq (.lst xs)=d8 xs:=rfl
theorem rC (i:Int):ba (.int i)=true:=by simp [ba]
theorem p7 (i:Str):ba (.str i)=true:=by simp [ba]
theorem rX:ba .non=true:=by simp [ba]
theorem bN {α:Type}{l:List α}{i:Int}{x:α} (h0:0<=i) (h:l[i.toNat]?=some x):atI l i=some x:=by
 have hl:=(List.getElem?_eq_some_iff.mp h).1
 unfold atI ixN
 rw[if_pos h0,if_pos (by omega)]
 exact h
theorem lB {n:Nat}{i:Int} (h0:0<=i) (h:i.toNat < n):ixN n i=some i.toNat:=by
 unfold ixN
 rw[if_pos h0,if_pos (by omega)]
section
variable {α:Type} (a b c d e f g h:α) (l:List α)
theorem ati0:atI (a :: l) 0=some a:=bN (by decide) rfl
theorem ati1:atI (a :: b :: l) 1=some b:=bN (by decide) rfl
theorem ati2:atI (a :: b :: c :: l) 2=some c:=bN (by decide) rfl
end
theorem ixn0 (n:Nat):ixN (n + 1) 0=some 0:=lB (i:=0) (by decide) (by show 0 < n + _;omega)
theorem ixn1 (n:Nat):ixN (n + 2) 1=some 1:=lB (i:=1) (by decide) (by show 1 < n + _;omega)
theorem CL (xs:List Val) (k:Int) (v:Val):seL.G (.lst xs) (.int k) v=match ixN xs.length k with
 | some j=>some (.lst (xs.set j v))
 | none=>none:=rfl
end L3
namespace L3
open PySem PySem.Spec PyProof.Rows L2
mutual
def vq:Val->Val->Bool
 | .non,.non=>true
 | .bl a,.bl b=>a == b
 | .bl a,.int j=>(if a then 1 else 0) == j
 | .int i,.bl b=>i == (if b then 1 else 0)
 | .int i,.int j=>i == j
 | .str x,.str y=>x == y
 | .tup xs,.tup ys=>vqs xs ys
 | .lst xs,.lst ys=>vqs xs ys
 | _,_=>false
def vqs:List Val->List Val->Bool
 | [],[]=>true
 | x :: xs,y :: ys=>vq x y && vqs xs ys
 | _,_=>false
end
mutual
def wfV:Nat->Val->Bool
 | _,.non=>true
 | _,.bl _=>true
 | _,.int _=>true
 | _,.str x=>PyData.strOk x
 | k + 1,.tup xs=>eK k xs
 | k + 1,.lst xs=>eK k xs
 | _,_=>false
def eK:Nat->List Val->Bool
 | _,[]=>true
 | k,x :: xs=>wfV k x && eK k xs
end
mutual
def ec:Val->PyData
 | .bl b=>.bool b
 | .int i=>.int i
 | .str x=>.str x
 | .tup xs=>.tuple (cN xs)
 | .lst xs=>.list (cN xs)
 | _=>.none
def cN:List Val->List PyData
 | []=>[]
 | x :: xs=>ec x :: cN xs
end
mutual
theorem kg:∀ (k:Nat) (v:Val),wfV k v=true->(∀ j,k < j->bV j v=some (ec v))/\(ec v).canLay0=true/\(ec v).depth<=k
 | k,.non,_=>⟨λj hj=>by cases j with | zero=>exact absurd hj (Nat.not_lt_zero _) | succ j=>rfl,rfl,Nat.zero_le _⟩
 | k,.bl b,_=>⟨λj hj=>by cases j with | zero=>exact absurd hj (Nat.not_lt_zero _) | succ j=>rfl,rfl,Nat.zero_le _⟩
 | k,.int b,_=>⟨λj hj=>by cases j with | zero=>exact absurd hj (Nat.not_lt_zero _) | succ j=>rfl,rfl,Nat.zero_le _⟩
 | k,.str b,w=>⟨λj hj=>by cases j with | zero=>exact absurd hj (Nat.not_lt_zero _) | succ j=>rfl,by cases k <;> exact w,Nat.zero_le _⟩
 | 0,.tup xs,w=>absurd w Bool.false_ne_true
 | 0,.lst xs,w=>absurd w Bool.false_ne_true
 |
  k + 1,.tup xs,w=>by
  obtain⟨h1,h2,h3⟩:=iM k xs w
  exact⟨λj hj=>by cases j with | zero=>exact absurd hj (Nat.not_lt_zero _) | succ j=>simp only[bV,ec,h1 j (Nat.lt_of_succ_lt_succ hj),Option.map_some],h2,by simpa [ec,PyData.depth] using h3⟩
 |
  k + 1,.lst xs,w=>by
  obtain⟨h1,h2,h3⟩:=iM k xs w
  exact⟨λj hj=>by cases j with | zero=>exact absurd hj (Nat.not_lt_zero _) | succ j=>simp only[bV,ec,h1 j (Nat.lt_of_succ_lt_succ hj),Option.map_some],h2,by simpa [ec,PyData.depth] using h3⟩
 | k,.ty _,w=>by cases k <;> exact absurd w Bool.false_ne_true
 | k,.glb _,w=>by cases k <;> exact absurd w Bool.false_ne_true
 | k,.exc _,w=>by cases k <;> exact absurd w Bool.false_ne_true
 | k,.kl _,w=>by cases k <;> exact absurd w Bool.false_ne_true
 | k,.dct _,w=>by cases k <;> exact absurd w Bool.false_ne_true
 | k,.set _,w=>by cases k <;> exact absurd w Bool.false_ne_true
theorem iM:∀ (k:Nat) (vs:List Val),eK k vs=true->(∀ j,k < j->cW j vs=some (cN vs))/\PyData.canLayAll0 (cN vs)=true/\PyData.depthAll (cN vs)<=k
 | k,[],_=>⟨λj hj=>by simp [cW,cN],rfl,Nat.zero_le _⟩
 |
  k,v :: vs,w=>by
  have w':(wfV k v && eK k vs)=true:=w
  rw[Bool.and_eq_true] at w'
  obtain⟨h1,h2,h3⟩:=kg k v w'.1
  obtain⟨i1,i2,i3⟩:=iM k vs w'.2
  exact⟨λj hj=>by simp [cW,cN,h1 j hj,i1 j hj],by simp [cN,PyData.canLayAll0,h2,i2],Nat.max_le.mpr ⟨h3,i3⟩⟩
end
mutual
theorem rW:∀ (k:Nat) (v u:Val),wfV k v=true->wfV k u=true->PyData.eqv (ec v) (ec u)=vq v u
 |
  k,v,u,hv,hu=>by
  cases v <;> first | (cases k <;> exact absurd hv Bool.false_ne_true) | skip
  all_goals (cases u <;> first | (cases k <;> exact absurd hu Bool.false_ne_true) | rfl | (cases k with | zero=>exact absurd hv Bool.false_ne_true | succ k=>exact nB k _ _ hv hu))
theorem nB:∀ (k:Nat) (v u:List Val),eK k v=true->eK k u=true->PyData.eqvAll (cN v) (cN u)=vqs v u
 | _,[],[],_,_=>rfl
 | _,[],_ :: _,_,_=>rfl
 | _,_ :: _,[],_,_=>rfl
 |
  k,x :: xs,y :: ys,hv,hu=>by
  have h1:(wfV k x && eK k xs)=true:=hv
  have h2:(wfV k y && eK k ys)=true:=hu
  rw[Bool.and_eq_true] at h1 h2
  show (PyData.eqv (ec x) (ec y) && PyData.eqvAll (cN xs) (cN ys))=(vq x y && vqs xs ys)
  rw[rW k x y h1.1 h2.1,nB k xs ys h1.2 h2.2]
end
theorem CP {x y:Val} (hx:wfV 60 x=true) (hy:wfV 60 y=true):bW x y=some (vq x y):=by
 obtain⟨h1,h2,h3⟩:=kg 60 x hx
 obtain⟨i1,i2,i3⟩:=kg 60 y hy
 unfold bW
 rw[h1 64 (by omega),i1 64 (by omega)]
 dsimp only
 rw[if_pos ⟨eY h2 (by omega),eY i2 (by omega)⟩,rW 60 x y hx hy]
mutual
def gE:Val->Bool
 | .bl _=>false
 | .tup xs=>eh xs
 | .lst xs=>eh xs
 | .non=>true
 | .int _=>true
 | .str _=>true
 | _=>false
def eh:List Val->Bool
 | []=>true
 | x :: xs=>gE x && eh xs
end
mutual
theorem qZ:∀ (v u:Val),gE v=true->gE u=true->(vq v u=true ↔ v=u)
 |
  v,u,hv,hu=>by
  cases v <;> first | exact absurd hv Bool.false_ne_true | skip
  all_goals (cases u <;> first | exact absurd hu Bool.false_ne_true | exact⟨λz=>absurd z Bool.false_ne_true,λz=>nomatch z⟩ | (simp [vq];done) | skip)
  all_goals
   refine Iff.trans (nU _ _ hv hu) ?_
   constructor
   ·rintro rfl;rfl
   ·intro z;cases z;rfl
theorem nU:∀ (v u:List Val),eh v=true->eh u=true->(vqs v u=true ↔ v=u)
 | [],[],_,_=>⟨λ_=>rfl,λ_=>rfl⟩
 | [],_ :: _,_,_=>⟨λz=>absurd z Bool.false_ne_true,λz=>nomatch z⟩
 | _ :: _,[],_,_=>⟨λz=>absurd z Bool.false_ne_true,λz=>nomatch z⟩
 |
  x :: xs,y :: ys,hv,hu=>by
  have h1:(gE x && eh xs)=true:=hv
  have h2:(gE y && eh ys)=true:=hu
  rw[Bool.and_eq_true] at h1 h2
  show (vq x y && vqs xs ys)=true ↔ _
  rw[Bool.and_eq_true,qZ x y h1.1 h2.1,nU xs ys h1.2 h2.2,List.cons.injEq]
end
structure Bx where
 l:Rat
 t:Rat
 w:Rat
 h:Rat
structure Bx.Ok (b:Bx):Prop where
 w:0 < b.w
 h:0 < b.h
structure Bx.Sz (n:Nat) (b:Bx):Prop where
 l:L2.Sz n b.l
 t:L2.Sz n b.t
 w:L2.Sz n b.w
 h:L2.Sz n b.h
theorem iQ {g:MG3}{B:MS3} (P:E3->Prop):∀ (vs:List Val) (e:E3),P e->(∀ v ∈ vs,∀ e,P e->∃ e1 e2,g v e=some e1/\(B e1=.nx e2\/B e1=.ct e2)/\P e2)->∃ e',P e'/\dU g B vs e=.nx e'
 | [],e,hp,_=>⟨e,hp,rfl⟩
 |
  v :: vs,e,hp,hf=>by
  obtain⟨e1,e2,q1,q2,q3⟩:=hf v (List.mem_cons_self ..) e hp
  obtain⟨e',p',q4⟩:=iQ P vs e2 q3 λu hu=>hf u (List.mem_cons_of_mem _ hu)
  refine⟨e',p',?_⟩
  rw[gx,q1]
  rcases q2 with q2 | q2 <;> simp only[q2,vE,vp,q4]
end L3
namespace L3
open PySem PySem.Spec PyProof.Rows L2
def rgV (k:Nat):List Val:=(List.range k).map λj=>Val.int (j:Nat)
theorem fI {k:Nat} (h:k < 1000000):d9 [.int (k:Nat)]=some (rgV k):=by
 simp only[d9]
 rw[if_pos (⟨by omega,by omega⟩:RgB _),Int.toNat_natCast]
 unfold pe rgV
 simp only[Int.zero_add]
theorem wI {i:Int} (h0:0<=i) (h:i < 1000000):d9 [.int i]=some (rgV i.toNat):=by
 have:=fI (k:=i.toNat) (by omega)
 rwa [show ((i.toNat:Nat):Int)=i from by omega] at this
theorem c7 {g:MG3}{F:ME3}{α:Type} (fv fw:α->Val) (P:E3->Prop):∀ (l:List α) (acc:List Val) (e:E3),P e->(∀ a ∈ l,∀ e,P e->∃ e1 t e2,g (fv a) e=some e1/\F e1=.ok t e2/\bR e2 t=some (e2,fw a)/\P e2)->acc.length + l.length<=16777216->∃ e',P e'/\lcV g qY.G F (l.map fv) acc e=.ok (acc++l.map fw) e'
 | [],acc,e,hp,_,_=>⟨e,hp,by simp [lcV]⟩
 |
  v :: vs,acc,e,hp,hf,hl=>by
  obtain⟨e1,t,e2,q1,q2,q3,q4⟩:=hf v (List.mem_cons_self ..) e hp
  obtain⟨e',p',q5⟩:=c7 fv fw P vs (acc++[fw v]) e2 q4 (λu hu=>hf u (List.mem_cons_of_mem _ hu)) (by simp at hl ⊢;omega)
  refine⟨e',p',?_⟩
  rw[List.map_cons]
  unfold lcV
  have cy:qY.G=cY:=rfl
  rw[cy] at q5 ⊢
  rw[if_pos (by simp at hl;omega),q1]
  simp only[cY,ic,if_true,q2,q3,q5]
  simp
theorem xw (i:Nat) (v:Val) (e:E3):dS (some i) (.sh v) e=e:=rfl
def lZ (ms:List Bool) (r:SR3):R3F:=match r with
 | .nx e=>(match muV ms e with | some mv=>.ok (.val .non) mv | none=>.stuck)
 | .rt r e=>(match muV ms e with | some mv=>.ok r mv | none=>.stuck)
 | .exc c e=>(match muV ms e with | some mv=>.exc c mv | none=>.stuck)
 | _=>.stuck
theorem BE {ms:List Bool}{N:Nat}{c:PSt}{vs:List Val} (h:vs.length=ms.length):(fnP ms N c).G vs=lZ ms (c.G (sls ms vs++List.replicate (N - vs.length) .no)):=by
 rw[iZ,if_pos h];rfl
theorem AX {ms:List Bool}{N:Nat}{c:PSt}{vs:List Val} (h:vs.length=ms.length):(PFx.of ms N c).G vs=lZ ms (c.G (sls ms vs++List.replicate (N - vs.length) .no)):=by
 rw[fc,if_pos h];rfl
theorem vO (ms:List Bool) (r:Rt) (e:E3):lZ ms (.rt r e)=match muV ms e with | some mv=>.ok r mv | none=>.stuck:=rfl
theorem cw {Q:SR3->Prop} (I:E3->Prop) {a b:PSt}{e:E3} (h1:∃ e1,a.G e=.nx e1/\I e1) (h2:∀ e1,I e1->Q (b.G e1)):Q ((aH a b).G e):=by
 obtain⟨e1,q,i⟩:=h1
 rw[vI,q]
 exact h2 e1 i
theorem sm8 {m:Int} (h:m.natAbs < 1099511627776):Sm 8000 m:=Nat.lt_of_lt_of_le (show m.natAbs < 2 ^ 40 from h) (Nat.pow_le_pow_right (by decide) (by decide))
structure Good (b:Bx):Prop where
 ok:b.Ok
 sz:b.Sz 101
end L3
namespace L3
open PySem PySem.Spec PyProof.Rows L2
section
variable {K:W.Frag}{mg:Str->Option Value}{X:Cx}{ES:L2.St->XK}{e:Expr}{es:List Expr}{A:PAs}{pos:Pos}
end
theorem qV (xs ys:List Val):b0.G (.lst xs) (.lst ys)=if xs.length + ys.length<=16777216 then .new (.lst (xs++ys)) else .stuck:=rfl
end L3
namespace L3
open PySem PySem.Spec PyProof.Rows L2
section
variable {K:W.Frag}{mg:Str->Option Value}{X:Cx}{ES:L2.St->XK}{e a b c o lo hi:Expr}{p q r:PEx}{pos p1 p2:Pos}
end
theorem ar1 {α:Type}{P:List α->Prop} (h:∀ a,P [a]):∀ us:List α,us.length=1->P us
 | [a],_=>h a
theorem ar2 {α:Type}{P:List α->Prop} (h:∀ a b,P [a,b]):∀ us:List α,us.length=2->P us
 | [a,b],_=>h a b
theorem ar3 {α:Type}{P:List α->Prop} (h:∀ a b c,P [a,b,c]):∀ us:List α,us.length=3->P us
 | [a,b,c],_=>h a b c
end L3
namespace L3
open PySem PySem.Spec PyProof.Rows L2
section
variable {P:Nat->Prop}{h:AH}
theorem BB {k:Key}{v:Val}{ws:List (Key×D)}{us:List (Key×Val)} (r:Rk P h ws us):lkD us k=some v->∃ d,lkD ws k=some d/\Rd P h d v:=
 r.ind (M:=λws us=>lkD us k=some v->∃ d,lkD ws k=some d/\Rd P h d v) (λq=>by cases q) (λ{k2 d v2 ds vs} r _ ih q=>by
  unfold lkD at q ih ⊢
  rw[List.find?_cons] at q ⊢
  dsimp only at q ⊢
  by_cases hk:k2=k
  ·rw[decide_eq_true hk] at q ⊢
   cases q
   exact⟨d,rfl,r⟩
  ·rw[decide_eq_false hk] at q ⊢
   exact ih q)
theorem A8:∀ {ks:List Key}{ds:List D}{vs:List Val},Rds P h ds vs->Rk P h (ks.zip ds) (ks.zip vs):=by
 intro ks
 induction ks with
 | nil=>intro ds vs _;exact .nil
 |
  cons k ks ih=>
  intro ds vs r
  cases r with
  | nil=>exact .nil
  | cons r rr=>exact .cons r (ih rr)
end
def tX:Val->Val->Bv:=λx y=>match x with
 | .dct kvs=>(match y with
  | .str k=>(match lkD kvs (.inr k) with
   | some v=>.val v
   | none=>.stuck)
  | _=>.stuck)
 | _=>.stuck
theorem Ab:RO mI tX:=λP h d1 d2 v1 v2 r1 r2=>by
 unfold tX
 split
 ·rename_i kvs
  split
  ·rename_i k
   split
   ·rename_i v q
    obtain⟨n,ws,rfl,e,rk⟩:=r1.dct
    obtain rfl:=r2.str
    obtain⟨d,q1,rd⟩:=BB rk q
    refine⟨d,?_,rd⟩
    unfold mI
    dsimp only
    rw[e]
    dsimp only
    rw[q1]
   ·trivial
  ·trivial
 ·trivial
def tI:PO2:=⟨mI,tX,Ab⟩
theorem C7 (kvs:List (Key×Val)) (k:Str):tI.G (.dct kvs) (.str k)=match lkD kvs (.inr k) with
 | some v=>.val v
 | none=>.stuck:=rfl
def n4 (ks:List Str) (A:MA3):ME3:=λe=>(A e).bind λts e1=>match dem e1 ts with
 | some (e2,vs)=>if ks.length=vs.length then .ok (.new (.dct ((ks.map Sum.inr).zip vs))) e2 else .stuck
 | none=>.stuck
theorem we {A:MA}{A3:MA3} (ks:List Str) (hA:RA A A3):RE (jD ks A) (n4 ks A3):=λX h0 L ns e ae h S hl=>by
 have SG:=S.grow (.dct [])
 have p:=hA (Xn X h.length) h0 ns e ae (h++[.dct []]) SG
 unfold n4 jD
 cases q:A3 e with
 | stuck=>trivial
 |
  exc c e'=>
  rw[q] at p
  obtain⟨h',ns',y,a,S'⟩:=p
  exact⟨h',ns',by rw[y];rfl,(Stp.grow _).trans S a,S'.weak λn z=>.inl z⟩
 |
  ok ts e1=>
  rw[q] at p
  obtain⟨ds,h1,ns1,y,a1,S1,r1⟩:=p
  rw[y]
  show Po X h0 ns e ae h (relE X h0 L ae) _ (match dem e1 ts with
   | some (e2,vs)=>if ks.length=vs.length then .ok (.new (.dct ((ks.map Sum.inr).zip vs))) e2 else .stuck
   | none=>.stuck)
  cases qd:dem e1 ts with
  | none=>trivial
  |
   some w=>
   obtain⟨e2,vs⟩:=w
   dsimp only
   by_cases hlen:ks.length=vs.length
   ·rw[if_pos hlen]
    obtain⟨bn,S2,a2,r2⟩:=fR S1 r1 qd
    have hk:h1[h.length]?=some (.dct []):=a1.keep _ _ nY λ⟨i,s,z,_⟩=>SG.nx i _ z (.inr rfl)
    have A:=((Stp.grow (.dct [])).trans S a1).trans S a2
    have hlt:=a9 hk
    have mv:Mov (Oc (Xn X h.length) bn) (Oc (Xn X h.length) bn) h1 (h1.set h.length (.dct ((ks.map Sum.inr).zip ds))):=λm o p q=>⟨p,by
     have:m ≠ h.length:=λz=>p.1 (.inr z)
     rw[aN this];exact q⟩
    have S3:Sat (Xn X h.length) h0 bn e2 ae (h1.set h.length (.dct ((ks.map Sum.inr).zip ds))):=⟨S2.l1,S2.l2,by rw[List.length_set];exact S2.lh,λm z=>by rw[List.length_set];exact S2.xl m z,S2.inj,S2.nx,λj s qj=>(S2.sl j s qj).mono mv λm o qm qo=>by
     have:m ≠ h.length:=λz=>S2.nx j m qm (.inr z)
     rw[aN this];exact qo⟩
    have A3':Stp ns e h bn e2 (h1.set h.length (.dct ((ks.map Sum.inr).zip ds))):=⟨by rw[List.length_set];exact A.len,λm o qm hm=>by
     have:m ≠ h.length:=Nat.ne_of_lt (a9 qm)
     rw[aN this];exact A.keep m o qm hm,A.nw,A.lk,A.lk',A.mu,A.mu'⟩
    refine⟨.ref h.length,_,bn,?_,A3',S3.weak λn z=>.inl z,h.length,_,rfl,hl,λz=>Nat.lt_irrefl _ (S.xl _ z),a8 hlt,trivial,S3,.dct ((A8 r2).mono mv)⟩
    show (match h1[h.length]? with
     | some (.dct [])=>if ks.length=ds.length then R.ok (D.ref h.length) (h1.set h.length (.dct ((ks.map Sum.inr).zip ds))) else .stuck
     | _=>.stuck)=_
    rw[hk]
    dsimp only
    rw[if_pos (by rw[r2.len];exact hlen)]
   ·rw[if_neg hlen]
    trivial
def oF (ks:List Str) (a:PAs):PEx:=⟨jD ks a.F,n4 ks a.G,we ks a.ok⟩
theorem gC (e:E3) (ks:List Str) (a:PAs):(oF ks a).G e=(a.G e).bind λts e1=>match dem e1 ts with
 | some (e2,vs)=>if ks.length=vs.length then .ok (.new (.dct ((ks.map Sum.inr).zip vs))) e2 else .stuck
 | none=>.stuck:=rfl
section
variable {K:W.Frag}{mg:Str->Option Value}{X:Cx}{ES:L2.St->XK}{a b:Expr}{p q:PEx}{pos:Pos}
theorem x3 (hu:X.A.units + 1 < cLine) (ha:DE K mg X ES a p.F) (hb:DE K mg X ES b q.F) (hs:pw b):DE K mg X ES (.Subscript a b pos) (pOp tI p q).F:=by with_unfolding_all exact wo hu ha hb hs
theorem mC {k:Str}{j:Nat}{kp:Pos}{v:Expr}{ks:List (Option Expr)}{vs:List Expr}{prs:List (Str×ME)}{F:ME} (hv:DE K mg X ES v F) (hr:PPs X pos ks vs (tps K mg ES prs)):PPs X pos (some (.Constant (.str k) j kp) :: ks) (v :: vs) (tps K mg ES ((k,F) :: prs)):=by with_unfolding_all exact uT hv hr
theorem xZ {keys:List (Option Expr)}{values:List Expr}{prs:List (Str×ME)}{ks:List Str}{A:PAs} (hp:PPs X pos keys values (tps K mg ES prs)) (h1:ks=prs.map (·.1):=by rfl) (h2:A.F=aL prs:=by rfl) (hn:ks.Nodup:=by decide) (hall:keys.all (·.isSome)=true:=by rfl) (hl:keys.length=values.length:=by rfl) (h0:keys ≠ []:=by intro h;cases h) (h15:keys.length<=15:=by decide) (hp15:prs.length<=15:=by decide):DE K mg X ES (.Dict keys values pos) (oF ks A).F:=by
 subst h1
 show DE K mg X ES (.Dict keys values pos) (jD (prs.map (·.1)) A.F)
 rw[h2]
 with_unfolding_all exact wV hp hall hl h0 h15 hn hp15
end
end L3
namespace L3
open PySem L2
theorem kG {g:MG3}{B:MS3} (P:Nat->E3->Prop) (m:Nat) (hs:∀ i,i < m->∀ e,P i e->∃ e1 e2,g (.int (i:Nat)) e=some e1/\(B e1=.nx e2\/B e1=.ct e2)/\P (i + 1) e2):∀ (k i:Nat) (e:E3),i + k=m->P i e->∃ e',P m e'/\dU g B ((List.range' i k).map λj=>Val.int (j:Nat)) e=.nx e'
 |
  0,i,e,h,p=>by
  obtain rfl:i=m:=by omega
  exact⟨e,p,rfl⟩
 |
  k + 1,i,e,h,p=>by
  obtain⟨e1,e2,q1,q2,q3⟩:=hs i (by omega) e p
  obtain⟨e',p',q4⟩:=kG P m hs k (i + 1) e2 (by omega) q3
  refine⟨e',p',?_⟩
  rw[List.range'_succ,List.map_cons,gx,q1]
  rcases q2 with q2 | q2
  ·simp only[q2,vE];exact q4
  ·simp only[q2,vp];exact q4
theorem tZ {g:MG3}{B:MS3} (P:Nat->E3->Prop) (m:Nat) {e:E3} (h0:P 0 e) (hs:∀ i,i < m->∀ e,P i e->∃ e1 e2,g (.int (i:Nat)) e=some e1/\(B e1=.nx e2\/B e1=.ct e2)/\P (i + 1) e2):∃ e',P m e'/\dU g B (rgV m) e=.nx e':=by
 have:=kG P m hs m 0 e (by omega) h0
 rw[<- List.range_eq_range'] at this
 exact this
theorem nI (k:Nat):(rgV k).length=k:=by unfold rgV;rw[List.length_map,List.length_range]
theorem yp (xs:List Val) (n:Nat):eg xs none (some (n:Int))=xs.take n:=by
 unfold eg
 rw[HT.sIx_none,HT.sIx_nat,List.drop_zero,Nat.sub_zero]
 by_cases h:n<=xs.length
 ·rw[Nat.min_eq_left h]
 ·rw[Nat.min_eq_right (by omega),List.take_of_length_le (Nat.le_refl _),List.take_of_length_le (by omega)]
theorem ma (xs:List Val) (n:Nat):eg xs (some (n:Int)) none=xs.drop n:=by
 unfold eg
 rw[HT.sIx_none,HT.sIx_nat]
 by_cases h:n<=xs.length
 ·rw[Nat.min_eq_left h,List.take_of_length_le (by rw[List.length_drop];exact Nat.le_refl _)]
 ·rw[Nat.min_eq_right (by omega),List.drop_of_length_le (Nat.le_refl _),List.drop_of_length_le (by omega),List.take_nil]
theorem jj (xs:List Val) (lo hi:Option Int):aSl (.lst xs) lo hi=.new (.lst (eg xs lo hi)):=rfl
end L3
namespace L3
open PySem PySem.Spec PyProof.Rows L2
section
variable {gs:MGs}{gs3:gY}
end
section
variable {e:E3}
end
section
variable {K:W.Frag}{mg:Str->Option Value}{X:Cx}{es:List Expr}{gs:PGs}{pos:Pos}
end
end L3
namespace L3
open PySem PySem.Spec PyProof.Rows L2
section
variable {K:W.Frag}{mg:Str->Option Value}{X:Cx}{ES:L2.St->XK}{a:Expr}{A:PAs}{pos q2 p1 p2:Pos}
end
end L3
namespace L3
open PySem PySem.Spec PyProof.Rows L2
section
variable {K:W.Frag}{mg:Str->Option Value}{n:Str}{kvs:List (Str×Int)}
end
end L3
namespace L3
open PySem L2
theorem j4 {g:MG3}{c:MT3}{F:ME3}{α:Type} (pz:α->Bool) (fv fw:α->Val) (P:E3->Prop):∀ (l:List α) (acc:List Val) (e:E3),P e->(∀ a ∈ l,∀ e,P e->∃ e1 e2,g (fv a) e=some e1/\c e1=.ok (pz a) e2/\P e2/\(pz a=true->∃ t e3,F e2=.ok t e3/\bR e3 t=some (e3,fw a)/\P e3))->acc.length + l.length<=16777216->∃ e',P e'/\lcV g c F (l.map fv) acc e=.ok (acc++(l.filter pz).map fw) e'
 | [],acc,e,hp,_,_=>⟨e,hp,by simp [lcV]⟩
 |
  a :: l,acc,e,hp,hf,hl=>by
  obtain⟨e1,e2,q1,q2,q3,q4⟩:=hf a (List.mem_cons_self ..) e hp
  rw[List.length_cons] at hl
  cases hz:pz a with
  |
   false=>
   obtain⟨e',p',q⟩:=j4 pz fv fw P l acc e2 q3 (λu hu=>hf u (List.mem_cons_of_mem _ hu)) (by omega)
   refine⟨e',p',?_⟩
   rw[hz] at q2
   rw[List.map_cons]
   unfold lcV
   rw[if_pos (by omega),q1]
   simp only[q2,ic,Bool.false_eq_true,if_false,q]
   rw[List.filter_cons_of_neg (by rw[hz];exact Bool.false_ne_true)]
  |
   true=>
   obtain⟨t,e3,r1,r2,r3⟩:=q4 hz
   obtain⟨e',p',q⟩:=j4 pz fv fw P l (acc++[fw a]) e3 r3 (λu hu=>hf u (List.mem_cons_of_mem _ hu)) (by simp;omega)
   refine⟨e',p',?_⟩
   rw[hz] at q2
   rw[List.map_cons]
   unfold lcV
   rw[if_pos (by omega),q1]
   simp only[q2,ic,if_true,r1,r2,q]
   rw[List.filter_cons_of_pos hz,List.map_cons,List.append_assoc]
   rfl
theorem ox (xs:List Int):(xs.map Val.int).all jr=true:=by
 rw[List.all_map,List.all_eq_true]
 intro x _
 rfl
theorem sF (xs:List Int) (a:Int):((xs.map Val.int).any λd=>eq1 d (.int a))=xs.contains a:=by
 induction xs with
 | nil=>rfl
 |
  cons x xs ih=>
  rw[List.map_cons,List.any_cons,ih,List.contains_cons]
  congr 1
  show (x == a)=(a == x)
  rw[Bool.eq_iff_iff,beq_iff_eq,beq_iff_eq]
  exact⟨Eq.symm,Eq.symm⟩
theorem sV (xs:List Int) (a:Int):bIn.G (.int a) (.lst (xs.map .int))=.val (.bl (xs.contains a)):=by
 show aIn false (.int a) (.lst (xs.map .int))=_
 unfold aIn
 dsimp only [Val.items]
 rw[if_pos ⟨rfl,ox xs⟩,sF]
 rfl
end L3
namespace L3
open PySem PySem.Spec PyProof.Rows L2
section
variable {K:W.Frag}{mg:Str->Option Value}
end
end L3
namespace L3
open PySem PySem.Spec PyProof.Rows L2
section
variable {X:Cx}{K:W.Frag}{mg:Str->Option Value}{ES:L2.St->XK}{e:Expr}{es:List Expr}{A:PAs}{pos:Pos}{x:PSt}
variable {P:Program}{w:World}{base:Heap}{fx:Str}{fst:Stmt}{k n m:Nat}{ps N:List Str}{ms:List Bool}
end
end L3
namespace L3
open PySem L2
end L3
namespace L3
open PySem PySem.Spec PyProof.Rows L2
def jV:Val->List Val->Option (Val×Val):=λu vs=>match u,vs with
 | .lst xs,[.int i,v]=>if 0<=i/\i<=(xs.length:Nat)/\xs.length < 16777216 then some (.lst (xs.take i.toNat++v :: xs.drop i.toNat),.non) else none
 | _,_=>none
theorem qI:RM iz jV:=λP h n o u ds vs u' v e hf r rs q=>by
 unfold jV at q
 split at q
 ·split at q
  ·rename_i hb
   cases q
   obtain⟨q1,es,q2,q3,q4⟩:=vF e r
   cases rs with
   |
    cons r1 rs=>
    obtain⟨d,rfl,rd⟩:=rds1 rs
    obtain rfl:=ShR.int (.inl r1)
    refine⟨q1,.lst (es.take _++d :: es.drop _),.non,?_,trivial,.lst ((q3.take _).append (.cons rd (q3.drop _))),.non⟩
    unfold iz;rw[q4];dsimp only;rw[if_pos (by rw[q3.len];exact hb)]
  ·cases q
 ·cases q
def iO:PMm:=⟨iz,jV,qI⟩
theorem uU (xs:List Val) (i:Int) (v:Val):iO.G (.lst xs) [.int i,v]=if 0<=i/\i<=(xs.length:Nat)/\xs.length < 16777216 then some (.lst (xs.take i.toNat++v :: xs.drop i.toNat),.non) else none:=rfl
theorem qM {K:W.Frag}{mg:Str->Option Value}:MtD K mg j9 iO.F:=qQ
def jA:List Val->Option (List (List Val))
 | []=>some []
 | .lst xs :: vs=>(jA vs).map (xs :: ·)
 | _ :: _=>none
theorem kA:∀ (xss:List (List Val)),jA (xss.map .lst)=some xss
 | []=>rfl
 | xs :: xss=>by show (jA (xss.map .lst)).map _=_;rw[kA xss];rfl
theorem uk {P:Nat->Prop}{h:AH}:∀ {ds:List D}{vs:List Val}{xss:List (List Val)},Rds P h ds vs->jA vs=some xss->∃ yss,fS h ds=some yss/\Rds P h yss.flatten xss.flatten/\yss.length=xss.length:=by
 intro ds
 induction ds with
 | nil=>intro vs xss r e;cases r;cases e;exact⟨[],rfl,.nil,rfl⟩
 |
  cons d ds ih=>
  intro vs xss r e
  cases r with
  |
   cons r rr=>
   rename_i v vs
   cases v with
   |
    lst xs=>
    obtain⟨yss,e1,e2⟩:=Option.map_eq_some_iff.mp e
    cases e2
    obtain⟨zss,g1,g2,g3⟩:=ih rr e1
    obtain⟨n,es,rfl,g4,_,g5⟩:=ShR.lst (.inl r)
    refine⟨es :: zss,?_,g5.append g2,congrArg (· + 1) g3⟩
    unfold fS
    rw[g4,g1]
   | _=>cases e
def jF:List Val->Bv:=λvs=>match vs with
 | [.lst us,.lst ys]=>match jA us with
  | some xss=>if xss ≠ []/\ys.length + xss.flatten.length<=16777216 then .new (.lst (ys++xss.flatten)) else .stuck
  | none=>.stuck
 | _=>.stuck
theorem wX:RFn jB jF:=λP h ds vs r=>by
 unfold jF
 split
 ·cases
   r with
  |
   cons r1 r=>
   obtain⟨d,hd,r2⟩:=gv r
   subst hd
   split
   ·rename_i xss q
    split
    ·rename_i hb
     obtain⟨n,es,rfl,g1,_,g2⟩:=ShR.lst r1
     obtain⟨m,fs,rfl,g3,_,g4⟩:=ShR.lst r2
     obtain⟨yss,g5,g6,g7⟩:=uk g2 q
     refine⟨.lst (fs++yss.flatten),?_,trivial,.lst (g4.append g6)⟩
     unfold jB
     dsimp only
     rw[g1,g3]
     dsimp only
     rw[g5]
     dsimp only
     rw[if_pos ⟨λz=>hb.1 (by rw[z] at g7;exact List.length_eq_zero_iff.mp g7.symm),by rw[g4.len,g6.len];exact hb.2⟩]
    ·trivial
   ·trivial
 ·trivial
def lA:PBf:=⟨jB,jF,wX⟩
theorem zD (xss:List (List Val)) (ys:List Val):lA.G [.lst (xss.map .lst),.lst ys]=if xss ≠ []/\ys.length + xss.flatten.length<=16777216 then .new (.lst (ys++xss.flatten)) else .stuck:=by
 show jF [.lst (xss.map .lst),.lst ys]=_
 unfold jF
 dsimp only
 rw[kA]
theorem wY {K:W.Frag}{mg:Str->Option Value}:bD K mg oY lA.F:=yg
end L3
namespace L3
open PySem PySem.Spec PyProof.Rows L2
def Xd (X:Nat->Prop) (b k:Nat):Nat->Prop:=λn=>X n\/(b<=n/\n < b + k)
section
variable {X:Nat->Prop}{h0:Nat}{ns ns1:Ns}{e e1:E3}{ae:AE}{h h1:AH}
theorem Sat.growL (S:Sat X h0 ns e ae h) (os:List Ob):Sat (Xd X h.length os.length) h0 ns e ae (h++os):=by
 have mv:Mov (Oc X ns) (Oc (Xd X h.length os.length) ns) h (h++os):=λn o' p q=>⟨⟨λz=>by
  rcases z with z | z
  ·exact p.1 z
  ·have:=a9 q;omega,p.2⟩,dg q⟩
 refine⟨S.l1,S.l2,by rw[List.length_append];have:=S.lh;omega,λn z=>?_,S.inj,λi n q z=>?_,λi s q=>(S.sl i s q).mono mv λj o' _ q'=>dg q'⟩
 ·rw[List.length_append]
  rcases z with z | z
  ·have:=S.xl n z;omega
  ·exact z.2
 ·rcases z with z | z
  ·exact S.nx i n q z
  ·obtain⟨_,_,_,_,_,_,_,q',_⟩:=S.own q
   have:=a9 q';omega
theorem Stp.growL (os:List Ob):Stp ns e h ns e (h++os):=⟨by rw[List.length_append];omega,λ_ _ q _=>dg q,λ_ _ q=>.inl q,λ_ _ q _=>⟨q,rfl⟩,λ_ _ q _=>⟨q,rfl⟩,λ_ _ q=>⟨_,q,rfl⟩,λ_ _ q=>⟨_,q,rfl⟩⟩
theorem Stp.wr {c:Nat}{o:Ob} (a:Stp ns e h ns1 e1 h1) (hc:h.length<=c):Stp ns e h ns1 e1 (h1.set c o):=
 ⟨by rw[List.length_set];exact a.len,λm o' q z=>by rw[aN (by have:=a9 q;omega)];exact a.keep m o' q z,a.nw,a.lk,a.lk',a.mu,a.mu'⟩
theorem rJ {c:Nat}{o:Ob} (hc:X c):Mov (Oc X ns) (Oc X ns) h (h.set c o):=λn o' p q=>⟨p,by rw[aN (show n ≠ c from λz=>p.1 (by rw[z];exact hc))];exact q⟩
theorem Sat.wr {c:Nat}{o:Ob} (S:Sat X h0 ns e ae h) (hc:X c):Sat X h0 ns e ae (h.set c o):=by
 refine⟨S.l1,S.l2,by rw[List.length_set];exact S.lh,λn z=>by rw[List.length_set];exact S.xl n z,S.inj,S.nx,λi s q=>?_⟩
 exact (S.sl i s q).mono (rJ hc) λj o' z q'=>by rw[aN (λy=>S.nx i c (by rw[<- y];exact z) hc)];exact q'
end
def dJ (j t:Nat) (q:ME3):List Val->List (List Val)->MS3
 | [],xss,e=>match e[j]? with
  | some .no=>.nx (e.set j (.sh (.lst (xss.map .lst))))
  | _=>.stuck
 | v :: vs,xss,e=>match pN t v e with
  | none=>.stuck
  | some e1=>match q e1 with
   | .ok tm e2=>match rs e2 tm,e2[j]?,e2[t]? with
    | some (.int i),some .no,some (.sh u)=>match xss[i.toNat]? with
     | some xs=>if 0<=i/\xs.length < 16777216 then dJ j t q vs (xss.set i.toNat (xs++[u])) e2 else .stuck
     | none=>.stuck
    | _,_,_=>.stuck
   | _=>.stuck
def rfs (b k:Nat):List D:=(List.range' b k).map D.ref
theorem zl {b k i:Nat} (hi:i < k):(rfs b k)[i]?=some (.ref (b + i)):=by
 unfold rfs
 rw[List.getElem?_map,List.getElem?_range' hi]
 simp
structure Dl (X:Nat->Prop) (b k j:Nat) (ns:Ns) (ae:AE) (h:AH) (xss:List (List Val)):Prop where
 aj:ae[j]?=some (some (.ref (b + k)))
 hm:h[b + k]?=some (.lst (rfs b k))
 len:xss.length=k
 cs:∀ (i:Nat) (xs:List Val),xss[i]?=some xs->∃ ds,h[b + i]?=some (.lst ds)/\Rds (Oc (Xd X b (k + 1)) ns) h ds xs
theorem Dl.step {X:Nat->Prop}{b k j h0:Nat}{ns ns1:Ns}{e e1:E3}{ae ae1:AE}{h h1:AH}{xss:List (List Val)} (d:Dl X b k j ns ae h xss) (S:Sat (Xd X b (k + 1)) h0 ns e ae h) (a:Stp ns e h ns1 e1 h1) (ha:ae1[j]?=ae[j]?):Dl X b k j ns1 ae1 h1 xss:=by
 have kp:∀ (m:Nat) (o:Ob),b<=m->m < b + (k + 1)->h[m]?=some o->h1[m]?=some o:=λm o z1 z2 q=>a.keep m o q λ⟨i,s,y,_⟩=>S.nx i m y (.inr ⟨z1,z2⟩)
 refine⟨ha.trans d.aj,kp _ _ (by omega) (by omega) d.hm,d.len,λi xs q=>?_⟩
 obtain⟨ds,q1,q2⟩:=d.cs i xs q
 have hi:=(List.getElem?_eq_some_iff.mp q).1
 rw[d.len] at hi
 exact⟨ds,kp _ _ (by omega) (by omega) q1,q2.mono (a.mov S)⟩
open Classical in
theorem sP {X:Nat->Prop}{h0:Nat}{ns0:Ns}{e0:E3}{ae0:AE}{hh:AH} (S0:Sat X h0 ns0 e0 ae0 hh) {b k j t:Nat} (hb:hh.length<=b) (hX:∀ n,X n->n < b) (hjt:j ≠ t) {q:PEx}{ns:Ns}{h:AH}{G:AH->Prop} (hG:∀ h',(∀ m o,Oc (Xd X b (k + 1)) ns m->h[m]?=some o->h'[m]?=some o)->G h'):
 ∀ {ds:List D}{vs:List Val},Rds (Oc (Xd X b (k + 1)) ns) h ds vs->∀ {ns1:Ns}{e1:E3}{ae1:AE}{h1:AH}{xss:List (List Val)},Mov (Oc (Xd X b (k + 1)) ns) (Oc (Xd X b (k + 1)) ns1) h h1->Stp ns0 e0 hh ns1 e1 h1->Sat (Xd X b (k + 1)) h0 ns1 e1 ae1 h1->Dl X b k j ns1 ae1 h1 xss->e1[j]?=some .no->
 PoS X h0 ns0 e0 hh (dQ G (gN t) (er (eM dh (eOp gIx (aT j) q.F) (cE (aT t) dF))) ds ae1 h1) (dJ j t q.G vs xss e1):=by
 intro ds
 induction ds with
 |
  nil=>
  intro vs r ns1 e1 ae1 h1 xss M A S1 D hj
  cases r
  unfold dQ dJ
  rw[if_pos (hG _ λm o p q=>(M m o p q).2),hj]
  dsimp only
  have hi:=(List.getElem?_eq_some_iff.mp hj).1
  have oc:∀ n,b<=n->n < b + (k + 1)->Oc X (ns1.set j none) n:=λn z1 z2=>⟨λz=>by have:=hX n z;omega,λz=>by
   rcases List.mem_or_eq_of_mem_set z with z | z
   ·obtain⟨i,z⟩:=aK.mp z
    exact S1.nx i n z (.inr ⟨z1,z2⟩)
   ·cases z⟩
  have mv:Mov (Oc (Xd X b (k + 1)) ns1) (Oc X (ns1.set j none)) h1 h1:=λn o p q=>⟨cL ⟨λz=>p.1 (.inl z),p.2⟩,q⟩
  have rows:Rds (Oc X (ns1.set j none)) h1 (rfs b k) (xss.map .lst):=by
   have aux:∀ (l:List (List Val)) (i:Nat),xss.drop i=l->Rds (Oc X (ns1.set j none)) h1 (rfs (b + i) l.length) (l.map .lst):=by
    intro l
    induction l with
    | nil=>intro i _;exact .nil
    |
     cons x l ih=>
     intro i hd
     have hx:xss[i]?=some x:=by
      have:=congrArg (λq=>q[0]?) hd
      simpa using this
     have hil:=(List.getElem?_eq_some_iff.mp hx).1
     rw[D.len] at hil
     obtain⟨ds,q1,q2⟩:=D.cs i x hx
     have:=ih (i + 1) (by rw[<- List.tail_drop,hd];rfl)
     exact .cons (.cell (oc _ (by omega) (by omega)) q1 (.lst (q2.mono mv))) this
   have:=aux xss 0 rfl
   rw[D.len] at this
   exact this
  have Sw:=S1.weak (X:=X) λn z=>.inl z
  refine .nx (A.put (x:=none) hi (λ_ z=>by cases z) hj rfl rfl S1.l2) (Sw.putN' hi ⟨rfl,_,D.aj,.cell (oc _ (by omega) (by omega)) D.hm (.lst rows)⟩)
 |
  cons d0 ds ih=>
  intro vs r ns1 e1 ae1 h1 xss M A S1 D hj
  cases r with
  |
   cons r rr=>
   unfold dQ dJ
   rw[if_pos (hG _ λm o p q=>(M m o p q).2)]
   split
   ·trivial
   ·rename_i e2
     q2
    obtain⟨ae2,bn,p2,S2,a2⟩:=oJ t _ _ _ _ _ _ _ _ _ S1 (r.mono M) q2
    have hae:ae2=ae1.set t (some d0):=by cases p2;rfl
    have D2:=D.step S1 a2 (ae1:=ae2) (by rw[hae,aN hjt])
    have A2:=A.trans S0 a2
    have M2:Mov (Oc (Xd X b (k + 1)) ns) (Oc (Xd X b (k + 1)) bn) h h1:=λn o p q=>by
     have:=M n o p q
     exact a2.mov S1 n o this.1 this.2
    rw[p2]
    have pq:=q.ok (Xd X b (k + 1)) h0 0 bn e2 ae2 h1 S2 (Nat.zero_le _)
    show PoS X h0 ns0 e0 hh ((er (eM dh (eOp gIx (aT j) q.F) (cE (aT t) dF)) ae2 h1).loop _) _
    split
    ·rename_i tm e3 q3
     rw[q3] at pq
     obtain⟨dq,h3,ns3,y1,a3,S3,y4⟩:=pq
     split
     ·rename_i i u z1 z2 z3
      split
      ·rename_i xs z4
       split
       ·rename_i hb'
        have D3:=D2.step S2 a3 (ae1:=ae2) rfl
        have A3:=A2.trans S0 a3
        obtain rfl:=(y4.sh S3 z1).int
        have hil:=(List.getElem?_eq_some_iff.mp z4).1
        rw[D.len] at hil
        obtain⟨dsi,w1,w2⟩:=D3.cs _ xs z4
        obtain⟨_,du,w3,w4⟩:=S3.sl t _ z3
        have ix:atI (rfs b k) i=some (.ref (b + i.toNat)):=by
         unfold atI
         rw[show (rfs b k).length=k from by unfold rfs;rw[List.length_map,List.length_range'],lB hb'.1 (by omega)]
         exact zl hil
        have f1:eOp gIx (aT j) q.F ae2 h1=.ok (.ref (b + i.toNat)) h3:=by
         unfold eOp aT
         rw[D2.aj]
         show (q.F ae2 h1).bind _=_
         rw[y1]
         show gIx (.ref (b + k)) (.int i) h3=_
         unfold gIx bZ aO
         dsimp only
         rw[D3.hm]
         dsimp only
         rw[ix]
        have f2:er (eM dh (eOp gIx (aT j) q.F) (cE (aT t) dF)) ae2 h1=.nx ae2 (h3.set (b + i.toNat) (.lst (dsi++[du]))):=by
         unfold er eM
         rw[f1]
         show R.toS (if gj h3 (.ref (b + i.toNat))=true then _ else _) _ _=_
         rw[if_pos (by show (aO h3 (b + i.toNat)).isSome=true;unfold aO;rw[w1];rfl)]
         unfold cE aT dF
         rw[w3]
         show R.toS (dh (.ref (b + i.toNat)) [du] h3) _ _=_
         unfold dh gf
         dsimp only
         rw[w1]
         dsimp only
         rw[if_pos (by rw[w2.len];exact hb'.2)]
         rfl
        rw[f2]
        have xc:Xd X b (k + 1) (b + i.toNat):=.inr ⟨by omega,by omega⟩
        have mw:=rJ (ns:=ns3) (h:=h3) (o:=.lst (dsi++[du])) xc
        have bnd:b + i.toNat < h3.length:=a9 w1
        refine ih rr (λn o p q=>?_) (A3.wr (by omega)) (S3.wr xc) ⟨D3.aj,?_,by rw[List.length_set];exact D3.len,λi' xs' qx=>?_⟩ z2
        ·have m2:=M2 n o p q
         have m3:=a3.mov S2 n o m2.1 m2.2
         exact mw n o m3.1 m3.2
        ·rw[aN (by omega)]
         exact D3.hm
        ·rcases aZ (by rw[D3.len];exact hil) qx with ⟨rfl,rfl⟩ | ⟨z,qx⟩
         ·exact⟨_,a8 bnd,((w2.append (.cons w4 .nil)).mono mw)⟩
         ·obtain⟨dsj,v1,v2⟩:=D3.cs i' xs' qx
          exact⟨dsj,by rw[aN (by omega)];exact v1,v2.mono mw⟩
       ·trivial
      ·trivial
     ·trivial
    ·trivial
theorem mE {G:AH->Prop}:∀ (ds acc:List D) (x:Option D) (h:AH),acc.length + ds.length<=16777216->(∀ g,G (h++g))->lcL G (gN 0) tY (eFn bp (cE (aT 0) dF)) ds acc [x] h=.ok (acc++rfs h.length ds.length) (h++ds.map λd=>Ob.lst [d])
 |
  [],acc,x,h,_,hG=>by
  unfold lcL
  rw[if_pos (by have:=hG [];rwa [List.append_nil] at this)]
  simp [rfs]
 |
  d :: ds,acc,x,h,hl,hG=>by
  rw[List.length_cons] at hl
  have ih:=mE ds (acc++[.ref h.length]) (some d) (h++[.lst [d]]) (by rw[List.length_append];show acc.length + 1 + _<=_;omega) (λg=>by rw[List.append_assoc];exact hG _)
  unfold lcL
  rw[if_pos ⟨by have:=hG [];rwa [List.append_nil] at this,by omega⟩]
  show lcL G (gN 0) tY (eFn bp (cE (aT 0) dF)) ds (acc++[.ref h.length]) [some d] (h++[.lst [d]])=_
  rw[ih]
  congr 1
  ·rw[List.append_assoc,List.length_append]
   simp [rfs,List.range'_succ]
  ·simp
def iE (I1 I2:MI) (j t:Nat) (q:ME):MS:=eT (fD (eLC I1 [none] (gN 0) tY (eFn bp (cE (aT 0) dF))) (gN j)) (jT I2 (gN t) (er (eM dh (eOp gIx (aT j) q) (cE (aT t) dF))))
def vc (I1 I2:MI3) (j t:Nat) (q:ME3):MS3:=λe=>(I1 e).toS λp e1=>match p.2,e1[j]? with
 |
  none,some s=>if s.pl=true/\p.1.length < 16777216 then (I2 (e1.set j .no)).toS λp2 e2=>match p2.2,e2[j]? with
   | none,some .no=>dJ j t q p2.1 (p.1.map λv=>[v]) e2
   | _,_=>.stuck
  else .stuck
 | _,_=>.stuck
theorem wQ {I1 I2:PIt}{j t:Nat}{q:PEx} (hjt:j ≠ t):RS (iE I1.F I2.F j t q.F) (vc I1.G I2.G j t q.G):=λX h0 ns e ae h S=>by
 have hs:iE I1.F I2.F j t q.F ae h=(I1.F ae h).toS ae λit h1=>(((noX (lcL it.guard (gN 0) tY (eFn bp (cE (aT 0) dF)) it.items [] [none] h1)).bind bp).toS ae λd h2=>.nx (ae.set j (some d)) h2).then (jT I2.F (gN t) (er (eM dh (eOp gIx (aT j) q.F) (cE (aT t) dF)))):=by
  unfold iE eT fD eLC
  cases I1.F ae h <;> rfl
 rw[hs]
 refine PoS.toS (I1.ok X h0 ns e ae h S) λit p h1 ns1 e1 a1 S1 r1=>?_
 obtain⟨vs,lk⟩:=p
 obtain⟨r2,gd,hk⟩:=r1
 cases lk with
 | some _=>trivial
 | none=>
 cases z2:e1[j]? with
 | none=>trivial
 |
  some s=>
  dsimp only
  split
  ·rename_i hp
   dsimp only at r2 gd hp
   have ln:=r2.len
   have g1:∀ g,it.guard (h1++g):=λg=>gd _ λm o q _=>dg q
   rw[mE it.items [] none h1 (by rw[List.length_nil];omega) g1,List.nil_append]
   have hk1:(rfs h1.length it.items.length).length<=16777216:=by unfold rfs;rw[List.length_map,List.length_range'];omega
   show PoS X h0 ns e h (SR.then (R.toS (bp (rfs h1.length it.items.length) _) ae _) _) _
   unfold bp
   rw[if_pos hk1]
   show PoS X h0 ns e h (jT I2.F (gN t) _ (ae.set j (some (.ref (h1++it.items.map λd=>Ob.lst [d]).length))) (h1++(it.items.map λd=>Ob.lst [d])++[Ob.lst (rfs h1.length it.items.length)])) _
   have hlen:(h1++it.items.map λd=>Ob.lst [d]).length=h1.length + it.items.length:=by rw[List.length_append,List.length_map]
   rw[hlen,List.append_assoc]
   have hol:((it.items.map λd=>Ob.lst [d])++[Ob.lst (rfs h1.length it.items.length)]).length=it.items.length + 1:=by rw[List.length_append,List.length_map];rfl
   have S2:=S1.growL ((it.items.map λd=>Ob.lst [d])++[Ob.lst (rfs h1.length it.items.length)])
   rw[hol] at S2
   have A2:Stp ns1 e1 h1 ns1 e1 (h1++((it.items.map λd=>Ob.lst [d])++[Ob.lst (rfs h1.length it.items.length)])):=.growL _
   have hj:=(List.getElem?_eq_some_iff.mp z2).1
   have S3:=S2.putN hj (s:=.no) (d:=some (.ref (h1.length + it.items.length))) rfl
   have A3:=A2.put (x:=none) (s:=.no) hj (λ_ z=>by cases z) z2 hp.1 rfl S1.l2
   have A3':Stp ns e h _ _ _:=a1.trans S A3
   have cellAt:∀ (i:Nat) (d:D),it.items[i]?=some d->(h1++((it.items.map λd=>Ob.lst [d])++[Ob.lst (rfs h1.length it.items.length)]))[h1.length + i]?=some (.lst [d]):=λi d qd=>by
    have:=(List.getElem?_eq_some_iff.mp qd).1
    rw[List.getElem?_append_right (by omega),List.getElem?_append_left (by rw[List.length_map];omega),Nat.add_sub_cancel_left,List.getElem?_map,qd]
    rfl
   have hmAt:(h1++((it.items.map λd=>Ob.lst [d])++[Ob.lst (rfs h1.length it.items.length)]))[h1.length + it.items.length]?=some (.lst (rfs h1.length it.items.length)):=by
    rw[List.getElem?_append_right (by omega),List.getElem?_append_right (by rw[List.length_map];omega),List.length_map,Nat.add_sub_cancel_left,Nat.sub_self]
    rfl
   generalize h1++((it.items.map λd=>Ob.lst [d])++[Ob.lst (rfs h1.length it.items.length)])=h2 at *
   have mv:Mov (Oc X ns1) (Oc (Xd X h1.length (it.items.length + 1)) (ns1.set j none)) h1 h2:=λn o p qn=>by
    have:=a9 qn
    exact⟨cL ⟨λz=>by rcases z with z | z;exact p.1 z;omega,p.2⟩,A2.keep n o qn λ⟨i,s,y,_⟩=>p.2 (aK.mpr ⟨i,y⟩)⟩
   have D3:Dl X h1.length it.items.length j (ns1.set j none) (ae.set j (some (.ref (h1.length + it.items.length)))) h2 (vs.map λv=>[v]):=by
    refine⟨a8 (by rw[S1.l1];exact hj),hmAt,by rw[List.length_map,ln],λi xs qx=>?_⟩
    rw[List.getElem?_map] at qx
    obtain⟨v,qv,rfl⟩:=Option.map_eq_some_iff.mp qx
    obtain⟨d,qd,rd⟩:=r2.get qv
    exact⟨[d],cellAt i d qd,.cons (rd.mono mv) .nil⟩
   show PoS X h0 ns e h ((I2.F _ h2).toS _ _) _
   have p2:=I2.ok _ h0 _ _ _ h2 S3
   cases q2:I2.G (e1.set j .no) with
   | stuck=>trivial
   |
    exc c e2=>
    rw[q2] at p2
    obtain⟨h3,ns3,y1,a3,S4⟩:=p2
    rw[y1]
    exact⟨_,h3,ns3,rfl,A3'.trans S a3,S4.weak λn z=>.inl z⟩
   |
    ok p2' e2=>
    rw[q2] at p2
    obtain⟨it2,h3,ns3,y1,a3,S4,r3,gd3,hk3⟩:=p2
    obtain⟨vs2,lk2⟩:=p2'
    rw[y1]
    cases lk2 with
    | some _=>trivial
    | none=>
    cases y3:e2[j]? with
    | none=>simp only[R3.toS,y3];trivial
    |
     some s3=>
     by_cases hs3:s3=.no
     case neg=>(simp only[R3.toS,y3];cases s3 <;> first | exact absurd rfl hs3 | trivial)
     subst hs3
     simp only[R3.toS,y3]
     show PoS X h0 ns e h (dQ it2.guard (gN t) _ it2.items _ h3) _
     have D4:=D3.step S3 a3 (ae1:=ae.set j (some (.ref (h1.length + it.items.length)))) rfl
     exact sP S (Nat.le_trans a1.len (Nat.le_refl _)) (λn z=>S1.xl n z) hjt (λh' hh'=>gd3 h' λm o qm z=>by
      rcases z with z | ⟨_,z,_⟩
      ·exact hh' m o z qm
      ·cases z) r3 (λn o p q=>⟨p,q⟩) (A3'.trans S a3) S4 D4 y3
  ·trivial
def oU (I1 I2:PIt) (j t:Nat) (q:PEx) (hjt:j ≠ t):PSt:=⟨iE I1.F I2.F j t q.F,vc I1.G I2.G j t q.G,wQ hjt⟩
theorem p9 (a b c:MS):eT (eT a b) c=eT a (eT b c):=by
 funext ae h
 unfold eT
 cases a ae h <;> rfl
section
variable {K:W.Frag}{mg:Str->Option Value}{X:Cx}{ES:L2.St->XK}{re qe ad:Expr}{st1:Stmt}{sts:List Stmt}{q:PEx}{y:PSt}{g:PGt}{I1 I2:PIt}{pos p2 p3 p4 p5:Pos}{x:Str}{j t:Nat}{hjt:j ≠ t}{ow:Bool}{tg oe:Expr}{hsb:(([none]:List (Option Nat)).filterMap id).Nodup}
theorem tE (h1:DS K mg X ES st1 (bg ow j (pLC I1 [none] hsb (gtN 0) qY (cD (ah (ag 0) aq)))).F) (hp:PassesOwn (model X.prog X.w) X.A X.env X.xe) (hc:X.calm=true) (hK:X.K=K) (hi:DI K mg X ES tg ad I2.F) (hg:DG K mg X ES tg (gtN t).F) (hx:DE K mg X ES oe (ag j).F) (hq:DE K mg X ES qe q.F) (hr:DE K mg X ES re (ag t).F) (hy:DSs K mg X ES sts y.F)
 (hpx:iD qe:=by exact λ_ _=>rfl) (hs:∀ x,foldedSetIterable ad X.env x=pure x:=by intro _;rfl)
 (hsw:swapsWith (.Call (.Attribute (.Subscript oe qe p2) "append" p3) [re] [] p4) none p5.line X.env=pure false:=by rfl)
 (hbase:attributeBase (.Subscript oe qe p2) "append" X.env (eval (.Subscript oe qe p2) X.env)=eval (.Subscript oe qe p2) X.env:=by rfl)
 (hfew:((backTo p4 (starEach [re] X.env)).all (λx=>!x.1) && (backToKw p4 (keywordEach [] X.env)).all (λx=>x.1.isSome)
  && decide ([re].length + ([]:List Keyword).length + (if ([]:List Keyword).isEmpty then 0 else 1) < 30))=true:=by rfl)
 (hline:(p3.endLine == p4.line)=true:=by rfl) (hs1:starEach [re] X.env=[(false,eval re X.env)]:=by rfl) (be:(backTo p4 (starEach ([]:List Expr) X.env)).any (·.1)=false:=by rfl) (hs0:starEach ([]:List Expr) X.env=[]:=by rfl):
 DSs K mg X ES (st1 :: .For tg ad [.Expr (.Call (.Attribute (.Subscript oe qe p2) "append" p3) [re] [] p4) p5] [] pos :: sts) (aH (oU I1 I2 j t q hjt) y).F:=by
 have sh:starEach (re :: []) X.env=(false,eval re X.env) :: starEach [] X.env:=by rw[hs0];exact hs1
 show DSs K mg X ES _ (eT (iE I1.F I2.F j t q.F) y.F)
 unfold iE
 rw[p9]
 with_unfolding_all exact je h1 (je (rP hp hc hi hg (ni (nW (uo hK PySem.F.slot_list_append PySem.F.type_list_append qL qt (vA (ixK (K:=K) hK) aC hx hq hpx) (nK hr rQ sh) hbase hfew hline sh be) hsw)) hs) hy)
end
end L3
namespace L3
open PySem PySem.Spec PyProof.Rows L2
def lK:Val->Val->Bv:=λx y=>match x,y with
 |
  .str z,.int i=>if z.length<=16777216 then match atI z.cps.toList i with
   | some c=>.val (.str ⟨#[c]⟩)
   | none=>.stuck
  else .stuck
 | _,_=>.stuck
theorem yx:RO mh lK:=λP h d1 d2 v1 v2 r1 r2=>by
 unfold lK
 split
 ·rw[r1.str,r2.int]
  split
  ·rename_i hz
   split
   ·rename_i c e
    exact⟨_,by unfold mh;dsimp only;rw[if_pos hz,e],.str _⟩
   ·trivial
  ·trivial
 ·trivial
def jU:PO2:=⟨mh,lK,yx⟩
theorem Ca {z:Str}{i:Int}{c:Nat} (hz:z.length<=16777216) (e:atI z.cps.toList i=some c):jU.G (.str z) (.int i)=.val (.str ⟨#[c]⟩):=by
 show lK (.str z) (.int i)=_
 unfold lK
 dsimp only
 rw[if_pos hz,e]
def jx:Val->Val->Bv:=λx y=>match x,y with
 | .str z,.int i=>if z.length<=16/\0<=i/\i<=1000 then .val (.str (Txt.mul z i)) else .stuck
 | _,_=>.stuck
theorem wH:RO jy jx:=λP h d1 d2 v1 v2 r1 r2=>by
 unfold jx
 split
 ·rw[r1.str,r2.int]
  split
  ·rename_i hz
   exact⟨_,by unfold jy;dsimp only;rw[if_pos hz],.str _⟩
  ·trivial
 ·trivial
def ik:PO2:=⟨jy,jx,wH⟩
theorem Bo {z:Str}{i:Int} (hz:z.length<=16/\0<=i/\i<=1000):ik.G (.str z) (.int i)=.val (.str (Txt.mul z i)):=by
 show jx (.str z) (.int i)=_
 unfold jx
 dsimp only
 rw[if_pos hz]
section
variable {K:W.Frag}{mg:Str->Option Value}
theorem zr:OpD K mg tV jU.F:=vU
theorem wk:OpD K mg oK ik.F:=ui
end
end L3
namespace L3
open PySem L2
inductive AT where
 | lf (k:Nat)
 | nd (w:Bool) (ts:List AT)
def wy (w:Bool):Str:=if w=true then "across" else "down"
theorem AT.ind {P:AT->Prop} (h1:∀ k,P (.lf k)) (h2:∀ w ts,(∀ t ∈ ts,P t)->P (.nd w ts)) (t:AT):P t:=
 @AT.rec P (λts=>∀ t ∈ ts,P t) h1 (λw ts ih=>h2 w ts ih) (λt h=>nomatch h) (λt ts i1 i2 u hu=>by
  rcases List.mem_cons.mp hu with rfl | hu
  ·exact i1
  ·exact i2 u hu) t
mutual
def AT.val (f:Nat->Val):AT->Val
 | .lf k=>f k
 | .nd w ts=>.tup [.str (wy w),.tup (AT.vals f ts)]
def AT.vals (f:Nat->Val):List AT->List Val
 | []=>[]
 | t :: ts=>AT.val f t :: AT.vals f ts
end
mutual
def AT.lvs:AT->List Nat
 | .lf k=>[k]
 | .nd _ ts=>AT.lvsL ts
def AT.lvsL:List AT->List Nat
 | []=>[]
 | t :: ts=>AT.lvs t++AT.lvsL ts
end
mutual
def AT.dep:AT->Nat
 | .lf _=>1
 | .nd _ ts=>AT.depL ts + 1
def AT.depL:List AT->Nat
 | []=>0
 | t :: ts=>max (AT.dep t) (AT.depL ts)
end
mutual
def AT.pth (x:Nat):AT->Option (List Nat)
 | .lf k=>if k=x then some [] else none
 | .nd _ ts=>AT.pthL x 0 ts
def AT.pthL (x:Nat):Nat->List AT->Option (List Nat)
 | _,[]=>none
 | i,t :: ts=>match AT.pth x t with
  | some q=>some (i :: q)
  | none=>AT.pthL x (i + 1) ts
end
mutual
def AT.ok:AT->Bool
 | .lf _=>true
 | .nd _ ts=>!ts.isEmpty && AT.okL ts
def AT.okL:List AT->Bool
 | []=>true
 | t :: ts=>AT.ok t && AT.okL ts
end
theorem AT.vals_map (f:Nat->Val):∀ ts,AT.vals f ts=ts.map (AT.val f)
 | []=>rfl
 | t :: ts=>by rw[AT.vals,AT.vals_map f ts];rfl
theorem AT.lvsL_mem {x:Nat}:∀ {ts:List AT},x ∈ AT.lvsL ts ↔ ∃ t ∈ ts,x ∈ t.lvs
 | []=>by simp [AT.lvsL]
 | t :: ts=>by rw[AT.lvsL,List.mem_append,AT.lvsL_mem (ts:=ts)];simp
theorem AT.lvsL_flat:∀ ts:List AT,AT.lvsL ts=(ts.map AT.lvs).flatten
 | []=>rfl
 | t :: ts=>by rw[AT.lvsL,AT.lvsL_flat ts];rfl
theorem AT.depL_le {m:Nat}:∀ {ts:List AT},AT.depL ts<=m ↔ ∀ t ∈ ts,t.dep<=m
 | []=>by simp [AT.depL]
 | t :: ts=>by rw[AT.depL,Nat.max_le,AT.depL_le (ts:=ts)];simp
theorem AT.okL_mem:∀ {ts:List AT},AT.okL ts=true ↔ ∀ t ∈ ts,t.ok=true
 | []=>by simp [AT.okL]
 | t :: ts=>by rw[AT.okL,Bool.and_eq_true,AT.okL_mem (ts:=ts)];simp
theorem AT.dep_pos (t:AT):1<=t.dep:=by cases t <;> simp [AT.dep]
theorem AT.pthL_some {x:Nat}:∀ {ts:List AT}{i:Nat}{q:List Nat},AT.pthL x i ts=some q->∃ k t r,ts[k]?=some t/\t.pth x=some r/\q=(i + k) :: r/\∀ (k':Nat) (t':AT),k' < k->ts[k']?=some t'->t'.pth x=none
 | [],i,q,h=>by rw[AT.pthL] at h;cases h
 |
  t :: ts,i,q,h=>by
  rw[AT.pthL] at h
  split at h
  ·rename_i r e
   cases h
   exact⟨0,t,r,rfl,e,rfl,λk' t' hk=>absurd hk (by omega)⟩
  ·rename_i e
   obtain⟨k,u,r,h1,h2,h3,h4⟩:=AT.pthL_some h
   refine⟨k + 1,u,r,h1,h2,by rw[h3];congr 1;omega,λk' t' hk e'=>?_⟩
   cases k' with
   | zero=>cases e';exact e
   | succ k'=>exact h4 k' t' (by omega) e'
theorem AT.pthL_none {x:Nat}:∀ {ts:List AT}{i:Nat},AT.pthL x i ts=none ↔ ∀ t ∈ ts,t.pth x=none
 | [],i=>by simp [AT.pthL]
 |
  t :: ts,i=>by
  rw[AT.pthL]
  cases e:t.pth x with
  | some q=>simp [e]
  | none=>simp [e,AT.pthL_none (ts:=ts)]
theorem AT.pth_mem {x:Nat} (t:AT):t.pth x=none ↔ x ∉ t.lvs:=by
 induction t using AT.ind with
 | h1 k=>simp [AT.pth,AT.lvs,eq_comm]
 |
  h2 w ts ih=>
  rw[AT.pth,AT.lvs,AT.pthL_none,AT.lvsL_mem]
  constructor
  ·rintro h ⟨t,ht,hx⟩
   exact (ih t ht).mp (h t ht) hx
  ·intro h t ht
   exact (ih t ht).mpr λhx=>h ⟨t,ht,hx⟩
def AT.at:List Nat->AT->Option Nat
 | [],.lf k=>some k
 | i :: p,.nd _ ts=>match ts[i]? with
  | some t=>AT.at p t
  | none=>none
 | _,_=>none
theorem AT.pth_at {x:Nat} (t:AT):∀ p,t.pth x=some p->AT.at p t=some x:=by
 induction t using AT.ind with
 |
  h1 k=>
  intro p h
  rw[AT.pth] at h
  split at h
  ·cases h;rename_i e;rw[<- e];rfl
  ·cases h
 |
  h2 w ts ih=>
  intro p h
  rw[AT.pth] at h
  obtain⟨k,u,r,h1,h2,h3,_⟩:=AT.pthL_some h
  subst h3
  rw[Nat.zero_add,AT.at,h1]
  exact ih u (List.mem_of_getElem? h1) r h2
def wd (w b:Bool):Str:=if w=true then (if b=true then "left" else "right") else (if b=true then "above" else "below")
def AT.rel:List Nat->List Nat->AT->Option Str
 | i :: p,j :: q,.nd w ts=>if i=j then (match ts[i]? with
  | some t=>AT.rel p q t
  | none=>none) else some (wd w (decide (i < j)))
 | _,_,_=>none
theorem AT.rel_some {x y:Nat} (hxy:x ≠ y):∀ (p q:List Nat) (t:AT),AT.at p t=some x->AT.at q t=some y->∃ u,AT.rel p q t=some u
 |
  [],q,.lf k,h1,h2=>by
  cases q with
  |
   nil=>
   rw[AT.at] at h1 h2
   rw[Option.some.inj h1] at h2
   exact absurd (Option.some.inj h2) hxy
  | cons j q=>simp [AT.at] at h2
 | [],q,.nd w ts,h1,h2=>by simp [AT.at] at h1
 | i :: p,q,.lf k,h1,h2=>by simp [AT.at] at h1
 | i :: p,[],.nd w ts,h1,h2=>by simp [AT.at] at h2
 |
  i :: p,j :: q,.nd w ts,h1,h2=>by
  rw[AT.rel]
  split
  ·rename_i e
   subst e
   rw[AT.at] at h1 h2
   split at h1
   ·rename_i t e
    rw[e] at h2
    exact AT.rel_some hxy p q t h1 h2
   ·cases h1
  ·exact⟨_,rfl⟩
end L3
set_option maxHeartbeats 4000000
namespace KK
open PySem PySem.Spec PyProof.Rows L2 L3
theorem wK:bootBuiltins "bool"=some (.type "bool"):=by decide
theorem rz:bootBuiltins "int"=some (.type "int"):=by decide
theorem c5:bootBuiltins "isinstance"=some (.builtin "isinstance"):=by decide
theorem eN:bootBuiltins "len"=some (.builtin "len"):=by decide
theorem yt:bootBuiltins "max"=some (.builtin "max"):=by decide
theorem qN:bootBuiltins "min"=some (.builtin "min"):=by decide
theorem Ao:bootBuiltins "sum"=some (.builtin "sum"):=by decide
theorem eO:bootBuiltins "tuple"=some (.type "tuple"):=by decide
def top (i:Nat):Stmt:=PySem.Challenge.pw_weightrooms_k15_relations.main.body.getD i (.Pass ⟨0,0,0,0⟩)
abbrev gn:Stmt:=top 7
theorem mW:FnScope ["_law_script", "_law_k"] ["_law_script", "_law_k"] (ao gn):=⟨rfl,rfl,rfl,by decide,rfl,by decide,by decide⟩
abbrev fX:Stmt:=top 8
theorem dZ:FnScope ["_law_feed_here", "_law_many", "_law_digit", "_law_mixed"] ["_law_feed_here", "_law_many"] (ao fX):=⟨rfl,rfl,rfl,by decide,rfl,by decide,by decide⟩
abbrev fq:Stmt:=top 10
theorem eB:FnScope ["_law_feed_here", "_law_many", "_law_order_here", "_law_k"] ["_law_feed_here", "_law_many"] (ao fq):=⟨rfl,rfl,rfl,by decide,rfl,by decide,by decide⟩
abbrev fF:Stmt:=top 12
theorem dC:FnScope ["_law_feed_here", "_law_numbers", "_law_found", "_law_number"] ["_law_feed_here", "_law_numbers"] (ao fF):=⟨rfl,rfl,rfl,by decide,rfl,by decide,by decide⟩
abbrev cM:Stmt:=top 11
theorem cV:FnScope ["_law_feed_here", "_law_numbers", "_law_many", "_law_some", "_law_number"] ["_law_feed_here", "_law_numbers"] (ao cM):=⟨rfl,rfl,rfl,by decide,rfl,by decide,by decide⟩
abbrev cU:Stmt:=top 15
theorem gQ:FnScope ["_law_tree_here", "_law_names"] ["_law_tree_here", "_law_names"] (ao cU):=⟨rfl,rfl,rfl,by decide,rfl,by decide,by decide⟩
abbrev cI:Stmt:=top 13
theorem gz:FnScope ["_law_tree_here"] ["_law_tree_here"] (ao cI):=⟨rfl,rfl,rfl,by decide,rfl,by decide,by decide⟩
abbrev c9:Stmt:=top 14
theorem dz:FnScope ["_law_tree_here", "_law_one", "_law_two", "_law_inner", "_law_a", "_law_b"] ["_law_tree_here", "_law_one", "_law_two"] (ao c9):=⟨rfl,rfl,rfl,by decide,rfl,by decide,by decide⟩
abbrev fh:Stmt:=top 4
theorem dm:FnScope ["tree", "thing", "at", "part", "path"] ["tree", "thing"] (ao fh):=⟨rfl,rfl,rfl,by decide,rfl,by decide,by decide⟩
abbrev gu:Stmt:=top 5
theorem cX:FnScope ["tree", "one", "other", "path", "beyond", "ahead"] ["tree", "one", "other"] (ao gu):=⟨rfl,rfl,rfl,by decide,rfl,by decide,by decide⟩
abbrev fm:Stmt:=top 16
theorem bP:FnScope ["_law_script", "_law_k", "_law_feed_here", "_law_many", "_law_order_here", "_law_tree_here", "_law_names", "_law_other", "_law_pairs", "_law_i", "_law_j", "_law_due_here"] ["_law_script"] (ao fm):=⟨rfl,rfl,rfl,by decide,rfl,by decide,by decide⟩
def kits:dG:=[((.b "NoneType"),(.b "bool"),false),((.b "bool"),(.b "bool"),true),((.b "int"),(.b "bool"),false),((.b "str"),(.b "bool"),false),((.b "tuple"),(.b "bool"),false),((.b "list"),(.b "bool"),false),((.b "dict"),(.b "bool"),false),((.b "NoneType"),(.b "tuple"),false),((.b "bool"),(.b "tuple"),false),((.b "int"),(.b "tuple"),false),((.b "str"),(.b "tuple"),false),((.b "tuple"),(.b "tuple"),true),((.b "list"),(.b "tuple"),false),((.b "dict"),(.b "tuple"),false)]
structure Txt (K:W.Frag) (mg:Str->Option Value) (a_:Addr):Prop where
 k_:mg "Unknown"=some (.ref a_)
 r_:mg "bool"=none
 e_:mg "enumerate"=none
 t_:mg "int"=none
 c_:mg "isinstance"=none
 i_:mg "len"=none
 C_:mg "max"=none
 u_:mg "min"=none
 d_:mg "range"=none
 Dt:mg "sum"=none
 f_:mg "tuple"=none
 l_:W.excIn K a_ jc "ValueError.__new__"=true
 kits:KitsOk K mg kits
section
variable {P:Program}{w:World}{K:W.Frag}{mg:Str->Option Value}{base:Heap}{a_:Addr}
def gh:PSt:=
 (aH (xIf (qOf (pOp bEq (pFn dA (ah (ag 0) aq)) (ar 0))) (bI (cD (ah (ar 0) (ah (ar 0) (ah (ag 1) aq))))) xNx)
  (bI (cD (ah (pOp bIx (ag 0) (pOp bx (ag 1) (pFn dA (ah (ag 0) aq)))) (ah (ar 0) (ah (ag 1) aq))))))
def b9:PFn:=fnP [false,false] 2 gh
theorem mX:b9.ms=[false,false]:=rfl
theorem mf (T:Txt K mg a_) (D:Def K mg "_law_feed" gn)  : Callee P w K mg base "_law_feed" (0 + 1) ["_law_script", "_law_k"] (spD K mg 2 b9.F):=by
 unfold b9 gh
 exact okP D mW (λ_ _ _ _ _ _=>ar2 λ_ _=>rfl) λf cdv A outer s H E hr=>
  (au (c6 (bB (gW (K:=K) rfl hr.units) eW (aY (fV (K:=K) rfl) eL rfl T.i_ eN (af (aa 0) ai)) ak (bc _)) (az (a0 (bA (by refine af ak ?_;refine af ak ?_;refine af (aa 1) ?_;exact ai)))) bJ)
   (az (a0 (bA (by refine af (aD (ixK (K:=K) rfl) aC (aa 0) (aG cA cS (aa 1) (aY (fV (K:=K) rfl) eL rfl T.i_ eN (af (aa 0) ai))) (λ_ _=>rfl)) ?_;refine af ak ?_;refine af (aa 1) ?_;exact ai)))))
def gp:PSt:=
 (aH (pB 0 seL (ar 1) (pOp b0 (pOp bIx (ag 0) (ar 1)) (ar 1)))
  (aH (xIf (qOf (pOp bGe (pOp bIx (ag 0) (ar 0)) (pOp gL (ar 10) (ar 18)))) (aH (bg false 2 (pOp bx (pOp bIx (ag 0) (ar 0)) (ag 1)))
  (aH (pB 0 seL (ar 0) (pOp dn (pOp bIx (ag 0) (ar 0)) (ag 1)))
  (bI (ag 2)))) xNx)
  (aH (bg false 3 (pOp b0 (pOp b0 (pOp bx (pOp bIx (ag 0) (ar 0)) (ar 1000003)) (pOp dB (ar 7919) (pOp bIx (ag 0) (ar 2)))) (pOp dB (ar 104729) (pOp bIx (ag 0) (ar 1)))))
  (aH (bg false 3 (pOp bx (pOp dB (ag 3) (ar 48271)) (ar 2147483647)))
  (bI (pOp bx (pOp bx (pOp dB (ag 3) (pOp b0 (pOp bx (ag 3) (ar 65521)) (pOp bIx (ag 0) (ar 1)))) (ar 2147483629)) (ag 1)))))))
def av:PFn:=fnP [true,false] 4 gp
theorem mZ:av.ms=[true,false]:=rfl
theorem lV (T:Txt K mg a_) (D:Def K mg "_law_next" fX)  : Callee P w K mg base "_law_next" (0 + 1) ["_law_feed_here", "_law_many"] (spD K mg 2 av.F):=by
 unfold av gp
 exact okP D dZ (λ_ _ _ _ _ _=>ar2 λ_ _=>rfl) λf cdv A outer s H E hr=>
  (au (nM (aG (cJ (K:=K) rfl) cH (aD (ixK (K:=K) rfl) aC (aa 0) ak (λ_ _=>rfl)) ak) (aa 0) ak lE nc)
   (au (c6 (bB Cb BC (aD (ixK (K:=K) rfl) aC (aa 0) ak (λ_ _=>rfl)) (aG r9 p8 ak ak) (bc _)) (au (aU (i:=2) dZ.nd rfl (by trivial) (aG cA cS (aD (ixK (K:=K) rfl) aC (aa 0) ak (λ_ _=>rfl)) (aa 1)))
   (au (nM (aG gw js (aD (ixK (K:=K) rfl) aC (aa 0) ak (λ_ _=>rfl)) (aa 1)) (aa 0) ak lE nc)
   (az (a0 (aa 2))))) bJ)
   (au (aU (i:=3) dZ.nd rfl (by trivial) (aG (cJ (K:=K) rfl) cH (aG (cJ (K:=K) rfl) cH (aG cA cS (aD (ixK (K:=K) rfl) aC (aa 0) ak (λ_ _=>rfl)) ak) (aG fK fN ak (aD (ixK (K:=K) rfl) aC (aa 0) ak (λ_ _=>rfl)))) (aG fK fN ak (aD (ixK (K:=K) rfl) aC (aa 0) ak (λ_ _=>rfl)))))
   (au (aU (i:=3) dZ.nd rfl (by trivial) (aG cA cS (aG fK fN (aa 3) ak) ak))
   (az (a0 (aG cA cS (aG cA cS (aG fK fN (aa 3) (aG (cJ (K:=K) rfl) cH (aG cA cS (aa 3) ak) (aD (ixK (K:=K) rfl) aC (aa 0) ak (λ_ _=>rfl)))) ak) (aa 1))))))))
def dD:PSt:=
 (o5 (uN 2 iO (ah (aF av (ah (ag 0) (ah (pOp b0 (pFn dA (ah (ag 2) aq)) (ar 1)) aq))) (ah (ag 3) aq))))
def fA:PSt:=
 (aH (bg true 2 (cD aq))
  (aH (iJ (eU (ah (ag 1) aq)) (gtN 3) (dD))
  (bI (ag 2))))
def bQ:PFn:=fnP [true,false] 4 fA
theorem lQ:bQ.ms=[true,false]:=rfl
theorem kK (T:Txt K mg a_) (D:Def K mg "_law_order" fq) (b_:Callee P w K mg base "_law_next" 1 ["_law_feed_here", "_law_many"] (spD K mg 2 av.F)):Callee P w K mg base "_law_order" (1 + 1) ["_law_feed_here", "_law_many"] (spD K mg 2 bQ.F):=by
 unfold bQ fA dD
 exact okP D eB (λ_ _ _ _ _ _=>ar2 λ_ _=>rfl) λf cdv A outer s H E hr=>
  (au (aU (i:=2) eB.nd rfl (by trivial) (bA ai))
   (au (gD gK rfl (de rfl T.d_ (af (aa 1) ai)) (aS (i:=3) eB.nd rfl (by trivial)) (az (v5 (zN rfl PySem.F.slot_list_insert PySem.F.type_list_insert pZ qM (aa 2) (af (aA b_ (hr.mono (by omega)) rfl (aw bq) (af (aa 0) (af (aG (cJ (K:=K) rfl) cH (aY (fV (K:=K) rfl) eL rfl T.i_ eN (af (aa 2) ai)) ak) ai))) (af (aa 3) ai))))))
   (az (a0 (aa 2)))))
def bY:PSt:=
 (bg false 2 (ft (ah (pOp bIx (cD (ah (bU "across") (ah (bU "down") aq))) (aF av (ah (ag 0) (ah (ar 2) aq)))) (ah (pOp bIx (cD (ah (ft (ah (ag 3) (ah (ag 2) aq))) (ah (ft (ah (ag 2) (ah (ag 3) aq))) aq))) (aF av (ah (ag 0) (ah (ar 2) aq)))) aq))))
def fB:PSt:=
 (aH (bg false 2 (pOp bIx (ag 1) (ar 0)))
  (aH (iJ (cn (pSl (ag 1) (oS (ar 1)) oN)) (gtN 3) (bY))
  (bI (ag 2))))
def bS:PFn:=fnP [true,false] 4 fB
theorem lg:bS.ms=[true,false]:=rfl
theorem kH (T:Txt K mg a_) (D:Def K mg "_law_chain" fF) (b_:Callee P w K mg base "_law_next" 1 ["_law_feed_here", "_law_many"] (spD K mg 2 av.F)):Callee P w K mg base "_law_chain" (1 + 1) ["_law_feed_here", "_law_numbers"] (spD K mg 2 bS.F):=by
 unfold bS fB bY
 exact okP D dC (λ_ _ _ _ _ _=>ar2 λ_ _=>rfl) λf cdv A outer s H E hr=>
  (au (aU (i:=2) dC.nd rfl (by trivial) (aD (ixK (K:=K) rfl) aC (aa 1) ak (λ_ _=>rfl)))
   (au (gD gK rfl (cT rfl (eF rfl (aa 1) (fL ak) fO)) (aS (i:=3) dC.nd rfl (by trivial)) (az (aU (i:=2) dC.nd rfl (by trivial) (fU (af (aD (ixK (K:=K) rfl) aC (bA (af bt (af bt ai))) (aA b_ (hr.mono (by omega)) rfl (aw bq) (af (aa 0) (af ak ai))) (λ_ _=>rfl)) (af (aD (ixK (K:=K) rfl) aC (bA (af (fU (af (aa 3) (af (aa 2) ai))) (af (fU (af (aa 2) (af (aa 3) ai))) ai))) (aA b_ (hr.mono (by omega)) rfl (aw bq) (af (aa 0) (af ak ai))) (λ_ _=>rfl)) ai))))))
   (az (a0 (aa 2)))))
def ck (s:PFx [true,false]):PSt:=
 (aH (xIf (qOf (pOp bEq (pFn dA (ah (ag 1) aq)) (ar 1))) (bI (pOp bIx (ag 1) (ar 0))) xNx)
  (aH (bg false 2 (pOp b0 (ar 2) (aF av (ah (ag 0) (ah (pFn jm (ah (ar 3) (ah (pOp va (pFn dA (ah (ag 1) aq)) (ar 1)) aq))) aq)))))
  (aH (oU (cn (pSl (ag 1) oN (oS (ag 2)))) (cn (pSl (ag 1) (oS (ag 2)) oN)) 3 4 (aF av (ah (ag 0) (ah (ag 2) aq))) (by decide))
  (bI (ft (ah (pOp bIx (cD (ah (bU "across") (ah (bU "down") aq))) (aF av (ah (ag 0) (ah (ar 2) aq)))) (ah (pFn iB (ah (pLC (cn (ag 3)) [none,some 0] (by decide) (gtN 0) qY (aF s.fn (ah (ag 1) (ah (ag 0) aq)))) aq)) aq)))))))
def aR:Nat->PFx [true,false]
 | 0=>PFx.none [true,false]
 | n + 1=>PFx.of [true,false] 5 (ck (aR n))
theorem my {n:Nat} (T:Txt K mg a_) (D:Def K mg "_law_tree" cM) (b_:Callee P w K mg base "_law_next" 1 ["_law_feed_here", "_law_many"] (spD K mg 2 av.F)) (m_:Callee P w K mg base "_law_tree" (3 + n) ["_law_feed_here", "_law_numbers"] (spD K mg 2 (aR n).F)):Callee P w K mg base "_law_tree" (3 + n + 1) ["_law_feed_here", "_law_numbers"] (spD K mg 2 (aR (n + 1)).F):=by
 show Callee P w K mg base _ _ _ (spD K mg _ (PFx.of [true,false] 5 (ck (aR n))).F)
 unfold ck
 exact okX D cV (λ_ _ _ _ _ _=>ar2 λ_ _=>rfl) λf cdv A outer s H E hr=>
  (au (c6 (bB (gW (K:=K) rfl hr.units) eW (aY (fV (K:=K) rfl) eL rfl T.i_ eN (af (aa 1) ai)) ak (bc _)) (az (a0 (aD (ixK (K:=K) rfl) aC (aa 1) ak (λ_ _=>rfl)))) bJ)
   (au (aU (i:=2) cV.nd rfl (by trivial) (aG (cJ (K:=K) rfl) cH ak (aA b_ (hr.mono (by omega)) rfl (aw bq) (af (aa 0) (af (aY (ky rfl) nS rfl T.u_ qN (af ak (af (aG Al Bl (aY (fV (K:=K) rfl) eL rfl T.i_ eN (af (aa 1) ai)) ak) ai))) ai)))))
   (tE (ow:=false) (hsb:=by decide) (pE (iT:=3) ["_law_feed_here", "_law_numbers", "_law_many", "_law_some", "_law_number"] (ao cM).names ["_law_number"] [none] rfl cV.nd rfl (by trivial) (cT rfl (eF rfl (aa 1) fO (fL (aa 2)))) (λ_ _ _ _ _=>(aS (i:=0) (show List.Nodup (["_law_number"]:List Str) from by decide) rfl (by trivial))) (λ_ _ _ _ _=>(bA (af (aa 0) ai)))) gK rfl rfl (cT rfl (eF rfl (aa 1) (fL (aa 2)) fO)) (aS (i:=4) cV.nd rfl (by trivial)) (aa 3) (aA b_ (hr.mono (by omega)) rfl (aw bq) (af (aa 0) (af (aa 2) ai))) (aa 4)
   (az (a0 (fU (af (aD (ixK (K:=K) rfl) aC (bA (af bt (af bt ai))) (aA b_ (hr.mono (by omega)) rfl (aw bq) (af (aa 0) (af ak ai))) (λ_ _=>rfl)) (af (fo (m9 (K:=K) rfl) lz rfl T.f_ eO (af (gr ["_law_feed_here", "_law_numbers", "_law_many", "_law_some", "_law_number"] (ao cM).names ["_law_part", "_law_feed_here"] [none,some 0] rfl (cT rfl (aa 3)) (λ_ _ _ _ _=>(aS (i:=0) (show List.Nodup (["_law_part", "_law_feed_here"]:List Str) from by decide) rfl (by trivial))) (λ_ _ _ _ _=>(aA m_ (hr.mono (by omega)) rfl eQ (af (aa 1) (af (aa 0) ai))))) ai)) ai))))))))
theorem gA (T:Txt K mg a_) (D:Def K mg "_law_tree" cM) (b_:Callee P w K mg base "_law_next" 1 ["_law_feed_here", "_law_many"] (spD K mg 2 av.F)):∀ n,Callee P w K mg base "_law_tree" (3 + n) ["_law_feed_here", "_law_numbers"] (spD K mg 2 (aR n).F)
 | 0=>ok0 D cV (λ_ _ _ _ _ _=>ar2 λ_ _=>rfl)
 | n + 1=>my T D b_ (gA T D b_ n)
def bT (s:PFx [false,false]):PSt:=
 (aH (xIf (qNo (qOf (pFn (dY kits) (ah (ag 0) (ah (pTy "tuple") aq))))) (bI (pOp bIx (ag 1) (ag 0))) xNx)
  (bI (ft (ah (pOp bIx (ag 0) (ar 0)) (ah (pFn iB (ah (pLC (cn (pOp bIx (ag 0) (ar 1))) [none,some 1] (by decide) (gtN 0) qY (aF s.fn (ah (ag 0) (ah (ag 1) aq)))) aq)) aq)))))
def aW:Nat->PFx [false,false]
 | 0=>PFx.none [false,false]
 | n + 1=>PFx.of [false,false] 2 (bT (aW n))
theorem kJ {n:Nat} (T:Txt K mg a_) (D:Def K mg "_law_named" cU) (h_:Callee P w K mg base "_law_named" (2 + n) ["_law_tree_here", "_law_names"] (spD K mg 2 (aW n).F)):Callee P w K mg base "_law_named" (2 + n + 1) ["_law_tree_here", "_law_names"] (spD K mg 2 (aW (n + 1)).F):=by
 show Callee P w K mg base _ _ _ (spD K mg _ (PFx.of [false,false] 2 (bT (aW n))).F)
 unfold bT
 exact okX D gQ (λ_ _ _ _ _ _=>ar2 λ_ _=>rfl) λf cdv A outer s H E hr=>
  (au (c6 (jq (hZ (aY (kN (K:=K) rfl) (jH T.kits) rfl T.c_ c5 (af (aa 0) (af (kP rfl T.f_ eO) ai))))) (az (a0 (aD (ixK (K:=K) rfl) aC (aa 1) (aa 0) (λ_ _=>rfl)))) bJ)
   (az (a0 (fU (af (aD (ixK (K:=K) rfl) aC (aa 0) ak (λ_ _=>rfl)) (af (fo (m9 (K:=K) rfl) lz rfl T.f_ eO (af (gr ["_law_tree_here", "_law_names"] (ao cU).names ["_law_one", "_law_names"] [none,some 1] rfl (cT rfl (aD (ixK (K:=K) rfl) aC (aa 0) ak (λ_ _=>rfl))) (λ_ _ _ _ _=>(aS (i:=0) (show List.Nodup (["_law_one", "_law_names"]:List Str) from by decide) rfl (by trivial))) (λ_ _ _ _ _=>(aA h_ (hr.mono (by omega)) rfl eQ (af (aa 0) (af (aa 1) ai))))) ai)) ai))))))
theorem fH (T:Txt K mg a_) (D:Def K mg "_law_named" cU)  : ∀ n,Callee P w K mg base "_law_named" (2 + n) ["_law_tree_here", "_law_names"] (spD K mg 2 (aW n).F)
 | 0=>ok0 D gQ (λ_ _ _ _ _ _=>ar2 λ_ _=>rfl)
 | n + 1=>kJ T D (fH T D n)
def bG (s:PFx [false]):PSt:=
 (aH (xIf (qNo (qOf (pFn (dY kits) (ah (ag 0) (ah (pTy "tuple") aq))))) (bI (cD (ah (ag 0) aq))) xNx)
  (bI (pFn lA (ah (pLC (cn (pOp bIx (ag 0) (ar 1))) [none] (by decide) (gtN 0) qY (aF s.fn (ah (ag 0) aq))) (ah (cD aq) aq)))))
def aM:Nat->PFx [false]
 | 0=>PFx.none [false]
 | n + 1=>PFx.of [false] 1 (bG (aM n))
theorem jM {n:Nat} (T:Txt K mg a_) (D:Def K mg "_law_leaves" cI) (g_:Callee P w K mg base "_law_leaves" (2 + n) ["_law_tree_here"] (spD K mg 1 (aM n).F)):Callee P w K mg base "_law_leaves" (2 + n + 1) ["_law_tree_here"] (spD K mg 1 (aM (n + 1)).F):=by
 show Callee P w K mg base _ _ _ (spD K mg _ (PFx.of [false] 1 (bG (aM n))).F)
 unfold bG
 exact okX D gz (λ_ _ _ _ _ _=>ar1 λ_=>rfl) λf cdv A outer s H E hr=>
  (au (c6 (jq (hZ (aY (kN (K:=K) rfl) (jH T.kits) rfl T.c_ c5 (af (aa 0) (af (kP rfl T.f_ eO) ai))))) (az (a0 (bA (af (aa 0) ai)))) bJ)
   (az (a0 (aY (pO rfl) wY rfl T.Dt Ao (af (gr ["_law_tree_here"] (ao cI).names ["_law_one"] [none] rfl (cT rfl (aD (ixK (K:=K) rfl) aC (aa 0) ak (λ_ _=>rfl))) (λ_ _ _ _ _=>(aS (i:=0) (show List.Nodup (["_law_one"]:List Str) from by decide) rfl (by trivial))) (λ_ _ _ _ _=>(aA g_ (hr.mono (by omega)) rfl eQ (af (aa 0) ai)))) (af (bA ai) ai))))))
theorem eX (T:Txt K mg a_) (D:Def K mg "_law_leaves" cI)  : ∀ n,Callee P w K mg base "_law_leaves" (2 + n) ["_law_tree_here"] (spD K mg 1 (aM n).F)
 | 0=>ok0 D gz (λ_ _ _ _ _ _=>ar1 λ_=>rfl)
 | n + 1=>jM T D (eX T D n)
def bC:PSt:=
 (aH (bg false 3 (pLC (cn (pOp bIx (ag 0) (ar 1))) [none] (by decide) (gtN 0) qY (aF (aM 42).fn (ah (ag 0) aq))))
  (aH (bg false 4 (kR fJ (pLC (cn (ag 3)) [none,some 1] (by decide) (gtN 0) qY (pOp bIn (ag 1) (ag 0))) (ah (pBl true) aq)))
  (aH (bg false 5 (kR fJ (pLC (cn (ag 3)) [none,some 2] (by decide) (gtN 0) qY (pOp bIn (ag 1) (ag 0))) (ah (pBl true) aq)))
  (aH (xIf (qOf (pOp bNe (ag 4) (ag 5))) (bI (pOp bIx (pOp tI (oF ["across", "down"] (ah (cD (ah (bU "right") (ah (bU "left") aq))) (ah (cD (ah (bU "below") (ah (bU "above") aq))) aq))) (pOp bIx (ag 0) (ar 0))) (pFn kY (ah (pOp bLt (ag 4) (ag 5)) aq)))) xNx)
  (bg false 0 (pOp bIx (pOp bIx (ag 0) (ar 1)) (ag 4)))))))
def eV:PSt:=
 (xWh (qOf (pBl true)) (bC))
def dk:PFn:=fnP [false,false,false] 6 eV
theorem pH:dk.ms=[false,false,false]:=rfl
theorem m5 (T:Txt K mg a_) (D:Def K mg "_law_due" c9) (g_:Callee P w K mg base "_law_leaves" 44 ["_law_tree_here"] (spD K mg 1 (aM 42).F)):Callee P w K mg base "_law_due" (44 + 1) ["_law_tree_here", "_law_one", "_law_two"] (spD K mg 3 dk.F):=by
 unfold dk eV bC
 exact okP D dz (λ_ _ _ _ _ _=>ar3 λ_ _ _=>rfl) λf cdv A outer s H E hr=>
  (az (lH gK (hZ jt) (au (pE (iT:=3) ["_law_tree_here", "_law_one", "_law_two", "_law_inner", "_law_a", "_law_b"] (ao c9).names ["_law_some"] [none] rfl dz.nd rfl (by trivial) (cT rfl (aD (ixK (K:=K) rfl) aC (aa 0) ak (λ_ _=>rfl))) (λ_ _ _ _ _=>(aS (i:=0) (show List.Nodup (["_law_some"]:List Str) from by decide) rfl (by trivial))) (λ_ _ _ _ _=>(aA g_ (hr.mono (by omega)) rfl eQ (af (aa 0) ai))))
   (au (aU (i:=4) dz.nd rfl (by trivial) (nj rfl PySem.F.slot_list_index PySem.F.type_list_index (rS (K:=K) rfl hr.u100) lr (gr ["_law_tree_here", "_law_one", "_law_two", "_law_inner", "_law_a", "_law_b"] (ao c9).names ["_law_some", "_law_one"] [none,some 1] rfl (cT rfl (aa 3)) (λ_ _ _ _ _=>(aS (i:=0) (show List.Nodup (["_law_some", "_law_one"]:List Str) from by decide) rfl (by trivial))) (λ_ _ _ _ _=>(gF (inK (K:=K) rfl) vK (aa 1) (aa 0) (by with_unfolding_all rfl)))) (af jt ai)))
   (au (aU (i:=5) dz.nd rfl (by trivial) (nj rfl PySem.F.slot_list_index PySem.F.type_list_index (rS (K:=K) rfl hr.u100) lr (gr ["_law_tree_here", "_law_one", "_law_two", "_law_inner", "_law_a", "_law_b"] (ao c9).names ["_law_some", "_law_two"] [none,some 2] rfl (cT rfl (aa 3)) (λ_ _ _ _ _=>(aS (i:=0) (show List.Nodup (["_law_some", "_law_two"]:List Str) from by decide) rfl (by trivial))) (λ_ _ _ _ _=>(gF (inK (K:=K) rfl) vK (aa 1) (aa 0) (by with_unfolding_all rfl)))) (af jt ai)))
   (au (c6 (bB (pk (K:=K) rfl hr.units) kU (aa 4) (aa 5) (bc _)) (az (a0 (aD (ixK (K:=K) rfl) aC (x3 (C1 hr) (xZ (mC (bA (af bt (af bt ai))) (mC (bA (af bt (af bt ai))) xh))) (aD (ixK (K:=K) rfl) aC (aa 0) ak (λ_ _=>rfl)) (λ_ _=>rfl)) (fo ko rn rfl T.t_ rz (af (gF vg vd (aa 4) (aa 5) (bc _)) ai)) (λ_ _=>rfl)))) bJ)
   (az (aU (i:=0) dz.nd rfl (by trivial) (aD (ixK (K:=K) rfl) aC (aD (ixK (K:=K) rfl) aC (aa 0) ak (λ_ _=>rfl)) (aa 4) (λ_ _=>rfl))))))))))
def b8 (s:PFx [false,false]):PSt:=
 (aH (bg false 4 (aF s.fn (ah (ag 3) (ah (ag 1) aq))))
  (xIf (qOf (pOp pC (ag 4) iL)) (bI (pOp b0 (cD (ah (ag 2) aq)) (ag 4))) xNx))
def cG (s:PFx [false,false]):PSt:=
 (aH (xIf (qNo (qOf (pFn (dY kits) (ah (ag 0) (ah (pTy "tuple") aq))))) (bI (pIf (qAn (qOf (pOp bEq (ag 0) (ag 1))) (qNo (qOf (pFn (dY kits) (ah (ag 1) (ah (pTy "bool") aq)))))) (cD aq) iL)) xNx)
  (aH (iJ (oH (ah (pOp bIx (ag 0) (ar 1)) aq)) (gtX (gtT 2 (dw (gtN 2) (dw (gtN 3) ib)))) (b8 s))
  (bI iL)))
def aQ:Nat->PFx [false,false]
 | 0=>PFx.none [false,false]
 | n + 1=>PFx.of [false,false] 5 (cG (aQ n))
theorem mR {n:Nat} (T:Txt K mg a_) (D:Def K mg "path_to" fh) (j_:Callee P w K mg base "path_to" (2 + n) ["tree", "thing"] (spD K mg 2 (aQ n).F)):Callee P w K mg base "path_to" (2 + n + 1) ["tree", "thing"] (spD K mg 2 (aQ (n + 1)).F):=by
 show Callee P w K mg base _ _ _ (spD K mg _ (PFx.of [false,false] 5 (cG (aQ n))).F)
 unfold cG b8
 exact okX D dm (λ_ _ _ _ _ _=>ar2 λ_ _=>rfl) λf cdv A outer s H E hr=>
  (au (c6 (jq (hZ (aY (kN (K:=K) rfl) (jH T.kits) rfl T.c_ c5 (af (aa 0) (af (kP rfl T.f_ eO) ai))))) (az (a0 (kQ (ZW.dt (zR (bB (gW (K:=K) rfl hr.units) eW (aa 0) (aa 1) (bc _)) (xK (jq (hZ (aY (kN (K:=K) rfl) (jH T.kits) rfl T.c_ c5 (af (aa 1) (af (kP rfl T.r_ wK) ai)))))))) (bA ai) gU))) bJ)
   (au (gD gK rfl (wO rfl rfl T.e_ (af (aD (ixK (K:=K) rfl) aC (aa 0) ak (λ_ _=>rfl)) ai)) (ZG.weak (qJ rfl rfl (gg (aS (i:=2) dm.nd rfl (by trivial)) (gg (aS (i:=3) dm.nd rfl (by trivial)) m8)))) (au (aU (i:=4) dm.nd rfl (by trivial) (aA j_ (hr.mono (by omega)) rfl (aw bq) (af (aa 3) (af (aa 1) ai))))
   (az (c6 (bB xp zb (aa 4) gU (bc _)) (az (a0 (aG (cJ (K:=K) rfl) cH (bA (af (aa 2) ai)) (aa 4)))) bJ))))
   (az (a0 gU))))
theorem g0 (T:Txt K mg a_) (D:Def K mg "path_to" fh)  : ∀ n,Callee P w K mg base "path_to" (2 + n) ["tree", "thing"] (spD K mg 2 (aQ n).F)
 | 0=>ok0 D dm (λ_ _ _ _ _ _=>ar2 λ_ _=>rfl)
 | n + 1=>mR T D (g0 T D n)
def cz:PSt:=
 (aH (bg false 0 (pOp bIx (pOp bIx (ag 0) (ar 1)) (pOp bIx (ag 3) (ar 0))))
  (ph 3 4 (ah (pSl (ag 3) (oS (ar 1)) oN) (ah (pSl (ag 4) (oS (ar 1)) oN) aq))))
def gm:PSt:=
 (aH (ph 3 4 (ah (aF (aQ 42).fn (ah (ag 0) (ah (ag 1) aq))) (ah (aF (aQ 42).fn (ah (ag 0) (ah (ag 2) aq))) aq)))
  (aH (xIf (qO (qOf (pOp bIs (ag 3) iL)) (qO (qOf (pOp bIs (ag 4) iL)) (qOf (pOp bEq (ag 3) (ag 4))))) (mJ "Unknown" (ah (bU "these are no two things of the tree") aq)) xNx)
  (aH (xWh (qOf (pOp bEq (pOp bIx (ag 3) (ar 0)) (pOp bIx (ag 4) (ar 0)))) (cz))
  (aH (bg false 5 (pOp bLt (pOp bIx (ag 3) (ar 0)) (pOp bIx (ag 4) (ar 0))))
  (aH (xIf (qOf (pOp bEq (pOp bIx (ag 0) (ar 0)) (bU "across"))) (bI (pIf (qTr (ag 5)) (bU "left") (bU "right"))) xNx)
  (bI (pIf (qTr (ag 5)) (bU "above") (bU "below"))))))))
def bO:PFn:=fnP [false,false,false] 6 gm
theorem mS:bO.ms=[false,false,false]:=rfl
theorem mF (T:Txt K mg a_) (D:Def K mg "relation" gu) (j_:Callee P w K mg base "path_to" 44 ["tree", "thing"] (spD K mg 2 (aQ 42).F)):Callee P w K mg base "relation" (44 + 1) ["tree", "one", "other"] (spD K mg 3 bO.F):=by
 unfold bO gm cz
 exact okP D cX (λ_ _ _ _ _ _=>ar3 λ_ _ _=>rfl) λf cdv A outer s H E hr=>
  (au (p6 (i:=3) (j:=4) rfl cX.nd rfl rfl (by decide) rfl rfl (af (aA j_ (hr.mono (by omega)) rfl (aw bq) (af (aa 0) (af (aa 1) ai))) (af (aA j_ (hr.mono (by omega)) rfl (aw bq) (af (aa 0) (af (aa 2) ai))) ai)) rfl)
   (au (c6 (ZW.dt (oq (bB rD vB (aa 3) gU (bc _)) (oq (bB rD vB (aa 4) gU (bc _)) (pS (bB (gW (K:=K) rfl hr.units) eW (aa 3) (aa 4) (bc _)))))) (az (u9 rfl rz1 rfl T.k_ T.l_ (af bt ai))) bJ)
   (au (lH gK (bB (gW (K:=K) rfl hr.units) eW (aD (ixK (K:=K) rfl) aC (aa 3) ak (λ_ _=>rfl)) (aD (ixK (K:=K) rfl) aC (aa 4) ak (λ_ _=>rfl)) (bc _)) (au (aU (i:=0) cX.nd rfl (by trivial) (aD (ixK (K:=K) rfl) aC (aD (ixK (K:=K) rfl) aC (aa 0) ak (λ_ _=>rfl)) (aD (ixK (K:=K) rfl) aC (aa 3) ak (λ_ _=>rfl)) (λ_ _=>rfl)))
   (az (p6 (i:=3) (j:=4) rfl cX.nd rfl rfl (by decide) rfl rfl (af (eF rfl (aa 3) (fL ak) fO) (af (eF rfl (aa 4) (fL ak) fO) ai)) rfl))))
   (au (aU (i:=5) cX.nd rfl (by trivial) (gF vg vd (aD (ixK (K:=K) rfl) aC (aa 3) ak (λ_ _=>rfl)) (aD (ixK (K:=K) rfl) aC (aa 4) ak (λ_ _=>rfl)) (bc _)))
   (au (c6 (bB (gW (K:=K) rfl hr.units) eW (aD (ixK (K:=K) rfl) aC (aa 0) ak (λ_ _=>rfl)) bt (bc _)) (az (a0 (kQ (lR rfl (aa 5)) bt bt))) bJ)
   (az (a0 (kQ (lR rfl (aa 5)) bt bt))))))))
def gZ:PSt:=
 (aH (bg false 11 (aF dk (ah (ag 5) (ah (ag 9) (ah (ag 10) aq)))))
  (xIf (qO (qOf (pOp bNe (aF bO (ah (ag 5) (ah (ag 9) (ah (ag 10) aq)))) (ag 11))) (qOf (pOp bNe (aF bO (ah (ag 7) (ah (pOp bIx (ag 6) (ag 9)) (ah (pOp bIx (ag 6) (ag 10)) aq)))) (ag 11)))) (bI (pBl false)) xNx))
def gO:PSt:=
 (aH (bg true 2 (aF b9 (ah (ag 0) (ah (ag 1) aq))))
  (aH (bg false 3 (pOp bIx (cD (ah (pOp b0 (ar 2) (aF av (ah (ag 2) (ah (ar 8) aq)))) (ah (ar 40) aq))) (pFn kY (ah (pOp bEq (aF av (ah (ag 2) (ah (ar 7) aq))) (ar 0)) aq))))
  (aH (bg false 4 (aF bQ (ah (ag 2) (ah (ag 3) aq))))
  (aH (bg false 5 (pIf (qOf (pOp bEq (aF av (ah (ag 2) (ah (ar 3) aq))) (ar 0))) (aF bS (ah (ag 2) (ah (ag 4) aq))) (aF (aR 42).fn (ah (ag 2) (ah (ag 4) aq)))))
  (aH (bg false 6 (pLC (eU (ah (ag 3) aq)) [none] (by decide) (gtN 0) qY (pOp ik (pOp jU (bU "zyxwvutsrqponmlkjihgfedcba") (pOp bx (ag 0) (ar 26))) (pOp b0 (ar 1) (pOp dn (ag 0) (ar 26))))))
  (aH (bg false 6 (pOp bIx (cD (ah (pOp b0 (cD (ah (bU "down") (ah (bU "across") aq))) (ag 6)) (ah (pLC (eU (ah (ag 3) aq)) [none] (by decide) (gtN 0) qY (pOp b0 (pOp dB (ag 0) (pOp gL (ar 10) (ar 28))) (ar 3))) aq))) (aF av (ah (ag 2) (ah (ar 2) aq)))))
  (aH (bg false 7 (aF (aW 42).fn (ah (ag 5) (ah (ag 6) aq))))
  (aH (bg false 8 (pLC (eU (ah (pOp dB (ag 3) (ag 3)) aq)) [none,some 3] (by decide) (gtN 0) (qOf (pOp bNe (pOp dn (ag 0) (ag 1)) (pOp bx (ag 0) (ag 1)))) (ft (ah (pOp dn (ag 0) (ag 1)) (ah (pOp bx (ag 0) (ag 1)) aq)))))
  (aH (xIf (qOf (pOp bGt (ag 3) (ar 9))) (bg false 8 (pLC (eU (ah (ar 24) aq)) [none,some 8,some 2] (by decide) (gtN 0) qY (pOp bIx (ag 1) (aF av (ah (ag 2) (ah (pFn dA (ah (ag 1) aq)) aq)))))) xNx)
  (iJ (cn (ag 8)) (gtX (gtT 2 (dw (gtN 9) (dw (gtN 10) ib)))) (gZ)))))))))))
def n8:PSt:=
 (aH (iJ (eU (ah (pFn mK (ah (ar 1) (ah (pFn jm (ah (ar 5) (ah (pFn dA (ah (ag 0) aq)) aq))) aq))) aq)) (gtN 1) (gO))
  (bI (pBl true)))
def ji:PFn:=fnP [false] 12 n8
theorem xR (T:Txt K mg a_) (D:Def K mg "law" fm) (s_:Callee P w K mg base "_law_feed" 1 ["_law_script", "_law_k"] (spD K mg 2 b9.F)) (b_:Callee P w K mg base "_law_next" 1 ["_law_feed_here", "_law_many"] (spD K mg 2 av.F)) (p_:Callee P w K mg base "_law_order" 2 ["_law_feed_here", "_law_many"] (spD K mg 2 bQ.F)) (o_:Callee P w K mg base "_law_chain" 2 ["_law_feed_here", "_law_numbers"] (spD K mg 2 bS.F)) (m_:Callee P w K mg base "_law_tree" 45 ["_law_feed_here", "_law_numbers"] (spD K mg 2 (aR 42).F)) (h_:Callee P w K mg base "_law_named" 44 ["_law_tree_here", "_law_names"] (spD K mg 2 (aW 42).F)) (w_:Callee P w K mg base "_law_due" 45 ["_law_tree_here", "_law_one", "_law_two"] (spD K mg 3 dk.F)) (n_:Callee P w K mg base "relation" 45 ["tree", "one", "other"] (spD K mg 3 bO.F)):Callee P w K mg base "law" (45 + 1) ["_law_script"] (spD K mg 1 ji.F):=by
 unfold ji n8 gO gZ
 exact okP D bP (λ_ _ _ _ _ _=>ar1 λ_=>rfl) λf cdv A outer s H E hr=>
  (au (gD gK rfl (de rfl T.d_ (af (aY (rl rfl) xO rfl T.C_ yt (af ak (af (aY (ky rfl) nS rfl T.u_ qN (af ak (af (aY (fV (K:=K) rfl) eL rfl T.i_ eN (af (aa 0) ai)) ai))) ai))) ai)) (aS (i:=1) bP.nd rfl (by trivial)) (au (aU (i:=2) bP.nd rfl (by trivial) (aA s_ (hr.mono (by omega)) rfl (aw bq) (af (aa 0) (af (aa 1) ai))))
   (au (aU (i:=3) bP.nd rfl (by trivial) (aD (ixK (K:=K) rfl) aC (bA (af (aG (cJ (K:=K) rfl) cH ak (aA b_ (hr.mono (by omega)) rfl (aw bq) (af (aa 2) (af ak ai)))) (af ak ai))) (fo ko rn rfl T.t_ rz (af (gF (gW (K:=K) rfl hr.units) eW (aA b_ (hr.mono (by omega)) rfl (aw bq) (af (aa 2) (af ak ai))) ak (bc _)) ai)) (λ_ _=>rfl)))
   (au (aU (i:=4) bP.nd rfl (by trivial) (aA p_ (hr.mono (by omega)) rfl (aw bq) (af (aa 2) (af (aa 3) ai))))
   (au (aU (i:=5) bP.nd rfl (by trivial) (kQ (bB (gW (K:=K) rfl hr.units) eW (aA b_ (hr.mono (by omega)) rfl (aw bq) (af (aa 2) (af ak ai))) ak (bc _)) (aA o_ (hr.mono (by omega)) rfl (aw bq) (af (aa 2) (af (aa 4) ai))) (aA m_ (hr.mono (by omega)) rfl (aw bq) (af (aa 2) (af (aa 4) ai)))))
   (au (pE (iT:=6) ["_law_script", "_law_k", "_law_feed_here", "_law_many", "_law_order_here", "_law_tree_here", "_law_names", "_law_other", "_law_pairs", "_law_i", "_law_j", "_law_due_here"] (ao fm).names ["_law_j"] [none] rfl bP.nd rfl (by trivial) (de rfl T.d_ (af (aa 3) ai)) (λ_ _ _ _ _=>(aS (i:=0) (show List.Nodup (["_law_j"]:List Str) from by decide) rfl (by trivial))) (λ_ _ _ _ _=>(aG wu wk (aD AR zr bt (aG cA cS (aa 0) ak) (λ_ _=>rfl)) (aG (cJ (K:=K) rfl) cH ak (aG gw js (aa 0) ak)))))
   (au (aU (i:=6) bP.nd rfl (by trivial) (aD (ixK (K:=K) rfl) aC (bA (af (aG (cJ (K:=K) rfl) cH (bA (af bt (af bt ai))) (aa 6)) (af (gr ["_law_script", "_law_k", "_law_feed_here", "_law_many", "_law_order_here", "_law_tree_here", "_law_names", "_law_other", "_law_pairs", "_law_i", "_law_j", "_law_due_here"] (ao fm).names ["_law_j"] [none] rfl (de rfl T.d_ (af (aa 3) ai)) (λ_ _ _ _ _=>(aS (i:=0) (show List.Nodup (["_law_j"]:List Str) from by decide) rfl (by trivial))) (λ_ _ _ _ _=>(aG (cJ (K:=K) rfl) cH (aG fK fN (aa 0) (aG r9 p8 ak ak)) ak))) ai))) (aA b_ (hr.mono (by omega)) rfl (aw bq) (af (aa 2) (af ak ai))) (λ_ _=>rfl)))
   (au (aU (i:=7) bP.nd rfl (by trivial) (aA h_ (hr.mono (by omega)) rfl (aw bq) (af (aa 5) (af (aa 6) ai))))
   (au (aU (i:=8) bP.nd rfl (by trivial) (xy ["_law_script", "_law_k", "_law_feed_here", "_law_many", "_law_order_here", "_law_tree_here", "_law_names", "_law_other", "_law_pairs", "_law_i", "_law_j", "_law_due_here"] (ao fm).names ["_law_k", "_law_many"] [none,some 3] rfl (de rfl T.d_ (af (aG fK fN (aa 3) (aa 3)) ai)) (λ_ _ _ _ _=>(aS (i:=0) (show List.Nodup (["_law_k", "_law_many"]:List Str) from by decide) rfl (by trivial))) (λ_ _ _ _ _=>(bB (pk (K:=K) rfl hr.units) kU (aG gw js (aa 0) (aa 1)) (aG cA cS (aa 0) (aa 1)) (bc _))) (λ_ _ _ _ _=>(fU (af (aG gw js (aa 0) (aa 1)) (af (aG cA cS (aa 0) (aa 1)) ai))))))
   (au (c6 (bB B8 CC (aa 3) ak (bc _)) (az (aU (i:=8) bP.nd rfl (by trivial) (gr ["_law_script", "_law_k", "_law_feed_here", "_law_many", "_law_order_here", "_law_tree_here", "_law_names", "_law_other", "_law_pairs", "_law_i", "_law_j", "_law_due_here"] (ao fm).names ["_law_again", "_law_pairs", "_law_feed_here"] [none,some 8,some 2] rfl (de rfl T.d_ (af ak ai)) (λ_ _ _ _ _=>(aS (i:=0) (show List.Nodup (["_law_again", "_law_pairs", "_law_feed_here"]:List Str) from by decide) rfl (by trivial))) (λ_ _ _ _ _=>(aD (ixK (K:=K) rfl) aC (aa 1) (aA b_ (hr.mono (by omega)) rfl eQ (af (aa 2) (af (aY (fV (K:=K) rfl) eL rfl T.i_ eN (af (aa 1) ai)) ai))) (λ_ _=>rfl)))))) bJ)
   (az (gD gK rfl (cT rfl (aa 8)) (ZG.weak (qJ rfl rfl (gg (aS (i:=9) bP.nd rfl (by trivial)) (gg (aS (i:=10) bP.nd rfl (by trivial)) m8)))) (au (aU (i:=11) bP.nd rfl (by trivial) (aA w_ (hr.mono (by omega)) rfl (aw bq) (by refine af (aa 5) ?_;refine af (aa 9) ?_;refine af (aa 10) ?_;exact ai)))
   (az (c6 (ZW.dt (oq (bB (pk (K:=K) rfl hr.units) kU (aA n_ (hr.mono (by omega)) rfl (aw bq) (by refine af (aa 5) ?_;refine af (aa 9) ?_;refine af (aa 10) ?_;exact ai)) (aa 11) (bc _)) (pS (bB (pk (K:=K) rfl hr.units) kU (aA n_ (hr.mono (by omega)) rfl (aw bq) (by refine af (aa 7) ?_;refine af (aD (ixK (K:=K) rfl) aC (aa 6) (aa 9) (λ_ _=>rfl)) ?_;refine af (aD (ixK (K:=K) rfl) aC (aa 6) (aa 10) (λ_ _=>rfl)) ?_;exact ai)) (aa 11) (bc _))))) (az (a0 jt)) bJ)))))))))))))))
   (az (a0 jt)))
end
def fdV (a b k:Int):Val:=.lst [.int a,.int b,.int k]
theorem vP:gL.G (.int 10) (.int 18)=.val (.int (10 ^ 18)):=vL ⟨by decide,by decide,by decide⟩
theorem ez {a m:Int} (h:0 < m):0<=a.fmod m/\a.fmod m < m:=⟨Int.fmod_nonneg_of_pos a h,Int.fmod_lt_of_pos a h⟩
set_option hygiene false in
local macro_rules | `(tactic| simp![$args,*])=>`(tactic| simp only[ic,Cw,Cc,BD,BV,sC,n5,yZ,AK,zJ,yC,yN,zf,Be,AM,x4,tH,A4,Bm,wN,yr,Bw,CW,v_bl,BZ,C9,v_ty,v_op,CA,yY,v_fn,BK,CG,v_if,c_of,c_tr,c_an,c_o,c_no,x_nx,Cm,v7,xD,xJ,y0,vI,x_if,BM,Ct,Ck,vV,uf,ug,g_n,g_sn,g_sc,g_t,g_x,Dg,CF,wx,CB,CK,B7,BY,C5,zd,zT,Cq,tJ,A0,Bs,CN,Ah,zt,zG,yE,Cf,Ce,v_lc,z9,Bp,zM,o_n,o_s,v_sl,Ci,fx_G,Bz,Dc,k_lt,k_gt,k_ge,k_ix,Ap,zY,CQ,k_eq,k_ne,kX,BN,BU,Br,xr,AY,List.getElem?_cons_zero,List.getElem?_cons_succ,List.set_cons_zero,List.set_cons_succ,List.length_cons,List.length_nil,Option.bind_some,Option.map_some,Option.isSome_some,if_true,if_false,Bool.not_true,Bool.not_false,Bool.and_true,Bool.true_and,Bool.and_false,Bool.or_true,Bool.true_or,Bool.or_false,Bool.false_or,Nat.reduceLeDiff,Nat.reduceAdd,Nat.reduceSub,Nat.zero_add,Nat.sub_self,List.cons_append,List.nil_append,List.append_nil,List.replicate,Bool.false_eq_true,List.all_cons,List.all_nil,List.isEmpty_nil,List.isEmpty_cons,List.map_cons,List.map_nil,Int.reduceBEq,Int.reduceAdd,Int.reduceSub,Int.cast_ofNat_Int,yU,xP,yo,zU,x5,uJ,zW,qG,xI,yI,yf,qR,wq,ym,uF,Bf,ye,yQ,uY,yX,z0,xB,BI,Cs,C8,BL,qF,pW,qb,rC,p7,rX,ati0,ati1,ati2,ixn0,ixn1,CL,bE,xw,gC,C7,mX,mZ,lQ,lg,pH,mS,$args,*])
theorem cB {a b k m:Int} (h0:0 < m) (hm:Sm 8000 m):∃ r a' b',av.G [fdV a b k,.int m]=.ok (.val (.int r)) [fdV a' b' k]/\0<=r/\r < m:=by
 unfold av
 rw[iZ]
 unfold gp fdV
 have m0:m ≠ 0:=by omega
 have d1:=λi=>fe (i:=i) m0
 have d2:=λi=>oh (i:=i) (CDivB.of m0 hm)
 have ca:∀ x:Int,CMulA 7919 x:=λx=>CMulA.left (by decide) (by decide)
 have cb:∀ x:Int,CMulA 104729 x:=λx=>CMulA.left (by decide) (by decide)
 have cc:∀ x:Int,CMulA x 48271:=λx=>CMulA.right (by decide) (by decide)
 have e1:bx.G (.int a) (.int 1000003)=.val (.int (a.fmod 1000003)):=fe (by decide)
 have e2:dB.G (.int 7919) (.int k)=.val (.int (7919 * k)):=ij (ca k)
 have e3:=λx=>ij (cb x)
 have e4:=λx=>ij (cc x)
 have e5:∀ x:Int,bx.G (.int x) (.int 2147483647)=.val (.int (x.fmod 2147483647)):=λx=>fe (by decide)
 have e6:∀ x:Int,bx.G (.int x) (.int 65521)=.val (.int (x.fmod 65521)):=λx=>fe (by decide)
 have e7:∀ x y:Int,dB.G (.int (x.fmod 2147483647)) (.int y)=.val (.int (x.fmod 2147483647 * y)):=λx y=>ij (CMulA.left (by have:=(ez (a:=x) (m:=2147483647) (by decide)).1;omega) (by have:=(ez (a:=x) (m:=2147483647) (by decide)).2;omega))
 have e8:∀ x:Int,bx.G (.int x) (.int 2147483629)=.val (.int (x.fmod 2147483629)):=λx=>fe (by decide)
 by_cases hc:(10 ^ 18:Int)<=a
 ·have hc':decide ((10 ^ 18:Int)<=a)=true:=decide_eq_true hc
  refine⟨a.fmod m,a.fdiv m,b + 1,?_,ez h0⟩
  simp![vP,hc',d1,d2]
  done
 ·have hc':decide ((10 ^ 18:Int)<=a)=false:=decide_eq_false hc
  refine⟨Int.fmod (Int.fmod (Int.fmod ((Int.fmod a 1000003 + 7919 * k + 104729 * (b + 1)) * 48271) 2147483647 * (Int.fmod (Int.fmod ((Int.fmod a 1000003 + 7919 * k + 104729 * (b + 1)) * 48271) 2147483647) 65521 + (b + 1))) 2147483629) m,a,b + 1,?_,ez h0⟩
  simp![vP,hc',d1,e1,e2,e3,e4,e5,e6,e7,e8]
theorem xC {ns:List Int}{k:Int} (hk:0<=k):∃ a,b9.G [.kl (ns.map .int),.int k]=.ok (.new (fdV a 0 k)) []:=by
 unfold b9
 rw[iZ]
 unfold gh fdV
 by_cases h0:ns.length=0
 ·have e:((((ns.map Val.int).length:Nat):Int) == 0)=true:=by rw[beq_iff_eq,List.length_map];omega
  exact⟨0,by simp![e]⟩
 ·have e:((((ns.map Val.int).length:Nat):Int) == 0)=false:=by rw[beq_eq_false_iff_ne,List.length_map];omega
  have e1:bx.G (.int k) (.int ((ns.map Val.int).length:Nat))=.val (.int (k.fmod ((ns.map Val.int).length:Nat))):=fe (by rw[List.length_map];omega)
  have r:=ez (a:=k) (m:=((ns.map Val.int).length:Nat)) (by rw[List.length_map];omega)
  rw[List.length_map] at r e1
  have hi:(k.fmod (ns.length:Nat)).toNat < ns.length:=by omega
  have at1:atI (ns.map Val.int) (k.fmod (ns.length:Nat))=some (.int ns[(k.fmod (ns.length:Nat)).toNat]):=bN r.1 (by rw[List.getElem?_map,List.getElem?_eq_getElem hi];rfl)
  rw[List.length_map] at e
  exact⟨ns[(k.fmod (ns.length:Nat)).toNat],by simp![List.length_map,e,e1,at1]⟩
theorem ie {t:AT} (h:t.ok=true):1<=t.lvs.length:=by
 induction t using AT.ind with
 | h1 k=>simp [AT.lvs]
 |
  h2 w ts ih=>
  rw[AT.ok,Bool.and_eq_true] at h
  cases ts with
  | nil=>exact absurd h.1 (by decide)
  |
   cons t ts=>
   have:=ih t (List.mem_cons_self ..) (AT.okL_mem.mp h.2 t (List.mem_cons_self ..))
   rw[AT.lvs,AT.lvsL,List.length_append]
   omega
theorem dP {α β:Type}{f:α->List β}:∀ {l:List α},(∀ a ∈ l,1<=(f a).length)->l.length<=((l.map f).flatten).length
 | [],_=>Nat.le_refl _
 |
  a :: l,h=>by
  have h1:=h a (List.mem_cons_self ..)
  have h2:=dP (l:=l) λb hb=>h b (List.mem_cons_of_mem _ hb)
  rw[List.map_cons,List.flatten_cons,List.length_append,List.length_cons]
  omega
theorem il (xs:List Val):(dY kits).G [.tup xs,.ty "tuple"]=.val (.bl true):=rfl
def lfV:Val->Bool
 | .int _=>true
 | .str _=>true
 | _=>false
theorem zo {a:Val} (h:lfV a=true):(dY kits).G [a,.ty "tuple"]=.val (.bl false):=by cases a <;> first | rfl | (cases h;done)
theorem AO {a:Val} (h:lfV a=true):(dY kits).G [a,.ty "bool"]=.val (.bl false):=by cases a <;> first | rfl | (cases h;done)
theorem qg (t:AT):∀ m,t.dep<=m->t.ok=true->t.lvs.length<=1000->(aM m).G [t.val λk=>.int (k:Nat)]=.ok (.new (.lst (t.lvs.map λk=>.int (k:Nat)))) []:=by
 induction t using AT.ind with
 |
  h1 k=>
  intro m hm _ _
  cases m with
  | zero=>simp [AT.dep] at hm
  |
   succ m=>
   have i1:(dY kits).G [.int (k:Nat),.ty "tuple"]=.val (.bl false):=rfl
   show (PFx.of [false] 1 (bG (aM m))).G [AT.val _ (.lf k)]=_
   rw[fc]
   unfold bG
   rw[AT.val,AT.lvs]
   simp![i1,List.map_cons,List.map_nil]
 |
  h2 w ts ih=>
  intro m hm ho hl
  cases m with
  | zero=>simp [AT.dep] at hm
  |
   succ m=>
   rw[AT.dep] at hm
   have hd:=AT.depL_le.mp (show AT.depL ts<=m by omega)
   rw[AT.ok,Bool.and_eq_true] at ho
   have hne:ts ≠ []:=λz=>by rw[z] at ho;exact absurd ho.1 (by decide)
   have hk:=AT.okL_mem.mp ho.2
   rw[AT.lvs,AT.lvsL_flat] at hl
   have hll:∀ t ∈ ts,t.lvs.length<=1000:=λt ht=>by
    have:=List.Sublist.length_le (List.sublist_flatten_of_mem (List.mem_map_of_mem (f:=AT.lvs) ht))
    omega
   show (PFx.of [false] 1 (bG (aM m))).G [AT.val _ (.nd w ts)]=_
   rw[fc]
   unfold bG
   rw[AT.val,AT.lvs,AT.vals_map,AT.lvsL_flat]
   obtain⟨e',⟨s,rfl,_⟩,lc⟩:=c7 (g:=(gtN 0).G) (F:=(aF (aM m).fn (ah (ag 0) aq)).G) (AT.val λk=>.int (k:Nat)) (λt=>Val.lst (t.lvs.map λk=>.int (k:Nat))) (λe=>∃ s:Sl,e=[s]/\s.pl=true) ts [] [.no] ⟨.no,rfl,rfl⟩ (by
    rintro t ht _ ⟨s,rfl,hs⟩
    have:=ih t ht m (hd t ht) (hk t ht) (hll t ht)
    generalize AT.val (λk=>Val.int (k:Nat)) t=tv at *
    refine⟨[.sh tv],.new (.lst (t.lvs.map λk=>.int (k:Nat))),[.sh tv],?_,?_,rfl,_,rfl,rfl⟩
    ·simp![hs]
    ·simp![this]) (by
    rw[List.length_nil,Nat.zero_add]
    have:ts.length<=((ts.map AT.lvs).flatten).length:=dP λt ht=>ie (hk t ht)
    omega)
   have e2:ts.map (λt=>Val.lst (t.lvs.map λk=>.int (k:Nat)))=(ts.map λt=>t.lvs.map λk=>Val.int (k:Nat)).map .lst:=by rw[List.map_map];rfl
   have hfl:(ts.map λt=>t.lvs.map λk=>Val.int (k:Nat)).flatten=(ts.map AT.lvs).flatten.map λk=>Val.int (k:Nat):=by
    rw[List.map_flatten,List.map_map];rfl
   have sm:=zD (ts.map λt=>t.lvs.map λk=>Val.int (k:Nat)) []
   rw[<- e2,hfl,if_pos ⟨by simpa using hne,by rw[List.length_nil,List.length_map];omega⟩,List.nil_append] at sm
   have ll:(ts.map (λt=>Val.lst (t.lvs.map λk=>.int (k:Nat)))).length<=16777216:=by
    rw[List.length_map]
    have:ts.length<=((ts.map AT.lvs).flatten).length:=dP λt ht=>ie (hk t ht)
    omega
   rw[List.nil_append] at lc
   simp![il,bE,lc,ll,sm]
def ntV (q:List Nat):Val:=.lst (q.map λi:Nat=>.int i)
theorem wM {x:Nat} (t:AT):∀ q,t.pth x=some q->q.length < t.dep:=by
 induction t using AT.ind with
 |
  h1 k=>
  intro q h
  rw[AT.pth] at h
  split at h
  ·cases h;simp [AT.dep]
  ·cases h
 |
  h2 w ts ih=>
  intro q h
  rw[AT.pth] at h
  obtain⟨k,u,r,h1,h2,h3,_⟩:=AT.pthL_some h
  have hu:=List.mem_of_getElem? h1
  have:=ih u hu r h2
  have:=AT.depL_le.mp (Nat.le_refl (AT.depL ts)) u hu
  rw[AT.dep,h3,List.length_cons]
  omega
theorem kz {f:Nat->Val}{x m:Nat} (v fx:Val):∀ (ts:List AT) (i:Nat) (s2 s3 s4:Sl),s2.pl=true->s3.pl=true->s4.pl=true->(∀ t ∈ ts,(aQ m).G [t.val f,fx]=.ok (match t.pth x with | some q=>.new (ntV q) | none=>.val .non) []/\∀ q,t.pth x=some q->q.length < 1000)->
 ∃ s2' s3' s4',dU (gtX (gtT 2 (dw (gtN 2) (dw (gtN 3) ib)))).G (b8 (aQ m)).G (jd i (ts.map (AT.val f))) [.sh v,.sh (fx),s2,s3,s4]=match AT.pthL x i ts with | some q=>.rt (.new (ntV q)) [.sh v,.sh (fx),s2',s3',s4'] | none=>.nx [.sh v,.sh (fx),s2',s3',s4']
 | [],i,s2,s3,s4,h2,h3,h4,_=>⟨s2,s3,s4,rfl⟩
 |
  t :: ts,i,s2,s3,s4,h2,h3,h4,ht=>by
  obtain⟨e1,e2⟩:=ht t (List.mem_cons_self ..)
  rw[List.map_cons,jd,gx]
  have g1:(gtX (gtT 2 (dw (gtN 2) (dw (gtN 3) ib)))).G (.tup [.int (i:Nat),t.val f]) [.sh v,.sh (fx),s2,s3,s4]=some [.sh v,.sh (fx),.sh (.int (i:Nat)),.sh (t.val f),s4]:=by
   simp![h2,h3]
  rw[g1,AT.pthL]
  dsimp only
  generalize t.val f=tv at *
  cases hp:t.pth x with
  |
   some q=>
   rw[hp] at e1
   dsimp only at e1
   have hl:=e2 q hp
   have ap:b0.G (.lst [.int (i:Nat)]) (ntV q)=.new (ntV (i :: q)):=by
    unfold ntV
    rw[qV,if_pos (by rw[List.length_map];simp only[List.length_cons,List.length_nil];omega)]
    rfl
   have b1:(b8 (aQ m)).G [.sh v,.sh fx,.sh (.int (i:Nat)),.sh tv,s4]=.rt (.new (ntV (i :: q))) [.sh v,.sh fx,.sh (.int (i:Nat)),.sh tv,.sh (ntV q)]:=by
    unfold b8
    have isn:pC.G (ntV q) .non=.val (.bl true):=rfl
    generalize hq:ntV q=qv at *
    simp![e1,h4,isn,ap]
   rw[b1]
   exact⟨_,_,_,rfl⟩
  |
   none=>
   rw[hp] at e1
   dsimp only at e1
   have isn:pC.G .non .non=.val (.bl false):=rfl
   have b1:(b8 (aQ m)).G [.sh v,.sh fx,.sh (.int (i:Nat)),.sh tv,s4]=.nx [.sh v,.sh fx,.sh (.int (i:Nat)),.sh tv,.sh .non]:=by
    unfold b8
    simp![e1,h4,isn]
   rw[b1]
   exact kz v fx ts (i + 1) (.sh (.int (i:Nat))) (.sh tv) (.sh .non) rfl rfl rfl λu hu=>ht u (List.mem_cons_of_mem _ hu)
def EqA (f:Nat->Val) (fx:Val) (x:Nat) (l:List Nat):Prop:=∀ k ∈ l,lfV (f k)=true/\bW (f k) fx=some (decide (k=x))
theorem nA {f:Nat->Val}{fx:Val}{x:Nat} (hx:lfV fx=true) (t:AT):∀ m,t.dep<=m->m<=1000->EqA f fx x t.lvs->(aQ m).G [t.val f,fx]=.ok (match t.pth x with | some q=>.new (ntV q) | none=>.val .non) []:=by
 induction t using AT.ind with
 |
  h1 k=>
  intro m hm _ hE
  obtain⟨h1,h2⟩:=hE k (by rw[AT.lvs];exact List.mem_cons_self ..)
  cases m with
  | zero=>simp [AT.dep] at hm
  |
   succ m=>
   have i1:=zo h1
   have i2:=AO hx
   show (PFx.of [false,false] 5 (cG (aQ m))).G [AT.val f (.lf k),fx]=_
   rw[fc]
   unfold cG
   rw[AT.val,AT.pth]
   generalize f k=fk at *
   by_cases hk:k=x
   ·rw[decide_eq_true hk] at h2
    rw[if_pos hk]
    unfold ntV
    simp![i1,i2,h2,List.map_nil]
   ·rw[decide_eq_false hk] at h2
    rw[if_neg hk]
    simp![i1,i2,h2]
 |
  h2 w ts ih=>
  intro m hm h1000 hE
  cases m with
  | zero=>simp [AT.dep] at hm
  |
   succ m=>
   rw[AT.dep] at hm
   have hd:=AT.depL_le.mp (show AT.depL ts<=m by omega)
   rw[AT.lvs] at hE
   obtain⟨s2,s3,s4,lo⟩:=kz (f:=f) (x:=x) (m:=m) (.tup [.str (wy w),.tup (ts.map (AT.val f))]) fx ts 0 .no .no .no rfl rfl rfl λt ht=>⟨ih t ht m (hd t ht) (by omega) λk hk=>hE k (AT.lvsL_mem.mpr ⟨t,ht,hk⟩),λq hq=>by have:=wM t q hq;have:=hd t ht;omega⟩
   show (PFx.of [false,false] 5 (cG (aQ m))).G [AT.val f (.nd w ts),fx]=_
   rw[fc]
   unfold cG
   rw[AT.val,AT.pth,AT.vals_map]
   cases hp:AT.pthL x 0 ts with
   |
    some q=>
    rw[hp] at lo
    dsimp only at lo ⊢
    generalize ntV q=nq at *
    simp![il,lo]
   |
    none=>
    rw[hp] at lo
    dsimp only at lo
    simp![il,lo]
theorem sJ {f:Nat->Val}{ns:List Val} (t:AT):∀ m,t.dep<=m->t.ok=true->t.lvs.length<=1000->(∀ k ∈ t.lvs,ns[k]?=some (f k))->(aW m).G [t.val λk=>.int (k:Nat),.lst ns]=.ok (.val (t.val f)) []:=by
 induction t using AT.ind with
 |
  h1 k=>
  intro m hm _ _ hn
  have h1:=hn k (by rw[AT.lvs];exact List.mem_cons_self ..)
  cases m with
  | zero=>simp [AT.dep] at hm
  |
   succ m=>
   have i1:(dY kits).G [.int (k:Nat),.ty "tuple"]=.val (.bl false):=rfl
   have a1:atI ns (k:Nat)=some (f k):=bN (by omega) h1
   show (PFx.of [false,false] 2 (bT (aW m))).G [AT.val _ (.lf k),.lst ns]=_
   rw[fc]
   unfold bT
   rw[AT.val,AT.val]
   simp![i1,a1]
 |
  h2 w ts ih=>
  intro m hm ho hl hn
  cases m with
  | zero=>simp [AT.dep] at hm
  |
   succ m=>
   rw[AT.dep] at hm
   have hd:=AT.depL_le.mp (show AT.depL ts<=m by omega)
   rw[AT.ok,Bool.and_eq_true] at ho
   have hk:=AT.okL_mem.mp ho.2
   rw[AT.lvs] at hl hn
   have hl2:=hl
   rw[AT.lvsL_flat] at hl
   have hll:∀ t ∈ ts,t.lvs.length<=1000:=λt ht=>by
    have:=List.Sublist.length_le (List.sublist_flatten_of_mem (List.mem_map_of_mem (f:=AT.lvs) ht))
    omega
   have ll:ts.length<=1000:=by
    have:ts.length<=((ts.map AT.lvs).flatten).length:=dP λt ht=>ie (hk t ht)
    omega
   show (PFx.of [false,false] 2 (bT (aW m))).G [AT.val _ (.nd w ts),.lst ns]=_
   rw[fc]
   unfold bT
   rw[AT.val,AT.val,AT.vals_map,AT.vals_map]
   obtain⟨e',⟨s,rfl,_⟩,lc⟩:=c7 (g:=(gtN 0).G) (F:=(aF (aW m).fn (ah (ag 0) (ah (ag 1) aq))).G) (AT.val λk=>.int (k:Nat)) (AT.val f) (λe=>∃ s:Sl,e=[s,.sh (.lst ns)]/\s.pl=true) ts [] [.no,.sh (.lst ns)] ⟨.no,rfl,rfl⟩ (by
    rintro t ht _ ⟨s,rfl,hs⟩
    have:=ih t ht m (hd t ht) (hk t ht) (hll t ht) λk hk'=>hn k (AT.lvsL_mem.mpr ⟨t,ht,hk'⟩)
    generalize AT.val (λk=>Val.int (k:Nat)) t=tv at *
    generalize AT.val f t=tw at *
    refine⟨[.sh tv,.sh (.lst ns)],.val tw,[.sh tv,.sh (.lst ns)],?_,?_,rfl,_,rfl,rfl⟩
    ·simp![hs]
    ·simp![this]) (by rw[List.length_nil];omega)
   have l2:(ts.map (AT.val f)).length<=16777216:=by rw[List.length_map];omega
   rw[List.nil_append] at lc
   simp![il,bE,inS,lc,l2]
theorem nD {k:Nat}:∀ {vs:List Val},(∀ v ∈ vs,wfV k v=true)->eK k vs=true
 | [],_=>rfl
 |
  v :: vs,h=>by
  show (wfV k v && eK k vs)=true
  rw[h v (List.mem_cons_self ..),nD λu hu=>h u (List.mem_cons_of_mem _ hu)]
  rfl
theorem ny:∀ {vs:List Val},(∀ v ∈ vs,gE v=true)->eh vs=true
 | [],_=>rfl
 |
  v :: vs,h=>by
  show (gE v && eh vs)=true
  rw[h v (List.mem_cons_self ..),ny λu hu=>h u (List.mem_cons_of_mem _ hu)]
  rfl
theorem B4 {p q:List Nat} (h:p ≠ q):bW (ntV p) (ntV q)=some false:=by
 have w:∀ p:List Nat,wfV 60 (ntV p)=true:=λp=>nD (k:=59) λv hv=>by obtain⟨i,_,rfl⟩:=List.mem_map.mp hv;rfl
 have b:∀ p:List Nat,gE (ntV p)=true:=λp=>ny λv hv=>by obtain⟨i,_,rfl⟩:=List.mem_map.mp hv;rfl
 rw[CP (w p) (w q)]
 congr 1
 cases hq:vq (ntV p) (ntV q) with
 | false=>rfl
 |
  true=>
  have:=(qZ _ _ (b p) (b q)).mp hq
  unfold ntV at this
  injection this with this
  exact absurd (List.map_inj_right (λa b z=>by injection z with z;exact Int.ofNat.inj z) |>.mp this) h
theorem eE (i j:Nat):(((i:Nat):Int) == (j:Nat))=decide (i=j):=by
 rw[Bool.eq_iff_iff,beq_iff_eq,decide_eq_true_iff]
 omega
theorem d6 (i j:Nat):decide (((i:Nat):Int) < (j:Nat))=decide (i < j):=by
 rw[Bool.eq_iff_iff,decide_eq_true_iff,decide_eq_true_iff]
 omega
theorem d4 (v:Val) (l:List Val):atI (v :: l) 0=some v:=bN (by decide) rfl
theorem vn (v:Val) (l:List Val):eg (v :: l) (some 1) none=l:=ma _ 1
theorem lY {f:Nat->Val} (fx fy:Val) (u:Str):∀ (p q:List Nat) (t:AT),AT.rel p q t=some u->∃ w ts i j p' q',i ≠ j/\u=wd w (decide (i < j))/\(xWh (qOf (pOp bEq (pOp bIx (ag 3) (ar 0)) (pOp bIx (ag 4) (ar 0)))) cz).G [.sh (t.val f),.sh fx,.sh fy,.sh (ntV p),.sh (ntV q),.no]=.nx [.sh (AT.val f (.nd w ts)),.sh fx,.sh fy,.sh (ntV (i :: p')),.sh (ntV (j :: q')),.no]
 | [],q,t,h=>by rw[AT.rel] at h;cases h;rintro i p j q w ts z;cases z
 | i :: p,[],t,h=>by rw[AT.rel] at h;cases h;rintro i p j q w ts _ z;cases z
 | i :: p,j :: q,.lf k,h=>by rw[AT.rel] at h;cases h;rintro i p j q w ts _ _ z;cases z
 |
  i :: p,j :: q,.nd w ts,h=>by
  rw[AT.rel] at h
  rw[x_wh]
  by_cases hij:i=j
  ·subst hij
   rw[if_pos rfl] at h
   cases ht:ts[i]? with
   | none=>rw[ht] at h;cases h
   |
    some t=>
    rw[ht] at h
    obtain⟨w',ts',i',j',p',q',h1,h2,h3⟩:=lY fx fy u p q t h
    refine⟨w',ts',i',j',p',q',h1,h2,?_⟩
    have c1:(qOf (pOp bEq (pOp bIx (ag 3) (ar 0)) (pOp bIx (ag 4) (ar 0)))).G [.sh (AT.val f (.nd w ts)),.sh fx,.sh fy,.sh (ntV (i :: p)),.sh (ntV (i :: q)),.no]=.ok true [.sh (AT.val f (.nd w ts)),.sh fx,.sh fy,.sh (ntV (i :: p)),.sh (ntV (i :: q)),.no]:=by
     unfold ntV
     simp![List.map_cons,d4,beq_self_eq_true]
    have at1:atI (ts.map (AT.val f)) (i:Nat)=some (t.val f):=bN (by omega) (by rw[List.getElem?_map];show (ts[i]?).map _=_;rw[ht];rfl)
    have b1:cz.G [.sh (AT.val f (.nd w ts)),.sh fx,.sh fy,.sh (ntV (i :: p)),.sh (ntV (i :: q)),.no]=.nx [.sh (t.val f),.sh fx,.sh fy,.sh (ntV p),.sh (ntV q),.no]:=by
     unfold cz ntV
     rw[AT.val,AT.vals_map]
     generalize t.val f=tv at *
     simp![List.map_cons,d4,at1,jj,vn]
    rw[c1]
    show ((cz.G _).loop _)=_
    rw[b1]
    exact h3
  ·rw[if_neg hij] at h
   refine⟨w,ts,i,j,p,q,hij,(Option.some.inj h).symm,?_⟩
   have c1:(qOf (pOp bEq (pOp bIx (ag 3) (ar 0)) (pOp bIx (ag 4) (ar 0)))).G [.sh (AT.val f (.nd w ts)),.sh fx,.sh fy,.sh (ntV (i :: p)),.sh (ntV (j :: q)),.no]=.ok false [.sh (AT.val f (.nd w ts)),.sh fx,.sh fy,.sh (ntV (i :: p)),.sh (ntV (j :: q)),.no]:=by
    unfold ntV
    simp![List.map_cons,d4,eE,decide_eq_false hij]
   rw[c1]
   rfl
theorem iH {f:Nat->Val}{fx fy:Val}{x y:Nat}{t:AT}{p q:List Nat}{u:Str} (hx:lfV fx=true) (hy:lfV fy=true) (hd:t.dep<=42) (ex:EqA f fx x t.lvs) (ey:EqA f fy y t.lvs) (hp:t.pth x=some p) (hq:t.pth y=some q) (hpq:p ≠ q) (hr:AT.rel p q t=some u):bO.G [t.val f,fx,fy]=.ok (.val (.str u)) []:=by
 have e1:=nA hx t 42 hd (by omega) ex
 have e2:=nA hy t 42 hd (by omega) ey
 rw[hp] at e1
 rw[hq] at e2
 dsimp only at e1 e2
 have ne:=B4 hpq
 obtain⟨w,ts,i,j,p',q',hij,hu,lo⟩:=lY (f:=f) fx fy u p q t hr
 have is1:bIs.G (ntV p) .non=.val (.bl false):=rfl
 have is2:bIs.G (ntV q) .non=.val (.bl false):=rfl
 have n1:ntV (i :: p')=.lst ((i :: p').map λi:Nat=>.int i):=rfl
 have n2:ntV (j :: q')=.lst ((j :: q').map λi:Nat=>.int i):=rfl
 have tr:∀ b,o3 (.bl b)=some b:=λ_=>rfl
 have es:bW (.str (wy w)) (.str "across")=some w:=by
  cases w
  ·exact jw (x:="down") (y:="across") (by decide) (by decide) |>.trans (by decide)
  ·exact jw (x:="across") (y:="across") (by decide) (by decide) |>.trans (by decide)
 rw[AT.val] at lo
 rw[n1,n2] at lo
 generalize AT.vals f ts=tvs at *
 generalize ntV p=np at *
 generalize ntV q=nq at *
 generalize t.val f=tv at *
 unfold bO
 rw[iZ]
 unfold gm
 cases w with
 |
  true=>
  cases hb:decide (i < j) with
  |
   true=>
   rw[hb] at hu
   subst hu
   simp![e1,e2,is1,is2,ne,lo,List.map_cons,d4,d6,hb,es,tr,wd]
  |
   false=>
   rw[hb] at hu
   subst hu
   simp![e1,e2,is1,is2,ne,lo,List.map_cons,d4,d6,hb,es,tr,wd]
 |
  false=>
  cases hb:decide (i < j) with
  |
   true=>
   rw[hb] at hu
   subst hu
   simp![e1,e2,is1,is2,ne,lo,List.map_cons,d4,d6,hb,es,tr,wd]
  |
   false=>
   rw[hb] at hu
   subst hu
   simp![e1,e2,is1,is2,ne,lo,List.map_cons,d4,d6,hb,es,tr,wd]
theorem rb:∀ (bs:List Bool) (i:Nat),bs[i]?=some true->(∀ k b,k < i->bs[k]?=some b->b=false)->bs.idxOf true=i
 | [],i,h,_=>by rw[List.getElem?_nil] at h;cases h
 |
  b :: bs,0,h,_=>by
  cases h
  rfl
 |
  b :: bs,i + 1,h,hf=>by
  have hb:=hf 0 b (by omega) rfl
  subst hb
  have:=rb bs i h λk b hk e=>hf (k + 1) b (by omega) e
  rw[List.idxOf_cons,this]
  rfl
theorem qH:∀ bs:List Bool,jY (.bl true) (bs.map .bl)=some bs
 | []=>rfl
 |
  b :: bs=>by
  rw[List.map_cons,jY,qH bs,BG]
  cases b <;> rfl
theorem tD {bs:List Bool}{i:Nat} (h:bs[i]?=some true) (hf:∀ k b,k < i->bs[k]?=some b->b=false):fJ.G (.lst (bs.map .bl)) [.bl true]=.val (.int (i:Nat)):=by
 show fQ (.lst (bs.map .bl)) [.bl true]=_
 unfold fQ
 dsimp only
 rw[qH]
 dsimp only
 rw[rb bs i h hf,if_pos (List.getElem?_eq_some_iff.mp h).1]
def inB (x:Nat) (t:AT):Bool:=decide (x ∈ t.lvs)
theorem zw (x:Nat) (t:AT):bIn.G (.int (x:Nat)) (.lst (t.lvs.map λk=>.int (k:Nat)))=.val (.bl (inB x t)):=by
 have h:=sV (t.lvs.map λk:Nat=>(k:Int)) (x:Nat)
 rw[List.map_map] at h
 rw[show (List.map (λk:Nat=>Val.int (k:Int)) t.lvs)=List.map (Val.int ∘ λk:Nat=>(k:Int)) t.lvs from rfl,h]
 congr 2
 unfold inB
 rw[Bool.eq_iff_iff,List.contains_iff_mem,decide_eq_true_iff,List.mem_map]
 constructor
 ·rintro⟨a,ha,e⟩
  exact Int.ofNat.inj e ▸ ha
 ·intro h
  exact⟨x,h,rfl⟩
theorem rN {x:Nat}{w:Bool}{ts:List AT}{p:List Nat} (h:AT.pth x (.nd w ts)=some p):∃ i t r,p=i :: r/\ts[i]?=some t/\t.pth x=some r/\fJ.G (.lst (ts.map λt=>.bl (inB x t))) [.bl true]=.val (.int (i:Nat)):=by
 rw[AT.pth] at h
 obtain⟨i,t,r,h1,h2,h3,h4⟩:=AT.pthL_some h
 rw[Nat.zero_add] at h3
 refine⟨i,t,r,h3,h1,h2,?_⟩
 have e:ts.map (λt=>Val.bl (inB x t))=(ts.map (inB x)).map .bl:=by rw[List.map_map];rfl
 rw[e]
 refine tD ?_ ?_
 ·rw[List.getElem?_map,h1]
  have:x ∈ t.lvs:=by
   by_cases hx:x ∈ t.lvs
   ·exact hx
   ·rw[(AT.pth_mem t).mpr hx] at h2;cases h2
  show some (inB x t)=_
  unfold inB
  rw[decide_eq_true this]
 ·intro k b hk hb
  rw[List.getElem?_map] at hb
  obtain⟨u,hu,rfl⟩:=Option.map_eq_some_iff.mp hb
  have:=(AT.pth_mem u).mp (h4 k u hk hu)
  unfold inB
  exact decide_eq_false this
def inI (t:AT):Val:=.lst (t.lvs.map λk=>.int (k:Nat))
theorem vM (x:Nat) {sx:Val} (hs:sx=.int (x:Nat)) (ts:List AT) (hl:ts.length<=1000):∃ s,lcV (gtN 0).G qY.G (pOp bIn (ag 1) (ag 0)).G (ts.map inI) [] [.no,.sh sx]=.ok (ts.map λt=>.bl (inB x t)) [s,.sh sx]:=by
 subst hs
 obtain⟨e',⟨s,rfl,_⟩,lc⟩:=c7 (g:=(gtN 0).G) (F:=(pOp bIn (ag 1) (ag 0)).G) inI (λt=>Val.bl (inB x t)) (λe=>∃ s:Sl,e=[s,.sh (.int (x:Nat))]/\s.pl=true) ts [] [.no,.sh (.int (x:Nat))] ⟨.no,rfl,rfl⟩ (by
  rintro t ht _ ⟨s,rfl,hs⟩
  have e:=zw x t
  rw[show Val.lst (t.lvs.map λk=>.int (k:Nat))=inI t from rfl] at e
  generalize inI t=it at *
  refine⟨[.sh it,.sh (.int (x:Nat))],.val (.bl (inB x t)),[.sh it,.sh (.int (x:Nat))],?_,?_,rfl,_,rfl,rfl⟩
  ·simp![hs]
  ·simp![e]) (by rw[List.length_nil];omega)
 exact⟨s,lc⟩
theorem lJ {x y:Nat} (u:Str):∀ (p q:List Nat) (t:AT) (s3 s4 s5:Sl),s3.pl=true->s4.pl=true->s5.pl=true->t.dep<=43->t.ok=true->t.lvs.length<=1000->t.pth x=some p->t.pth y=some q->AT.rel p q t=some u->∃ e',muV [false,false,false] e'=some []/\(xWh (qOf (pBl true)) bC).G [.sh (t.val λk=>.int (k:Nat)),.sh (.int (x:Nat)),.sh (.int (y:Nat)),s3,s4,s5]=.rt (.val (.str u)) e'
 | [],q,t,s3,s4,s5,_,_,_,_,_,_,_,_,h=>by rw[AT.rel] at h;cases h;rintro i p j q w ts z;cases z
 | i :: p,[],t,s3,s4,s5,_,_,_,_,_,_,_,_,h=>by rw[AT.rel] at h;cases h;rintro i p j q w ts _ z;cases z
 | i :: p,j :: q,.lf k,s3,s4,s5,_,_,_,_,_,_,_,_,h=>by rw[AT.rel] at h;cases h;rintro i p j q w ts _ _ z;cases z
 |
  i :: p,j :: q,.nd w ts,s3,s4,s5,h3,h4,h5,hd,ho,hl,hx,hy,h=>by
  rw[AT.rel] at h
  obtain⟨i',tx,rx,e1,tx1,tx2,ix⟩:=rN hx
  obtain⟨j',ty,ry,e2,ty1,ty2,iy⟩:=rN hy
  injection e1 with e1 e1'
  injection e2 with e2 e2'
  subst e1 e1' e2 e2'
  rw[AT.dep] at hd
  have hd':=AT.depL_le.mp (show AT.depL ts<=42 by omega)
  rw[AT.ok,Bool.and_eq_true] at ho
  have hk:=AT.okL_mem.mp ho.2
  rw[AT.lvs,AT.lvsL_flat] at hl
  have hll:∀ t ∈ ts,t.lvs.length<=1000:=λt ht=>by
   have:=List.Sublist.length_le (List.sublist_flatten_of_mem (List.mem_map_of_mem (f:=AT.lvs) ht))
   omega
  have lt:ts.length<=1000:=by
   have:ts.length<=((ts.map AT.lvs).flatten).length:=dP λt ht=>ie (hk t ht)
   omega
  obtain⟨e',⟨s,rfl,_⟩,lc⟩:=c7 (g:=(gtN 0).G) (F:=(aF (aM 42).fn (ah (ag 0) aq)).G) (AT.val λk=>.int (k:Nat)) inI (λe=>∃ s:Sl,e=[s]/\s.pl=true) ts [] [.no] ⟨.no,rfl,rfl⟩ (by
   rintro t ht _ ⟨s,rfl,hs⟩
   have:=qg t 42 (hd' t ht) (hk t ht) (hll t ht)
   rw[show Val.lst (t.lvs.map λk=>.int (k:Nat))=inI t from rfl] at this
   generalize AT.val (λk=>Val.int (k:Nat)) t=tv at *
   generalize inI t=it at *
   refine⟨[.sh tv],.new it,[.sh tv],?_,?_,rfl,_,rfl,rfl⟩
   ·simp![hs]
   ·simp![this]) (by rw[List.length_nil];omega)
  rw[List.nil_append] at lc
  obtain⟨sx,lx⟩:=vM x rfl ts lt
  obtain⟨sy,ly⟩:=vM y rfl ts lt
  have l1:(ts.map inI).length<=16777216:=by rw[List.length_map];omega
  have l2:(ts.map λt=>Val.bl (inB x t)).length<=16777216:=by rw[List.length_map];omega
  have l3:(ts.map λt=>Val.bl (inB y t)).length<=16777216:=by rw[List.length_map];omega
  have lkl:dN (.lst (ts.map λt=>Val.bl (inB x t)))=true:=rfl
  have c1:∀ e,(qOf (pBl true)).G e=.ok true e:=λe=>rfl
  rw[x_wh,c1]
  show ∃ e',_/\((bC.G _).loop _)=_
  have at1:atI (ts.map (AT.val λk=>.int (k:Nat))) (i:Nat)=some (tx.val λk=>.int (k:Nat)):=bN (by omega) (by rw[List.getElem?_map];show (ts[i]?).map _=_;rw[tx1];rfl)
  rw[AT.val,AT.vals_map]
  generalize hT:ts.map (AT.val λk=>.int (k:Nat))=TS at *
  generalize ts.map inI=TI at *
  generalize (ts.map λt=>Val.bl (inB x t))=TX at *
  generalize (ts.map λt=>Val.bl (inB y t))=TY at *
  by_cases hij:i=j
  ·subst hij
   rw[if_pos rfl,tx1] at h
   rw[tx1] at ty1
   cases ty1
   have ne:bW (.int (i:Nat)) (.int (i:Nat))=some true:=by rw[kX,beq_self_eq_true]
   have bb:bC.G [.sh (.tup [.str (wy w),.tup TS]),.sh (.int (x:Nat)),.sh (.int (y:Nat)),s3,s4,s5]=.nx [.sh (tx.val λk=>.int (k:Nat)),.sh (.int (x:Nat)),.sh (.int (y:Nat)),.sh (.lst TI),.sh (.int (i:Nat)),.sh (.int (i:Nat))]:=by
    unfold bC
    generalize AT.val (λk=>Val.int (k:Nat)) tx=tv at *
    simp![bE,inS,lc,lx,ly,l1,l2,l3,h3,h4,h5,ix,iy,beq_self_eq_true,at1]
   rw[bb]
   have hm:=List.mem_of_getElem? tx1
   exact lJ u p q tx _ _ _ rfl rfl rfl (by have:=hd' tx hm;omega) (hk tx hm) (hll tx hm) tx2 ty2 h
  ·rw[if_neg hij] at h
   have hu:=(Option.some.inj h).symm
   have bb:∃ e',muV [false,false,false] e'=some []/\bC.G [.sh (.tup [.str (wy w),.tup TS]),.sh (.int (x:Nat)),.sh (.int (y:Nat)),s3,s4,s5]=.rt (.val (.str u)) e':=by
    refine⟨[.sh (.tup [.str (wy w),.tup TS]),.sh (.int (x:Nat)),.sh (.int (y:Nat)),.sh (.lst TI),.sh (.int (i:Nat)),.sh (.int (j:Nat))],rfl,?_⟩
    unfold bC
    have d1:∀ a b:Val,lkD ([(Sum.inr "across" : Key),Sum.inr "down"].zip [a,b]) (Sum.inr (wy true))=some a:=λa b=>rfl
    have d2:∀ a b:Val,lkD ([(Sum.inr "across" : Key),Sum.inr "down"].zip [a,b]) (Sum.inr (wy false))=some b:=λa b=>rfl
    rw[hu]
    cases hb:decide (i < j) with
    |
     true=>
     cases w with
     | true=>simp![bE,inS,lc,lx,ly,l1,l2,l3,h3,h4,h5,ix,iy,eE,decide_eq_false hij,gC,d1,d2,d6,hb,wd];try rfl
     | false=>simp![bE,inS,lc,lx,ly,l1,l2,l3,h3,h4,h5,ix,iy,eE,decide_eq_false hij,gC,d1,d2,d6,hb,wd];try rfl
    |
     false=>
     cases w with
     | true=>simp![bE,inS,lc,lx,ly,l1,l2,l3,h3,h4,h5,ix,iy,eE,decide_eq_false hij,gC,d1,d2,d6,hb,wd];try rfl
     | false=>simp![bE,inS,lc,lx,ly,l1,l2,l3,h3,h4,h5,ix,iy,eE,decide_eq_false hij,gC,d1,d2,d6,hb,wd];try rfl
   obtain⟨e',q1,q2⟩:=bb
   exact⟨e',q1,by rw[q2];rfl⟩
theorem Ak {x y:Nat}{t:AT}{p q:List Nat}{u:Str} (hd:t.dep<=43) (ho:t.ok=true) (hl:t.lvs.length<=1000) (hp:t.pth x=some p) (hq:t.pth y=some q) (hr:AT.rel p q t=some u):dk.G [t.val λk=>.int (k:Nat),.int (x:Nat),.int (y:Nat)]=.ok (.val (.str u)) []:=by
 obtain⟨e',h1,h2⟩:=lJ u p q t .no .no .no rfl rfl rfl hd ho hl hp hq hr
 generalize AT.val (λk=>Val.int (k:Nat)) t=tv at *
 show (fnP [false,false,false] 6 eV).G [tv,.int (x:Nat),.int (y:Nat)]=_
 rw[BE rfl]
 unfold eV
 show lZ [false,false,false] ((xWh (qOf (pBl true)) bC).G [.sh tv,.sh (.int (x:Nat)),.sh (.int (y:Nat)),.no,.no,.no])=_
 rw[h2,vO,h1]
def itV (l:List Nat):Val:=.lst (l.map λk:Nat=>.int k)
structure TOk (t:AT) (l:List Nat):Prop where
 ok:t.ok=true
 mem:∀ k,k ∈ t.lvs ↔ k ∈ l
 dep:t.dep<=l.length
 len:t.lvs.length=l.length
theorem tj {a b k:Int}{m:Nat} (hm:m<=1000):∃ (o:List Nat) (a' b':Int),(∀ i,i ∈ o ↔ i < m)/\o.length=m/\bQ.G [fdV a b k,.int (m:Nat)]=.ok (.new (itV o)) [fdV a' b' k]:=by
 have rg:d9 [.int (m:Nat)]=some (rgV m):=wI (i:=(m:Nat)) (by omega) (by omega)
 obtain⟨e',⟨a',b',o,s3,h1,h2,_,rfl⟩,lo⟩:=tZ (g:=(gtN 3).G) (B:=dD.G) (λi e=>∃ (a b:Int) (o:List Nat) (s3:Sl),o.length=i/\(∀ j,j ∈ o ↔ j < i)/\s3.pl=true/\e=[.mu (fdV a b k),.sh (.int (m:Nat)),.ow (itV o),s3]) m (e:=[.mu (fdV a b k),.sh (.int (m:Nat)),.ow (itV []),.no]) ⟨a,b,[],.no,rfl,by simp,rfl,rfl⟩ (by
  rintro i hi _ ⟨a,b,o,s3,h1,h2,h3,rfl⟩
  obtain⟨r,a1,b1,e1,r0,r1⟩:=cB (a:=a) (b:=b) (k:=k) (m:=(o.length:Nat) + 1) (by omega) (sm8 (by omega))
  refine⟨[.mu (fdV a b k),.sh (.int (m:Nat)),.ow (itV o),.sh (.int (i:Nat))],[.mu (fdV a1 b1 k),.sh (.int (m:Nat)),.ow (itV (o.take r.toNat++i :: o.drop r.toNat)),.sh (.int (i:Nat))],?_,.inl ?_,a1,b1,_,_,?_,?_,rfl,rfl⟩
  ·simp![h3]
  ·have ln:(o.map λk:Nat=>Val.int k).length=o.length:=List.length_map ..
   have ins:(0<=r/\r<=(o.length:Nat)/\o.length < 16777216):=⟨r0,by omega,by omega⟩
   unfold dD itV
   generalize hf:fdV a b k=f0 at *
   generalize hf1:fdV a1 b1 k=f1 at *
   simp![ln,e1,uU,ins,true_and,and_true,and_self]
   simp [List.map_take,List.map_drop]
  ·simp only[List.length_append,List.length_cons,List.length_take,List.length_drop]
   omega
  ·intro j
   rw[List.mem_append,List.mem_cons]
   have:j ∈ o ↔ j ∈ o.take r.toNat\/j ∈ o.drop r.toNat:=by rw[<- List.mem_append,List.take_append_drop]
   rw[show (j < i + 1 ↔ j < i\/j=i) from by omega,<- h2 j,this]
   constructor
   ·rintro (h | h | h)
    ·exact .inl (.inl h)
    ·exact .inr h
    ·exact .inl (.inr h)
   ·rintro ((h | h) | h)
    ·exact .inl h
    ·exact .inr (.inr h)
    ·exact .inr (.inl h))
 refine⟨o,a',b',h2,h1,?_⟩
 unfold bQ
 rw[iZ]
 unfold fA
 unfold itV at lo ⊢
 generalize fdV a b k=f0 at *
 generalize fdV a' b' k=f1 at *
 rw[List.map_nil] at lo
 simp![rg,lo]
theorem qy {a b k:Int}:∃ (w:Bool) (r a' b':Int),av.G [fdV a b k,.int 2]=.ok (.val (.int r)) [fdV a' b' k]/\atI [Val.str "across",Val.str "down"] r=some (Val.str (wy w)):=by
 obtain⟨r,a1,b1,e1,r0,r1⟩:=cB (a:=a) (b:=b) (k:=k) (m:=2) (by decide) (sm8 (by decide))
 obtain rfl | rfl:r=0\/r=1:=by omega
 ·exact⟨true,0,a1,b1,e1,bN (by decide) rfl⟩
 ·exact⟨false,1,a1,b1,e1,bN (by decide) rfl⟩
theorem ju {k:Int} (nv:Val):∀ (bj:List Nat) (t:AT) (l:List Nat) (a b:Int) (s3:Sl),s3.pl=true->TOk t l->∃ (t':AT) (a' b':Int) (s3':Sl),TOk t' (bj.reverse++l)/\dU (gtN 3).G bY.G (bj.map λi:Nat=>.int i) [.mu (fdV a b k),.sh nv,.sh (t.val λk=>.int (k:Nat)),s3]=.nx [.mu (fdV a' b' k),.sh nv,.sh (t'.val λk=>.int (k:Nat)),s3']
 | [],t,l,a,b,s3,_,h=>⟨t,a,b,s3,h,rfl⟩
 |
  x :: bj,t,l,a,b,s3,h3,h=>by
  obtain⟨w,r,a1,b1,e1,w1⟩:=qy (a:=a) (b:=b) (k:=k)
  obtain⟨r2,a2,b2,e2,r0,r1⟩:=cB (a:=a1) (b:=b1) (k:=k) (m:=2) (by decide) (sm8 (by decide))
  have key:∃ t1,TOk t1 (x :: l)/\bY.G [.mu (fdV a b k),.sh nv,.sh (t.val λk=>.int (k:Nat)),.sh (.int (x:Nat))]=.nx [.mu (fdV a2 b2 k),.sh nv,.sh (t1.val λk=>.int (k:Nat)),.sh (.int (x:Nat))]:=by
   have hd:=h.dep
   have hp:=AT.dep_pos t
   obtain rfl | rfl:r2=0\/r2=1:=by omega
   ·refine⟨.nd w [.lf x,t],⟨by simp [AT.ok,AT.okL,h.ok],λk=>by simp [AT.lvs,AT.lvsL,h.mem],by simp [AT.dep,AT.depL] <;> omega,by simp [AT.lvs,AT.lvsL,h.len] <;> omega⟩,?_⟩
    unfold bY
    rw[AT.val,AT.vals,AT.vals,AT.vals,AT.val]
    generalize AT.val (λk=>Val.int (k:Nat)) t=tv at *
    generalize fdV a b k=f0 at *
    generalize fdV a1 b1 k=f1 at *
    generalize fdV a2 b2 k=f2 at *
    simp![e1,w1,e2]
   ·refine⟨.nd w [t,.lf x],⟨by simp [AT.ok,AT.okL,h.ok],λk=>by simp [AT.lvs,AT.lvsL,h.mem,or_comm],by simp [AT.dep,AT.depL] <;> omega,by simp [AT.lvs,AT.lvsL,h.len]⟩,?_⟩
    unfold bY
    rw[AT.val,AT.vals,AT.vals,AT.vals,AT.val]
    generalize AT.val (λk=>Val.int (k:Nat)) t=tv at *
    generalize fdV a b k=f0 at *
    generalize fdV a1 b1 k=f1 at *
    generalize fdV a2 b2 k=f2 at *
    simp![e1,w1,e2]
  obtain⟨t1,h1,bb⟩:=key
  obtain⟨t',a',b',s3',h',q⟩:=ju (k:=k) nv bj t1 (x :: l) a2 b2 (.sh (.int (x:Nat))) rfl h1
  refine⟨t',a',b',s3',by rw[List.reverse_cons,List.append_assoc];exact h',?_⟩
  rw[List.map_cons,gx]
  have g1:(gtN 3).G (.int (x:Nat)) [.mu (fdV a b k),.sh nv,.sh (t.val λk=>.int (k:Nat)),s3]=some [.mu (fdV a b k),.sh nv,.sh (t.val λk=>.int (k:Nat)),.sh (.int (x:Nat))]:=by
   generalize AT.val (λk=>Val.int (k:Nat)) t=tv at *
   simp![h3]
  rw[g1]
  dsimp only
  rw[bb]
  exact q
theorem sv {a b k:Int}{l:List Nat} (hl:l ≠ []):∃ (t:AT) (a' b':Int),TOk t l/\bS.G [fdV a b k,itV l]=.ok (.val (t.val λk=>.int (k:Nat))) [fdV a' b' k]:=by
 cases l with
 | nil=>exact absurd rfl hl
 |
  cons x bj=>
  obtain⟨t,a',b',s3,h,q⟩:=ju (k:=k) (itV (x :: bj)) bj (.lf x) [x] a b .no rfl ⟨rfl,λk=>by simp [AT.lvs],Nat.le_refl _,rfl⟩
  refine⟨t,a',b',⟨h.ok,λk=>by rw[h.mem];simp [or_comm],by have:=h.dep;simpa using this,by have:=h.len;simpa using this⟩,?_⟩
  unfold bS
  rw[iZ]
  unfold fB
  rw[AT.val] at q
  unfold itV at q ⊢
  generalize AT.val (λk=>Val.int (k:Nat)) t=tv at *
  generalize fdV a b k=f0 at *
  generalize fdV a' b' k=f1 at *
  rw[List.map_cons] at q ⊢
  simp![jj,vn,d4,q]
def su (xss:List (List Nat)):List Val:=xss.map itV
theorem tF (I1 I2:PIt) (j t:Nat) (q:PEx) (hjt:j ≠ t) (e:E3):(oU I1 I2 j t q hjt).G e=(I1.G e).toS λp e1=>match p.2,e1[j]? with
 |
  none,some s=>if s.pl=true/\p.1.length < 16777216 then (I2.G (e1.set j .no)).toS λp2 e2=>match p2.2,e2[j]? with
   | none,some .no=>dJ j t q.G p2.1 (p.1.map λv=>[v]) e2
   | _,_=>.stuck
  else .stuck
 | _,_=>.stuck:=rfl
structure Lots (yss xss:List (List Nat)) (vs:List Nat):Prop where
 len:yss.length=xss.length
 ne:∀ l ∈ yss,l ≠ []
 mem:∀ k,(∃ l ∈ yss,k ∈ l) ↔ (∃ l ∈ xss,k ∈ l)\/k ∈ vs
 tot:yss.flatten.length=xss.flatten.length + vs.length
theorem uQ {xss:List (List Nat)}{i:Nat}{xs:List Nat}{u:Nat} (h:xss[i]?=some xs) (ne:∀ l ∈ xss,l ≠ []):Lots (xss.set i (xs++[u])) xss [u]:=by
 have hi:=(List.getElem?_eq_some_iff.mp h).1
 refine⟨List.length_set ..,λl hl=>?_,λk=>?_,?_⟩
 ·rcases List.mem_or_eq_of_mem_set hl with hl | rfl
  ·exact ne l hl
  ·simp
 ·constructor
  ·rintro⟨l,hl,hk⟩
   rcases List.mem_or_eq_of_mem_set hl with hl | rfl
   ·exact .inl ⟨l,hl,hk⟩
   ·rcases List.mem_append.mp hk with hk | hk
    ·exact .inl ⟨xs,List.mem_of_getElem? h,hk⟩
    ·exact .inr hk
  ·rintro (⟨l,hl,hk⟩ | hk)
   ·obtain⟨j,hj⟩:=List.getElem?_of_mem hl
    by_cases hij:i=j
    ·subst hij
     rw[h] at hj
     cases hj
     exact⟨_,List.mem_set (by omega) _,List.mem_append_left _ hk⟩
    ·exact⟨l,List.mem_of_getElem? (i:=j) (by rw[List.getElem?_set_ne hij];exact hj),hk⟩
   ·exact⟨_,List.mem_set (by omega) _,List.mem_append_right _ hk⟩
 ·have aux:∀ (xss:List (List Nat)) (i:Nat),xss[i]?=some xs->(xss.set i (xs++[u])).flatten.length=xss.flatten.length + 1:=by
   intro xss
   induction xss with
   | nil=>intro i h;rw[List.getElem?_nil] at h;cases h
   |
    cons y ys ih=>
    intro i h
    cases i with
    | zero=>cases h;simp [List.set];omega
    | succ i=>simp only[List.set,List.flatten_cons,List.length_append];rw[ih i h];omega
  exact aux xss i h
theorem nH {k:Int} (nv:Val) (m:Nat) (hm:1<=m/\m<=1000):∀ (vs:List Nat) (xss:List (List Nat)) (a b:Int) (s4:Sl),s4.pl=true->xss.length=m->(∀ l ∈ xss,l ≠ [])->xss.flatten.length + vs.length<=1000->∃ (yss:List (List Nat)) (a' b':Int) (s4':Sl),Lots yss xss vs/\dJ 3 4 (aF av (ah (ag 0) (ah (ag 2) aq))).G (vs.map λi:Nat=>.int i) (xss.map λl=>l.map λi:Nat=>.int i) [.mu (fdV a b k),.sh nv,.sh (.int (m:Nat)),.no,s4]=.nx [.mu (fdV a' b' k),.sh nv,.sh (.int (m:Nat)),.sh (.lst (su yss)),s4']
 |
  [],xss,a,b,s4,_,_,ne,_=>⟨xss,a,b,s4,⟨rfl,ne,λk=>by simp,rfl⟩,by
  unfold dJ
  show SR3.nx _=_
  rw[List.map_map]
  rfl⟩
 |
  v :: vs,xss,a,b,s4,h4,hl,ne,ht=>by
  rw[List.length_cons] at ht
  obtain⟨r,a1,b1,e1,r0,r1⟩:=cB (a:=a) (b:=b) (k:=k) (m:=(m:Nat)) (by omega) (sm8 (by omega))
  have hi:r.toNat < xss.length:=by omega
  have hx:=List.getElem?_eq_getElem hi
  generalize xss[r.toNat]=xs at hx
  have L1:=uQ (u:=v) hx ne
  have hxl:xs.length<=1000:=by
   have:=List.Sublist.length_le (List.sublist_flatten_of_mem (List.mem_of_getElem? hx))
   omega
  obtain⟨yss,a',b',s4',L2,q⟩:=nH (k:=k) nv m hm vs (xss.set r.toNat (xs++[v])) a1 b1 (.sh (.int (v:Nat))) rfl (by rw[List.length_set];exact hl) L1.ne (by have:=L1.tot;simp only[List.length_cons,List.length_nil] at this;omega)
  refine⟨yss,a',b',s4',⟨L2.len.trans L1.len,L2.ne,λk=>by rw[L2.mem,L1.mem];simp [or_assoc],by have t1:=L2.tot;have t2:=L1.tot;simp only[List.length_cons,List.length_nil] at t2 ⊢;omega⟩,?_⟩
  have g1:pN 4 (.int (v:Nat)) [.mu (fdV a b k),.sh nv,.sh (.int (m:Nat)),.no,s4]=some [.mu (fdV a b k),.sh nv,.sh (.int (m:Nat)),.no,.sh (.int (v:Nat))]:=by
   unfold pN
   show (if s4.pl=true then _ else _)=_
   rw[if_pos h4]
   rfl
  have q1:(aF av (ah (ag 0) (ah (ag 2) aq))).G [.mu (fdV a b k),.sh nv,.sh (.int (m:Nat)),.no,.sh (.int (v:Nat))]=.ok (.val (.int r)) [.mu (fdV a1 b1 k),.sh nv,.sh (.int (m:Nat)),.no,.sh (.int (v:Nat))]:=by
   generalize fdV a b k=f0 at *
   generalize fdV a1 b1 k=f1 at *
   simp![e1]
  have hx':(xss.map λl=>l.map λi:Nat=>Val.int i)[r.toNat]?=some (xs.map λi:Nat=>Val.int i):=by rw[List.getElem?_map,hx];rfl
  have sx:(xss.map λl=>l.map λi:Nat=>Val.int i).set r.toNat ((xs.map λi:Nat=>Val.int i)++[.int (v:Nat)])=(xss.set r.toNat (xs++[v])).map λl=>l.map λi:Nat=>Val.int i:=by rw[List.map_set,List.map_append];rfl
  rw[List.map_cons]
  unfold dJ
  rw[g1]
  dsimp only
  rw[q1]
  dsimp only [rs]
  show (match (xss.map λl=>l.map λi:Nat=>Val.int i)[r.toNat]? with | some xs=>(if 0<=r/\xs.length < 16777216 then dJ 3 4 _ _ _ _ else .stuck) | none=>.stuck)=_
  rw[hx']
  dsimp only
  rw[if_pos ⟨r0,by rw[List.length_map];omega⟩,sx]
  exact q
theorem jN {xss:List (List Nat)} (ne:∀ l ∈ xss,l ≠ []):xss.length<=xss.flatten.length:=by
 have:=dP (f:=id) (l:=xss) λl hl=>List.length_pos_iff.mpr (ne l hl)
 rw[List.map_id] at this
 exact this
theorem lO:∀ {yss:List (List Nat)},(∀ l ∈ yss,l ≠ [])->∀ l ∈ yss,l.length + yss.length<=yss.flatten.length + 1
 | [],_,l,hl=>nomatch hl
 |
  y :: ys,ne,l,hl=>by
  have h0:=jN (xss:=ys) λl hl=>ne l (List.mem_cons_of_mem _ hl)
  have h1:=List.length_pos_iff.mpr (ne y (List.mem_cons_self ..))
  rw[List.flatten_cons,List.length_append,List.length_cons]
  rcases List.mem_cons.mp hl with rfl | hl
  ·omega
  ·have:=lO (yss:=ys) (λl hl=>ne l (List.mem_cons_of_mem _ hl)) l hl
   omega
def atV (t:AT):Val:=t.val λk=>.int (k:Nat)
theorem km {k:Int}{m n:Nat} (ih:∀ (l:List Nat) (a b:Int),l ≠ []->l.length<=n->∃ (t:AT) (a' b':Int),TOk t l/\(aR m).G [fdV a b k,itV l]=.ok (.val (atV t)) [fdV a' b' k]):
 ∀ (ls:List (List Nat)) (acc:List Val) (a b:Int) (s:Sl),s.pl=true->(∀ l ∈ ls,l ≠ []/\l.length<=n)->acc.length + ls.length<=16777216->∃ (ps:List (AT×List Nat)) (a' b':Int) (s':Sl),ps.map (·.2)=ls/\(∀ p ∈ ps,TOk p.1 p.2)/\lcV (gtN 0).G qY.G (aF (aR m).fn (ah (ag 1) (ah (ag 0) aq))).G (ls.map itV) acc [s,.mu (fdV a b k)]=.ok (acc++ps.map λp=>atV p.1) [s',.mu (fdV a' b' k)]
 | [],acc,a,b,s,_,_,_=>⟨[],a,b,s,rfl,(λ_ h=>nomatch h),by simp [lcV]⟩
 |
  l :: ls,acc,a,b,s,hs,hl,ha=>by
  rw[List.length_cons] at ha
  obtain⟨h1,h2⟩:=hl l (List.mem_cons_self ..)
  obtain⟨t,a1,b1,ht,e1⟩:=ih l a b h1 h2
  obtain⟨ps,a',b',s',q1,q2,q3⟩:=km ih ls (acc++[atV t]) a1 b1 (.sh (itV l)) rfl (λl hl'=>hl l (List.mem_cons_of_mem _ hl')) (by rw[List.length_append];show acc.length + 1 + _<=_;omega)
  refine⟨(t,l) :: ps,a',b',s',by rw[List.map_cons,q1],λp hp=>?_,?_⟩
  ·rcases List.mem_cons.mp hp with rfl | hp
   ·exact ht
   ·exact q2 p hp
  ·show lcV _ _ _ (itV l :: ls.map itV) acc _=.ok (acc++atV t :: ps.map λp=>atV p.1) _
   generalize atV t=tv at *
   generalize itV l=lv at *
   have g1:(gtN 0).G lv [s,.mu (fdV a b k)]=some [.sh lv,.mu (fdV a b k)]:=by
    simp![hs]
   have F1:(aF (aR m).fn (ah (ag 1) (ah (ag 0) aq))).G [.sh lv,.mu (fdV a b k)]=.ok (.val tv) [.sh lv,.mu (fdV a1 b1 k)]:=by
    generalize fdV a b k=f0 at *
    generalize fdV a1 b1 k=f1 at *
    simp![e1]
   have d1:bR [.sh lv,.mu (fdV a1 b1 k)] (.val tv)=some ([.sh lv,.mu (fdV a1 b1 k)],tv):=rfl
   unfold lcV
   have cy:qY.G=cY:=rfl
   rw[cy] at q3 ⊢
   rw[if_pos (by omega),g1]
   simp only[cY,ic,if_true,F1,d1,q3]
   simp
theorem x9 {w:Bool}{ps:List (AT×List Nat)} (h:∀ p ∈ ps,TOk p.1 p.2) (hne:ps ≠ []) (hne2:∀ p ∈ ps,p.2 ≠ []) (h2:2<=ps.length):TOk (.nd w (ps.map (·.1))) (ps.map (·.2)).flatten:=by
 have hlot:=lO (yss:=ps.map (·.2)) (λl hl=>by obtain⟨p,hp,rfl⟩:=List.mem_map.mp hl;exact hne2 p hp)
 refine⟨?_,λk=>?_,?_,?_⟩
 ·rw[AT.ok,Bool.and_eq_true]
  refine⟨by cases ps with | nil=>exact absurd rfl hne | cons p ps=>rfl,AT.okL_mem.mpr λt ht=>?_⟩
  obtain⟨p,hp,rfl⟩:=List.mem_map.mp ht
  exact (h p hp).ok
 ·rw[AT.lvs,AT.lvsL_mem,List.mem_flatten]
  constructor
  ·rintro⟨t,ht,hk⟩
   obtain⟨p,hp,rfl⟩:=List.mem_map.mp ht
   exact⟨p.2,List.mem_map_of_mem hp,((h p hp).mem k).mp hk⟩
  ·rintro⟨l,hl,hk⟩
   obtain⟨p,hp,rfl⟩:=List.mem_map.mp hl
   exact⟨p.1,List.mem_map_of_mem hp,((h p hp).mem k).mpr hk⟩
 ·rw[AT.dep]
  have:AT.depL (ps.map (·.1))<=(ps.map (·.2)).flatten.length - 1:=AT.depL_le.mpr λt ht=>by
   obtain⟨p,hp,rfl⟩:=List.mem_map.mp ht
   have:=(h p hp).dep
   have:=hlot p.2 (List.mem_map_of_mem hp)
   rw[List.length_map] at this
   omega
  obtain⟨p,hp⟩:=List.exists_mem_of_ne_nil ps hne
  have:=hlot p.2 (List.mem_map_of_mem hp)
  rw[List.length_map] at this
  omega
 ·rw[AT.lvs]
  clear hlot h2 hne hne2
  induction ps with
  | nil=>rfl
  |
   cons p ps ih=>
   rw[List.map_cons,List.map_cons,AT.lvsL,List.length_append,List.flatten_cons,List.length_append,ih λp hp=>h p (List.mem_cons_of_mem _ hp),(h p (List.mem_cons_self ..)).len]
def trQ (v f:Val) (r:SR3):Prop:=lZ [true,false] r=.ok (.val v) [f]
theorem nr {k:Int}:∀ (n m:Nat) (l:List Nat) (a b:Int),l ≠ []->l.length<=n->n<=m->n<=100->∃ (t:AT) (a' b':Int),TOk t l/\(aR m).G [fdV a b k,itV l]=.ok (.val (atV t)) [fdV a' b' k]
 | 0,m,l,a,b,hl,hn,_,_=>absurd (List.length_eq_zero_iff.mp (by omega)) hl
 | n + 1,0,l,a,b,_,_,hm,_=>absurd hm (by omega)
 |
  n + 1,m + 1,l,a,b,hl,hn,hm,h100=>by
  have ih:=λ(l:List Nat) (a b:Int) (h1:l ≠ []) (h2:l.length<=n)=>nr (k:=k) n m l a b h1 h2 (by omega) (by omega)
  have hpos:=List.length_pos_iff.mpr hl
  have ll:(l.map λk:Nat=>Val.int k).length=l.length:=List.length_map ..
  show ∃ t a' b',_/\(PFx.of [true,false] 5 (ck (aR m))).G [fdV a b k,itV l]=_
  by_cases h1:l.length=1
  ·obtain⟨x,rfl⟩:=List.length_eq_one_iff.mp h1
   refine⟨.lf x,a,b,⟨rfl,λk=>by simp [AT.lvs],Nat.le_refl _,rfl⟩,?_⟩
   rw[fc]
   unfold ck atV itV
   rw[AT.val]
   generalize fdV a b k=f0 at *
   simp![List.map_cons,List.map_nil,d4]
  ·obtain⟨r,a1,b1,e1,r0,r1⟩:=cB (a:=a) (b:=b) (k:=k) (m:=if ((l.length:Nat):Int) - 1 < 3 then ((l.length:Nat):Int) - 1 else 3) (by split <;> omega) (sm8 (by split <;> omega))
   have hr:r < 3/\r < (l.length:Int) - 1:=by split at r1 <;> omega
   obtain⟨mn,hmn⟩:∃ mn:Nat,(mn:Int)=2 + r:=⟨(2 + r).toNat,by omega⟩
   have ne1:(((l.length:Nat):Int) == 1)=false:=by rw[beq_eq_false_iff_ne];omega
   obtain⟨yss,a2,b2,s4,L,dl⟩:=nH (k:=k) (itV l) mn (by omega) (l.drop mn) ((l.take mn).map λx=>[x]) a1 b1 .no rfl (by rw[List.length_map,List.length_take];omega) (λx hx=>by obtain⟨y,_,rfl⟩:=List.mem_map.mp hx;simp) (by
    have:((l.take mn).map λx=>[x]).flatten=l.take mn:=by rw[<- List.flatMap_def];exact List.flatMap_singleton' _
    rw[this,<- List.length_append,List.take_append_drop]
    omega)
   have hfl:((l.take mn).map λx=>[x]).flatten=l.take mn:=by rw[<- List.flatMap_def];exact List.flatMap_singleton' _
   have hy2:2<=yss.length:=by rw[L.len,List.length_map,List.length_take];omega
   have htot:yss.flatten.length=l.length:=by rw[L.tot,hfl,<- List.length_append,List.take_append_drop]
   obtain⟨w,rw',a3,b3,e3,w3⟩:=qy (a:=a2) (b:=b2) (k:=k)
   have hlt:=lO L.ne
   obtain⟨ps,a4,b4,s0,q1,q2,q3⟩:=km (k:=k) (m:=m) (n:=n) ih yss [] a3 b3 .no rfl (λx hx=>⟨L.ne x hx,by have:=hlt x hx;omega⟩) (by have:=jN L.ne;rw[List.length_nil];omega)
   have pl:ps.length=yss.length:=by rw[<- q1,List.length_map]
   have T:=x9 (w:=w) q2 (λz=>by rw[z] at pl;simp at pl;omega) (λp hp=>L.ne p.2 (by rw[<- q1];exact List.mem_map_of_mem hp)) (by omega)
   rw[q1] at T
   refine⟨.nd w (ps.map (·.1)),a4,b4,⟨T.ok,λk=>?_,by have:=T.dep;omega,by rw[T.len,htot]⟩,?_⟩
   ·rw[T.mem,List.mem_flatten,L.mem]
    constructor
    ·rintro (⟨x,hx,hk⟩ | hk)
     ·obtain⟨y,hy,rfl⟩:=List.mem_map.mp hx
      rw[List.mem_singleton] at hk
      subst hk
      exact List.mem_of_mem_take hy
     ·exact List.mem_of_mem_drop hk
    ·intro hk
     rw[<- List.take_append_drop mn l] at hk
     rcases List.mem_append.mp hk with hk | hk
     ·exact .inl ⟨[k],List.mem_map_of_mem (f:=λx=>[x]) hk,List.mem_singleton.mpr rfl⟩
     ·exact .inr hk
   ·rw[AX rfl]
    show trQ (atV (.nd w (ps.map (·.1)))) (fdV a4 b4 k) ((ck (aR m)).G [.mu (fdV a b k),.sh (itV l),.no,.no,.no])
    unfold ck
    refine cw (λe=>e=[.mu (fdV a b k),.sh (itV l),.no,.no,.no]) ⟨_,by unfold itV;simp![ll,ne1],rfl⟩ ?_
    rintro _ rfl
    refine cw (λe=>e=[.mu (fdV a1 b1 k),.sh (itV l),.sh (.int (mn:Nat)),.no,.no]) ⟨_,by
     unfold itV
     generalize fdV a b k=f0 at *
     generalize fdV a1 b1 k=f1 at *
     simp![ll,e1,hmn],rfl⟩ ?_
    rintro _ rfl
    refine cw (λe=>e=[.mu (fdV a2 b2 k),.sh (itV l),.sh (.int (mn:Nat)),.sh (.lst (su yss)),s4]) ⟨_,?_,rfl⟩ ?_
    ·rw[tF]
     have i1:(cn (pSl (ag 1) oN (oS (ag 2)))).G [.mu (fdV a1 b1 k),.sh (itV l),.sh (.int (mn:Nat)),.no,.no]=.ok ((l.take mn).map λi:Nat=>.int i,none) [.mu (fdV a1 b1 k),.sh (itV l),.sh (.int (mn:Nat)),.no,.no]:=by
      unfold itV
      simp![jj,yp,List.map_take]
     have i2:(cn (pSl (ag 1) (oS (ag 2)) oN)).G [.mu (fdV a1 b1 k),.sh (itV l),.sh (.int (mn:Nat)),.no,.no]=.ok ((l.drop mn).map λi:Nat=>.int i,none) [.mu (fdV a1 b1 k),.sh (itV l),.sh (.int (mn:Nat)),.no,.no]:=by
      unfold itV
      simp![jj,ma,List.map_drop]
     rw[i1]
     show (if Sl.pl .no=true/\((l.take mn).map λi:Nat=>Val.int i).length < 16777216 then _ else _)=_
     rw[if_pos ⟨rfl,by rw[List.length_map,List.length_take];omega⟩]
     show ((cn (pSl (ag 1) (oS (ag 2)) oN)).G [.mu (fdV a1 b1 k),.sh (itV l),.sh (.int (mn:Nat)),.no,.no]).toS _=_
     rw[i2]
     show dJ 3 4 _ ((l.drop mn).map λi:Nat=>.int i) (((l.take mn).map λi:Nat=>Val.int i).map λv=>[v]) [.mu (fdV a1 b1 k),.sh (itV l),.sh (.int (mn:Nat)),.no,.no]=_
     have sx:(((l.take mn).map λi:Nat=>Val.int i).map λv=>[v])=((l.take mn).map λx=>[x]).map λl=>l.map λi:Nat=>Val.int i:=by rw[List.map_map,List.map_map];rfl
     rw[sx]
     exact dl
    ·rintro _ rfl
     have lp:(ps.map λp=>atV p.1).length<=16777216:=by have:=jN L.ne;rw[List.length_map];omega
     rw[List.nil_append] at q3
     unfold trQ
     unfold atV at q3 lp ⊢
     rw[AT.val,AT.vals_map,List.map_map]
     unfold su
     have cm:(List.map (AT.val (λk=>Val.int (k:Nat)) ∘ λx=>x.fst) ps)=ps.map λp=>AT.val (λk=>Val.int (k:Nat)) p.1:=rfl
     rw[cm]
     generalize (ps.map λp=>AT.val (λk=>Val.int (k:Nat)) p.1)=PS at *
     generalize itV l=lv at *
     generalize fdV a2 b2 k=f2 at *
     generalize fdV a3 b3 k=f3 at *
     generalize fdV a4 b4 k=f4 at *
     generalize yss.map itV=YS at *
     simp![e3,w3,bE,inS,q3,lp,vO]
def zyx:Str:="zyxwvutsrqponmlkjihgfedcba"
def nmC (j:Nat):Nat:=zyx.cps.toList.getD (j % 26) 0
def nmS (j:Nat):Str:=Txt.mul ⟨#[nmC j]⟩ (1 + ((j / 26:Nat):Int))
def eJ:List Str:="down" :: "across" :: (List.range 40).map nmS
theorem CS:(eJ.all λx=>PyData.strOk x)=true:=by decide
theorem CI:((List.range 42).all λi=>(List.range 42).all λj=>(eJ.getD i "" == eJ.getD j "") == decide (i=j))=true:=by decide
theorem rL (a b:Nat):((a:Nat):Int).fmod (b:Nat)=((a % b:Nat):Int):=by rw[Int.fmod_eq_emod_of_nonneg _ (by omega)];rfl
theorem qU (a b:Nat):((a:Nat):Int).fdiv (b:Nat)=((a / b:Nat):Int):=by rw[Int.fdiv_eq_ediv_of_nonneg _ (by omega)];rfl
theorem x2:zyx.cps.toList.length=26:=by decide
theorem AD:zyx.length<=16777216:=by decide
theorem sj {m:Nat} (hm:m<=40):∃ s,lcV (gtN 0).G qY.G (pOp ik (pOp jU (bU "zyxwvutsrqponmlkjihgfedcba") (pOp bx (ag 0) (ar 26))) (pOp b0 (ar 1) (pOp dn (ag 0) (ar 26)))).G (rgV m) [] [.no]=.ok ((List.range m).map λj=>.str (nmS j)) [s]:=by
 obtain⟨e',⟨s,rfl,_⟩,lc⟩:=c7 (g:=(gtN 0).G) (F:=(pOp ik (pOp jU (bU "zyxwvutsrqponmlkjihgfedcba") (pOp bx (ag 0) (ar 26))) (pOp b0 (ar 1) (pOp dn (ag 0) (ar 26)))).G) (λi:Nat=>Val.int (i:Nat)) (λj=>Val.str (nmS j)) (λe=>∃ s:Sl,e=[s]/\s.pl=true) (List.range m) [] [.no] ⟨.no,rfl,rfl⟩ (by
  rintro j hj _ ⟨s,rfl,hs⟩
  rw[List.mem_range] at hj
  have m1:bx.G (.int (j:Nat)) (.int 26)=.val (.int ((j % 26:Nat):Int)):=by
   rw[fe (by decide)]
   exact congrArg (λx=>Bv.val (.int x)) (rL j 26)
  have d1:dn.G (.int (j:Nat)) (.int 26)=.val (.int ((j / 26:Nat):Int)):=by
   rw[oh (CDivB.of (by decide) (sm8 (by decide)))]
   exact congrArg (λx=>Bv.val (.int x)) (qU j 26)
  have x1:jU.G (.str "zyxwvutsrqponmlkjihgfedcba") (.int ((j % 26:Nat):Int))=.val (.str ⟨#[nmC j]⟩):=Ca AD (bN (by omega) (by
   have h1:j % 26 < zyx.cps.toList.length:=by rw[x2];omega
   show zyx.cps.toList[((j % 26:Nat):Int).toNat]?=_
   rw[Int.toNat_natCast,List.getElem?_eq_getElem h1]
   unfold nmC
   rw[List.getD_eq_getElem?_getD,List.getElem?_eq_getElem h1]
   rfl))
  have y1:ik.G (.str ⟨#[nmC j]⟩) (.int (1 + ((j / 26:Nat):Int)))=.val (.str (nmS j)):=Bo ⟨by show (1:Nat)<=16;decide,by omega,by omega⟩
  refine⟨[.sh (.int (j:Nat))],.val (.str (nmS j)),[.sh (.int (j:Nat))],?_,?_,rfl,_,rfl,rfl⟩
  ·simp![hs]
  ·generalize hx:nmC j=c at *
   generalize nmS j=y at *
   simp![m1,d1,x1,y1]) (by rw[List.length_nil,List.length_range];omega)
 exact⟨s,lc⟩
theorem p28:gL.G (.int 10) (.int 28)=.val (.int (10 ^ 28)):=vL ⟨by decide,by decide,by decide⟩
theorem xY {m:Nat} (hm:m<=40):∃ s,lcV (gtN 0).G qY.G (pOp b0 (pOp dB (ag 0) (pOp gL (ar 10) (ar 28))) (ar 3)).G (rgV m) [] [.no]=.ok ((List.range m).map λj=>.int ((j:Nat) * 10 ^ 28 + 3)) [s]:=by
 obtain⟨e',⟨s,rfl,_⟩,lc⟩:=c7 (g:=(gtN 0).G) (F:=(pOp b0 (pOp dB (ag 0) (pOp gL (ar 10) (ar 28))) (ar 3)).G) (λi:Nat=>Val.int (i:Nat)) (λj:Nat=>Val.int ((j:Nat) * 10 ^ 28 + 3)) (λe=>∃ s:Sl,e=[s]/\s.pl=true) (List.range m) [] [.no] ⟨.no,rfl,rfl⟩ (by
  rintro j hj _ ⟨s,rfl,hs⟩
  rw[List.mem_range] at hj
  have m1:dB.G (.int (j:Nat)) (.int (10 ^ 28))=.val (.int ((j:Nat) * 10 ^ 28)):=ij (CMulA.left (by omega) (by omega))
  refine⟨[.sh (.int (j:Nat))],.val (.int ((j:Nat) * 10 ^ 28 + 3)),[.sh (.int (j:Nat))],?_,?_,rfl,_,rfl,rfl⟩
  ·simp![hs]
  ·simp![p28,m1]) (by rw[List.length_nil,List.length_range];omega)
 exact⟨s,lc⟩
structure Nms (m:Nat) (ns:List Val) (f:Nat->Val):Prop where
 at_:∀ i,i < m->ns[i]?=some (f i)
 lf:∀ i,i < m->lfV (f i)=true
 eq:∀ i j,i < m->j < m->bW (f i) (f j)=some (decide (i=j))
theorem xq {m:Nat} (hm:m<=40):Nms m (.str "down" :: .str "across" :: (List.range m).map λj=>.str (nmS j)) (λi=>.str (eJ.getD i "")):=by
 have key:∀ i,i < 42->eJ[i]?=some (eJ.getD i ""):=λi hi=>by
  have hl:i < eJ.length:=by
   have:eJ.length=42:=by decide
   omega
  rw[List.getD_eq_getElem?_getD,List.getElem?_eq_getElem hl]
  rfl
 have ok:=List.all_eq_true.mp CS
 have nd:=List.all_eq_true.mp CI
 refine⟨λi hi=>?_,λi _=>rfl,λi j hi hj=>?_⟩
 ·have h1:=key i (by omega)
  have e:(Val.str "down" :: .str "across" :: (List.range m).map λj=>.str (nmS j))=((("down" : Str) :: "across" :: (List.range m).map nmS).map Val.str):=by simp
  rw[e,List.getElem?_map]
  have h2:(("down" : Str) :: "across" :: (List.range m).map nmS)[i]?=eJ[i]?:=by
   unfold eJ
   match i,hi with
   | 0,_=>rfl
   | 1,_=>rfl
   |
    i + 2,hi=>
    show ((List.range m).map nmS)[i]?=((List.range 40).map nmS)[i]?
    rw[List.getElem?_map,List.getElem?_map,List.getElem?_range (by omega),List.getElem?_range (by omega)]
  rw[h2,h1]
  rfl
 ·have o:∀ i,i < 42->PyData.strOk (eJ.getD i "")=true:=λi hi=>ok _ (List.mem_of_getElem? (key i hi))
  rw[jw (o i (by omega)) (o j (by omega))]
  have:=List.all_eq_true.mp (nd i (List.mem_range.mpr (by omega))) j (List.mem_range.mpr (by omega))
  exact congrArg some (beq_iff_eq.mp this)
theorem wU {m:Nat}:Nms m ((List.range m).map λj:Nat=>.int ((j:Nat) * 10 ^ 28 + 3)) (λi=>.int ((i:Nat) * 10 ^ 28 + 3)):=by
 refine⟨λi hi=>?_,λi _=>rfl,λi j hi hj=>?_⟩
 ·rw[List.getElem?_map,List.getElem?_range hi]
  rfl
 ·rw[kX]
  congr 1
  rw[Bool.eq_iff_iff,beq_iff_eq,decide_eq_true_iff]
  omega
theorem qf {m:Nat}:Nms m ((List.range m).map λj:Nat=>.int (j:Nat)) (λi=>.int (i:Nat)):=by
 refine⟨λi hi=>?_,λi _=>rfl,λi j hi hj=>?_⟩
 ·rw[List.getElem?_map,List.getElem?_range hi]
  rfl
 ·rw[kX,eE]
def prV (p:Nat×Nat):Val:=.tup [.int (p.1:Nat),.int (p.2:Nat)]
def lu (m:Nat) (ps:List (Nat×Nat)):Prop:=∀ p ∈ ps,p.1 < m/\p.2 < m/\p.1 ≠ p.2
theorem uG {m:Nat} (h1:2<=m) (hm:m<=40):∃ (ps:List (Nat×Nat)) (s:Sl),lu m ps/\ps ≠ []/\ps.length<=1600/\lcV (gtN 0).G (qOf (pOp bNe (pOp dn (ag 0) (ag 1)) (pOp bx (ag 0) (ag 1)))).G (ft (ah (pOp dn (ag 0) (ag 1)) (ah (pOp bx (ag 0) (ag 1)) aq))).G (rgV (m * m)) [] [.no,.sh (.int (m:Nat))]=.ok (ps.map prV) [s,.sh (.int (m:Nat))]:=by
 have hmm:m * m<=1600:=Nat.mul_le_mul hm hm
 obtain⟨e',⟨s,rfl,_⟩,lc⟩:=j4 (g:=(gtN 0).G) (c:=(qOf (pOp bNe (pOp dn (ag 0) (ag 1)) (pOp bx (ag 0) (ag 1)))).G) (F:=(ft (ah (pOp dn (ag 0) (ag 1)) (ah (pOp bx (ag 0) (ag 1)) aq))).G) (λk:Nat=>!decide (k / m=k % m)) (λi:Nat=>Val.int (i:Nat)) (λk:Nat=>prV (k / m,k % m)) (λe=>∃ s:Sl,e=[s,.sh (.int (m:Nat))]/\s.pl=true) (List.range (m * m)) [] [.no,.sh (.int (m:Nat))] ⟨.no,rfl,rfl⟩ (by
  rintro j hj _ ⟨s,rfl,hs⟩
  rw[List.mem_range] at hj
  have m1:bx.G (.int (j:Nat)) (.int (m:Nat))=.val (.int ((j % m:Nat):Int)):=by rw[fe (by omega),rL]
  have d1:dn.G (.int (j:Nat)) (.int (m:Nat))=.val (.int ((j / m:Nat):Int)):=by rw[oh (CDivB.of (by omega) (sm8 (by omega))),qU]
  refine⟨[.sh (.int (j:Nat)),.sh (.int (m:Nat))],[.sh (.int (j:Nat)),.sh (.int (m:Nat))],?_,?_,⟨_,rfl,rfl⟩,λ_=>⟨.val (prV (j / m,j % m)),[.sh (.int (j:Nat)),.sh (.int (m:Nat))],?_,rfl,_,rfl,rfl⟩⟩
  ·simp![hs]
  ·simp![m1,d1,eE]
  ·unfold prV
   simp![m1,d1]) (by rw[List.length_nil,List.length_range];omega)
 refine⟨((List.range (m * m)).filter λk:Nat=>!decide (k / m=k % m)).map λk=>(k / m,k % m),s,λp hp=>?_,?_,?_,?_⟩
 ·obtain⟨k,hk,rfl⟩:=List.mem_map.mp hp
  obtain⟨h1',h2⟩:=List.mem_filter.mp hk
  rw[List.mem_range] at h1'
  exact⟨Nat.div_lt_of_lt_mul h1',Nat.mod_lt _ (by omega),by simpa using h2⟩
 ·have:(1:Nat) ∈ (List.range (m * m)).filter λk:Nat=>!decide (k / m=k % m):=by
   rw[List.mem_filter,List.mem_range]
   have:2 * 2<=m * m:=Nat.mul_le_mul h1 h1
   refine⟨by omega,?_⟩
   rw[Nat.div_eq_of_lt (by omega),Nat.mod_eq_of_lt (by omega)]
   rfl
  intro z
  rw[List.map_eq_nil_iff] at z
  rw[z] at this
  exact nomatch this
 ·rw[List.length_map]
  have:=List.length_filter_le (λk:Nat=>!decide (k / m=k % m)) (List.range (m * m))
  rw[List.length_range] at this
  omega
 ·rw[List.map_map]
  rw[List.nil_append] at lc
  exact lc
theorem nZ {k:Int}{m:Nat}{ps:List (Nat×Nat)} (hp:lu m ps) (hne:ps ≠ []) (hl:ps.length<=1600):∀ (vs acc:List Val) (a b:Int) (s:Sl),s.pl=true->acc.length + vs.length<=1000->∃ (qs:List (Nat×Nat)) (a' b':Int) (s':Sl),lu m qs/\qs.length=vs.length/\lcV (gtN 0).G qY.G (pOp bIx (ag 1) (aF av (ah (ag 2) (ah (pFn dA (ah (ag 1) aq)) aq)))).G vs acc [s,.sh (.lst (ps.map prV)),.mu (fdV a b k)]=.ok (acc++qs.map prV) [s',.sh (.lst (ps.map prV)),.mu (fdV a' b' k)]
 | [],acc,a,b,s,_,_=>⟨[],a,b,s,(λ_ h=>nomatch h),rfl,by simp [lcV]⟩
 |
  v :: vs,acc,a,b,s,hs,ha=>by
  rw[List.length_cons] at ha
  have hpos:=List.length_pos_iff.mpr hne
  obtain⟨r,a1,b1,e1,r0,r1⟩:=cB (a:=a) (b:=b) (k:=k) (m:=(ps.length:Nat)) (by omega) (sm8 (by omega))
  have hi:r.toNat < ps.length:=by omega
  have hx:=List.getElem?_eq_getElem hi
  have hmem:=List.mem_of_getElem? hx
  generalize ps[r.toNat]=p at hx hmem
  obtain⟨qs,a',b',s',q1,q2,q3⟩:=nZ (k:=k) hp hne hl vs (acc++[prV p]) a1 b1 (.sh v) rfl (by rw[List.length_append];show acc.length + 1 + _<=_;omega)
  refine⟨p :: qs,a',b',s',λx hx'=>?_,by rw[List.length_cons,List.length_cons,q2],?_⟩
  ·rcases List.mem_cons.mp hx' with rfl | hx'
   ·exact hp _ hmem
   ·exact q1 x hx'
  ·have ll:((ps.map prV).length:Nat)=ps.length:=List.length_map ..
   have at1:atI (ps.map prV) r=some (prV p):=bN r0 (by rw[List.getElem?_map,hx];rfl)
   rw[List.map_cons]
   generalize ps.map prV=PV at *
   generalize prV p=pv at *
   have g1:(gtN 0).G v [s,.sh (.lst PV),.mu (fdV a b k)]=some [.sh v,.sh (.lst PV),.mu (fdV a b k)]:=by
    simp![hs]
   have F1:(pOp bIx (ag 1) (aF av (ah (ag 2) (ah (pFn dA (ah (ag 1) aq)) aq)))).G [.sh v,.sh (.lst PV),.mu (fdV a b k)]=.ok (.val pv) [.sh v,.sh (.lst PV),.mu (fdV a1 b1 k)]:=by
    generalize fdV a b k=f0 at *
    generalize fdV a1 b1 k=f1 at *
    simp![ll,e1,at1]
   have d1:bR [.sh v,.sh (.lst PV),.mu (fdV a1 b1 k)] (.val pv)=some ([.sh v,.sh (.lst PV),.mu (fdV a1 b1 k)],pv):=rfl
   unfold lcV
   have cy:qY.G=cY:=rfl
   rw[cy] at q3 ⊢
   rw[if_pos (by omega),g1]
   simp only[cY,ic,if_true,F1,d1,q3]
   simp
theorem BS (w b:Bool):PyData.strOk (wd w b)=true:=by cases w <;> cases b <;> decide +kernel
theorem qc {u:Str}:∀ {p q:List Nat}{t:AT},AT.rel p q t=some u->PyData.strOk u=true
 | [],q,t,h=>by rw[AT.rel] at h;cases h;rintro i p j q w ts z;cases z
 | i :: p,[],t,h=>by rw[AT.rel] at h;cases h;rintro i p j q w ts _ z;cases z
 | i :: p,j :: q,.lf k,h=>by rw[AT.rel] at h;cases h;rintro i p j q w ts _ _ z;cases z
 |
  i :: p,j :: q,.nd w ts,h=>by
  rw[AT.rel] at h
  split at h
  ·split at h
   ·exact qc h
   ·cases h
  ·cases h;exact BS _ _
theorem uP {sc:Val}{s1 s2 s3 s4:Sl}{m:Nat}{t:AT}{l0:List Nat}{ns:List Val}{f:Nat->Val} (hm:m<=40) (T:TOk t l0) (h0:∀ i,i ∈ l0 ↔ i < m) (hl0:l0.length=m) (N:Nms m ns f) {ps:List (Nat×Nat)} (hp:lu m ps) (x8:Val):
 ∀ (s9 s10 s11:Sl),s9.pl=true->s10.pl=true->s11.pl=true->∃ s9' s10' s11':Sl,s9'.pl=true/\s10'.pl=true/\s11'.pl=true/\dU (gtX (gtT 2 (dw (gtN 9) (dw (gtN 10) ib)))).G gZ.G (ps.map prV) [.sh sc,s1,s2,s3,s4,.sh (atV t),.sh (.lst ns),.sh (t.val f),.sh x8,s9,s10,s11]=.nx [.sh sc,s1,s2,s3,s4,.sh (atV t),.sh (.lst ns),.sh (t.val f),.sh x8,s9',s10',s11']:=by
 intro s9 s10 s11 h9 h10 h11
 obtain⟨e',⟨s9',s10',s11',q9,q10,q11,rfl⟩,lo⟩:=iQ (g:=(gtX (gtT 2 (dw (gtN 9) (dw (gtN 10) ib)))).G) (B:=gZ.G) (λe=>∃ s9 s10 s11:Sl,s9.pl=true/\s10.pl=true/\s11.pl=true/\e=[.sh sc,s1,s2,s3,s4,.sh (atV t),.sh (.lst ns),.sh (t.val f),.sh x8,s9,s10,s11]) (ps.map prV) [.sh sc,s1,s2,s3,s4,.sh (atV t),.sh (.lst ns),.sh (t.val f),.sh x8,s9,s10,s11] ⟨s9,s10,s11,h9,h10,h11,rfl⟩ (by
  rintro v hv _ ⟨s9,s10,s11,h9,h10,h11,rfl⟩
  obtain⟨⟨i,j⟩,hmem,rfl⟩:=List.mem_map.mp hv
  obtain⟨hi,hj,hij⟩:=hp _ hmem
  have hd:t.dep<=42:=by have:=T.dep;omega
  have mem:∀ k,k < m->∃ p,t.pth k=some p:=λk hk=>by
   cases q:t.pth k with
   | some p=>exact⟨p,rfl⟩
   | none=>exact absurd ((T.mem k).mpr ((h0 k).mpr hk)) ((AT.pth_mem t).mp q)
  obtain⟨p,hp1⟩:=mem i hi
  obtain⟨q,hq1⟩:=mem j hj
  have hpq:p ≠ q:=λz=>by
   have a1:=AT.pth_at t p hp1
   have a2:=AT.pth_at t q hq1
   rw[z,a2] at a1
   exact hij (Option.some.inj a1).symm
  obtain⟨u,hu⟩:=AT.rel_some hij p q t (AT.pth_at t p hp1) (AT.pth_at t q hq1)
  have EA:∀ {g:Nat->Val}{ns:List Val} (N:Nms m ns g) (x:Nat),x < m->EqA g (g x) x t.lvs:=λN x hx k hk=>by
   have:=(h0 k).mp ((T.mem k).mp hk)
   exact⟨N.lf k this,N.eq k x this hx⟩
  have e1:=Ak (by omega) T.ok (by rw[T.len];omega) hp1 hq1 hu
  have e2:=iH (f:=λk=>.int (k:Nat)) (fx:=.int (i:Nat)) (fy:=.int (j:Nat)) rfl rfl hd (EA qf i hi) (EA qf j hj) hp1 hq1 hpq hu
  have e3:=iH (f:=f) (N.lf i hi) (N.lf j hj) hd (EA N i hi) (EA N j hj) hp1 hq1 hpq hu
  have so:PyData.strOk u=true:=qc hu
  have es:bW (.str u) (.str u)=some true:=by rw[jw so so,beq_self_eq_true]
  have n1:atI ns (i:Nat)=some (f i):=bN (by omega) (N.at_ i hi)
  have n2:atI ns (j:Nat)=some (f j):=bN (by omega) (N.at_ j hj)
  rw[show AT.val (λk=>Val.int (k:Nat)) t=atV t from rfl] at e1 e2
  generalize atV t=tv at *
  generalize t.val f=tw at *
  generalize f i=fi at *
  generalize f j=fj at *
  refine⟨[.sh sc,s1,s2,s3,s4,.sh tv,.sh (.lst ns),.sh tw,.sh x8,.sh (.int (i:Nat)),.sh (.int (j:Nat)),s11],[.sh sc,s1,s2,s3,s4,.sh tv,.sh (.lst ns),.sh tw,.sh x8,.sh (.int (i:Nat)),.sh (.int (j:Nat)),.sh (.str u)],?_,.inl ?_,_,_,_,rfl,rfl,rfl,rfl⟩
  ·unfold prV
   simp![h9,h10]
  ·unfold gZ
   simp![e1,e2,e3,es,n1,n2,h11])
 exact⟨s9',s10',s11',q9,q10,q11,lo⟩
def bdQ (sc:Val) (r:SR3):Prop:=∃ s1 s2 s3 s4 s5 s6 s7 s8 s9 s10 s11:Sl,(s1.pl=true/\s2.pl=true/\s3.pl=true/\s4.pl=true/\s5.pl=true/\s6.pl=true/\s7.pl=true/\s8.pl=true/\s9.pl=true/\s10.pl=true/\s11.pl=true)/\r=.nx [.sh sc,s1,s2,s3,s4,s5,s6,s7,s8,s9,s10,s11]
theorem wz {ns:List Int}{k:Nat}{s2 s3 s4 s5 s6 s7 s8 s9 s10 s11:Sl} (h2:s2.pl=true) (h3:s3.pl=true) (h4:s4.pl=true) (h5:s5.pl=true) (h6:s6.pl=true) (h7:s7.pl=true) (h8:s8.pl=true) (h9:s9.pl=true) (h10:s10.pl=true) (h11:s11.pl=true):
 bdQ (.kl (ns.map .int)) (gO.G [.sh (.kl (ns.map .int)),.sh (.int (k:Nat)),s2,s3,s4,s5,s6,s7,s8,s9,s10,s11]):=by
 unfold gO
 obtain⟨a,e0⟩:=xC (ns:=ns) (k:=(k:Nat)) (by omega)
 refine cw (λe=>e=[.sh (.kl (ns.map .int)),.sh (.int (k:Nat)),.ow (fdV a 0 (k:Nat)),s3,s4,s5,s6,s7,s8,s9,s10,s11]) ⟨_,by
  generalize fdV a 0 (k:Nat)=f0 at *
  simp![e0,h2],rfl⟩ ?_
 rintro _ rfl
 generalize Val.kl (ns.map .int)=sc at *
 obtain⟨r,a1,b1,e1,r0,r1⟩:=cB (a:=a) (b:=0) (k:=(k:Nat)) (m:=8) (by decide) (sm8 (by decide))
 obtain⟨r',a2,b2,e2,r20,r21⟩:=cB (a:=a1) (b:=b1) (k:=(k:Nat)) (m:=7) (by decide) (sm8 (by decide))
 refine cw (λe=>∃ m:Int,2<=m/\m<=40/\e=[.sh sc,.sh (.int (k:Nat)),.ow (fdV a2 b2 (k:Nat)),.sh (.int m),s4,s5,s6,s7,s8,s9,s10,s11]) ?_ ?_
 ·by_cases hr:r'=0
  ·subst hr
   have at1:∀ x y:Val,atI [x,y] 1=some y:=λx y=>bN (by decide) rfl
   exact⟨_,by
    generalize fdV a 0 (k:Nat)=f0 at *
    generalize fdV a1 b1 (k:Nat)=f1 at *
    generalize fdV a2 b2 (k:Nat)=f2 at *
    simp![e1,e2,h3,at1],40,by decide,by decide,rfl⟩
  ·have hr':(r' == 0)=false:=by rw[beq_eq_false_iff_ne];exact hr
   exact⟨_,by
    generalize fdV a 0 (k:Nat)=f0 at *
    generalize fdV a1 b1 (k:Nat)=f1 at *
    generalize fdV a2 b2 (k:Nat)=f2 at *
    simp![e1,e2,h3,hr',d4],2 + r,by omega,by omega,rfl⟩
 rintro _ ⟨m,m2,m40,rfl⟩
 obtain⟨m,rfl⟩:∃ n:Nat,m=n:=⟨m.toNat,by omega⟩
 obtain⟨o,a3,b3,om,ol,e3⟩:=tj (a:=a2) (b:=b2) (k:=(k:Nat)) (m:=m) (by omega)
 refine cw (λe=>e=[.sh sc,.sh (.int (k:Nat)),.ow (fdV a3 b3 (k:Nat)),.sh (.int (m:Nat)),.sh (itV o),s5,s6,s7,s8,s9,s10,s11]) ⟨_,by
  generalize fdV a2 b2 (k:Nat)=f0 at *
  generalize fdV a3 b3 (k:Nat)=f1 at *
  generalize itV o=ov at *
  simp![e3,h4],rfl⟩ ?_
 rintro _ rfl
 have one:o ≠ []:=λz=>by rw[z] at ol;simp at ol;omega
 obtain⟨c,a4,b4,e4,c0,c1⟩:=cB (a:=a3) (b:=b3) (k:=(k:Nat)) (m:=3) (by decide) (sm8 (by decide))
 refine cw (λe=>∃ t a b,TOk t o/\e=[.sh sc,.sh (.int (k:Nat)),.ow (fdV a b (k:Nat)),.sh (.int (m:Nat)),.sh (itV o),.sh (atV t),s6,s7,s8,s9,s10,s11]) ?_ ?_
 ·by_cases hc:c=0
  ·subst hc
   obtain⟨t,a5,b5,T,e5⟩:=sv (a:=a4) (b:=b4) (k:=(k:Nat)) one
   rw[show AT.val (λk=>Val.int (k:Nat)) t=atV t from rfl] at e5
   exact⟨_,by
    generalize fdV a3 b3 (k:Nat)=f0 at *
    generalize fdV a4 b4 (k:Nat)=f1 at *
    generalize fdV a5 b5 (k:Nat)=f2 at *
    generalize itV o=ov at *
    generalize atV t=tv at *
    simp![e4,e5,h5],t,a5,b5,T,rfl⟩
  ·have hc':(c == 0)=false:=by rw[beq_eq_false_iff_ne];exact hc
   obtain⟨t,a5,b5,T,e5⟩:=nr (k:=(k:Nat)) o.length 42 o a4 b4 one (Nat.le_refl _) (by omega) (by omega)
   exact⟨_,by
    generalize fdV a3 b3 (k:Nat)=f0 at *
    generalize fdV a4 b4 (k:Nat)=f1 at *
    generalize fdV a5 b5 (k:Nat)=f2 at *
    generalize itV o=ov at *
    generalize atV t=tv at *
    simp![e4,hc',e5,h5],t,a5,b5,T,rfl⟩
 rintro _ ⟨t,a5,b5,T,rfl⟩
 have rg:d9 [.int (m:Nat)]=some (rgV m):=fI (by omega)
 obtain⟨sN,lcN⟩:=sj (m:=m) (by omega)
 obtain⟨sI,lcI⟩:=xY (m:=m) (by omega)
 have lN:((List.range m).map λj=>Val.str (nmS j)).length<=16777216:=by simp;omega
 have lI:((List.range m).map λj:Nat=>Val.int ((j:Nat) * 10 ^ 28 + 3)).length<=16777216:=by simp;omega
 refine cw (λe=>e=[.sh sc,.sh (.int (k:Nat)),.ow (fdV a5 b5 (k:Nat)),.sh (.int (m:Nat)),.sh (itV o),.sh (atV t),.sh (.lst ((List.range m).map λj=>.str (nmS j))),s7,s8,s9,s10,s11]) ⟨_,by
  generalize fdV a5 b5 (k:Nat)=f0 at *
  generalize itV o=ov at *
  generalize atV t=tv at *
  generalize (List.range m).map (λj=>Val.str (nmS j))=NS at *
  simp![rg,bE,lcN,lN,h6],rfl⟩ ?_
 rintro _ rfl
 obtain⟨c2,a6,b6,e6,c20,c21⟩:=cB (a:=a5) (b:=b5) (k:=(k:Nat)) (m:=2) (by decide) (sm8 (by decide))
 refine cw (λe=>∃ nsv f,Nms m nsv f/\e=[.sh sc,.sh (.int (k:Nat)),.ow (fdV a6 b6 (k:Nat)),.sh (.int (m:Nat)),.sh (itV o),.sh (atV t),.sh (.lst nsv),s7,s8,s9,s10,s11]) ?_ ?_
 ·have ct:b0.G (.lst [.str "down",.str "across"]) (.lst ((List.range m).map λj=>.str (nmS j)))=.new (.lst (.str "down" :: .str "across" :: (List.range m).map λj=>.str (nmS j))):=by
   rw[qV,if_pos (by simp;omega)]
   rfl
  have N1:=xq (m:=m) (by omega)
  have N2:=wU (m:=m)
  have at0:∀ x y:Val,atI [x,y] 0=some x:=λx y=>bN (by decide) rfl
  have at1:∀ x y:Val,atI [x,y] 1=some y:=λx y=>bN (by decide) rfl
  generalize hL1:(Val.str "down" :: .str "across" :: (List.range m).map λj=>.str (nmS j))=L1 at *
  generalize (List.range m).map (λj=>Val.str (nmS j))=NS at *
  generalize (List.range m).map (λj:Nat=>Val.int ((j:Nat) * 10 ^ 28 + 3))=NI at *
  obtain rfl | rfl:c2=0\/c2=1:=by omega
  ·exact⟨_,by
    generalize fdV a5 b5 (k:Nat)=f0 at *
    generalize fdV a6 b6 (k:Nat)=f1 at *
    generalize itV o=ov at *
    generalize atV t=tv at *
    simp![ct,rg,bE,lcI,lI,e6,at0],L1,_,N1,rfl⟩
  ·exact⟨_,by
    generalize fdV a5 b5 (k:Nat)=f0 at *
    generalize fdV a6 b6 (k:Nat)=f1 at *
    generalize itV o=ov at *
    generalize atV t=tv at *
    simp![ct,rg,bE,lcI,lI,e6,at1],NI,_,N2,rfl⟩
 rintro _ ⟨nsv,f,N,rfl⟩
 have en:=sJ (f:=f) (ns:=nsv) t 42 (by have:=T.dep;omega) T.ok (by rw[T.len];omega) λi hi=>N.at_ i ((om i).mp ((T.mem i).mp hi))
 rw[show AT.val (λk=>Val.int (k:Nat)) t=atV t from rfl] at en
 refine cw (λe=>e=[.sh sc,.sh (.int (k:Nat)),.ow (fdV a6 b6 (k:Nat)),.sh (.int (m:Nat)),.sh (itV o),.sh (atV t),.sh (.lst nsv),.sh (t.val f),s8,s9,s10,s11]) ⟨_,by
  generalize fdV a6 b6 (k:Nat)=f0 at *
  generalize itV o=ov at *
  generalize atV t=tv at *
  generalize t.val f=tw at *
  simp![en,h7],rfl⟩ ?_
 rintro _ rfl
 obtain⟨ps,sp,hp,pne,pl,lp⟩:=uG (m:=m) (by omega) (by omega)
 have mm:dB.G (.int (m:Nat)) (.int (m:Nat))=.val (.int ((m * m:Nat):Int)):=by
  rw[ij (CMulA.left (by omega) (by omega))]
  rfl
 have hmm:m * m<=1600:=Nat.mul_le_mul (show m<=40 by omega) (show m<=40 by omega)
 have rg2:d9 [.int ((m * m:Nat):Int)]=some (rgV (m * m)):=fI (by omega)
 have lpl:(ps.map prV).length<=16777216:=by rw[List.length_map];omega
 refine cw (λe=>e=[.sh sc,.sh (.int (k:Nat)),.ow (fdV a6 b6 (k:Nat)),.sh (.int (m:Nat)),.sh (itV o),.sh (atV t),.sh (.lst nsv),.sh (t.val f),.sh (.lst (ps.map prV)),s9,s10,s11]) ⟨_,by
  generalize fdV a6 b6 (k:Nat)=f0 at *
  generalize itV o=ov at *
  generalize atV t=tv at *
  generalize t.val f=tw at *
  generalize ps.map prV=PV at *
  generalize m * m=M2 at *
  simp![mm,rg2,bE,inS,lp,lpl,h8],rfl⟩ ?_
 rintro _ rfl
 refine cw (λe=>∃ qs a b,lu m qs/\e=[.sh sc,.sh (.int (k:Nat)),.ow (fdV a b (k:Nat)),.sh (.int (m:Nat)),.sh (itV o),.sh (atV t),.sh (.lst nsv),.sh (t.val f),.sh (.lst (qs.map prV)),s9,s10,s11]) ?_ ?_
 ·by_cases h9':9 < (m:Int)
  ·have hd:decide (9 < ((m:Nat):Int))=true:=decide_eq_true h9'
   have rg3:d9 [.int 24]=some (rgV 24):=fI (k:=24) (by omega)
   obtain⟨qs,a7,b7,sq,hq,ql,lq⟩:=nZ (k:=(k:Nat)) hp pne pl (rgV 24) [] a6 b6 .no rfl (by rw[nI];decide)
   have lql:(qs.map prV).length<=16777216:=by rw[List.length_map,ql,nI];decide
   rw[List.nil_append] at lq
   exact⟨_,by
    generalize fdV a6 b6 (k:Nat)=f0 at *
    generalize fdV a7 b7 (k:Nat)=f1 at *
    generalize itV o=ov at *
    generalize atV t=tv at *
    generalize t.val f=tw at *
    generalize ps.map prV=PV at *
    generalize qs.map prV=QV at *
    simp![hd,rg3,bE,inS,lq,lql],qs,a7,b7,hq,rfl⟩
  ·have hd:decide (9 < ((m:Nat):Int))=false:=decide_eq_false h9'
   exact⟨_,by
    generalize fdV a6 b6 (k:Nat)=f0 at *
    generalize itV o=ov at *
    generalize atV t=tv at *
    generalize t.val f=tw at *
    generalize ps.map prV=PV at *
    simp![hd],ps,a6,b6,hp,rfl⟩
 rintro _ ⟨qs,a7,b7,hq,rfl⟩
 obtain⟨s9',s10',s11',h9',h10',h11',lo⟩:=uP (sc:=sc) (s1:=.sh (.int (k:Nat))) (s2:=.ow (fdV a7 b7 (k:Nat))) (s3:=.sh (.int (m:Nat))) (s4:=.sh (itV o)) (by omega) T om ol N hq (.lst (qs.map prV)) s9 s10 s11 h9 h10 h11
 refine⟨.sh (.int (k:Nat)),.ow (fdV a7 b7 (k:Nat)),.sh (.int (m:Nat)),.sh (itV o),.sh (atV t),.sh (.lst nsv),.sh (t.val f),.sh (.lst (qs.map prV)),s9',s10',s11',⟨rfl,rfl,rfl,rfl,rfl,rfl,rfl,rfl,h9',h10',h11'⟩,?_⟩
 generalize fdV a7 b7 (k:Nat)=f0 at *
 generalize itV o=ov at *
 generalize atV t=tv at *
 generalize t.val f=tw at *
 generalize qs.map prV=QV at *
 simp![lo]
theorem AB (ns:List Int) (hl:ns.length<=63):ji.G [.kl (ns.map .int)]=.ok (.val (.bl true)) []:=by
 have ln:((ns.map Val.int).length:Nat)=ns.length:=List.length_map ..
 obtain⟨n,hn⟩:∃ n:Nat,(if (if ((ns.length:Nat):Int) < 5 then ((ns.length:Nat):Int) else 5) > 1 then (if ((ns.length:Nat):Int) < 5 then ((ns.length:Nat):Int) else 5) else 1)=(n:Int)/\n<=5:=by
  by_cases h1:((ns.length:Nat):Int) < 5
  ·rw[if_pos h1]
   by_cases h2:((ns.length:Nat):Int) > 1
   ·rw[if_pos h2];exact⟨ns.length,rfl,by omega⟩
   ·rw[if_neg h2];exact⟨1,rfl,by omega⟩
  ·rw[if_neg h1,if_pos (by decide)];exact⟨5,rfl,by omega⟩
 have rg:d9 [.int (n:Nat)]=some (rgV n):=fI (by omega)
 obtain⟨e',⟨t1,t2,t3,t4,t5,t6,t7,t8,t9,t10,t11,_,rfl⟩,lo⟩:=iQ (g:=(gtN 1).G) (B:=gO.G) (λe=>∃ s1 s2 s3 s4 s5 s6 s7 s8 s9 s10 s11:Sl,(s1.pl=true/\s2.pl=true/\s3.pl=true/\s4.pl=true/\s5.pl=true/\s6.pl=true/\s7.pl=true/\s8.pl=true/\s9.pl=true/\s10.pl=true/\s11.pl=true)/\e=[.sh (.kl (ns.map .int)),s1,s2,s3,s4,s5,s6,s7,s8,s9,s10,s11]) (rgV n) [.sh (.kl (ns.map .int)),.no,.no,.no,.no,.no,.no,.no,.no,.no,.no,.no] ⟨.no,.no,.no,.no,.no,.no,.no,.no,.no,.no,.no,⟨rfl,rfl,rfl,rfl,rfl,rfl,rfl,rfl,rfl,rfl,rfl⟩,rfl⟩ (by
  rintro v hv _ ⟨s1,s2,s3,s4,s5,s6,s7,s8,s9,s10,s11,⟨h1,h2,h3,h4,h5,h6,h7,h8,h9,h10,h11⟩,rfl⟩
  unfold rgV at hv
  obtain⟨i,_,rfl⟩:=List.mem_map.mp hv
  obtain⟨t1,t2,t3,t4,t5,t6,t7,t8,t9,t10,t11,hp,he⟩:=wz (ns:=ns) (k:=i) h2 h3 h4 h5 h6 h7 h8 h9 h10 h11
  exact⟨[.sh (.kl (ns.map .int)),.sh (.int (i:Nat)),s2,s3,s4,s5,s6,s7,s8,s9,s10,s11],_,by simp![h1],.inl he,t1,t2,t3,t4,t5,t6,t7,t8,t9,t10,t11,hp,rfl⟩)
 unfold ji
 rw[iZ]
 unfold n8
 simp![ln,hn.1,rg,lo]
theorem zj {K:W.Frag}{h:Heap}{mg:Str->Option Value}{a_:Addr} (X:K.In h) (G:h.Ns mainGlobals mg)
 (k_:W.nsIn K mainGlobals "Unknown"=some (some (.ref a_)))
 (r_:W.nsIn K mainGlobals "bool"=some none)
 (e_:W.nsIn K mainGlobals "enumerate"=some none)
 (t_:W.nsIn K mainGlobals "int"=some none)
 (c_:W.nsIn K mainGlobals "isinstance"=some none)
 (i_:W.nsIn K mainGlobals "len"=some none)
 (C_:W.nsIn K mainGlobals "max"=some none)
 (u_:W.nsIn K mainGlobals "min"=some none)
 (d_:W.nsIn K mainGlobals "range"=some none)
 (Dt:W.nsIn K mainGlobals "sum"=some none)
 (f_:W.nsIn K mainGlobals "tuple"=some none)
 (Dz:W.specialIn K (.builtin "object.__class__") "__get__"=some (some (.builtin "getset_descriptor.__get__")))
 (DB:W.takesIn K (.builtin "object.__class__")=some true)
 (l_:W.excIn K a_ jc "ValueError.__new__"=true)
 (v_:(W.clsIn K a_).isSome=true)
 (y_:W.findIn K (.ref a_) "__getattribute__"=some (some (.builtin "BaseException.__getattribute__")))
 (z_:W.findIn K (.ref a_) "__getattr__"=some none)
 (x_:W.findIn K (.ref a_) "__class__"=some (some (.builtin "object.__class__")))
 (B_:W.mroIn K a_ (.type "object")=some true)
 (A_:W.mroIn K a_ (.type "BaseException")=some true)
 (i0:W.kitOne K (.type "NoneType") (.type "bool")=some false)
 (i1:W.kitOne K (.type "bool") (.type "bool")=some true)
 (i2:W.kitOne K (.type "int") (.type "bool")=some false)
 (i3:W.kitOne K (.type "str") (.type "bool")=some false)
 (i4:W.kitOne K (.type "tuple") (.type "bool")=some false)
 (i5:W.kitOne K (.type "list") (.type "bool")=some false)
 (i6:W.kitOne K (.type "dict") (.type "bool")=some false)
 (i7:W.kitOne K (.type "NoneType") (.type "tuple")=some false)
 (i8:W.kitOne K (.type "bool") (.type "tuple")=some false)
 (i9:W.kitOne K (.type "int") (.type "tuple")=some false)
 (Du:W.kitOne K (.type "str") (.type "tuple")=some false)
 (Dv:W.kitOne K (.type "tuple") (.type "tuple")=some true)
 (Dw:W.kitOne K (.type "list") (.type "tuple")=some false)
 (Dx:W.kitOne K (.type "dict") (.type "tuple")=some false)
 : Txt K mg a_:=by
 have mUnknown:=W.mg_of X G k_
 exact {
 k_:=mUnknown,
 r_:=W.mg_none_of X G r_,
 e_:=W.mg_none_of X G e_,
 t_:=W.mg_none_of X G t_,
 c_:=W.mg_none_of X G c_,
 i_:=W.mg_none_of X G i_,
 C_:=W.mg_none_of X G C_,
 u_:=W.mg_none_of X G u_,
 d_:=W.mg_none_of X G d_,
 Dt:=W.mg_none_of X G Dt,
 f_:=W.mg_none_of X G f_,
 l_:=l_,
 kits:=(aV i0 rfl rfl cF
  (aV i1 rfl rfl cF
  (aV i2 rfl rfl cF
  (aV i3 rfl rfl cF
  (aV i4 rfl rfl cF
  (aV i5 rfl rfl cF
  (aV i6 rfl rfl cF
  (aV i7 rfl rfl cF
  (aV i8 rfl rfl cF
  (aV i9 rfl rfl cF
  (aV Du rfl rfl cF
  (aV Dv rfl rfl cF
  (aV Dw rfl rfl cF
  (aV Dx rfl rfl cF
  uy))))))))))))))
 }
end KK
namespace PySem.W.Fast
def tw1019918227671255360:=()
def tw10485359049480863278:=()
def tw10505639528875633964:=()
def tw1077271587374285768:=()
def tw10819359497995627059:=()
def tw10827046933215472262:=()
def tw10970800596372274609:=()
def tw11382391871053325159:=()
def tw11390124165548376718:=()
def tw11418624369314888877:=()
def tw11607207781498552059:=()
def tw1173255738373438143:=()
def tw11749527352383374703:=()
def tw12020937197171043578:=()
def tw12245806459189960304:=()
def tw12281693989091914990:=()
def tw12505729695125512099:=()
def tw12667619954604394355:=()
def tw1268255506450732515:=()
def tw12907029319815762183:=()
def tw12944376149530664850:=()
def tw130537400872970145:=()
def tw1326153372630763904:=()
def tw13357850712013074588:=()
def tw13400666440896454185:=()
def tw13571172160275199001:=()
def tw13654262014519003675:=()
def tw1456339770356004847:=()
def tw14591892494574474550:=()
def tw1461411606876572783:=()
def tw14780804523293113271:=()
def tw14794964716425068917:=()
def tw14795114322861073442:=()
def tw14942012178448066660:=()
def tw1497683764049902784:=()
def tw14977908347135407788:=()
def tw15067938766001384128:=()
def tw15086174640472156286:=()
def tw15525812103442503770:=()
def tw15528610828637125278:=()
def tw15613309721547215493:=()
def tw1562873649572281368:=()
def tw16057298948839708875:=()
def tw160984025104417878:=()
def tw16499679914088136827:=()
def tw16537662353152608435:=()
def tw16554468247381561958:=()
def tw16738066079631117047:=()
def tw1677739639976690400:=()
def tw17355262481528869139:=()
def tw1765977390620677749:=()
def tw17716237396963461855:=()
def tw17741595138139718398:=()
def tw17757871654857059776:=()
def tw17931437602764352784:=()
def tw18170996992213317883:=()
def tw18230716033278528933:=()
def tw1918601362366276695:=()
def tw1991087617172345187:=()
def tw2248289390957361072:=()
def tw2308019618430172160:=()
def tw2336508538661762020:=()
def tw2569705550417119941:=()
def tw2757656200532333815:=()
def tw2866282792690605135:=()
def tw4094228216291550091:=()
def tw4365251012977153549:=()
def tw4390584799613723654:=()
def tw4475818264376863462:=()
def tw4642983413537008935:=()
def tw4741934591917377910:=()
def tw4878800122606563510:=()
def tw4992030263486180615:=()
def tw5054846326630625807:=()
def tw5153319435712448483:=()
def tw5187556438355940660:=()
def tw5436848244652628579:=()
def tw6068662423323995176:=()
def tw61849391778693519:=()
def tw6216497636569962289:=()
def tw627103135820243768:=()
def tw6659027956879136999:=()
def tw6659424800947581003:=()
def tw6786407348067294299:=()
def tw6792970307591800385:=()
def tw6841204299041698972:=()
def tw6843045224884243085:=()
def tw706300363420860598:=()
def tw7404584071706138459:=()
def tw7894623119641645660:=()
def tw7999870617319577006:=()
def tw8068055001905595389:=()
def tw8129233043658248618:=()
def tw8240977443306050304:=()
def tw8249969092670977756:=()
def tw8304153087179007809:=()
def tw8410896501309341354:=()
def tw8431557357054660851:=()
def tw8519994588454221632:=()
def tw8876101911597143443:=()
def tw893646587197119275:=()
def tw908373053337954113:=()
def tw9096726457336250748:=()
def tw9100924967857648278:=()
def tw9635153716987456998:=()
def tw9928709067354823073:=()
end PySem.W.Fast
open PySem PySem.W PyProof.Rows L2 L3 KK
set_option maxRecDepth 100000 in
set_option maxHeartbeats 0 in
theorem PySem.Challenge.cw_weightrooms_k15_relations_holds : PySem.Challenge.rw_weightrooms_k15_relations.Holds := by
 w_on;o_law;k_head;(case hw=>w_witness2)
 k_fill
 refine L2.walk_lawD (l:=PySem.Challenge.rw_weightrooms_k15_relations) (x:="_law_script") (k:=46) rfl rfl ⟨rfl,by decide,by decide⟩ (λw h Y=>W.kIn_of Y) ?F ?D
 case F=>
  intro w mg h KX G base kb nb
  have TT:=by
   refine' zj KX G ?k_ ?r_ ?e_ ?t_ ?c_ ?i_ ?C_ ?u_ ?d_ ?Dt ?f_ ?Dz ?DB ?l_ ?v_ ?y_ ?z_ ?x_ ?B_ ?A_ ?i0 ?i1 ?i2 ?i3 ?i4 ?i5 ?i6 ?i7 ?i8 ?i9 ?Du ?Dv ?Dw ?Dx
   (case k_=>k_is)
   (case r_=>k_is)
   (case e_=>k_is)
   (case t_=>k_is)
   (case c_=>k_is)
   (case i_=>k_is)
   (case C_=>k_is)
   (case u_=>k_is)
   (case d_=>k_is)
   (case Dt=>k_is)
   (case f_=>k_is)
   (case Dz=>k_is)
   (case DB=>k_is)
   (case l_=>k_exc)
   (case v_=>exact Option.isSome_iff_exists.mpr ⟨_,by k_is⟩)
   (case y_=>k_is)
   (case z_=>k_is)
   (case x_=>k_is)
   (case B_=>k_is)
   (case A_=>k_is)
   (case i0=>kit_is)
   (case i1=>kit_is)
   (case i2=>kit_is)
   (case i3=>kit_is)
   (case i4=>kit_is)
   (case i5=>kit_is)
   (case i6=>kit_is)
   (case i7=>kit_is)
   (case i8=>kit_is)
   (case i9=>kit_is)
   (case Du=>kit_is)
   (case Dv=>kit_is)
   (case Dw=>kit_is)
   (case Dx=>kit_is)
  have D_law_feed:=by
   refine' cx (x:="_law_feed") (st:=gn) KX G ?a ?l ?c ?k
   (case a=>k_is);(case l=>k_is);(case c=>k_is);(case k=>k_is)
  have D_law_next:=by
   refine' cx (x:="_law_next") (st:=fX) KX G ?a ?l ?c ?k
   (case a=>k_is);(case l=>k_is);(case c=>k_is);(case k=>k_is)
  have D_law_order:=by
   refine' cx (x:="_law_order") (st:=fq) KX G ?a ?l ?c ?k
   (case a=>k_is);(case l=>k_is);(case c=>k_is);(case k=>k_is)
  have D_law_chain:=by
   refine' cx (x:="_law_chain") (st:=fF) KX G ?a ?l ?c ?k
   (case a=>k_is);(case l=>k_is);(case c=>k_is);(case k=>k_is)
  have D_law_tree:=by
   refine' cx (x:="_law_tree") (st:=cM) KX G ?a ?l ?c ?k
   (case a=>k_is);(case l=>k_is);(case c=>k_is);(case k=>k_is)
  have D_law_named:=by
   refine' cx (x:="_law_named") (st:=cU) KX G ?a ?l ?c ?k
   (case a=>k_is);(case l=>k_is);(case c=>k_is);(case k=>k_is)
  have D_law_leaves:=by
   refine' cx (x:="_law_leaves") (st:=cI) KX G ?a ?l ?c ?k
   (case a=>k_is);(case l=>k_is);(case c=>k_is);(case k=>k_is)
  have D_law_due:=by
   refine' cx (x:="_law_due") (st:=c9) KX G ?a ?l ?c ?k
   (case a=>k_is);(case l=>k_is);(case c=>k_is);(case k=>k_is)
  have D_path_to:=by
   refine' cx (x:="path_to") (st:=fh) KX G ?a ?l ?c ?k
   (case a=>k_is);(case l=>k_is);(case c=>k_is);(case k=>k_is)
  have D_relation:=by
   refine' cx (x:="relation") (st:=gu) KX G ?a ?l ?c ?k
   (case a=>k_is);(case l=>k_is);(case c=>k_is);(case k=>k_is)
  have D_law:=by
   refine' cx (x:="law") (st:=fm) KX G ?a ?l ?c ?k
   (case a=>k_is);(case l=>k_is);(case c=>k_is);(case k=>k_is)
  have s_:=mf (P:=PySem.Challenge.rw_weightrooms_k15_relations.prog) (w:=w) (base:=base) TT D_law_feed
  have b_:=lV (P:=PySem.Challenge.rw_weightrooms_k15_relations.prog) (w:=w) (base:=base) TT D_law_next
  have p_:=kK (P:=PySem.Challenge.rw_weightrooms_k15_relations.prog) (w:=w) (base:=base) TT D_law_order b_
  have o_:=kH (P:=PySem.Challenge.rw_weightrooms_k15_relations.prog) (w:=w) (base:=base) TT D_law_chain b_
  have m_:=gA (P:=PySem.Challenge.rw_weightrooms_k15_relations.prog) (w:=w) (base:=base) TT D_law_tree b_ 42
  have h_:=fH (P:=PySem.Challenge.rw_weightrooms_k15_relations.prog) (w:=w) (base:=base) TT D_law_named 42
  have g_:=eX (P:=PySem.Challenge.rw_weightrooms_k15_relations.prog) (w:=w) (base:=base) TT D_law_leaves 42
  have w_:=m5 (P:=PySem.Challenge.rw_weightrooms_k15_relations.prog) (w:=w) (base:=base) TT D_law_due g_
  have j_:=g0 (P:=PySem.Challenge.rw_weightrooms_k15_relations.prog) (w:=w) (base:=base) TT D_path_to 42
  have n_:=mF (P:=PySem.Challenge.rw_weightrooms_k15_relations.prog) (w:=w) (base:=base) TT D_relation j_
  have Dy:=xR (P:=PySem.Challenge.rw_weightrooms_k15_relations.prog) (w:=w) (base:=base) TT D_law s_ b_ p_ o_ m_ h_ w_ n_
  exact u5 Dy (law3 ji rfl AB)
 case D=>
  intro w mg h KX G
  refine⟨fm,?_,(λ_ _ _ _ _ _=>ar1 λ_=>rfl)⟩
  refine' cx KX G ?a ?l ?c ?k
  (case a=>k_is);(case l=>k_is);(case c=>k_is);(case k=>k_is)
