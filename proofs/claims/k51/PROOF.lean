import PyProof.Rows.All
import Wide.All
import OpenK.AllK
import Wide.FinOn
import Lean
import PyProof.EqAt
import PyProof.EqKinds
import PyProof.TupleCall
import PyProof.Rows.SumAny
import PyProof.EnumMake
import PyProof.Draws
import PyProof.ZipIter
import KE.KUnpack
import PySem.Challenge.RW_weightrooms_k51_least_worst_in_order
local macro_rules|`(tactic|trivial)=>`(tactic|first|exact Or.inl rfl|exact Or.inr rfl)
local macro_rules|`(tactic|decide)=>`(tactic|decide +kernel)
set_option genSizeOf false
set_option genInjectivity false
set_option bootstrap.genMatcherCode false
noncomputable section
set_option Elab.async false
set_option linter.all false
set_option maxRecDepth 100000
namespace L2
open PySem PySem.Spec PyProof.Rows
abbrev Key:=Sum Int Str
def nz:Key->Value->Bool
 | .inl k,v=>Value.isInt k v
 | .inr x,v=>Value.isStrOf x v
def keyH (w:World):Key->Int
 | .inl k=>hashInt k
 | .inr x=>hashStr w x
theorem cQ:∀ {k:Key}{v:Value},nz k v=true->(∃ i t,k=Sum.inl i/\v=Value.int i t)\/(∃ x t,k=Sum.inr x/\v=Value.str x t)
 |
  .inl i,v,h=>by
  obtain⟨t,e⟩:=Value.isInt_shape (k:=i) (v:=v) h
  exact .inl ⟨i,t,rfl,e⟩
 |
  .inr x,v,h=>by
  obtain⟨t,e⟩:=Value.isStrOf_shape (x:=x) (v:=v) h
  exact .inr ⟨x,t,rfl,e⟩
theorem AG (i:Int) (t:Tok):nz (.inl i) (.int i t)=true:=by simp [nz,Value.isInt]
theorem zK (x:Str) (t:Tok):nz (.inr x) (.str x t)=true:=by simp [nz,Value.isStrOf]
theorem IE (a b:Int):decide ((Sum.inl a:Key)=Sum.inl b)=(a == b):=by
 by_cases e:a=b
 ·subst e;simp
 ·have h:¬ (Sum.inl a:Key)=Sum.inl b:=λq=>e (Sum.inl.inj q)
  rw[decide_eq_false h]
  exact (beq_eq_false_iff_ne.mpr e).symm
theorem JB (a b:Str):decide ((Sum.inr a:Key)=Sum.inr b)=decide (a=b):=by
 by_cases e:a=b
 ·subst e;simp
 ·have h:¬ (Sum.inr a:Key)=Sum.inr b:=λq=>e (Sum.inr.inj q)
  rw[decide_eq_false h,decide_eq_false e]
theorem Ht (a:Int) (b:Str):decide ((Sum.inl a:Key)=Sum.inr b)=false:=decide_eq_false (λq=>nomatch q)
theorem Ir (a:Str) (b:Int):decide ((Sum.inr a:Key)=Sum.inl b)=false:=decide_eq_false (λq=>nomatch q)
def bF (prog:Program) (w:World):PySem.KeyKind prog w Key where
 is:=nz
 hash:=keyH w
 inj
  := λv a b ha hb=>by
  rcases cQ ha with ⟨i,t,rfl,rfl⟩ | ⟨x,t,rfl,rfl⟩
  ·rcases cQ hb with ⟨j,u,rfl,e⟩ | ⟨y,u,rfl,e⟩
   ·injection e with e1 _;rw[e1]
   ·exact nomatch e
  ·rcases cQ hb with ⟨j,u,rfl,e⟩ | ⟨y,u,rfl,e⟩
   ·exact nomatch e
   ·injection e with e1 _;rw[e1]
 byValue:=λk v h=>by
  rcases cQ h with ⟨i,t,rfl,rfl⟩ | ⟨x,t,rfl,rfl⟩ <;> rfl
 pyHash:=λhv h=>by
  rcases cQ hv with ⟨i,t,rfl,rfl⟩ | ⟨x,t,rfl,rfl⟩
  ·exact wpAny_pyHash_int h
  ·exact wpAny_pyHash_str h
 eqBool:=λhu hv h=>by
  rcases cQ hu with ⟨i,t,rfl,rfl⟩ | ⟨x,t,rfl,rfl⟩
  ·rcases cQ hv with ⟨j,u,rfl,rfl⟩ | ⟨y,u,rfl,rfl⟩
   ·rw[IE] at h;exact wpAny_eqBool_int h
   ·rw[Ht] at h;exact SeqAt.EqAt.int_str i t y u _ _ _ _ h
  ·rcases cQ hv with ⟨j,u,rfl,rfl⟩ | ⟨y,u,rfl,rfl⟩
   ·rw[Ir] at h;exact SeqAt.EqAt.str_int x t j u _ _ _ _ h
   ·rw[JB] at h;exact wpAny_eqBool_str h
 «strs»:=λk x t v h=>by
  rcases cQ h with ⟨i,u,rfl,e⟩ | ⟨y,u,rfl,e⟩
  ·exact nomatch e
  ·injection e with e1 _
   subst e1
   cases v <;> rfl
theorem wj (prog:Program) (w:World) (i:Int) (t:Tok):(bF prog w).is (.inl i) (.int i t)=true:=AG i t
theorem nS (prog:Program) (w:World) (x:Str) (t:Tok):(bF prog w).is (.inr x) (.str x t)=true:=zK x t
end L2
namespace L2
open PySem PySem.Spec PyProof.Rows
inductive V where
 | non | bl (b:Bool) | int (i:Int) | str (x:Str) | byt (b:Array UInt8) | flt (b:UInt64) | ref (a:Addr) | ty (n:String)
 deriving DecidableEq
def RelV:V->Value->Prop
 | .non,u=>u=Value.none
 | .bl b,u=>u=Value.bool b
 | .int i,u=>∃ t,u=Value.int i t
 | .str x,u=>∃ t,u=Value.str x t
 | .byt b,u=>∃ t,u=Value.bytes b t
 | .flt b,u=>∃ t,u=Value.float b t
 | .ref a,u=>u=Value.ref a
 | .ty n,u=>u=Value.type n
abbrev Vals:List V->List Value->Prop:=Paired RelV
theorem Vals.length {xs:List V}{us:List Value} (r:Vals xs us):xs.length=us.length:=Paired.length r
theorem Vals.get {xs:List V}{us:List Value}{i:Nat}{x:V} (r:Vals xs us) (e:xs[i]?=some x):∃ u,us[i]?=some u/\RelV x u:=by
 induction r generalizing i with
 | nil=>rw[List.getElem?_nil] at e;cases e
 |
  cons r t ih=>
  cases i with
  | zero=>cases e;exact⟨_,rfl,r⟩
  | succ i=>exact ih (i:=i) e
theorem Vals.append {xs ys:List V}{us ws:List Value} (r:Vals xs us) (s:Vals ys ws):Vals (xs++ys) (us++ws):=by
 induction r with
 | nil=>exact s
 | cons r t ih=>exact .cons r ih
theorem Vals.take {xs:List V}{us:List Value} (n:Nat) (r:Vals xs us):Vals (xs.take n) (us.take n):=by
 induction r generalizing n with
 | nil=>rw[List.take_nil,List.take_nil];exact .nil
 |
  cons r t ih=>
  cases n with
  | zero=>exact .nil
  | succ n=>exact .cons r (ih n)
theorem Vals.drop {xs:List V}{us:List Value} (n:Nat) (r:Vals xs us):Vals (xs.drop n) (us.drop n):=by
 induction r generalizing n with
 | nil=>rw[List.drop_nil,List.drop_nil];exact .nil
 |
  cons r t ih=>
  cases n with
  | zero=>exact .cons r t
  | succ n=>exact ih n
def RelO:Option V->Option Value->Prop
 | some v,some u=>RelV v u
 | none,none=>True
 | _,_=>False
def KV {κ:Type}:List (κ×V)->List (κ×Value)->Prop:=Paired λ(p:κ×V) (q:κ×Value)=>p.1=q.1/\RelV p.2 q.2
def kV:Key->V
 | .inl i=>.int i
 | .inr x=>.str x
inductive HO where
 | lst (xs:List V)
 | tup (xs:List V)
 | dK (kvs:List (Key×V)) | dT (kvs:List (List Key×V))
 | set (S:Int->Bool) (n:Nat)
 | ins (C dx:Addr) (fs:List (Str×V))
 | own (x:Addr)
 | xd (fs:List (Str×V))
 | met (f x:Addr)
 | rng (lo hi:Int)
 | frz (o:Obj) (u:HO)
 | tbl (ps:Array Value)
 | ext (φ:Heap->Prop)
abbrev Hp:=Addr->Option HO
def upd (H:Hp) (a:Addr) (o:HO):Hp:=λb=>if b=a then some o else H b
theorem dB {H:Hp}{a:Addr}{o:HO}:upd H a o a=some o:=by unfold upd;rw[if_pos rfl]
theorem aV {H:Hp}{a b:Addr}{o:HO} (h:b ≠ a):upd H a o b=H b:=by unfold upd;rw[if_neg h]
theorem Mx {H:Hp}{a b:Addr}{o u:HO} (h:H a=some o) (h':H b=some u) (d:o ≠ u):a ≠ b:=by
 intro e;subst e;rw[h] at h';exact d (Option.some.inj h')
theorem cS {H:Hp}{a b:Addr}{o:HO} (h:H a=some o) (h':H b=none):a ≠ b:=by
 intro e;subst e;rw[h] at h';cases h'
section
variable (P:Program) (w:World)
def ObjOk (H:Hp) (h:Heap) (a:Addr):HO->Prop
 | .lst xs=>xs.length<=sizeLine/\∃ (its:List Value) (n:Nat),Vals xs its/\h.get? a=some { cls:=.type "list",data:=.seq its.toArray n }
 | .tup xs=>xs.length<=sizeLine/\∃ its:List Value,Vals xs its/\IsTup h a its.toArray
 | .dK kvs=>kvs.length<=sizeLine/\(a == sysModules)=false/\∃ vs,KV kvs vs/\h.DictOf (bF P w) a vs
 | .dT kvs=>kvs.length<=sizeLine/\(a == sysModules)=false/\∃ xs:List (List Key×Addr×Value),
  Paired (λ(p:List Key×V) (q:List Key×Addr×Value)=>p.1=q.1/\H q.2.1=some (.tup (p.1.map kV))/\RelV p.2 q.2.2) kvs xs/\
  ∃ o es ep,h.get? a=some o/\o.ExactDict/\o.data=.dict es ep/\es.toList=xs.map (entryOfKey (tupleKind (bF P w)))/\(xs.map (·.1)).Nodup
 | .set S n=>h.SetOf (intKind P w) a S n
 | .ins C dx fs=>H dx=some (.own a)/\fs.length<=1000/\dx ≠ a/\h.get? a=some (W.instObj C dx)/\
  ∃ mA,h.Ns1 dx mA/\(∀ f,RelO (fs.lookup f) (mA f))/\PySem.Within mA (fs.map (·.1))
 | .own _=>∃ o,h.get? a=some o
 | .xd fs=>∃ mA,h.Ns1 a mA/\∀ f,RelO (fs.lookup f) (mA f)
 | .rng lo hi=>∃ t u v,h.get? a=some { cls:=.type "range",data:=.fields #[.int lo t,.int hi u,.int 1 v] }
 | .frz o u=>h.get? a=some o/\ObjOk H h a u
 | .tbl ps=>h.get? a=some { cls:=.none,data:=.fields ps }
 | .met f x=>h.get? a=some (W.methodObj (.ref f) (.ref x))
 | .ext φ=>φ h/\(∃ o,h.get? a=some o)/\∀ h1 h2:Heap,φ h1->(∀ o,h1.get? a=some o->h2.get? a=some o)->φ h2
def HOk (H:Hp) (h:Heap):Prop:=∀ a o,H a=some o->ObjOk P w H h a o
end
section
variable {P:Program}{w:World}{H H':Hp}{h h':Heap}{a:Addr}{o:HO}
theorem ObjOk.lt (x:ObjOk P w H h a o):a < h.objs.size:=by
 cases o with
 | lst xs=>obtain⟨_,_,_,_,e⟩:=x;exact Heap.lt_size e
 | tup xs=>obtain⟨_,_,_,p⟩:=x;exact p.lt
 | dK kvs=>obtain⟨_,_,_,_,o,_,_,e,_⟩:=x;exact Heap.lt_size e
 | dT kvs=>obtain⟨_,_,_,_,o,_,_,e,_⟩:=x;exact Heap.lt_size e
 | set S n=>obtain⟨o,_,_,_,e,_⟩:=x;exact Heap.lt_size e
 | ins C dx fs=>obtain⟨_,_,_,e,_⟩:=x;exact Heap.lt_size e
 | own y=>obtain⟨_,e⟩:=x;exact Heap.lt_size e
 | xd fs=>obtain⟨_,⟨_,_,_,e,_⟩,_⟩:=x;exact Heap.lt_size e
 | rng lo hi=>obtain⟨_,_,_,e⟩:=x;exact Heap.lt_size e
 | frz ob u=>obtain⟨e,_⟩:=x;exact Heap.lt_size e
 | tbl ps=>exact Heap.lt_size (show h.get? a=some _ from x)
 | met f y=>exact Heap.lt_size (show h.get? a=some _ from x)
 | ext φ=>obtain⟨_,⟨_,e⟩,_⟩:=x;exact Heap.lt_size e
theorem Paired.mapP {α β:Type}{F G:α->β->Prop}{l₁:List α}{l₂:List β} (r:Paired F l₁ l₂) (f:∀ a b,F a b->G a b):Paired G l₁ l₂:=by
 induction r with
 | nil=>exact .nil
 | cons r t ih=>exact .cons (f _ _ r) ih
theorem ObjOk.stay (x:ObjOk P w H h a o) (k:∀ b u,(b=a\/H b=some (.own a))->h.get? b=some u->h'.get? b=some u)
 (ho:∀ b,H b=some (.own a)->H' b=some (.own a)) (ht:∀ b xs,H b=some (.tup xs)->H' b=some (.tup xs)):ObjOk P w H' h' a o:=by
 induction o with
 | lst xs=>obtain⟨z,its,n,r,e⟩:=x;exact⟨z,its,n,r,k _ _ (.inl rfl) e⟩
 | tup xs=>obtain⟨z,its,r,ob,e,c⟩:=x;exact⟨z,its,r,ob,k _ _ (.inl rfl) e,c⟩
 | dK kvs=>obtain⟨z,y,vs,r,ob,es,ep,e,c⟩:=x;exact⟨z,y,vs,r,ob,es,ep,k _ _ (.inl rfl) e,c⟩
 |
  dT kvs=>
  obtain⟨z,y,xs,r,ob,es,ep,e,c⟩:=x
  exact⟨z,y,xs,Paired.mapP r λp q z=>⟨z.1,ht _ _ z.2.1,z.2.2⟩,ob,es,ep,k _ _ (.inl rfl) e,c⟩
 | set S n=>obtain⟨ob,es,ep,t,e,c⟩:=x;exact⟨ob,es,ep,t,k _ _ (.inl rfl) e,c⟩
 |
  ins C dx fs=>
  obtain⟨d,z,ne,e,mA,⟨od,es,ep,e2,c⟩,r⟩:=x
  exact⟨ho _ d,z,ne,k _ _ (.inl rfl) e,mA,⟨od,es,ep,k _ _ (.inr d) e2,c⟩,r⟩
 | own y=>obtain⟨ob,e⟩:=x;exact⟨ob,k _ _ (.inl rfl) e⟩
 | xd fs=>obtain⟨mA,⟨od,es,ep,e,c⟩,r⟩:=x;exact⟨mA,⟨od,es,ep,k _ _ (.inl rfl) e,c⟩,r⟩
 | rng lo hi=>obtain⟨t,u,v,e⟩:=x;exact⟨t,u,v,k _ _ (.inl rfl) e⟩
 | frz ob u ih=>obtain⟨e,q⟩:=x;exact⟨k _ _ (.inl rfl) e,ih q⟩
 |
  tbl ps=>
  have e:h.get? a=some { cls:=.none,data:=.fields ps }:=x
  show h'.get? a=some { cls:=.none,data:=.fields ps }
  exact k a _ (.inl rfl) e
 |
  met f y=>
  have e:h.get? a=some (W.methodObj (.ref f) (.ref y)):=x
  show h'.get? a=some (W.methodObj (.ref f) (.ref y))
  exact k a _ (.inl rfl) e
 | ext φ=>obtain⟨p,⟨o,e⟩,st⟩:=x;exact⟨st _ _ p λo q=>k _ _ (.inl rfl) q,⟨o,k _ _ (.inl rfl) e⟩,st⟩
theorem HOk.lt (x:HOk P w H h) (e:H a=some o):a < h.objs.size:=(x a o e).lt
theorem HOk.fresh (x:HOk P w H h) (e:h.objs.size<=a):H a=none:=by
 cases q:H a with
 | none=>rfl
 | some u=>exact absurd (Nat.lt_of_lt_of_le (x.lt q) e) (Nat.lt_irrefl _)
theorem HOk.kept (x:HOk P w H h) (k:∀ b u,h.get? b=some u->h'.get? b=some u):HOk P w H h':=λa o e=>
 (x a o e).stay (λb u _ q=>k b u q) (λ_ q=>q) λ_ _ q=>q
theorem HOk.laid (x:HOk P w H h) (k:∀ b u,h.get? b=some u->h'.get? b=some u) (hp:h.objs.size<=a) (new:ObjOk P w (upd H a o) h' a o):HOk P w (upd H a o) h':=λb u e=>by
 have hn:=x.fresh hp
 by_cases hb:b=a
 ·subst hb;rw[dB] at e;cases e;exact new
 ·rw[aV hb] at e
  exact (x b u e).stay (λc v _ q=>k c v q) (λc q=>by rw[aV (cS q hn)];exact q) λc xs q=>by rw[aV (cS q hn)];exact q
end
def Rd (H:Hp) (a:Addr) (u:HO):Prop:=H a=some u\/∃ o,H a=some (.frz o u)
theorem Rd.ok {P:Program}{w:World}{H:Hp}{h:Heap}{a:Addr}{u:HO} (r:Rd H a u) (x:HOk P w H h):ObjOk P w H h a u:=by
 rcases r with r | ⟨o,r⟩
 ·exact x a u r
 ·obtain⟨_,q⟩:=x a _ r
  exact q
def Mut:Option HO->Prop
 | some (.lst _)=>True
 | some (.dK _)=>True
 | some (.dT _)=>True
 | some (.set _ _)=>True
 | some (.ins _ _ _)=>True
 | some (.ext _)=>True
 | _=>False
section
variable {P:Program}{w:World}{H:Hp}{h h':Heap}{x e:Addr}{o':HO}
theorem HOk.write (ok:HOk P w H h) (mu:Mut (H x)) (he:e=x\/H e=some (.own x)) (k:∀ b u,b ≠ e->h.get? b=some u->h'.get? b=some u) (heo:∃ u,h'.get? e=some u)
 (new:ObjOk P w (upd H x o') h' x o'):HOk P w (upd H x o') h':=λb u q=>by
 have nown:∀ c y,H c=some (.own y)->c ≠ x:=λc y r z=>by subst z;rw[r] at mu;exact mu
 have ntup:∀ c xs,H c=some (.tup xs)->c ≠ x:=λc xs r z=>by subst z;rw[r] at mu;exact mu
 by_cases hb:b=x
 ·subst hb;rw[dB] at q;cases q;exact new
 ·rw[aV hb] at q
  by_cases hbe:b=e
  ·have q':H b=some (.own x):=by
    rcases he with z | z
    ·exact absurd (hbe.trans z) hb
    ·rw[hbe];exact z
   rw[q] at q';cases q'
   obtain⟨v,hv⟩:=heo
   exact⟨v,by rw[hbe];exact hv⟩
  ·refine (ok b u q).stay (λc v hc r=>k c v ?_ r) (λc r=>by rw[aV (nown c b r)];exact r) λc xs r=>by rw[aV (ntup c xs r)];exact r
   rcases hc with rfl | hc
   ·exact hbe
   ·rintro rfl
    rcases he with z | z
    ·exact nown c b hc z
    ·rw[hc] at z;cases z;exact hb rfl
end
structure Un (fs ex:List Addr) (H H':Hp) (h h':Heap):Prop where
 keep:∀ b o,h.get? b=some o->H b=none->b ∉ fs->b ∉ ex->h'.get? b=some o
 slot:∀ b o,h.get? b=some o->H b=none->b ∈ fs->b ∉ ex->∃ sl,h'.get? b=some { o with slots:=sl }
 free:∀ b o,h.get? b=some o->H b=none->b ∉ ex->H' b=none
 there:∀ b o,h.get? b=some o->b ∉ ex->∃ o',h'.get? b=some o'
 tups:∀ b xs,H b=some (.tup xs)->H' b=some (.tup xs)
 frzs:∀ b o u,H b=some (.frz o u)->H' b=some (.frz o u)
 tbls:∀ b ps,H b=some (.tbl ps)->∃ more,H' b=some (.tbl (ps++more))
section
variable {fs fs' ex ex':List Addr}{H H1 H2:Hp}{h h1 h2 h':Heap}{a x e:Addr}{o:HO}
theorem Un.any (u:Un fs ex H H1 h h1) {b:Addr}{ob:Obj} (q:h.get? b=some ob) (n:H b=none) (hx:b ∉ ex):∃ sl,h1.get? b=some { ob with slots:=sl }:=by
 by_cases hb:b ∈ fs
 ·exact u.slot b ob q n hb hx
 ·exact⟨ob.slots,u.keep b ob q n hb hx⟩
theorem Un.kept (k:∀ b u,h.get? b=some u->h'.get? b=some u):Un fs ex H H h h':=
 ⟨λb ob q _ _ _=>k b ob q,λb ob q _ _ _=>⟨ob.slots,k b ob q⟩,λ_ _ _ n _=>n,λb ob q _=>⟨ob,k b ob q⟩,λ_ _ q=>q,λ_ _ _ q=>q,λ_ ps q=>⟨#[],by rw[q];simp⟩⟩
theorem Un.refl:Un fs ex H H h h:=Un.kept λ_ _ q=>q
theorem Un.laid (k:∀ b u,h.get? b=some u->h'.get? b=some u) (hp:h.objs.size<=a) (hn:H a=none):Un fs ex H (upd H a o) h h' where
 keep:=λb u q _ _ _=>k b u q
 slot:=λb u q _ _ _=>⟨u.slots,k b u q⟩
 free:=λb u q n _=>by rw[aV (Nat.ne_of_lt (Nat.lt_of_lt_of_le (Heap.lt_size q) hp))];exact n
 there:=λb u q _=>⟨u,k b u q⟩
 tups:=λb xs q=>by rw[aV (cS q hn)];exact q
 frzs:=λb u xs q=>by rw[aV (cS q hn)];exact q
 tbls:=λb ps q=>⟨#[],by rw[aV (cS q hn),q];simp⟩
theorem Un.write (mu:Mut (H x)) (he:e=x\/H e=some (.own x)) (k:∀ b u,b ≠ e->h.get? b=some u->h'.get? b=some u) (heo:∃ u,h'.get? e=some u):Un fs ex H (upd H x o) h h':=by
 have hx:∀ b,H b=none->b ≠ x:=λb n z=>by subst z;rw[n] at mu;exact mu
 have hb:∀ b,H b=none->b ≠ e:=λb n z=>by
  subst z
  rcases he with r | r
  ·exact hx b n r
  ·rw[n] at r;cases r
 have hm:∀ b u,H b=some u->¬ Mut (some u)->b ≠ x:=λb u q nm z=>by subst z;rw[q] at mu;exact nm mu
 refine⟨λb u q n _ _=>k b u (hb b n) q,λb u q n _ _=>⟨u.slots,k b u (hb b n) q⟩,λb u q n _=>by rw[aV (hx b n)];exact n,λb u q _=>?_,
  λb xs q=>by rw[aV (hm b _ q λz=>z)];exact q,λb u xs q=>by rw[aV (hm b _ q λz=>z)];exact q,λb ps q=>⟨#[],by rw[aV (hm b _ q λz=>z),q];simp⟩⟩
 by_cases hbe:b=e
 ·subst hbe;exact heo
 ·exact⟨u,k b u hbe q⟩
end
def trk (h:Heap) (H:Hp):List Addr:=(List.range h.objs.size).filter λa=>(H a).isSome
def me (h:Heap) (H:Hp):Heap:=W.hideAll h (trk h H)
theorem AS (h:Heap) (H:Hp):(me h H).objs.size=h.objs.size:=W.hideAll_size _ _
theorem Cf {h:Heap}{H:Hp}{b:Addr}{o:Obj} (e:h.get? b=some o) (n:H b=none):(me h H).get? b=some o:=
 W.hideAll_get _ e λhm=>by
  have q:(H b).isSome=true:=(List.mem_filter.mp hm).2
  rw[n] at q;simp at q
theorem EV {h:Heap}{H:Hp}{b:Addr}{o:Obj} (e:(me h H).get? b=some o):h.get? b=some o/\H b=none:=by
 have e':h.get? b=some o:=W.of_hideAll (trk h H) e
 refine⟨e',?_⟩
 cases q:H b with
 | none=>rfl
 |
  some x=>
  have hm:b ∈ trk h H:=List.mem_filter.mpr ⟨List.mem_range.mpr (Heap.lt_size e'),by simp [q]⟩
  have z:(me h H).get? b=none:=W.hideAll_none (trk h H) hm
  rw[z] at e;cases e
def FR (g h:Heap) (L:Addr):List (Addr×Obj):=(List.range h.objs.size).filterMap λa=>if a=L\/(g.get? a).isSome=true then none else (h.get? a).map λo=>(a,o)
def rest (g h:Heap) (L d:Addr):List (Addr×Obj):=(FR g h L).filter λp=>decide (p.1 ≠ d)
end L2
namespace L2
open PySem PySem.Spec PyProof.Rows
structure Mod (K:W.Frag) (mg:Str->Option Value) (base:Heap):Prop where
 kin:K.In base
 glob:base.Ns mainGlobals mg
 blt:∃ mb,base.Ns builtinsNs mb/\∀ x:Str,x ≠ "__name__" -> mb x=bootBuiltins x
 nolimit:base.NoLimit
structure Cx where
 prog:Program
 w:World
 K:W.Frag
 mg:Str->Option Value
 base:Heap
 A:Around
 N:List Str
 s₀:Shared
 H₀:Hp
 env:Env
 outer:List Env
 stack:List Env
 ex:List Addr
 fn:Str->Bool
 calm:Bool
 pn:List (Addr×Obj)
 xe:Value->Shared->Prop
def frs (l:List Env):List Addr:=l.filterMap (·.frame)
abbrev Cx.fs (X:Cx):List Addr:=frs X.outer
def Vis (sc:Scope) (x:Str):Prop:=sc.names.lookup x=some .local\/sc.names.lookup x=some .cell\/sc.names.lookup x=some .free
def Loc (sc:Scope) (x:Str):Prop:=sc.names.lookup x=some .local\/sc.names.lookup x=some .cell
def Bu (env:Env) (h:Heap) (m:Str->Option Value) (x:Str) (u:Value):Prop:=
 (env.kindOf x=some .local/\m x=some u)\/((env.kindOf x=some .cell\/env.kindOf x=some .free)/\∃ c,env.cells.lookup x=some c/\h.IsCell c (some u))
structure Cx.Ok (X:Cx):Prop where
 mod:Mod X.K X.mg X.base
 kind:X.env.scope.kind=.function
 glob:X.env.globals=mainGlobals
 blt:X.env.builtins=builtinsNs
 above:X.s₀.heap.objs.size<=X.env.locals
 inj:∀ x y c,X.env.cells.lookup x=some c->X.env.cells.lookup y=some c->x=y
 has:∀ x,(X.env.kindOf x=some .cell\/X.env.kindOf x=some .free)->∃ c,X.env.cells.lookup x=some c
 cab:∀ x c,X.fn x=true->X.env.cells.lookup x=some c->X.s₀.heap.objs.size<=c
 hd:X.calm=true->X.A.handled=none
 frames:X.A.frames=some X.stack
 stk:X.stack=X.outer\/(X.stack=X.env :: X.outer/\X.env.frame=some X.env.locals)
 exf:∀ b ∈ X.ex,b ≠ X.env.locals/\∀ x c,X.env.cells.lookup x=some c->c ≠ b
 bs:∀ b o,X.base.get? b=some o->X.s₀.heap.get? b=some o/\X.H₀ b=none
 bsz:X.base.objs.size<=X.s₀.heap.objs.size
 noex:∀ b o,X.base.get? b=some o->b ∉ X.ex
 exfs:∀ b ∈ X.ex,b ∉ X.fs
 funs:X.s₀.heap.FunFrames X.base X.outer
 frf:∀ b ∈ X.fs,X.H₀ b=none
structure Inv (X:Cx) (pins:List (Addr×Obj)) (σ:List (Option V)) (H:Hp) (s:Shared):Prop where
 ok:X.Ok
 os:s.os=X.s₀.os
 bare:AllBare s.gens
 base:Un X.fs X.ex X.H₀ H X.s₀.heap s.heap
 loc:∃ m,s.heap.Ns X.env.locals m/\∀ (i:Nat) (x:Str) (v:V),X.N[i]?=some x->σ[i]?=some (some v)->Vis X.env.scope x->∃ u,RelV v u/\Bu X.env s.heap m x u
 cell:∀ x c,X.env.cells.lookup x=some c->∃ v,s.heap.IsCell c v
 free:H X.env.locals=none
 freeC:∀ x c,X.env.cells.lookup x=some c->H c=none
 pin:∀ p ∈ X.pn++pins,s.heap.get? p.1=some p.2/\H p.1=none/\p.1 ≠ X.env.locals/\p.1 ∉ X.fs/\∀ v,p.2.data ≠ .cell v
 hok:HOk X.prog X.w H s.heap
 len:σ.length=X.N.length
section
variable {X:Cx}{pins:List (Addr×Obj)}{σ:List (Option V)}{H H':Hp}{s:Shared}{h':Heap}
theorem Cx.Ok.nofr (ok:X.Ok) {b:Addr}{o:Obj} (e:X.base.get? b=some o):b ∉ X.fs:=λhb=>by
 have:=(ok.funs.mem hb).1
 rw[e] at this;cases this
theorem Inv.bs (I:Inv X pins σ H s):∀ b o,X.base.get? b=some o->s.heap.get? b=some o/\H b=none:=λb o e=>
 ⟨I.base.keep b o (I.ok.bs b o e).1 (I.ok.bs b o e).2 (I.ok.nofr e) (I.ok.noex b o e),I.base.free b o (I.ok.bs b o e).1 (I.ok.bs b o e).2 (I.ok.noex b o e)⟩
theorem Inv.bk (I:Inv X pins σ H s):∀ b o,X.base.get? b=some o->s.heap.get? b=some o:=λb o e=>(I.bs b o e).1
theorem Inv.mod (I:Inv X pins σ H s):Mod X.K X.mg X.base:=I.ok.mod
theorem Inv.kIn (I:Inv X pins σ H s):X.K.In s.heap:=I.ok.mod.kin.keeps I.bk
theorem Inv.lt (I:Inv X pins σ H s):X.env.locals < s.heap.objs.size:=let ⟨_,hn,_⟩:=I.loc;hn.lt
theorem Inv.sz (I:Inv X pins σ H s):X.s₀.heap.objs.size<=s.heap.objs.size:=Nat.le_trans I.ok.above (Nat.le_of_lt I.lt)
theorem Inv.nofs (I:Inv X pins σ H s) {a:Addr} (h:s.heap.objs.size<=a):a ∉ X.fs:=λhb=>by
 obtain⟨_,o,ho,_⟩:=I.ok.funs.mem hb
 exact absurd (Nat.lt_of_lt_of_le (Heap.lt_size ho) (Nat.le_trans I.sz h)) (Nat.lt_irrefl _)
theorem Inv.cne (I:Inv X pins σ H s):∀ x c,X.env.cells.lookup x=some c->c ≠ X.env.locals:=λx c e z=>by
 obtain⟨v,o,ho,hd⟩:=I.cell x c e
 obtain⟨m,⟨o',es,ep,ho',hd',_⟩,_⟩:=I.loc
 rw[z,ho'] at ho;cases ho;rw[hd'] at hd;cases hd
theorem Inv.funs (I:Inv X pins σ H s):s.heap.FunFrames X.base X.outer:=by
 have all:∀ (l:List Env),(∀ b ∈ frs l,b ∈ X.fs)->X.s₀.heap.FunFrames X.base l->s.heap.FunFrames X.base l:=by
  intro l
  induction l with
  | nil=>intro _ _;trivial
  |
   cons env r ih=>
   intro hs hl
   obtain⟨hk,⟨L,o,hf,hn,ho,hd⟩,hr⟩:=hl
   have hL:L ∈ X.fs:=hs L (by unfold frs;rw[List.filterMap_cons,hf];exact List.mem_cons_self)
   obtain⟨sl,e⟩:=I.base.slot L o ho (I.ok.frf L hL) hL λz=>I.ok.exfs L z hL
   exact⟨hk,⟨L,_,hf,hn,e,hd⟩,ih (λb hb=>hs b (by unfold frs;rw[List.filterMap_cons,hf];exact List.mem_cons_of_mem _ hb)) hr⟩
 exact all X.outer (λ_ hb=>hb) I.ok.funs
theorem Inv.stack (I:Inv X pins σ H s):s.heap.FunFrames X.base X.stack:=by
 rcases I.ok.stk with e | ⟨e,hf⟩
 ·rw[e];exact I.funs
 ·rw[e]
  obtain⟨m,hn,_⟩:=I.loc
  refine .cons (by rw[I.ok.kind];decide) hf hn ?_ I.funs
  exact Heap.get?_none_of_le (Nat.le_trans I.ok.bsz I.ok.above)
theorem Inv.stkSub (I:Inv X pins σ H s):∀ b ∈ frs X.stack,b ∈ X.env.locals :: X.fs:=λb hb=>by
 rcases I.ok.stk with e | ⟨e,hf⟩
 ·rw[e] at hb;exact List.mem_cons_of_mem _ hb
 ·rw[e] at hb
  unfold frs at hb
  rw[List.filterMap_cons,hf] at hb
  exact hb
theorem Inv.stkFree (I:Inv X pins σ H s):∀ b ∈ frs X.stack,H b=none:=λb hb=>by
 rcases List.mem_cons.mp (I.stkSub b hb) with e | hb
 ·rw[e];exact I.free
 ·obtain⟨_,o,ho,_⟩:=I.ok.funs.mem hb
  exact I.base.free b o ho (I.ok.frf b hb) λz=>I.ok.exfs b z hb
theorem Inv.step {g':Array GenState}{t':Nat}{d':Drawn}{ch:List Addr} (I:Inv X pins σ H s)
 (hch:∀ b ∈ ch,(b ∈ X.ex\/X.s₀.heap.objs.size<=b)/\b ≠ X.env.locals/\(∀ x c,X.env.cells.lookup x=some c->c ≠ b)/\∀ p ∈ X.pn++pins,p.1 ≠ b)
 (keep:∀ b o,b ≠ X.env.locals->b ∉ X.fs->b ∉ ch->s.heap.get? b=some o->H b=none->h'.get? b=some o)
 (slot:∀ b o,b ≠ X.env.locals->b ∈ X.fs->b ∉ ch->s.heap.get? b=some o->H b=none->∃ sl,h'.get? b=some { o with slots:=sl }) (free:∀ b o,b ∉ ch->s.heap.get? b=some o->H b=none->H' b=none)
 (there:∀ b o,b ∉ ch->s.heap.get? b=some o->∃ o',h'.get? b=some o')
 (tups:∀ b xs,H b=some (.tup xs)->H' b=some (.tup xs)) (frzs:∀ b o u,H b=some (.frz o u)->H' b=some (.frz o u)) (tbls:∀ b ps,H b=some (.tbl ps)->∃ more,H' b=some (.tbl (ps++more)))
 (ns:∀ m,s.heap.Ns X.env.locals m->h'.Ns X.env.locals m) (hok:HOk X.prog X.w H' h') (hg:AllBare g'):
 Inv X pins σ H' { s with heap:=h',gens:=g',drawn:=d',toks:=t' }:=by
 have neL:∀ b o,X.s₀.heap.get? b=some o->b ≠ X.env.locals:=λb o e=>Nat.ne_of_lt (Nat.lt_of_lt_of_le (Heap.lt_size e) I.ok.above)
 have neC:∀ b o,X.s₀.heap.get? b=some o->b ∉ X.ex->b ∉ ch:=λb o e hx hb=>by
  rcases (hch b hb).1 with z | z
  ·exact hx z
  ·exact absurd (Nat.lt_of_lt_of_le (Heap.lt_size e) z) (Nat.lt_irrefl _)
 have cellK:∀ x c,X.env.cells.lookup x=some c->∀ v,s.heap.IsCell c v->h'.IsCell c v:=λx c e v ⟨o,ho,hd⟩=>by
  have nch:c ∉ ch:=λz=>(hch c z).2.2.1 x c e rfl
  by_cases hc:c ∈ X.fs
  ·obtain⟨sl,q⟩:=slot c o (I.cne x c e) hc nch ho (I.freeC x c e)
   exact⟨_,q,hd⟩
  ·exact⟨o,keep c o (I.cne x c e) hc nch ho (I.freeC x c e),hd⟩
 refine⟨I.ok,I.os,hg,⟨λb o e n hb hx=>?_,λb o e n hb hx=>?_,λb o e n hx=>?_,λb o e hx=>?_,λb xs e=>tups b xs (I.base.tups b xs e),λb o xs e=>frzs b o xs (I.base.frzs b o xs e),λb ps e=>?_⟩,?_,λx c e=>?_,?_,λx c e=>?_,λp hp=>?_,hok,I.len⟩
 ·exact keep b o (neL b o e) hb (neC b o e hx) (I.base.keep b o e n hb hx) (I.base.free b o e n hx)
 ·obtain⟨sl,e1⟩:=I.base.slot b o e n hb hx
  obtain⟨sl',e2⟩:=slot b _ (neL b o e) hb (neC b o e hx) e1 (I.base.free b o e n hx)
  exact⟨sl',e2⟩
 ·obtain⟨o',e1⟩:=I.base.there b o e hx
  exact free b o' (neC b o e hx) e1 (I.base.free b o e n hx)
 ·obtain⟨o',e1⟩:=I.base.there b o e hx
  exact there b o' (neC b o e hx) e1
 ·obtain⟨m1,e1⟩:=I.base.tbls b ps e
  obtain⟨m2,e2⟩:=tbls b _ e1
  exact⟨m1++m2,by rw[e2,Array.append_assoc]⟩
 ·obtain⟨m,hn,hl⟩:=I.loc
  refine⟨m,ns m hn,λi x v e1 e2 e3=>?_⟩
  obtain⟨u,r,l⟩:=hl i x v e1 e2 e3
  refine⟨u,r,?_⟩
  rcases l with l | ⟨k,c,e,z⟩
  ·exact .inl l
  ·exact .inr ⟨k,c,e,cellK x c e _ z⟩
 ·obtain⟨v,z⟩:=I.cell x c e
  exact⟨v,cellK x c e v z⟩
 ·obtain⟨m,⟨o,_,_,ho,_⟩,_⟩:=I.loc
  exact free _ o (λz=>(hch _ z).2.1 rfl) ho I.free
 ·obtain⟨v,o,ho,hd⟩:=I.cell x c e
  exact free c o (λz=>(hch c z).2.2.1 x c e rfl) ho (I.freeC x c e)
 ·obtain⟨e,n,ne,nf,d⟩:=I.pin p hp
  have nch:p.1 ∉ ch:=λz=>(hch p.1 z).2.2.2 p hp rfl
  exact⟨keep p.1 p.2 ne nf nch e n,free p.1 p.2 nch e n,ne,nf,d⟩
theorem Inv.un {t':Nat} (I:Inv X pins σ H s) (u:Un X.fs [] H H' s.heap h') (hok:HOk X.prog X.w H' h'):Inv X pins σ H' { s with heap:=h',toks:=t' }:=by
 obtain⟨m,⟨o,es,ep,ho,r⟩,_⟩:=id I.loc
 obtain⟨sl,hL⟩:=u.any ho I.free (by simp)
 exact I.step (g':=s.gens) (d':=s.drawn) (ch:=[]) (λ_ z=>nomatch z) (λb o _ hb _ e n=>u.keep b o e n hb (by simp)) (λb o _ hb _ e n=>u.slot b o e n hb (by simp)) (λb o _ e n=>u.free b o e n (by simp)) (λb o _ e=>u.there b o e (by simp)) u.tups u.frzs u.tbls (λm' hm=>by
  obtain⟨o',es',ep',ho',r'⟩:=hm
  rw[ho] at ho';cases ho'
  exact⟨_,es',ep',hL,r'⟩) hok I.bare
theorem Inv.call {g':Array GenState}{t':Nat}{d':Drawn}{ch:List Addr} (I:Inv X pins σ H s) (u:Un (frs X.stack) ch H H' s.heap h') (hok:HOk X.prog X.w H' h') (hg:AllBare g')
 (hch:∀ b ∈ ch,(b ∈ X.ex\/X.s₀.heap.objs.size<=b)/\b ≠ X.env.locals/\(∀ x c,X.env.cells.lookup x=some c->c ≠ b)/\∀ p ∈ X.pn++pins,p.1 ≠ b):
 Inv X pins σ H' { s with heap:=h',gens:=g',drawn:=d',toks:=t' }:=by
 obtain⟨m,⟨o,es,ep,ho,r⟩,_⟩:=id I.loc
 obtain⟨sl,hL⟩:=u.any ho I.free λz=>(hch _ z).2.1 rfl
 exact I.step (ch:=ch) hch (λb o hL hb hc e n=>u.keep b o e n (λz=>(List.mem_cons.mp (I.stkSub b z)).elim hL hb) hc) (λb o _ _ hc e n=>u.any e n hc) (λb o hc e n=>u.free b o e n hc) (λb o hc e=>u.there b o e hc) u.tups u.frzs u.tbls (λm' hm=>by
  obtain⟨o',es',ep',ho',r'⟩:=hm
  rw[ho] at ho';cases ho'
  exact⟨_,es',ep',hL,r'⟩) hok hg
theorem Inv.turned {t':Nat}{it:Addr} (I:Inv X pins σ H s) (k:∀ b o,b ≠ it->s.heap.get? b=some o->h'.get? b=some o) (hn:H it=none) (hL:it ≠ X.env.locals)
 (h1:it ∈ X.ex\/X.s₀.heap.objs.size<=it) (h2:∀ x c,X.env.cells.lookup x=some c->c ≠ it) (h3:∀ p ∈ X.pn++pins,p.1 ≠ it):Inv X pins σ H { s with heap:=h',toks:=t' }:=by
 have nit:∀ b u,H b=some u->b ≠ it:=λb u e z=>by rw[z,hn] at e;cases e
 refine I.step (g':=s.gens) (d':=s.drawn) (ch:=[it]) (λb hb=>?_) (λb o _ _ hc e _=>k b o (λz=>hc (by simp [z])) e) (λb o _ _ hc e _=>⟨o.slots,k b o (λz=>hc (by simp [z])) e⟩) (λ_ _ _ _ n=>n)
  (λb o hc e=>⟨o,k b o (λz=>hc (by simp [z])) e⟩) (λ_ _ e=>e) (λ_ _ _ e=>e) (λb ps e=>⟨#[],by rw[e];simp⟩) (λm hm=>?_) (λb u e=>?_) I.bare
 ·have e:b=it:=by simpa using hb
  subst e
  exact⟨h1,hL,h2,h3⟩
 ·obtain⟨o,es,ep,ho,r⟩:=hm
  exact⟨o,es,ep,k _ o (Ne.symm hL) ho,r⟩
 ·refine (I.hok b u e).stay (λc v hc q=>k c v ?_ q) (λ_ q=>q) λ_ _ q=>q
  rcases hc with z | z
  ·rw[z];exact nit b u e
  ·exact nit c _ z
theorem Inv.tok (I:Inv X pins σ H s) (t:Nat):Inv X pins σ H { s with toks:=t }:=I.un (h':=s.heap) (t':=t) Un.refl I.hok
theorem Inv.kept {t':Nat} (I:Inv X pins σ H s) (k:∀ b u,s.heap.get? b=some u->h'.get? b=some u):Inv X pins σ H { s with heap:=h',toks:=t' }:=I.un (Un.kept k) (I.hok.kept k)
theorem Inv.laid {a:Addr}{o:HO}{t':Nat} (I:Inv X pins σ H s) (k:∀ b u,s.heap.get? b=some u->h'.get? b=some u) (hp:s.heap.objs.size<=a) (new:ObjOk X.prog X.w (upd H a o) h' a o):
 Inv X pins σ (upd H a o) { s with heap:=h',toks:=t' }:=I.un (Un.laid k hp (I.hok.fresh hp)) (I.hok.laid k hp new)
theorem Inv.write {x e:Addr}{o:HO}{t':Nat} (I:Inv X pins σ H s) (mu:Mut (H x)) (he:e=x\/H e=some (.own x)) (k:∀ b u,b ≠ e->s.heap.get? b=some u->h'.get? b=some u) (heo:∃ u,h'.get? e=some u)
 (new:ObjOk X.prog X.w (upd H x o) h' x o):Inv X pins σ (upd H x o) { s with heap:=h',toks:=t' }:=I.un (Un.write mu he k heo) (I.hok.write mu he k heo new)
theorem Inv.pins_of {pins':List (Addr×Obj)} (I:Inv X pins σ H s) (h:∀ p ∈ pins',s.heap.get? p.1=some p.2/\H p.1=none/\p.1 ≠ X.env.locals/\p.1 ∉ X.fs/\∀ v,p.2.data ≠ .cell v):Inv X pins' σ H s:=
 ⟨I.ok,I.os,I.bare,I.base,I.loc,I.cell,I.free,I.freeC,λp hp=>(List.mem_append.mp hp).elim (λz=>I.pin p (List.mem_append_left _ z)) (h p),I.hok,I.len⟩
theorem uY {N:List Str} (hN:N.Nodup) {i j:Nat}{x:Str} (a:N[i]?=some x) (b:N[j]?=some x):i=j:=by
 obtain⟨h1,e1⟩:=List.getElem?_eq_some_iff.mp a
 obtain⟨h2,e2⟩:=List.getElem?_eq_some_iff.mp b
 exact (List.getElem_inj hN).mp (e1.trans e2.symm)
theorem sx {M:Model}{A:Around}{E:Value->Shared->Prop}{i:Nat}{x:Str}{v:V}{u:Value}{Q:Unit->Shared->Prop} (I:Inv X pins σ H s) (hN:X.N.Nodup) (hi:X.N[i]?=some x) (hx:Loc X.env.scope x) (r:RelV v u)
 (h:∀ s',Inv X pins (σ.set i (some v)) H s'->(∃ a,Heap.SameBut a s.heap s'.heap/\(a=X.env.locals\/X.env.cells.lookup x=some a))->Q () s') (hf:X.fn x=true\/X.env.scope.names.lookup x=some .local:=by first | exact .inl rfl | exact .inr rfl | assumption):wpAny M A (storeName X.env x u) Q E s:=by
 obtain⟨m,hn,hl⟩:=id I.loc
 have hcls:(X.env.scope.kind == .class || (X.env.scope.kind == .module && X.env.locals != X.env.globals))=false:=by rw[I.ok.kind];rfl
 have hiσ:i < σ.length:=by rw[I.len];exact (List.getElem?_eq_some_iff.mp hi).1
 have cne:=I.cne
 have tracked:∀ {a:Addr}{h':Heap},(∃ o,s.heap.get? a=some o/\H a=none)->Heap.SameBut a s.heap h'->HOk X.prog X.w H h':=λ{a h'} ha hs b ob e=>by
  obtain⟨_,_,hfree⟩:=ha
  refine (I.hok b ob e).stay (λc w' hc q=>(hs.2 c ?_).trans q) (λ_ q=>q) λ_ _ q=>q
  rintro rfl
  rcases hc with rfl | hc
  ·rw[hfree] at e;cases e
  ·rw[hfree] at hc;cases hc
 rcases hx with hk | hk
 ·refine wpAny_storeName_local hk hn (λh' hn' hs=>?_) hcls
  obtain⟨oL,_,_,hoL,_⟩:=id hn
  refine h _ ⟨I.ok,I.os,I.bare,⟨λb o e n hb hx=>?_,λb o e n hb hx=>?_,I.base.free,λb o e hx=>?_,I.base.tups,I.base.frzs,I.base.tbls⟩,⟨_,hn',λj y v' e1 e2 e3=>?_⟩,λy c e=>?_,I.free,I.freeC,λp hp=>?_,tracked ⟨oL,hoL,I.free⟩ hs,by simpa using I.len⟩ ⟨_,hs,.inl rfl⟩
  ·exact (hs.2 b (Nat.ne_of_lt (Nat.lt_of_lt_of_le (Heap.lt_size e) I.ok.above))).trans (I.base.keep b o e n hb hx)
  ·obtain⟨sl,e1⟩:=I.base.slot b o e n hb hx
   exact⟨sl,(hs.2 b (Nat.ne_of_lt (Nat.lt_of_lt_of_le (Heap.lt_size e) I.ok.above))).trans e1⟩
  ·obtain⟨o',e1⟩:=I.base.there b o e hx
   exact⟨o',(hs.2 b (Nat.ne_of_lt (Nat.lt_of_lt_of_le (Heap.lt_size e) I.ok.above))).trans e1⟩
  ·by_cases hj:j=i
   ·subst hj
    rw[hi] at e1;cases e1
    rw[List.getElem?_set_self hiσ] at e2
    cases e2
    exact⟨u,r,.inl ⟨hk,by simp⟩⟩
   ·rw[List.getElem?_set_ne (Ne.symm hj)] at e2
    obtain⟨u',r',q⟩:=hl j y v' e1 e2 e3
    refine⟨u',r',?_⟩
    rcases q with ⟨k,e⟩ | ⟨k,c,e,z⟩
    ·refine .inl ⟨k,?_⟩
     have:y ≠ x:=λe=>hj (uY hN e1 (e ▸ hi))
     simp [this,e]
    ·exact .inr ⟨k,c,e,z.sameBut hs (cne y c e)⟩
  ·obtain⟨w',z⟩:=I.cell y c e
   exact⟨w',z.sameBut hs (cne y c e)⟩
  ·obtain⟨e,n,ne,nf,d⟩:=I.pin p hp
   exact⟨(hs.2 p.1 ne).trans e,n,ne,nf,d⟩
 ·have hfn:X.fn x=true:=by
   rcases hf with z | z
   ·exact z
   ·rw[z] at hk;cases hk
  obtain⟨c,hc⟩:=I.ok.has x (.inl hk)
  obtain⟨w',z⟩:=I.cell x c hc
  refine wpAny_storeName_cell I.ok.kind hk hc z (λh' hc' hs=>?_)
  obtain⟨oc,hoc,hocd⟩:=id z
  refine h { s with heap:=h' } ⟨I.ok,I.os,I.bare,⟨λb o e n hb hx=>?_,λb o e n hb hx=>?_,I.base.free,λb o e hx=>?_,I.base.tups,I.base.frzs,I.base.tbls⟩,⟨m,hn.sameBut hs (Ne.symm (cne x c hc)),λj y v' e1 e2 e3=>?_⟩,λy c' e=>?_,I.free,I.freeC,λp hp=>?_,tracked ⟨oc,hoc,I.freeC x c hc⟩ hs,by simpa using I.len⟩ ⟨c,hs,.inr hc⟩
  ·exact (hs.2 b (Nat.ne_of_lt (Nat.lt_of_lt_of_le (Heap.lt_size e) (I.ok.cab x c hfn hc)))).trans (I.base.keep b o e n hb hx)
  ·obtain⟨sl,e1⟩:=I.base.slot b o e n hb hx
   exact⟨sl,(hs.2 b (Nat.ne_of_lt (Nat.lt_of_lt_of_le (Heap.lt_size e) (I.ok.cab x c hfn hc)))).trans e1⟩
  ·obtain⟨o',e1⟩:=I.base.there b o e hx
   exact⟨o',(hs.2 b (Nat.ne_of_lt (Nat.lt_of_lt_of_le (Heap.lt_size e) (I.ok.cab x c hfn hc)))).trans e1⟩
  ·by_cases hj:j=i
   ·subst hj
    rw[hi] at e1;cases e1
    rw[List.getElem?_set_self hiσ] at e2
    cases e2
    exact⟨u,r,.inr ⟨.inl hk,c,hc,hc'⟩⟩
   ·rw[List.getElem?_set_ne (Ne.symm hj)] at e2
    obtain⟨u',r',q⟩:=hl j y v' e1 e2 e3
    refine⟨u',r',?_⟩
    rcases q with q | ⟨k,c',e,z'⟩
    ·exact .inl q
    ·refine .inr ⟨k,c',e,z'.sameBut hs ?_⟩
     rintro rfl
     exact hj (uY hN e1 (I.ok.inj _ _ _ e hc ▸ hi))
  ·by_cases hcc:c'=c
   ·subst hcc;exact⟨_,hc'⟩
   ·obtain⟨w2,z2⟩:=I.cell y c' e
    exact⟨w2,z2.sameBut hs hcc⟩
  ·obtain⟨e,n,ne,nf,d⟩:=I.pin p hp
   refine⟨(hs.2 p.1 ?_).trans e,n,ne,nf,d⟩
   intro q
   rw[q,hoc] at e
   have q':oc=p.2:=Option.some.inj e
   exact d w' (by rw[<- q'];exact hocd)
theorem jA {M:Model}{A:Around}{E:Value->Shared->Prop}{i:Nat}{x:Str}{v:V}{u:Value}{Q:Unit->Shared->Prop} (I:Inv X pins σ H s) (hN:X.N.Nodup) (hi:X.N[i]?=some x) (hx:Loc X.env.scope x) (r:RelV v u)
 (h:∀ s',Inv X pins (σ.set i (some v)) H s'->Q () s') (hf:X.fn x=true\/X.env.scope.names.lookup x=some .local:=by first | exact .inl rfl | exact .inr rfl | assumption):wpAny M A (storeName X.env x u) Q E s:=
 sx I hN hi hx r (λs' I' _=>h s' I') hf
theorem Inv.call' {s':Shared}{ch:List Addr} (I:Inv X pins σ H s) (ho:s'.os=s.os) (u:Un (frs X.stack) ch H H' s.heap s'.heap) (hok:HOk X.prog X.w H' s'.heap) (hg:AllBare s'.gens)
 (hch:∀ b ∈ ch,(b ∈ X.ex\/X.s₀.heap.objs.size<=b)/\b ≠ X.env.locals/\(∀ x c,X.env.cells.lookup x=some c->c ≠ b)/\∀ p ∈ X.pn++pins,p.1 ≠ b):Inv X pins σ H' s':=by
 obtain⟨h',g',d',t',o'⟩:=s'
 have e:o'=s.os:=ho
 subst e
 exact I.call (g':=g') (t':=t') (d':=d') u hok hg hch
end
abbrev XK:=Value->Option Addr->Hp->Prop
abbrev St:=List (Option V)
abbrev VK:=V->Hp->Prop
abbrev TE:=St->Hp->VK->Prop
abbrev TT:=St->Hp->(Bool->Hp->Prop)->Prop
abbrev TA:=St->Hp->(List V->Hp->Prop)->Prop
structure Ends where
 nx:St->Hp->Prop
 rt:VK
 bk:St->Hp->Prop:=λ_ _=>False
 ct:St->Hp->Prop:=λ_ _=>False
abbrev TS:=Ends->St->Hp->Prop
def EP (X:Cx) (pins:List (Addr×Obj)) (σ:St) (Q:VK) (u:Value) (s':Shared):Prop:=∃ v H',Inv X pins σ H' s'/\RelV v u/\Q v H'
def TP (X:Cx) (pins:List (Addr×Obj)) (σ:St) (Q:Bool->Hp->Prop) (b:Bool) (s':Shared):Prop:=∃ H',Inv X pins σ H' s'/\Q b H'
def AP (X:Cx) (pins:List (Addr×Obj)) (σ:St) (Q:List V->Hp->Prop) (us:List Value) (s':Shared):Prop:=∃ vs H',Inv X pins σ H' s'/\Vals vs us/\Q vs H'
def SP (X:Cx) (pins:List (Addr×Obj)) (D:Ends) (f:Flow) (s':Shared):Prop:=
 match f with
 | .next=>∃ σ' H',Inv X pins σ' H' s'/\D.nx σ' H'
 | .brk=>∃ σ' H',Inv X pins σ' H' s'/\D.bk σ' H'
 | .cont=>∃ σ' H',Inv X pins σ' H' s'/\D.ct σ' H'
 | .ret u=>∃ v σ' H',Inv X pins σ' H' s'/\RelV v u/\D.rt v H'
def PE (X:Cx) (e:Expr) (t:TE):Prop:=
 ∀ (pins:List (Addr×Obj)) (s:Shared) (σ:St) (H:Hp) (Q:VK),Inv X pins σ H s->t σ H Q->wpAny (model X.prog X.w) X.A (eval e X.env) (EP X pins σ Q) X.xe s
def PT (X:Cx) (e:Expr) (t:TT):Prop:=
 ∀ (pins:List (Addr×Obj)) (s:Shared) (σ:St) (H:Hp) (Q:Bool->Hp->Prop),Inv X pins σ H s->t σ H Q->wpAny (model X.prog X.w) X.A (isTrue e X.env (eval e X.env)) (TP X pins σ Q) X.xe s
def PW (X:Cx) (e:Expr) (t:TT):Prop:=
 ∀ (tz:Sem Value) (pins:List (Addr×Obj)) (s:Shared) (σ:St) (H:Hp) (Q:Bool->Hp->Prop),Inv X pins σ H s->t σ H Q->wpAny (model X.prog X.w) X.A (isTrue e X.env tz) (TP X pins σ Q) X.xe s
theorem PW.pt {X:Cx}{e:Expr}{t:TT} (h:PW X e t):PT X e t:=h _
def PA (X:Cx) (es:List Expr) (t:TA):Prop:=
 ∀ (pos:Pos) (pins:List (Addr×Obj)) (s:Shared) (σ:St) (H:Hp) (Q:List V->Hp->Prop),Inv X pins σ H s->t σ H Q->wpAny (model X.prog X.w) X.A (spliced (backTo pos (starEach es X.env))) (AP X pins σ Q) X.xe s
def PS (X:Cx) (st:Stmt) (t:TS):Prop:=
 ∀ (pins:List (Addr×Obj)) (s:Shared) (σ:St) (H:Hp) (D:Ends),Inv X pins σ H s->t D σ H->wpAny (model X.prog X.w) X.A (exec st X.env) (SP X pins D) X.xe s
def PSs (X:Cx) (st:List Stmt) (t:TS):Prop:=
 ∀ (pins:List (Addr×Obj)) (s:Shared) (σ:St) (H:Hp) (D:Ends),Inv X pins σ H s->t D σ H->wpAny (model X.prog X.w) X.A (execs st X.env) (SP X pins D) X.xe s
theorem thn {α:Type}{t:Sem α}{Q Q':α->Shared->Prop}{M:Model}{A:Around}{E:Value->Shared->Prop}{s:Shared} (h:wpAny M A t Q E s) (hQ:∀ a s,Q a s->Q' a s):wpAny M A t Q' E s:=wpAny_mono h hQ λ_ _ x=>x
end L2
namespace L2
open PySem PySem.Spec PyProof.Rows
section
variable {X:Cx}
def tVar (i:Nat):TE:=λσ H Q=>∃ v,σ[i]?=some (some v)/\Q v H
def tC (v:V):TE:=λ_ H Q=>Q v H
theorem Hf {i:Nat}{x:Str}{pos:Pos} (hN:X.N[i]?=some x) (hv:Vis X.env.scope x) (hd:(x == ("__debug__" : Str))=false:=by decide) (hcd:(x == ("__classdict__" : Str))=false:=by decide):PE X (.Name x pos) (tVar i):=by
 intro pins s σ H Q I h
 obtain⟨v,e,h⟩:=h
 obtain⟨m,hn,hl⟩:=I.loc
 obtain⟨u,r,l⟩:=hl i x v hN e hv
 have fin:EP X pins σ Q u s:=⟨v,H,I,r,h⟩
 rcases l with ⟨hk,hm⟩ | ⟨hk,c,hc,hcell⟩
 ·exact wpAny_Name (wpAny_loadName_local I.ok.kind hk hn hm fin) hd
 ·rcases hk with hk | hk
  ·exact wpAny_Name (wpAny_loadName_cell I.ok.kind hk hc hcell fin) hd
  ·exact wpAny_Name (wpAny_loadName_free I.ok.kind hk hc hcell fin hcd) hd
theorem HL {i j pos}:PE X (.Constant (.int i) j pos) (tC (.int i)):=λ_ _ _ H _ I h=>wpAny_Constant_int ⟨.int i,H,I.tok _,⟨_,rfl⟩,h⟩
theorem Lk {b j pos}:PE X (.Constant (.bool b) j pos) (tC (.bl b)):=λ_ _ _ H _ I h=>Constant_bool ⟨.bl b,H,I,rfl,h⟩
theorem HK {j pos}:PE X (.Constant .none j pos) (tC .non):=λ_ _ _ H _ I h=>Constant_none ⟨.non,H,I,rfl,h⟩
theorem Bk {x j pos}:PE X (.Constant (.str x) j pos) (tC (.str x)):=λ_ _ _ H _ I h=>Calls.Constant_str ⟨.str x,H,I.tok _,⟨_,rfl⟩,h⟩
def Gl (X:Cx) (x:Str):Prop:=X.env.kindOf x=some .globalImplicit
theorem qu {E:Value->Shared->Prop}{pins:List (Addr×Obj)}{s:Shared}{σ:St}{H:Hp}{x:Str}{u:Value}{pos:Pos}{Q:Value->Shared->Prop} (I:Inv X pins σ H s) (hg:Gl X x) (hm:X.mg x=some u) (h:Q u s)
 (hd:(x == ("__debug__" : Str))=false:=by decide):wpAny (model X.prog X.w) X.A (eval (.Name x pos) X.env) Q E s:=
 Calls.Name_function_global I.ok.kind hg (Calls.loadGlobal_global (by rw[I.ok.glob];exact I.mod.glob.keeps I.bk) hm h) hd
theorem iS {E:Value->Shared->Prop}{pins:List (Addr×Obj)}{s:Shared}{σ:St}{H:Hp}{x:Str}{u:Value}{pos:Pos}{Q:Value->Shared->Prop} (I:Inv X pins σ H s) (hg:Gl X x) (hm:X.mg x=none) (hv:bootBuiltins x=some u) (h:Q u s)
 (hn:x ≠ "__name__" := by decide) (hd:(x == ("__debug__" : Str))=false:=by decide):wpAny (model X.prog X.w) X.A (eval (.Name x pos) X.env) Q E s:=by
 obtain⟨mb,h1,h2⟩:=I.mod.blt
 exact Calls.Name_function_global I.ok.kind hg (Calls.loadGlobal_builtin (by rw[I.ok.glob];exact I.mod.glob.keeps I.bk) hm (by rw[I.ok.blt];exact h1.keeps I.bk) ((h2 x hn).trans hv) h) hd
theorem xy {x:Str}{v:V}{u:Value}{pos:Pos} (hg:Gl X x) (hm:X.mg x=some u) (r:RelV v u) (hd:(x == ("__debug__" : Str))=false:=by decide):PE X (.Name x pos) (tC v):=
 λ_ _ _ H _ I h=>qu I hg hm ⟨v,H,I,r,h⟩ hd
theorem EG {x:Str}{v:V}{u:Value}{pos:Pos} (hg:Gl X x) (hm:X.mg x=none) (hv:bootBuiltins x=some u) (r:RelV v u) (hn:x ≠ "__name__" := by decide) (hd:(x == ("__debug__" : Str))=false:=by decide):PE X (.Name x pos) (tC v):=
 λ_ _ _ H _ I h=>iS I hg hm hv ⟨v,H,I,r,h⟩ hn hd
variable {a b:Expr}{ta tb:TE}{pos:Pos}
def tB (t:TE):TT:=λσ H Q=>t σ H λx H1=>∃ c,x=.bl c/\Q c H1
theorem GQ {e:Expr}{t:TE} (h:PE X e t) (he:∀ tz,isTrue e X.env tz=(do let v <- tz;standAt e.pos;holding [v] (truthy v)):=by intro _;rfl):PT X e (tB t):=by
 intro pins s σ H Q I hw
 refine isTrue_plain (thn (h pins s σ H _ I hw) λv s1 ⟨x,H1,I1,r1,q1⟩=>?_) (he _)
 obtain⟨d,rfl,q⟩:=q1
 cases r1
 exact wpAny_truthy_bool ⟨H1,I1,q⟩
variable {tA tB':TT}{rest:List Expr}
def tAnd (t u:TT):TT:=λσ H Q=>t σ H λc H1=>if c=true then u σ H1 Q else Q false H1
def tOr (t u:TT):TT:=λσ H Q=>t σ H λc H1=>if c=true then Q true H1 else u σ H1 Q
def tNot (t:TT):TT:=λσ H Q=>t σ H λc H1=>Q (!c) H1
theorem Fl (ha:PT X a tA):PW X (.BoolOp .And [a] pos) tA:=by
 intro wh pins s σ H Q I h
 refine isTrue_and (thn (ha pins s σ H Q I h) λc s1 e=>?_)
 cases c with
 | true=>exact isTrue_and_nil e
 | false=>exact e
theorem Gx (ha:PT X a tA):PW X (.BoolOp .Or [a] pos) tA:=by
 intro wh pins s σ H Q I h
 refine isTrue_or (thn (ha pins s σ H Q I h) λc s1 e=>?_)
 cases c with
 | false=>exact isTrue_or_nil e
 | true=>exact e
theorem HS (ha:PT X a tA) (hb:PW X (.BoolOp .And (b :: rest) pos) tB'):PW X (.BoolOp .And (a :: b :: rest) pos) (tAnd tA tB'):=by
 intro wh pins s σ H Q I h
 refine isTrue_and (thn (ha pins s σ H _ I h) λc s1 ⟨H1,I1,q1⟩=>?_)
 cases c with
 | true=>exact hb wh pins s1 σ H1 Q I1 q1
 | false=>exact⟨H1,I1,q1⟩
theorem K1 (ha:PT X a tA) (hb:PW X (.BoolOp .Or (b :: rest) pos) tB'):PW X (.BoolOp .Or (a :: b :: rest) pos) (tOr tA tB'):=by
 intro wh pins s σ H Q I h
 refine isTrue_or (thn (ha pins s σ H _ I h) λc s1 ⟨H1,I1,q1⟩=>?_)
 cases c with
 | true=>exact⟨H1,I1,q1⟩
 | false=>exact hb wh pins s1 σ H1 Q I1 q1
theorem Hj (ha:PT X a tA):PT X (.UnaryOp .Not a pos) (tNot tA):=by
 intro pins s σ H Q I h
 exact isTrue_not (ha pins s σ H (λc H1=>Q (!c) H1) I h)
def KY (ta tb:TE):TE:=λσ H Q=>ta σ H λx H1=>∃ c,x=.bl c/\if c=true then tb σ H1 Q else Q (.bl false) H1
def tOrV (ta tb:TE):TE:=λσ H Q=>ta σ H λx H1=>∃ c,x=.bl c/\if c=true then Q (.bl true) H1 else tb σ H1 Q
def Ma (ta:TE):TE:=λσ H Q=>ta σ H λx H1=>∃ c,x=.bl c/\Q (.bl (!c)) H1
theorem HA {op}{t:TE} (h:PE X a t):PE X (.BoolOp op [a] pos) t:=λpins s σ H Q I hw=>BoolOp_one (h pins s σ H Q I hw)
theorem Ic (ha:PE X a ta) (hb:PE X (.BoolOp .And (b :: rest) pos) tb):PE X (.BoolOp .And (a :: b :: rest) pos) (KY ta tb):=by
 intro pins s σ H Q I h
 refine BoolOp_and (thn (ha pins s σ H _ I h) λv s1 ⟨x,H1,I1,r1,q1⟩=>?_)
 obtain⟨c,rfl,q1⟩:=q1
 cases r1
 refine wpAny_truthy_bool ?_
 cases c with
 | true=>exact hb pins s1 σ H1 Q I1 q1
 | false=>exact⟨.bl false,H1,I1,rfl,q1⟩
theorem Mz (ha:PE X a ta) (hb:PE X (.BoolOp .Or (b :: rest) pos) tb):PE X (.BoolOp .Or (a :: b :: rest) pos) (tOrV ta tb):=by
 intro pins s σ H Q I h
 refine BoolOp_or (thn (ha pins s σ H _ I h) λv s1 ⟨x,H1,I1,r1,q1⟩=>?_)
 obtain⟨c,rfl,q1⟩:=q1
 cases r1
 refine wpAny_truthy_bool ?_
 cases c with
 | false=>exact hb pins s1 σ H1 Q I1 q1
 | true=>exact⟨.bl true,H1,I1,rfl,q1⟩
theorem G4 (ha:PE X a ta):PE X (.UnaryOp .Not a pos) (Ma ta):=by
 intro pins s σ H Q I h
 refine UnaryOp_ (thn (ha pins s σ H _ I h) λv s1 ⟨x,H1,I1,r1,q1⟩=>?_)
 obtain⟨c,rfl,q1⟩:=q1
 cases r1
 exact not_of (wpAny_truthy_bool ⟨.bl (!c),H1,I1,rfl,q1⟩)
end
end L2
namespace L2
open PySem PySem.Spec PyProof.Rows
def SqL (K:W.Frag) (H:Hp) (a:Addr) (xs:List V):Prop:=
 Rd H a (.lst xs)\/
  ∃ (o:Obj) (its:Array Value) (n:Nat),K.lookup a=some o/\o.cls=.type "list" /\ o.dict=none/\o.data=.seq its n/\its.size<=sizeLine/\Vals xs its.toList
def SqT (K:W.Frag) (H:Hp) (a:Addr) (xs:List V):Prop:=
 Rd H a (.tup xs)\/
  ∃ (o:Obj) (its:Array Value) (n:Nat),K.lookup a=some o/\o.cls=.type "tuple" /\ o.data=.seq its n/\its.size<=sizeLine/\Vals xs its.toList
def absV:Value->Option V
 | .none=>some .non
 | .bool b=>some (.bl b)
 | .int i _=>some (.int i)
 | .str x _=>some (.str x)
 | .bytes b _=>some (.byt b)
 | .float b _=>some (.flt b)
 | .ref a=>some (.ref a)
 | .type n=>some (.ty n)
 | _=>none
theorem RelV.abs {x:V}{u:Value} (r:RelV x u):absV u=some x:=by
 cases x with
 | non=>cases r;rfl
 | bl _=>cases r;rfl
 | int _=>obtain⟨t,rfl⟩:=r;rfl
 | str _=>obtain⟨t,rfl⟩:=r;rfl
 | byt _=>obtain⟨t,rfl⟩:=r;rfl
 | flt _=>obtain⟨t,rfl⟩:=r;rfl
 | ref _=>cases r;rfl
 | ty _=>cases r;rfl
theorem RelV.inj {x y:V}{u:Value} (r:RelV x u) (q:RelV y u):x=y:=Option.some.inj (r.abs.symm.trans q.abs)
theorem Vals.inj {xs ys:List V}{us:List Value} (r:Vals xs us) (q:Vals ys us):xs=ys:=by
 induction r generalizing ys with
 | nil=>cases q;rfl
 |
  cons r t ih=>
  cases q with
  | cons q t'=>rw[r.inj q,ih t']
section
variable {X:Cx}{pins:List (Addr×Obj)}{σ:St}{H:Hp}{s:Shared}{a:Addr}{xs ys:List V}
theorem SqL.of {K:W.Frag} (h:H a=some (.lst xs)):SqL K H a xs:=.inl (.inl h)
theorem SqT.of {K:W.Frag} (h:H a=some (.tup xs)):SqT K H a xs:=.inl (.inl h)
theorem Inv.list (I:Inv X pins σ H s) (h:SqL X.K H a xs):∃ its:List Value,Vals xs its/\PlainL s.heap a its.toArray/\xs.length<=sizeLine:=by
 rcases h with h | ⟨o,its,n,hk,hc,hd,hs,hz,r⟩
 ·obtain⟨z,its,n,r,e⟩:=h.ok I.hok
  exact⟨its,r,⟨_,n,e,rfl,rfl,rfl⟩,z⟩
 ·refine⟨its.toList,r,⟨o,n,I.kIn a o hk,hc,hd,by simpa using hs⟩,?_⟩
  have e:=r.length
  simp only[Array.length_toList] at e
  omega
theorem Inv.tuple (I:Inv X pins σ H s) (h:SqT X.K H a xs):∃ its:List Value,Vals xs its/\IsTup s.heap a its.toArray/\xs.length<=sizeLine:=by
 rcases h with h | ⟨o,its,n,hk,hc,hs,hz,r⟩
 ·obtain⟨z,its,r,p⟩:=h.ok I.hok
  exact⟨its,r,p,z⟩
 ·refine⟨its.toList,r,⟨o,I.kIn a o hk,hc,n,by simpa using hs⟩,?_⟩
  have e:=r.length
  simp only[Array.length_toList] at e
  omega
theorem Inv.list_inj (I:Inv X pins σ H s) (h:SqL X.K H a xs) (h':SqL X.K H a ys):xs=ys:=by
 obtain⟨its,r,⟨o,n,e,_,_,d⟩,_⟩:=I.list h
 obtain⟨its',r',⟨o',n',e',_,_,d'⟩,_⟩:=I.list h'
 rw[e] at e';cases e'
 rw[d] at d'
 injection d' with d1 _
 have:its=its':=by simpa using congrArg Array.toList d1
 subst this
 exact r.inj r'
theorem Inv.tuple_inj (I:Inv X pins σ H s) (h:SqT X.K H a xs) (h':SqT X.K H a ys):xs=ys:=by
 obtain⟨its,r,⟨o,e,_,n,d⟩,_⟩:=I.tuple h
 obtain⟨its',r',⟨o',e',_,n',d'⟩,_⟩:=I.tuple h'
 rw[e] at e';cases e'
 rw[d] at d'
 injection d' with d1 _
 have:its=its':=by simpa using congrArg Array.toList d1
 subst this
 exact r.inj r'
end
section
variable {X:Cx}{pins:List (Addr×Obj)}{σ:St}{H:Hp}{s:Shared}{E:Value->Shared->Prop}
end
section
variable {X:Cx}{st:Stmt}{rest:List Stmt}{t u:TS}{e:Expr}{te:TE}{pos:Pos}
def Ko:TS:=λD σ H=>D.nx σ H
def tSeq (t u:TS):TS:=λD σ H=>t { D with nx:=u D } σ H
theorem Es:PSs X [] Ko:=λ_ _ σ H _ I h=>wpAny_execs_nil ⟨σ,H,I,h⟩
theorem Bt (h1:PS X st t) (h2:PSs X rest u):PSs X (st :: rest) (tSeq t u):=by
 intro pins s σ H D I h
 refine wpAny_execs_cons (thn (h1 pins s σ H { D with nx:=u D } I h) λf s1 q=>?_)
 cases f with
 |
  next=>
  obtain⟨σ',H',I',q⟩:=q
  exact h2 pins s1 σ' H' D I' q
 | ret v=>exact q
 | brk=>exact q
 | cont=>exact q
theorem Ep (h1:PS X st t):PSs X [st] t:=by
 intro pins s σ H D I h
 refine wpAny_execs_cons (thn (h1 pins s σ H D I h) λf s1 q=>?_)
 cases f with
 | next=>exact wpAny_execs_nil q
 | ret v=>exact q
 | brk=>exact q
 | cont=>exact q
def Kr:TS:=λD σ H=>D.ct σ H
theorem we:PS X (.Continue pos) Kr:=λ_ _ σ H _ I h=>wpAny_Continue ⟨σ,H,I,h⟩
theorem Inv.quiet {pins:List (Addr×Obj)}{σ:St}{H:Hp}{s:Shared} (I:Inv X pins σ H s):interactive X.env=false:=by simp [interactive,I.ok.kind]
def KL (te:TE):TS:=λD σ H=>te σ H λ_ H1=>D.nx σ H1
theorem FL (he:PE X e te) (hs:swapsWith e none pos.line X.env=pure false:=by rfl):PS X (.Expr e pos) (KL te):=by
 intro pins s σ H D I h
 exact wpAny_Expr_any (thn (he pins s σ H _ I h) λv s1 ⟨x,H1,I1,r1,q1⟩=>⟨σ,H1,I1,q1⟩) I.quiet hs
def tRet (te:TE):TS:=λD σ H=>te σ H D.rt
theorem JE (he:PE X e te):PS X (.Return (some e) pos) (tRet te):=by
 intro pins s σ H D I h
 exact wpAny_Return_some (thn (he pins s σ H _ I h) λv s1 ⟨x,H1,I1,r1,q1⟩=>⟨x,σ,H1,I1,r1,q1⟩)
def tIfS (c:TT) (t u:TS):TS:=λD σ H=>c σ H λb H1=>if b=true then t D σ H1 else u D σ H1
theorem LK {c:Expr}{a b:List Stmt}{tc:TT} (hc:PT X c tc) (ha:PSs X a t) (hb:PSs X b u):PS X (.If c a b pos) (tIfS tc t u):=by
 intro pins s σ H D I h
 refine wpAny_If (thn (hc pins s σ H _ I h) λd s1 ⟨H1,I1,q1⟩=>?_)
 cases d with
 | true=>exact ha pins s1 σ H1 D I1 q1
 | false=>exact hb pins s1 σ H1 D I1 q1
end
abbrev TG:=V->St->Hp->(St->Hp->Prop)->Prop
abbrev TGs:=List V->St->Hp->(St->Hp->Prop)->Prop
def PG (X:Cx) (target:Expr) (t:TG):Prop:=
 ∀
  (pins:List (Addr×Obj)) (s:Shared) (σ:St) (H:Hp) (v:V) (u:Value) (Q:St->Hp->Prop),Inv X pins σ H s->RelV v u->t v σ H Q->
  wpAny (model X.prog X.w) X.A (assign target X.env u) (λ_ s'=>∃ σ' H',Inv X pins σ' H' s'/\Q σ' H') X.xe s
def PGs (X:Cx) (ts:List Expr) (t:TGs):Prop:=
 ∀
  (pins:List (Addr×Obj)) (s:Shared) (σ:St) (H:Hp) (vs:List V) (us:List Value) (Q:St->Hp->Prop),Inv X pins σ H s->Vals vs us->t vs σ H Q->
  wpAny (model X.prog X.w) X.A (assignInOrder ((assignEach ts X.env).map (·.2)) us) (λ_ s'=>∃ σ' H',Inv X pins σ' H' s'/\Q σ' H') X.xe s
abbrev oT:=V->V->V->Hp->(Hp->Prop)->Prop
def yq (X:Cx) (t:oT):Prop:=
 ∀
  (pins:List (Addr×Obj)) (s:Shared) (σ:St) (H:Hp) (o i v:V) (ov iv u:Value) (Q:Hp->Prop),Inv X pins σ H s->RelV o ov->RelV i iv->RelV v u->t o i v H Q->
  wpAny (model X.prog X.w) X.A (setItem ov iv u) (λ_ s'=>∃ H',Inv X pins σ H' s'/\Q H') X.xe s
abbrev TIp:=V->V->Hp->VK->Prop
def PIp (X:Cx) (op:Operator) (t:TIp):Prop:=
 ∀
  (pins:List (Addr×Obj)) (s:Shared) (σ:St) (H:Hp) (x y:V) (v u:Value) (Q:VK),Inv X pins σ H s->RelV x v->RelV y u->t x y H Q->
  wpAny (model X.prog X.w) X.A (inplaceOp op v u) (EP X pins σ Q) X.xe s
section
variable {X:Cx}{pos:Pos}
def pY (i:Nat):TG:=λv σ H Q=>Q (σ.set i (some v)) H
theorem Fe {i:Nat}{x:Str} (hN:X.N.Nodup) (hi:X.N[i]?=some x) (hx:Loc X.env.scope x) (hf:X.fn x=true\/X.env.scope.names.lookup x=some .local:=by first | exact .inl rfl | exact .inr rfl | assumption):PG X (.Name x pos) (pY i):=by
 intro pins s σ H v u Q I r h
 exact wpAny_assign_Name (jA I hN hi hx r (λs' I'=>⟨_,H,I',h⟩) hf)
def gNil:TGs:=λvs σ H Q=>vs=[]/\Q σ H
def L7 (t:TG) (u:TGs):TGs:=λvs σ H Q=>∃ v r,vs=v :: r/\t v σ H λσ' H'=>u r σ' H' Q
theorem FP:PGs X [] gNil:=by
 intro pins s σ H vs us Q I r h
 obtain⟨e,h⟩:=h
 subst e
 cases r
 exact assignInOrder_nil ⟨σ,H,I,h⟩
theorem BJ {e:Expr}{es:List Expr}{t:TG}{u:TGs} (h1:PG X e t) (h2:PGs X es u)
 (hs:(assignEach (e :: es) X.env).map (·.2)=assign e X.env :: (assignEach es X.env).map (·.2):=by rfl):PGs X (e :: es) (L7 t u):=by
 intro pins s σ H vs us Q I r h
 obtain⟨v,vr,e1,h⟩:=h
 subst e1
 cases r with
 |
  cons r rr=>
  rw[hs]
  refine assignInOrder_cons (thn (h1 pins s σ H _ _ _ I r h) λ_ s1 ⟨σ1,H1,I1,q1⟩=>?_)
  exact h2 pins s1 σ1 H1 _ _ Q I1 rr q1
def gTup (K:W.Frag) (n:Nat) (t:TGs):TG:=λv σ H Q=>∃ a xs,v=.ref a/\SqT K H a xs/\xs.length=n/\t xs σ H Q
theorem zN {es:List Expr}{k:Nat}{t:TGs}{n:Nat} (hc:X.calm=true) (h:PGs X es t)
 (hn:(assignEach es X.env).length=n:=by rfl) (hst:(assignEach es X.env).findIdx? (·.1)=none:=by rfl):PG X (.Tuple es k pos) (gTup X.K n t):=by
 intro pins s σ H v u Q I r hw
 obtain⟨a,xs,e1,hq,hl,hw⟩:=hw
 subst e1
 cases r
 obtain⟨its,rv,ht,hz⟩:=I.tuple hq
 refine assign_Tuple_tuple (I.ok.hd hc) ht (by simp [hn,<- hl,rv.length]) hst λh' hx=>?_
 have I1:Inv X pins σ H { s with heap:=h' }:=I.kept (t':=s.toks) λb o e=>hx b o (Nat.ne_of_lt (Heap.lt_size e)) e
 exact h pins _ σ H xs _ Q I1 (by simpa using rv) hw
def gSub (to ti:TE) (t:oT):TG:=λv σ H Q=>to σ H λo H1=>ti σ H1 λi H2=>t o i v H2 λH3=>Q σ H3
theorem Jv {o i:Expr}{to ti:TE}{t:oT} (ho:PE X o to) (hi:PE X i ti) (hs:yq X t)
 (ha:∀ v,assign (.Subscript o i pos) X.env v=(do
  let ov <- holding [v] (eval o X.env)
  let iv <- holding [v,ov] (eval i X.env)
  standAt pos
  holding [v,ov,iv] (setItem ov iv v)
  release [v,ov,iv] []):=by intro _;rfl):PG X (.Subscript o i pos) (gSub to ti t):=by
 intro pins s σ H v u Q I r h
 rw[ha]
 refine wpAny_bind (wpAny_holding (thn (ho pins s σ H _ I h) λov s1 ⟨x,H1,I1,r1,q1⟩=>?_))
 refine wpAny_bind (wpAny_holding (thn (hi pins s1 σ H1 _ I1 q1) λiv s2 ⟨y,H2,I2,r2,q2⟩=>?_))
 refine wpAny_bind (wpAny_standAt (wpAny_bind (wpAny_holding (thn (hs pins s2 σ H2 x y v ov iv u _ I2 r1 r2 r q2) λ_ s3 ⟨H3,I3,q3⟩=>?_))))
 exact wpAny_release ⟨σ,H3,I3,q3⟩
def vn (te:TE) (g:TG):TS:=λD σ H=>te σ H λx H1=>g x σ H1 D.nx
theorem GF {tg e:Expr}{te:TE}{g:TG} (he:PE X e te) (hg:PG X tg g) (hs:swapsWithSole [tg] e pos.line X.env=pure false:=by rfl) (hw:swappedStores [tg] e X.env=pure none:=by rfl)
 (h1:(assignEach [tg] X.env).map (·.2)=[assign tg X.env]:=by rfl):PS X (.Assign [tg] e pos) (vn te g):=by
 intro pins s σ H D I h
 refine wpAny_Assign_stores (thn (he pins s σ H _ I h) λv s1 ⟨x,H1,I1,r1,q1⟩=>?_) hs hw
 rw[h1]
 exact thn (hg pins s1 σ H1 x v _ I1 r1 q1) λ_ s2 q=>q
theorem IX {i:Nat}{x:Str}{e:Expr}{te:TE}{s_:Pos} (hN:X.N.Nodup) (hi:X.N[i]?=some x) (hx:Loc X.env.scope x) (he:PE X e te) (hs:swapsWith e (some (.Name x s_)) pos.line X.env=pure false:=by rfl) (hf:X.fn x=true\/X.env.scope.names.lookup x=some .local:=by first | exact .inl rfl | exact .inr rfl | assumption):
 PS X (.Assign [.Name x s_] e pos) (vn te (pY i)):=by
 intro pins s σ H D I h
 refine wpAny_Assign_Name (thn (he pins s σ H _ I h) λv s1 ⟨y,H1,I1,r1,q1⟩=>?_) hs
 exact jA I1 hN hi hx r1 (λs2 I2=>⟨_,H1,I2,q1⟩) hf
def tPar (i j:Nat) (ta:TA):TS:=λD σ H=>ta σ H λvs H1=>∃ v w,vs=[v,w]/\D.nx ((σ.set i (some v)).set j (some w)) H1
theorem Hb {i j:Nat}{x y:Str}{a b:Expr}{ta:TA}{px py pt:Pos}{kt k2 pt2} (hc:X.calm=true) (hN:X.N.Nodup) (hi:X.N[i]?=some x) (hj:X.N[j]?=some y) (hij:i ≠ j)
 (hx:X.env.scope.names.lookup x=some .local) (hy:X.env.scope.names.lookup y=some .local) (ha:PA X [a,b] ta)
 (hw:swappedStores [.Tuple [.Name x px,.Name y py] kt pt] (.Tuple [a,b] k2 pt2) X.env=pure (some [x,y]))
 (hs:swapsWithSole [.Tuple [.Name x px,.Name y py] kt pt] (.Tuple [a,b] k2 pt2) pos.line X.env=pure false:=by rfl):
 PS X (.Assign [.Tuple [.Name x px,.Name y py] kt pt] (.Tuple [a,b] k2 pt2) pos) (tPar i j ta):=by
 intro pins s σ H D I h
 rw[exec_Assign_arm]
 refine wpAny_bind (wpAny_standAt ?_)
 rw[hs]
 refine wpAny_bind (wpAny_pure ?_)
 rw[if_neg (by decide)]
 refine wpAny_bind (Tuple_ (thn (ha _ pins s σ H _ I h) λus s1 ⟨vs,H1,I1,r1,q1⟩=>?_))
 obtain⟨v,w,e1,q1⟩:=q1
 subst e1
 obtain⟨u1,u2,rfl,rv,rw'⟩:∃ u1 u2,us=[u1,u2]/\RelV v u1/\RelV w u2:=by
  cases r1 with
  |
   cons p q=>
   cases q with
   |
    cons p' q'=>
    cases q'
    exact⟨_,_,rfl,p,p'⟩
 refine wpAny_newObj_type ?_ (by show 2<=sizeLine;decide)
 have I2:Inv X pins σ H1 { s1 with heap:=s1.heap.push { cls:=.type "tuple",data:=.seq [u1,u2].toArray } }:=I1.kept (t':=s1.toks) λb o e=>Heap.get?_push_of_some _ e
 rw[hw]
 refine wpAny_bind (wpAny_pure ?_)
 show wpAny (model X.prog X.w) X.A (do rule "assign.swapped-stores";let items <- unpackItems (.ref s1.heap.objs.size) 2 none;assignInOrder [λv=>bindName X.env y v,λv=>bindName X.env x v] items.reverse;pure Flow.next) _ _ _
 refine wpAny_bind (wpAny_rule (wpAny_bind (unpackItems_tuple (items:=#[u1,u2]) (I.ok.hd hc) (IsTup.new s1.heap _) λh' hx'=>?_)))
 have I3:=I2.kept (h':=h') (t':=s1.toks) λb o e=>hx' b o (Nat.ne_of_lt (Heap.lt_size e)) e
 show wpAny _ _ (assignInOrder [λv=>bindName X.env y v,λv=>bindName X.env x v] [u2,u1] >>= λ_=>pure Flow.next) _ _ _
 refine wpAny_bind (assignInOrder_cons (wpAny_bindName (jA I3 hN hj (.inl hy) rw' (λs2 I4=>?_) (.inr hy))))
 refine assignInOrder_cons (wpAny_bindName (jA I4 hN hi (.inl hx) rv (λs3 I5=>assignInOrder_nil (wpAny_pure ?_)) (.inr hx)))
 rw[List.set_comm _ _ (Ne.symm hij)] at I5
 exact⟨_,H1,I5,q1⟩
def tAug (i:Nat) (te:TE) (ti:TIp):TS:=λD σ H=>∃ x,σ[i]?=some (some x)/\te σ H λy H1=>ti x y H1 λz H2=>D.nx (σ.set i (some z)) H2
theorem Gv {i:Nat}{x:Str}{e:Expr}{te:TE}{op:Operator}{ti:TIp}{s_:Pos} (hN:X.N.Nodup) (hi:X.N[i]?=some x) (hx:Loc X.env.scope x) (he:PE X e te) (ho:PIp X op ti) (hf:X.fn x=true\/X.env.scope.names.lookup x=some .local:=by first | exact .inl rfl | exact .inr rfl | assumption):
 PS X (.AugAssign (.Name x s_) op e pos) (tAug i te ti):=by
 intro pins s σ H D I h
 obtain⟨v,e1,h⟩:=h
 obtain⟨m,hn,hl⟩:=I.loc
 have vis:Vis X.env.scope x:=by rcases hx with k | k;exact .inl k;exact .inr (.inl k)
 obtain⟨u,r,l⟩:=hl i x v hi e1 vis
 refine wpAny_AugAssign_Name ?_
 have go:wpAny (model X.prog X.w) X.A (eval e X.env) (λw s₂=>wpAny (model X.prog X.w) X.A (inplaceOp op u w) (λr s₃=>wpAny (model X.prog X.w) X.A (storeName X.env x r) (λ_=>SP X pins D .next) X.xe s₃) X.xe s₂) X.xe s:=by
  refine thn (he pins s σ H _ I h) λw s1 ⟨y,H1,I1,r1,q1⟩=>?_
  refine thn (ho pins s1 σ H1 v y u w _ I1 r r1 q1) λz s2 ⟨zv,H2,I2,r2,q2⟩=>?_
  exact jA I2 hN hi hx r2 (λs3 I3=>⟨_,H2,I3,q2⟩) hf
 rcases l with ⟨hk,hm⟩ | ⟨hk,c,hc,hcell⟩
 ·exact wpAny_loadName_local I.ok.kind hk hn hm go
 ·rcases hk with hk | hk
  ·exact wpAny_loadName_cell I.ok.kind hk hc hcell go
  ·rcases hx with k | k
   ·have:X.env.scope.names.lookup x=some .free:=hk
    rw[k] at this;cases this
   ·have:X.env.scope.names.lookup x=some .free:=hk
    rw[k] at this;cases this
def ipI (f:Int->Int->Int):TIp:=λx y H Q=>∃ i j,x=.int i/\y=.int j/\Q (.int (f i j)) H
theorem JZ:PIp X .Add (ipI λi j=>i + j):=by
 intro pins s σ H x y v u Q I r1 r2 h
 obtain⟨i,j,e1,e2,q⟩:=h
 subst e1;subst e2
 obtain⟨t,rfl⟩:=r1
 obtain⟨t',rfl⟩:=r2
 exact iadd_int ⟨.int _,H,I.tok _,⟨_,rfl⟩,q⟩
end
section
variable {X:Cx}{pos:Pos}
def Iq (c:TT) (tb:TS):TS:=λD σ H=>∃ W:Nat->St->Hp->Prop,(∃ m,W m σ H)/\∀ m σ H,W m σ H->
 c σ H λb H1=>if b=true then ∃ N:St->Hp->Prop,(∀ σ' H',N σ' H'->∃ m',m' < m/\W m' σ' H')/\tb { D with nx:=N,ct:=N,bk:=D.nx } σ H1 else D.nx σ H1
theorem Dy {c:Expr}{body:List Stmt}{tc:TT}{tb:TS} (hp:PassesOwn (model X.prog X.w) X.A X.env X.xe) (hc:PT X c tc) (hb:PSs X body tb):PS X (.While c body [] pos) (Iq tc tb):=by
 intro pins s σ H D I h
 obtain⟨W,⟨m0,w0⟩,turn⟩:=h
 refine wpAny_While (codeAny_whileLoop (λn s'=>∃ σ' H',Inv X pins σ' H' s'/\W n σ' H') ?_ m0 ⟨σ,H,I,w0⟩)
 rintro n s1 ⟨σ1,H1,I1,w1⟩
 refine wpAny_passesOwn hp (thn (hc pins s1 σ1 H1 _ I1 (turn n σ1 H1 w1)) λb s2 ⟨H2,I2,q2⟩=>?_)
 cases b with
 |
  true=>
  obtain⟨N,hN,q2⟩:=q2
  rw[if_pos rfl]
  refine wpAny_passesOwn hp (thn (hb pins s2 σ1 H2 _ I2 q2) λf s3 q3=>?_)
  cases f with
  |
   next=>
   obtain⟨σ3,H3,I3,n3⟩:=q3
   obtain⟨m',hm,w3⟩:=hN σ3 H3 n3
   exact⟨m',hm,σ3,H3,I3,w3⟩
  |
   cont=>
   obtain⟨σ3,H3,I3,n3⟩:=q3
   obtain⟨m',hm,w3⟩:=hN σ3 H3 n3
   exact⟨m',hm,σ3,H3,I3,w3⟩
  | brk=>exact q3
  | ret v=>exact q3
 |
  false=>
  rw[if_neg Bool.false_ne_true]
  exact wpAny_execs_nil ⟨σ1,H2,I2,q2⟩
end
structure It where
 go:Nat->Hp->Prop
 yld:Nat->Hp->V->Hp->Prop
 stop:Nat->Hp->Prop
def FpOk (X:Cx) (pins:List (Addr×Obj)) (H:Hp) (b:Addr):Prop:=
 H b=none/\b ≠ X.env.locals/\b ∉ X.fs/\(b ∈ X.ex\/X.s₀.heap.objs.size<=b)/\(∀ x c,X.env.cells.lookup x=some c->c ≠ b)/\∀ p ∈ X.pn++pins,p.1 ≠ b
theorem Inv.fpOk {X:Cx}{pins:List (Addr×Obj)}{σ:St}{H H':Hp}{s:Shared}{b:Addr} (I:Inv X pins σ H s) (hb:s.heap.objs.size<=b) (hn:H' b=none):FpOk X pins H' b:=by
 refine⟨hn,Nat.ne_of_gt (Nat.lt_of_lt_of_le I.lt hb),I.nofs hb,.inr (Nat.le_trans I.sz hb),λx c e z=>?_,λp hp z=>?_⟩
 ·obtain⟨v,q⟩:=I.cell x c e
  exact absurd (Nat.lt_of_lt_of_le q.lt (by rw[z];exact hb)) (Nat.lt_irrefl _)
 ·exact absurd (Nat.lt_of_lt_of_le (Heap.lt_size (I.pin p hp).1) (by rw[z];exact hb)) (Nat.lt_irrefl _)
structure Turn (P:Program) (w:World) (K:W.Frag) (tg:Expr) (J:It) (fp:List Addr) (it:Addr) (tn:Nat->Heap->Prop):Prop where
 mem:it ∈ fp
 obj:∀ i h,tn i h->∀ b ∈ fp,∃ o,h.get? b=some o/\∀ v,o.data ≠ .cell v
 keep:∀ i h h',tn i h->(∀ b ∈ fp,∀ o,h.get? b=some o->h'.get? b=some o)->tn i h'
 item:∀ (X:Cx),X.prog=P->X.w=w->X.K=K->X.calm=true->∀ (i:Nat) (pins:List (Addr×Obj)) (s:Shared) (σ:St) (H:Hp) (E:Value->Shared->Prop),Inv X pins σ H s->(∀ b ∈ fp,FpOk X pins H b)->tn i s.heap->J.go i H->
  wpAny (model P w) X.A (pyNext (.ref it)) (λr s1=>∃ u,r=some u/\
   wpAny (model P w) X.A (letOwnedTupleGo tg (.ref it) u) (λ_ s2=>∃ x H',Inv X pins σ H' s2/\RelV x u/\J.yld i H x H'/\tn (i + 1) s2.heap/\∀ b ∈ fp,H' b=none) E s1) E s
 done:∀ (X:Cx),X.prog=P->X.w=w->X.K=K->X.calm=true->∀ (i:Nat) (pins:List (Addr×Obj)) (s:Shared) (σ:St) (H:Hp) (E:Value->Shared->Prop),Inv X pins σ H s->(∀ b ∈ fp,FpOk X pins H b)->tn i s.heap->J.stop i H->
  wpAny (model P w) X.A (pyNext (.ref it)) (λr s1=>r=none/\Inv X pins σ H s1) E s
 self:∀ (A:Around) (i:Nat) (s:Shared) (Q:Value->Shared->Prop) (E:Value->Shared->Prop),tn i s.heap->Q (.ref it) s->wpAny (model P w) A (pyIter (.ref it)) Q E s
abbrev TI:=St->Hp->(It->Hp->Prop)->Prop
def PIE (X:Cx) (pins:List (Addr×Obj)) (σ:St) (tg:Expr) (R:It->Hp->Prop) (itv:Value) (s2:Shared):Prop:=
 ∃ (it:Addr) (fp:List Addr) (tn:Nat->Heap->Prop) (J:It) (H':Hp),itv=.ref it/\Inv X pins σ H' s2/\Turn X.prog X.w X.K tg J fp it tn/\tn 0 s2.heap/\(∀ b ∈ fp,FpOk X pins H' b)/\R J H'
def PI (X:Cx) (tg al:Expr) (wi:TI):Prop:=
 ∀
  (pins:List (Addr×Obj)) (s:Shared) (σ:St) (H:Hp) (R:It->Hp->Prop),Inv X pins σ H s->wi σ H R->
  wpAny (model X.prog X.w) X.A (eval al X.env) (λv s1=>wpAny (model X.prog X.w) X.A (pyIter v) (PIE X pins σ tg R) X.xe s1) X.xe s
theorem yd {M:Model}{A:Around}{E:Value->Shared->Prop}{s:Shared}{tg:Expr}{it:Addr}{u:Value}{o:Obj}{n:String}{vs:Array Value}{Q:Unit->Shared->Prop} (ho:s.heap.get? it=some o) (hc:o.cls=.type n) (hd:o.data=.fields vs)
 (hn:["enumerate", "zip", "dict_itemiterator", "dict_reverseitemiterator", "odict_iterator", "itertools.zip_longest", "itertools.pairwise"].contains n=false) (hQ:Q () s):wpAny M A (letOwnedTupleGo tg (.ref it) u) Q E s:=by
 unfold letOwnedTupleGo
 cases tg
  <;> first
  | exact wpAny_pure hQ
  | (cases u <;> first
   | exact wpAny_pure hQ
   | (
    refine wpAny_bind (wpAny_load ho ?_)
    rw[hc,hd]
    show wpAny M A (if (["enumerate", "zip", "dict_itemiterator", "dict_reverseitemiterator", "odict_iterator", "itertools.zip_longest", "itertools.pairwise"].contains n && vs[0]? == some (rawInt _))=true then _ else _) Q E s
    rw[if_neg (by intro h;rw[hn,Bool.false_and] at h;cases h)]
    exact wpAny_pure hQ))
def Itl (K:W.Frag) (a:Addr):It:=
 ⟨λi H=>∃ xs x,SqL K H a xs/\xs[i]?=some x,λi H x H'=>H'=H/\∀ xs,SqL K H a xs->xs[i]?=some x,λi H=>∃ xs,SqL K H a xs/\xs.length<=i⟩
def Itt (K:W.Frag) (a:Addr):It:=
 ⟨λi H=>∃ xs x,SqT K H a xs/\xs[i]?=some x,λi H x H'=>H'=H/\∀ xs,SqT K H a xs->xs[i]?=some x,λi H=>∃ xs,SqT K H a xs/\xs.length<=i⟩
def Itr (lo:Int) (n:Nat):It:=⟨λi _=>i < n,λi H x H'=>H'=H/\x=.int (lo + i),λi _=>n<=i⟩
theorem Ae {P:Program}{w:World}{K:W.Frag}{tg:Expr} (a it:Addr):Turn P w K tg (Itl K a) [it] it (λi h=>h.IsListIter it a i) where
 mem:=by simp
 obj:=λi h st b hb=>by
  have e:b=it:=by simpa using hb
  subst e
  obtain⟨o,e,c,d⟩:=st
  exact⟨o,e,λv z=>by rw[d] at z;cases z⟩
 keep:=λi h h' st k=>st.at λo e=>k it (by simp) o e
 item:=by
  intro X hP hw hK hc i pins s σ H E I hf st hg
  subst hP hw hK
  obtain⟨xs,x,hq,hx⟩:=hg
  obtain⟨its,rv,p,hz⟩:=I.list hq
  obtain⟨u,hu,ru⟩:=rv.get hx
  obtain⟨f0,f1,f2,f3,f4,f5⟩:=hf it (by simp)
  refine wpAny_pyNext_list_item st p.isList (x:=u) (by simpa using hu) λh' st' sb=>?_
  have I1:Inv X pins σ H { s with heap:=h' }:=I.turned (t':=s.toks) (λb o hb e=>(sb.2 b hb).trans e) f0 f1 f3 f4 f5
  obtain⟨o,e,c,d⟩:=id st'
  exact⟨u,rfl,yd (s:={ s with heap:=h' }) e c d (by decide) ⟨x,H,I1,ru,⟨rfl,λys hy=>by rw[I.list_inj hy hq];exact hx⟩,st',λb hb=>(hf b hb).1⟩⟩
 done:=by
  intro X hP hw hK hc i pins s σ H E I hf st hg
  subst hP hw hK
  obtain⟨xs,hq,hx⟩:=hg
  obtain⟨its,rv,p,hz⟩:=I.list hq
  obtain⟨f0,f1,f2,f3,f4,f5⟩:=hf it (by simp)
  have hl:=rv.length
  exact wpAny_pyNext_list_end (I.ok.hd hc) st p.isList (by simp;omega) λh' eb=>⟨rfl,I.turned (t':=s.toks) (λb o hb e=>eb b o hb e) f0 f1 f3 f4 f5⟩
 self:=λ_ _ _ _ _ st h=>wpAny_pyIter_listiter st h
theorem y0 {P:Program}{w:World}{K:W.Frag}{tg:Expr} (a it:Addr):Turn P w K tg (Itt K a) [it] it (λi h=>h.IsTupleIter it a i) where
 mem:=by simp
 obj:=λi h st b hb=>by
  have e:b=it:=by simpa using hb
  subst e
  obtain⟨o,e,c,d⟩:=st
  exact⟨o,e,λv z=>by rw[d] at z;cases z⟩
 keep:=λi h h' st k=>st.at λo e=>k it (by simp) o e
 item:=by
  intro X hP hw hK hc i pins s σ H E I hf st hg
  subst hP hw hK
  obtain⟨xs,x,hq,hx⟩:=hg
  obtain⟨its,rv,p,hz⟩:=I.tuple hq
  obtain⟨u,hu,ru⟩:=rv.get hx
  obtain⟨f0,f1,f2,f3,f4,f5⟩:=hf it (by simp)
  refine wpAny_pyNext_tuple_item st (show s.heap.IsTuple a its.toArray from p) (x:=u) (by simpa using hu) λh' st' sb=>?_
  have I1:Inv X pins σ H { s with heap:=h' }:=I.turned (t':=s.toks) (λb o hb e=>(sb.2 b hb).trans e) f0 f1 f3 f4 f5
  obtain⟨o,e,c,d⟩:=id st'
  exact⟨u,rfl,yd (s:={ s with heap:=h' }) e c d (by decide) ⟨x,H,I1,ru,⟨rfl,λys hy=>by rw[I.tuple_inj hy hq];exact hx⟩,st',λb hb=>(hf b hb).1⟩⟩
 done:=by
  intro X hP hw hK hc i pins s σ H E I hf st hg
  subst hP hw hK
  obtain⟨xs,hq,hx⟩:=hg
  obtain⟨its,rv,p,hz⟩:=I.tuple hq
  obtain⟨f0,f1,f2,f3,f4,f5⟩:=hf it (by simp)
  have hl:=rv.length
  exact wpAny_pyNext_tuple_end (I.ok.hd hc) st (show s.heap.IsTuple a its.toArray from p) (by simp;omega) λh' eb=>⟨rfl,I.turned (t':=s.toks) (λb o hb e=>eb b o hb e) f0 f1 f3 f4 f5⟩
 self:=λ_ _ _ _ _ st h=>wpAny_pyIter_tupleiter st h
theorem yJ {P:Program}{w:World}{K:W.Frag}{tg:Expr} (it:Addr) (lo:Int) (n:Nat):Turn P w K tg (Itr lo n) [it] it (λi h=>IsRangeIter h it (lo + (i:Nat) * 1) ((n:Int) - (i:Nat)) 1) where
 mem:=by simp
 obj
  := λi h st b hb=>by
  have e:b=it:=by simpa using hb
  subst e
  exact⟨_,st,λv z=>by
   have z':Data.fields _=Data.cell v:=z
   cases z'⟩
 keep:=λi h h' st k=>k it (by simp) _ st
 item:=by
  intro X hP hw hK hc i pins s σ H E I hf st hg
  subst hP hw hK
  obtain⟨f0,f1,f2,f3,f4,f5⟩:=hf it (by simp)
  have W:=Walks.range (prog:=X.prog) (w:=X.w) (I.ok.hd hc) it lo 1 n
  refine W.item i s _ _ hg st λv h' tk hv st' kk=>?_
  obtain⟨t,rfl⟩:=hv
  have I1:Inv X pins σ H { s with heap:=h',toks:=tk }:=I.turned (λb o hb e=>kk b o (by simpa using hb) e) f0 f1 f3 f4 f5
  refine⟨_,rfl,yd (s:={ s with heap:=h',toks:=tk }) (n := "range_iterator") st' rfl rfl (by decide) ⟨.int (lo + i),H,I1,⟨t,?_⟩,⟨rfl,rfl⟩,st',λb hb=>(hf b hb).1⟩⟩
  rw[Int.mul_one]
 done:=by
  intro X hP hw hK hc i pins s σ H E I hf st hg
  subst hP hw hK
  obtain⟨f0,f1,f2,f3,f4,f5⟩:=hf it (by simp)
  exact wpAny_pyNext_range_end (I.ok.hd hc) st (by have:n<=i:=hg;omega) λh' eb=>⟨rfl,I.turned (t':=s.toks) (λb o hb e=>eb b o hb e) f0 f1 f3 f4 f5⟩
 self:=λ_ _ _ _ _ st h=>wpAny_pyIter_rangeiter st h
end L2
namespace L2
open PySem PySem.Spec PyProof.Rows
section
variable {X:Cx}{tg:Expr}
theorem uf {pins:List (Addr×Obj)}{σ:St}{H:Hp}{s:Shared}{R:It->Hp->Prop}{E:Value->Shared->Prop}{lo hi:Int}{t u v:Tok}{tk:Nat} (I:Inv X pins σ H s) (h1:-(2 ^ 62)<=lo) (h2:lo < 2 ^ 62) (h3:-(2 ^ 62)<=hi) (h4:hi < 2 ^ 62)
 (q:R (Itr lo (hi - lo).toNat) H):wpAny (model X.prog X.w) X.A (pyIter (.ref s.heap.objs.size)) (PIE X pins σ tg R) E { s with heap:=s.heap.push { cls:=.type "range",data:=.fields #[.int lo t,.int hi u,.int 1 v] },toks:=tk }:=by
 refine wpAny_pyIter_range (IsRange.new ..) (small_one h1 h2 h3 h4) ?_
 have I1:Inv X pins σ H { s with heap:=s.heap.push { cls:=.type "range",data:=.fields #[.int lo t,.int hi u,.int 1 v] },toks:=tk }:=I.kept λb o e=>Heap.get?_push_of_some _ e
 refine⟨(s.heap.push { cls:=.type "range",data:=.fields #[.int lo t,.int hi u,.int 1 v] }).objs.size,[(s.heap.push { cls:=.type "range",data:=.fields #[.int lo t,.int hi u,.int 1 v] }).objs.size],_,_,H,rfl,
  I1.kept (t':=tk) λb o e=>Heap.get?_push_of_some _ e,yJ _ lo (hi - lo).toNat,?_,λb hb=>?_,q⟩
 ·have e1:lo + ((0:Nat):Int) * 1=lo:=by simp
  have e2:(((hi - lo).toNat:Nat):Int) - ((0:Nat):Int)=Builtin.Range.rangeSize lo hi 1:=by rw[rangeSize_one];split <;> omega
  show IsRangeIter _ _ (lo + ((0:Nat):Int) * 1) ((((hi - lo).toNat:Nat):Int) - ((0:Nat):Int)) 1
  rw[e1,e2]
  exact Heap.get?_push_size _ rfl
 ·have e:b=(s.heap.push { cls:=.type "range",data:=.fields #[.int lo t,.int hi u,.int 1 v] }).objs.size:=by simpa using hb
  subst e
  exact I1.fpOk (Nat.le_refl _) (I1.hok.fresh (Nat.le_refl _))
def Kq (ta:TA):TI:=λσ H R=>ta σ H λvs H1=>∃ j:Int,vs=[.int j]/\-(2 ^ 62)<=j/\j < 2 ^ 62/\R (Itr 0 j.toNat) H1
def Lh (ta:TA):TI:=λσ H R=>ta σ H λvs H1=>∃ i j:Int,vs=[.int i,.int j]/\(-(2 ^ 62)<=i/\i < 2 ^ 62/\-(2 ^ 62)<=j/\j < 2 ^ 62)/\R (Itr i (j - i).toNat) H1
theorem AZ {a:Expr}{ta:TA}{p pos:Pos} (hg:Gl X "range") (hm:X.mg "range" = none) (ha:PA X [a] ta) (hs:starEach [a] X.env=[(false,eval a X.env)]:=by rfl):PI X tg (.Call (.Name "range" p) [a] [] pos) (Kq ta):=by
 intro pins s σ H R I h
 refine Call_ (iS I hg hm boot_range (PyProof.Rows.callWith_type1 (thn (ha pos pins s σ H _ I h) λus s1 ⟨vs,H1,I1,r1,q1⟩=>?_) hs rfl))
 obtain⟨j,e,q1,q2,q⟩:=q1
 subst e
 cases r1 with
 |
  cons r rr=>
  cases rr
  obtain⟨t,rfl⟩:=r
  exact call_range_1 (uf I1 (by omega) (by omega) q1 q2 (by simpa using q))
theorem zF {a b:Expr}{ta:TA}{p pos:Pos} (hg:Gl X "range") (hm:X.mg "range" = none) (ha:PA X [a,b] ta) (hs:starEach [a,b] X.env=[(false,eval a X.env),(false,eval b X.env)]:=by rfl) (hs2:starEach [b] X.env=[(false,eval b X.env)]:=by rfl):
 PI X tg (.Call (.Name "range" p) [a,b] [] pos) (Lh ta):=by
 intro pins s σ H R I h
 refine Call_ (iS I hg hm boot_range (PyProof.Rows.callWith_type1 (thn (ha pos pins s σ H _ I h) λus s1 ⟨vs,H1,I1,r1,q1⟩=>?_) (by rw[hs,hs2]) (by rw[hs2];rfl)))
 obtain⟨i,j,e,⟨q1,q2,q3,q4⟩,q⟩:=q1
 subst e
 cases r1 with
 |
  cons r rr=>
  cases rr with
  |
   cons r' rr=>
   cases rr
   obtain⟨t,rfl⟩:=r
   obtain⟨t',rfl⟩:=r'
   exact call_range_2 (uf I1 q1 q2 q3 q4 q)
def tFor (wi:TI) (g:TG) (tb:TS):TS:=λD σ H=>wi σ H λJ H1=>∃ W:Nat->Nat->St->Hp->Prop,(∃ m,W 0 m σ H1)/\∀ i m σ H,W i m σ H->
 (J.stop i H/\D.nx σ H)\/(J.go i H/\∃ N:St->Hp->Prop,(∀ σ' H',N σ' H'->∃ m',m' < m/\W (i + 1) m' σ' H')/\∀ x H',J.yld i H x H'->g x σ H' λσ2 H2=>tb { D with nx:=N,ct:=N,bk:=D.nx } σ2 H2)
def kA (fp:List Addr) (h:Heap):List (Addr×Obj):=fp.filterMap λb=>(h.get? b).map λo=>(b,o)
theorem fu {fp:List Addr}{h:Heap}{b:Addr}{o:Obj} (hb:b ∈ fp) (e:h.get? b=some o):(b,o) ∈ kA fp h:=List.mem_filterMap.mpr ⟨b,hb,by rw[e];rfl⟩
theorem AX {fp:List Addr}{h:Heap}{p:Addr×Obj} (hp:p ∈ kA fp h):p.1 ∈ fp/\h.get? p.1=some p.2:=by
 obtain⟨b,hb,e⟩:=List.mem_filterMap.mp hp
 cases q:h.get? b with
 | none=>rw[q] at e;cases e
 |
  some o=>
  rw[q] at e
  have e':(b,o)=p:=Option.some.inj e
  subst e'
  exact⟨hb,q⟩
theorem Inv.pinned {pins:List (Addr×Obj)}{σ:St}{H:Hp}{s:Shared}{fp:List Addr} (I:Inv X pins σ H s) (hf:∀ b ∈ fp,FpOk X pins H b) (ho:∀ b ∈ fp,∃ o,s.heap.get? b=some o/\∀ v,o.data ≠ .cell v):Inv X (pins++kA fp s.heap) σ H s:=
 I.pins_of λp hp=>(List.mem_append.mp hp).elim (λz=>I.pin p (List.mem_append_right _ z)) λz=>by
  obtain⟨hb,e⟩:=AX z
  obtain⟨f0,f1,f2,_⟩:=hf p.1 hb
  obtain⟨o,e',d⟩:=ho p.1 hb
  rw[e] at e';cases e'
  exact⟨e,f0,f1,f2,d⟩
theorem Inv.unpinned {pins pl:List (Addr×Obj)}{σ:St}{H:Hp}{s:Shared} (I:Inv X (pins++pl) σ H s):Inv X pins σ H s:=I.pins_of λp hp=>I.pin p (List.mem_append_right _ (List.mem_append_left _ hp))
theorem GR {al:Expr}{body:List Stmt}{wi:TI}{g:TG}{tb:TS}{pos:Pos} (hp:PassesOwn (model X.prog X.w) X.A X.env X.xe) (hc:X.calm=true) (hi:PI X tg al wi) (hg:PG X tg g) (hb:PSs X body tb)
 (hs:∀ x,foldedSetIterable al X.env x=pure x:=by intro _;rfl):PS X (.For tg al body [] pos) (tFor wi g tb):=by
 intro pins s σ H D I h
 refine wpAny_For (thn (hi pins s σ H _ I h) λv s1 h1=>thn h1 λitv s2 h2=>?_) hs
 obtain⟨it,fp,tn,J,H2,e,I2,T,st2,f2,W,⟨m0,w0⟩,turn⟩:=h2
 subst e
 have stat:∀ {H':Hp},(∀ b ∈ fp,H' b=none)->∀ b ∈ fp,FpOk X pins H' b:=λhn b hb=>⟨hn b hb,(f2 b hb).2⟩
 refine codeAny_forLoop_any (λn s'=>∃ i σ' H',Inv X pins σ' H' s'/\tn i s'.heap/\(∀ b ∈ fp,H' b=none)/\W i n σ' H') ?_ m0 ⟨0,σ,H2,I2,st2,λb hb=>(f2 b hb).1,w0⟩
 rintro n s3 ⟨i,σ3,H3,I3,st3,fr3,w3⟩
 rcases turn i n σ3 H3 w3 with ⟨stop,qn⟩ | ⟨go,N,hN,step⟩
 ·refine wpAny_passesOwn hp (thn (T.done X rfl rfl rfl hc i pins s3 σ3 H3 X.xe I3 (stat fr3) st3 stop) λr s4 ⟨hr,I4⟩=>?_)
  subst hr
  exact wpAny_execs_nil ⟨σ3,H3,I4,qn⟩
 ·refine wpAny_passesOwn hp (thn (T.item X rfl rfl rfl hc i pins s3 σ3 H3 X.xe I3 (stat fr3) st3 go) λr s4 ⟨u,hr,h4⟩=>?_)
  subst hr
  refine wpAny_passesOwn hp (thn h4 λ_ s5 ⟨x,H5,I5,r5,y5,st5,fr5⟩=>?_)
  have I5':=I5.pinned (stat fr5) (T.obj _ _ st5)
  refine wpAny_passesOwn hp (thn (hg _ s5 σ3 H5 x u _ I5' r5 (step x H5 y5)) λ_ s6 ⟨σ6,H6,I6,q6⟩=>?_)
  refine wpAny_passesOwn hp (thn (hb _ s6 σ6 H6 _ I6 q6) λf s7 q7=>?_)
  have again:∀ {σ7:St}{H7:Hp},Inv X (pins++kA fp s5.heap) σ7 H7 s7->N σ7 H7->∃ m,m < n/\∃ i σ' H',Inv X pins σ' H' s7/\tn i s7.heap/\(∀ b ∈ fp,H' b=none)/\W i m σ' H':=λ{σ7 H7} I7 n7=>by
   obtain⟨m',hm,w7⟩:=hN σ7 H7 n7
   refine⟨m',hm,i + 1,σ7,H7,I7.unpinned,T.keep _ _ _ st5 λb hb o e=>(I7.pin (b,o) (List.mem_append_right _ (List.mem_append_right _ (fu hb e)))).1,λb hb=>?_,w7⟩
   obtain⟨o,e,d⟩:=T.obj _ _ st5 b hb
   exact (I7.pin (b,o) (List.mem_append_right _ (List.mem_append_right _ (fu hb e)))).2.1
  cases f with
  | next=>obtain⟨σ7,H7,I7,n7⟩:=q7;exact again I7 n7
  | cont=>obtain⟨σ7,H7,I7,n7⟩:=q7;exact again I7 n7
  | brk=>obtain⟨σ7,H7,I7,q7⟩:=q7;exact⟨σ7,H7,I7.unpinned,q7⟩
  | ret v=>obtain⟨x7,σ7,H7,I7,r7,q7⟩:=q7;exact⟨x7,σ7,H7,I7.unpinned,r7,q7⟩
end
end L2
namespace L2
open PySem PySem.Spec PyProof.Rows
abbrev R2:=V->V->Hp->VK->Prop
def OpR (X:Cx) (f:Value->Value->Sem Value) (r:R2):Prop:=
 ∀
  (pins:List (Addr×Obj)) (s:Shared) (σ:St) (H:Hp) (x y:V) (v u:Value) (Q:VK),Inv X pins σ H s->RelV x v->RelV y u->r x y H Q->
  wpAny (model X.prog X.w) X.A (f v u) (EP X pins σ Q) X.xe s
def UnR (X:Cx) (f:Value->Sem Value) (r:V->Hp->VK->Prop):Prop:=
 ∀
  (pins:List (Addr×Obj)) (s:Shared) (σ:St) (H:Hp) (x:V) (v:Value) (Q:VK),Inv X pins σ H s->RelV x v->r x H Q->
  wpAny (model X.prog X.w) X.A (f v) (EP X pins σ Q) X.xe s
def CallR (X:Cx) (f:Value) (r:List V->Hp->VK->Prop):Prop:=
 ∀
  (pins:List (Addr×Obj)) (s:Shared) (σ:St) (H:Hp) (xs:List V) (us:List Value) (Q:VK),Inv X pins σ H s->Vals xs us->r xs H Q->
  wpAny (model X.prog X.w) X.A (call f us) (EP X pins σ Q) X.xe s
def tOp (r:R2) (ta tb:TE):TE:=λσ H Q=>ta σ H λx H1=>tb σ H1 λy H2=>r x y H2 Q
def tUn (r:V->Hp->VK->Prop) (ta:TE):TE:=λσ H Q=>ta σ H λx H1=>r x H1 Q
def rI (C:Int->Int->Prop) (g:Int->Int->V):R2:=λx y H Q=>∃ i j,x=.int i/\y=.int j/\C i j/\Q (g i j) H
def rI0 (g:Int->Int->V):R2:=λx y H Q=>∃ i j,x=.int i/\y=.int j/\Q (g i j) H
def rU (g:Int->V):V->Hp->VK->Prop:=λx H Q=>∃ i,x=.int i/\Q (g i) H
section
variable {X:Cx}{a b c:Expr}{ta tb tc:TE}{pos:Pos}
theorem Ds (ha:PE X a ta) (hb:PE X b tb) {pins:List (Addr×Obj)}{s:Shared}{σ:St}{H:Hp}{R:V->V->Hp->Prop} (I:Inv X pins σ H s)
 (h:ta σ H λx H1=>tb σ H1 λy H2=>R x y H2) {Q:Value->Shared->Prop}{f:Value->Value->Sem Value}
 (hf:∀ v u s2 x y H2,Inv X pins σ H2 s2->RelV x v->RelV y u->R x y H2->wpAny (model X.prog X.w) X.A (f v u) Q X.xe s2):
 wpAny (model X.prog X.w) X.A (eval a X.env) (λv s₁=>wpAny (model X.prog X.w) X.A (eval b X.env) (λu s₂=>wpAny (model X.prog X.w) X.A (f v u) Q X.xe s₂) X.xe s₁) X.xe s:=by
 refine thn (ha pins s σ H _ I h) λv s1 ⟨x,H1,I1,r1,q1⟩=>?_
 refine thn (hb pins s1 σ H1 _ I1 q1) λu s2 ⟨y,H2,I2,r2,q2⟩=>?_
 exact hf v u s2 x y H2 I2 r1 r2 q2
theorem MF {op:Operator}{r:R2} (ho:OpR X (binaryOp op) r) (ha:PE X a ta) (hb:PE X b tb):PE X (.BinOp a op b pos) (tOp r ta tb):=by
 intro pins s σ H Q I h
 exact wpAny_BinOp (Ds ha hb I h λv u s2 x y H2 I2 rx ry q=>ho pins s2 σ H2 x y v u Q I2 rx ry q)
theorem Lw {op:UnaryOp}{r:V->Hp->VK->Prop} (ho:UnR X (unaryOp op) r) (ha:PE X a ta):PE X (.UnaryOp op a pos) (tUn r ta):=by
 intro pins s σ H Q I h
 exact UnaryOp_ (thn (ha pins s σ H _ I h) λv s1 ⟨x,H1,I1,r1,q1⟩=>ho pins s1 σ H1 x v Q I1 r1 q1)
theorem opI {f:Value->Value->Sem Value}{C:Int->Int->Prop}{g:Int->Int->Int}
 (rule:∀ (i j:Int) (t u:Tok) (s:Shared) (Q:Value->Shared->Prop) (E:Value->Shared->Prop),C i j->Q (.int (g i j) s.toks) { s with toks:=s.toks + 1 }->wpAny (model X.prog X.w) X.A (f (.int i t) (.int j u)) Q E s):
 OpR X f (rI C λi j=>.int (g i j)):=by
 intro pins s σ H x y v u Q I rx ry h
 obtain⟨i,j,rfl,rfl,hc,q⟩:=h
 obtain⟨t,rfl⟩:=rx
 obtain⟨t',rfl⟩:=ry
 exact rule i j t t' s _ _ hc ⟨.int (g i j),H,I.tok _,⟨_,rfl⟩,q⟩
theorem opI0 {f:Value->Value->Sem Value}{g:Int->Int->Int}
 (rule:∀ (i j:Int) (t u:Tok) (s:Shared) (Q:Value->Shared->Prop) (E:Value->Shared->Prop),Q (.int (g i j) s.toks) { s with toks:=s.toks + 1 }->wpAny (model X.prog X.w) X.A (f (.int i t) (.int j u)) Q E s):
 OpR X f (rI0 λi j=>.int (g i j)):=by
 intro pins s σ H x y v u Q I rx ry h
 obtain⟨i,j,rfl,rfl,q⟩:=h
 obtain⟨t,rfl⟩:=rx
 obtain⟨t',rfl⟩:=ry
 exact rule i j t t' s _ _ ⟨.int (g i j),H,I.tok _,⟨_,rfl⟩,q⟩
theorem Di {f:Value->Value->Sem Value}{g:Int->Int->Bool}
 (rule:∀ (i j:Int) (t u:Tok) (s:Shared) (Q:Value->Shared->Prop) (E:Value->Shared->Prop),Q (.bool (g i j)) s->wpAny (model X.prog X.w) X.A (f (.int i t) (.int j u)) Q E s):
 OpR X f (rI0 λi j=>.bl (g i j)):=by
 intro pins s σ H x y v u Q I rx ry h
 obtain⟨i,j,rfl,rfl,q⟩:=h
 obtain⟨t,rfl⟩:=rx
 obtain⟨t',rfl⟩:=ry
 exact rule i j t t' s _ _ ⟨.bl (g i j),H,I,rfl,q⟩
def iU (i j:Int):Prop:=0<=j/\j<=1000000/\i.natAbs < 2 ^ 64
def CMul (i j:Int):Prop:=(-(2 ^ 64) < i/\i < 2 ^ 64)\/(-(2 ^ 64) < j/\j < 2 ^ 64)
theorem CMul.ok {i j:Int} (h:CMul i j):IntMulOk i j:=by
 rcases h with ⟨h1,h2⟩ | ⟨h1,h2⟩
 ·exact .of_left (intBits_le_64 h1 h2)
 ·exact .of_right (intBits_le_64 h1 h2)
theorem HC:OpR X (binaryOp .Add) (rI0 λi j=>.int (i + j)):=opI0 λ_ _ _ _ _ _ _ q=>add_int q
theorem A0:OpR X (binaryOp .Sub) (rI0 λi j=>.int (i - j)):=opI0 λ_ _ _ _ _ _ _ q=>sub_int q
theorem Ka:OpR X (binaryOp .Mult) (rI CMul λi j=>.int (i * j)):=opI λ_ _ _ _ _ _ _ hc q=>mul_int q hc.ok
theorem du:OpR X (binaryOp .Mod) (rI (λ_ j=>j ≠ 0) λi j=>.int (i.fmod j)):=opI λ_ _ _ _ _ _ _ hc q=>mod_int' hc q
theorem Bl:OpR X (binaryOp .Pow) (rI iU λi j=>.int (i ^ j.toNat)):=opI λ_ _ _ _ _ _ _ hc q=>pow_int_small hc.1 hc.2.1 hc.2.2 q
theorem Ik:OpR X (binaryOp .LShift) (rI iU λi j=>.int (i * 2 ^ j.toNat)):=opI λ_ _ _ _ _ _ _ hc q=>lshift_int_small hc.1 hc.2.1 hc.2.2 q
theorem unI {f:Value->Sem Value}{g:Int->Int}
 (rule:∀ (i:Int) (t:Tok) (s:Shared) (Q:Value->Shared->Prop) (E:Value->Shared->Prop),Q (.int (g i) s.toks) { s with toks:=s.toks + 1 }->wpAny (model X.prog X.w) X.A (f (.int i t)) Q E s):
 UnR X f (rU λi=>.int (g i)):=by
 intro pins s σ H x v Q I rx h
 obtain⟨i,rfl,q⟩:=h
 obtain⟨t,rfl⟩:=rx
 exact rule i t s _ _ ⟨.int (g i),H,I.tok _,⟨_,rfl⟩,q⟩
theorem vx:UnR X (unaryOp .USub) (rU λi=>.int (-i)):=unI λ_ _ _ _ _ q=>neg_int q
end
section
variable {X:Cx}{a b c:Expr}{ta tb tc:TE}{pos:Pos}
theorem mH {pins:List (Addr×Obj)}{σ:St}{H:Hp}{s:Shared}{Q:VK}{k k':Bool} (I:Inv X pins σ H s) (q:Q (.bl k) H) (e:k=k'):EP X pins σ Q (.bool k') s:=by
 subst e
 exact⟨.bl k,H,I,rfl,q⟩
theorem pX:OpR X (compareOp .Lt) (rI0 λi j=>.bl (decide (i < j))):=Di λ_ _ _ _ _ _ _ q=>lt_int q
theorem lT:OpR X (compareOp .Gt) (rI0 λi j=>.bl (decide (j < i))):=Di λ_ _ _ _ _ _ _ q=>gt_int q
theorem ym:OpR X (compareOp .GtE) (rI0 λi j=>.bl (decide (j<=i))):=Di λ_ _ _ _ _ _ _ q=>ge_int q
theorem m7:OpR X (compareOp .Is) (λx y H Q=>y=.non/\Q (.bl (decide (x=.non))) H):=by
 intro pins s σ H x y v u Q I rx ry h
 obtain⟨rfl,q⟩:=h
 cases ry
 refine is_none_gen (mH I q ?_)
 cases x <;> first
  | (cases rx;rfl)
  | (obtain⟨t,rfl⟩:=rx;rfl)
theorem E2:OpR X (compareOp .IsNot) (λx y H Q=>y=.non/\Q (.bl (!decide (x=.non))) H):=by
 intro pins s σ H x y v u Q I rx ry h
 obtain⟨rfl,q⟩:=h
 cases ry
 refine isnot_none_gen (mH I q ?_)
 cases x <;> first
  | (cases rx;rfl)
  | (obtain⟨t,rfl⟩:=rx;rfl)
theorem OpR.or {f:Value->Value->Sem Value}{r r':R2} (h:OpR X f r) (h':OpR X f r'):OpR X f (λx y H Q=>r x y H Q\/r' x y H Q):=by
 intro pins s σ H x y v u Q I rx ry q
 rcases q with q | q
 ·exact h pins s σ H x y v u Q I rx ry q
 ·exact h' pins s σ H x y v u Q I rx ry q
theorem aM (b:Expr) {op:CmpOp} (h:op ≠ .In:=by decide) (h2:op ≠ .NotIn:=by decide):behindInMarks op b=false:=by
 have e1:(op == CmpOp.In)=false:=by cases op <;> first | rfl | exact absurd rfl h
 have e2:(op == CmpOp.NotIn)=false:=by cases op <;> first | rfl | exact absurd rfl h2
 cases b <;> simp [behindInMarks,e1,e2]
theorem Fb {op:CmpOp}{r:R2} (ho:OpR X (compareOp op) r) (ha:PE X a ta) (hb:PE X b tb) (hm:behindInMarks op b=false):PE X (.Compare a [op] [b] pos) (tOp r ta tb):=by
 intro pins s σ H Q I h
 exact wpAny_Compare1 (Ds ha hb I h λv u s2 x y H2 I2 rx ry q=>ho pins s2 σ H2 x y v u Q I2 rx ry q) hm
def K8 (t:TE):TT:=λσ H Q=>t σ H λx H'=>∃ k,x=.bl k/\Q k H'
theorem Fj {op:CmpOp}{r:R2} (ho:OpR X (compareOp op) r) (ha:PE X a ta) (hb:PE X b tb) (hm:behindInMarks op b=false):PT X (.Compare a [op] [b] pos) (K8 (tOp r ta tb)):=by
 intro pins s σ H Q I h
 refine wpAny_isTrue_Compare1 (thn (ha pins s σ H _ I h) λv s1 ⟨x,H1,I1,r1,q1⟩=>thn (hb pins s1 σ H1 _ I1 q1) λu s2 ⟨y,H2,I2,r2,q2⟩=>
  thn (ho pins s2 σ H2 x y v u _ I2 r1 r2 q2) λc s3 ⟨z,H3,I3,r3,k,e,q3⟩=>?_) hm
 subst e
 cases r3
 exact wpAny_truthy_bool ⟨H3,I3,q3⟩
theorem o7:(sizeLine:Nat) < 2 ^ 63:=by rw[sizeLine_eq];decide
theorem lU {x:V}{us:List Value} (r:Vals [x] us):∃ u,us=[u]/\RelV x u:=by
 cases r with
 | cons r1 r2=>cases r2;exact⟨_,rfl,r1⟩
theorem DQ {x y:V}{us:List Value} (r:Vals [x,y] us):∃ u w',us=[u,w']/\RelV x u/\RelV y w':=by
 cases r with
 |
  cons r1 r2=>
  cases r2 with
  | cons r3 r4=>cases r4;exact⟨_,_,rfl,r1,r3⟩
theorem oG:CallR X (.builtin "abs") (λxs H Q=>∃ i,xs=[.int i]/\Q (.int (if i < 0 then -i else i)) H):=by
 intro pins s σ H xs us Q I r h
 obtain⟨i,rfl,q⟩:=h
 obtain⟨u,rfl,t,rfl⟩:=lU r
 exact call_abs_int λu tk=>⟨.int (if i < 0 then -i else i),H,I.tok _,⟨_,rfl⟩,q⟩
end
end L2
namespace L2
open PySem PySem.Spec PyProof.Rows
structure ObjM (h:Heap) (x dx C:Addr) (mA:Str->Option Value):Prop where
 obj:h.get? x=some (W.instObj C dx)
 ns:h.Ns1 dx mA
 ne:dx ≠ x
theorem zQ {h:Heap}{dx:Addr}{mA:Str->Option Value} (n:h.Ns1 dx mA):∃ od,h.get? dx=some od/\∀ name,W.lookIn name od=some (mA name):=by
 obtain⟨o,es,ep,ho,hd,hk,_,hm⟩:=n
 refine⟨o,ho,λname=>?_⟩
 have e:=hm name
 unfold nsFind findBy at e
 rw[<- Array.find?_toList] at e
 unfold W.lookIn
 rw[hd]
 dsimp only
 split
 ·rename_i y q
  rw[q] at e
  exact congrArg some e
 ·rename_i q
  rw[q] at e
  have a:es.toList.any (·.refKey)=false:=by
   rw[List.any_eq_false]
   intro y hy
   obtain⟨z,t,hkey⟩:=hk y (Array.mem_toList_iff.mp hy)
   simp [DictEntry.refKey,hkey]
  have a':¬ es.toList.any (·.refKey)=true:=by rw[a];exact Bool.false_ne_true
  rw[if_neg a']
  exact congrArg some e
theorem ObjM.look {h:Heap}{x dx C:Addr}{mA:Str->Option Value} (I:ObjM h x dx C mA):∃ od,W.InstAt h x (W.instObj C dx) C (some od)/\∀ name,W.lookIn name od=some (mA name):=
 let ⟨od,ho,hl⟩:=zQ I.ns
 ⟨od,⟨I.obj,rfl,rfl,ho⟩,hl⟩
section
variable {prog:Program}{w:World}{A:Around}{E:Value->Shared->Prop}{s:Shared}{K:W.Frag}{x dx C f:Addr}{mA:Str->Option Value}{name:Str}{v:Value}
end
theorem RelO.some_of {v:V}{o:Option Value} (r:RelO (some v) o):∃ u,o=some u/\RelV v u:=by
 cases o with
 | none=>exact (show False from r).elim
 | some u=>exact⟨u,rfl,r⟩
section
variable {P:Program}{w:World}{H H':Hp}{h h':Heap}{a C dx:Addr}{fs fs':List (Str×V)}
theorem EY (hok:HOk P w H h) (e:H a=some (.ins C dx fs)):∃ mA,ObjM h a dx C mA/\(∀ f,RelO (fs.lookup f) (mA f))/\PySem.Within mA (fs.map (·.1))/\fs.length<=1000/\H dx=some (.own a):=by
 obtain⟨d,z,ne,ob,mA,n,r,q⟩:=(show ObjOk P w H h a (.ins C dx fs) from hok a _ e)
 exact⟨mA,⟨ob,n,ne⟩,r,q,z,d⟩
end
structure Cls (K:W.Frag) (C:Addr):Prop where
 pg:W.plainGet K C Str.empty=true
 hd:W.hasDictIn K C=true
 po:W.plainOver K C=true
 sa:W.findIn K (.ref C) "__setattr__" = some (some (.builtin "object.__setattr__"))
theorem Cls.get {K:W.Frag}{C:Addr} (c:Cls K C) (f:Str):W.plainGet K C f=true:=c.pg
structure Con (K:W.Frag) (C:Addr) (f:Str) (v:V) (u:Value):Prop where
 at_:W.findIn K (.ref C) f=some (some u)
 rel:RelV v u
 get:W.specialIn K u "__get__" = some none
 cp:W.copiedNames.contains f=false
structure Meth (K:W.Frag) (C:Addr) (m:Str) (f:Addr):Prop where
 at_:W.findIn K (.ref C) m=some (some (.ref f))
 fn:W.isFn K (.ref f)=true
 kp:W.keepIn K (.ref f)=true
section
variable {X:Cx}{pins:List (Addr×Obj)}{σ:St}{H:Hp}{s:Shared}{a C dx:Addr}{fs:List (Str×V)}{f:Str}{v:V}{A:Around}{E:Value->Shared->Prop}
end
section
variable {X:Cx}{o e value:Expr}{f:Str}{pos s_ tpos:Pos}{ta tv:TE}
end
section
variable {X:Cx}{pins:List (Addr×Obj)}{σ:St}{H:Hp}{s:Shared}{A:Around}{E:Value->Shared->Prop}{Q:Value->Shared->Prop}{c:Value}{b:Bool}
inductive TyOf (K:W.Frag) (H:Hp):V->Value->Prop where
 | non:TyOf K H .non (.type "NoneType")
 | bl (x:Bool):TyOf K H (.bl x) (.type "bool")
 | int (i:Int):TyOf K H (.int i) (.type "int")
 | str (x:Str):TyOf K H (.str x) (.type "str")
 | flt (x:UInt64):TyOf K H (.flt x) (.type "float")
 | lst {a:Addr}{xs:List V} (e:H a=some (.lst xs)):TyOf K H (.ref a) (.type "list")
 | frz {a:Addr}{o:Obj}{xs:List V} (e:H a=some (.frz o (.lst xs))):TyOf K H (.ref a) (.type "list")
 | tup {a:Addr}{xs:List V} (e:H a=some (.tup xs)):TyOf K H (.ref a) (.type "tuple")
 | dK {a:Addr}{kvs:List (Key×V)} (e:H a=some (.dK kvs)):TyOf K H (.ref a) (.type "dict")
 | dT {a:Addr}{kvs:List (List Key×V)} (e:H a=some (.dT kvs)):TyOf K H (.ref a) (.type "dict")
 | ins {a C dx:Addr}{fs:List (Str×V)} (e:H a=some (.ins C dx fs)) (cl:Cls K C) (ha:W.findIn K (.ref C) "__class__" = some (some (.builtin "object.__class__")))
  (hn:W.specialIn K (.builtin "object.__class__") "__get__" = some (some (.builtin "getset_descriptor.__get__"))) (htk:W.takesIn K (.builtin "object.__class__")=some true)
  (hm:W.mroIn K C (.type "object")=some true):TyOf K H (.ref a) (.ref C)
end
end L2
namespace L2
open PySem PySem.Spec PyProof.Rows
structure Room (k:Nat) (A:Around):Prop where
 hd:A.handled=none
 dp:A.depth + 3 * k + 5 < recursionLimit
 un:A.units + 16 * k + 200 < cLine
theorem Room.mono {j k:Nat}{A:Around} (r:Room k A) (h:j<=k):Room j A:=⟨r.hd,by have:=r.dp;omega,by have:=r.un;omega⟩
theorem Room.deeper {k:Nat}{A:Around} (r:Room (k + 1) A) (env:Env):Room k (A.deeper env):=
 ⟨r.hd,by have:=r.dp;show A.depth + 1 + 3 * k + 5 < _;omega,by have:=r.un;show A.units + 3 + 16 * k + 200 < _;omega⟩
theorem Room.depth {k:Nat}{A:Around} (r:Room k A):A.depth < recursionLimit:=by have:=r.dp;omega
theorem Room.units {k:Nat}{A:Around} (r:Room k A):A.units + 64 < cLine:=by have:=r.un;omega
def tNil:TA:=λ_ H Q=>Q [] H
def MD (ta:TE) (tr:TA):TA:=λσ H Q=>ta σ H λx H1=>tr σ H1 λxs H2=>Q (x :: xs) H2
section
variable {X:Cx}{e:Expr}{es:List Expr}{te:TE}{t:TA}{pos:Pos}
theorem HM:PA X [] tNil:=λ_ _ _ _ H Q I h=>Calls.spliced_nil ⟨[],H,I,.nil,h⟩
theorem Ey (ha:PE X e te) (hr:PA X es t) (hs:starEach (e :: es) X.env=(false,eval e X.env) :: starEach es X.env:=by rfl):PA X (e :: es) (MD te t):=by
 intro pos pins s σ H Q I h
 rw[hs]
 show wpAny _ _ (spliced ((false,eval e X.env) :: backTo pos (starEach es X.env))) _ _ s
 refine Calls.spliced_cons (thn (ha pins s σ H _ I h) λu s1 ⟨x,H1,I1,r1,q1⟩=>?_)
 exact thn (hr pos pins s1 σ H1 _ I1 q1) λus s2 ⟨xs,H2,I2,r2,q2⟩=>⟨x :: xs,H2,I2,.cons r1 r2,q2⟩
def tTup (t:TA):TE:=λσ H Q=>t σ H λxs H1=>xs.length<=sizeLine/\∀ p,H1 p=none->Q (.ref p) (upd H1 p (.tup xs))
def tLst (t:TA):TE:=λσ H Q=>t σ H λxs H1=>xs.length<=sizeLine/\∀ p,H1 p=none->Q (.ref p) (upd H1 p (.lst xs))
theorem G8 {x1} (h:PA X es t):PE X (.Tuple es x1 pos) (tTup t):=by
 intro pins s σ H Q I hq
 refine wpAny_Tuple_spliced (thn (h pos pins s σ H _ I hq) λus s1 ⟨xs,H1,I1,r,z,q⟩=>⟨by rw[<- r.length];exact z,?_⟩)
 have hf:H1 s1.heap.objs.size=none:=I1.hok.fresh (Nat.le_refl _)
 refine⟨.ref s1.heap.objs.size,upd H1 s1.heap.objs.size (.tup xs),I1.laid (t':=s1.toks) (λb u e=>Heap.get?_push_of_some _ e) (Nat.le_refl _) ?_,rfl,q _ hf⟩
 exact⟨z,us,r,⟨_,Heap.get?_push_size _ rfl,rfl,_,rfl⟩⟩
theorem HV (h:PA X es t):PE X (.List es pos) (tLst t):=by
 intro pins s σ H Q I hq
 refine wpAny_List_spliced (thn (h pos pins s σ H _ I hq) λus s1 ⟨xs,H1,I1,r,z,q⟩=>⟨by rw[<- r.length];exact z,?_⟩)
 have hf:H1 s1.heap.objs.size=none:=I1.hok.fresh (Nat.le_refl _)
 refine⟨.ref s1.heap.objs.size,upd H1 s1.heap.objs.size (.lst xs),I1.laid (t':=s1.toks) (λb u e=>Heap.get?_push_of_some _ e) (Nat.le_refl _) ?_,rfl,q _ hf⟩
 exact⟨z,us,0,r,Heap.get?_push_size _ rfl⟩
end
abbrev Sp:=List V->Hp->VK->XK->Prop
abbrev CXT:=List Env->Hp->Shared->XK->Value->Shared->Prop
structure Env0 (P:Program) (w:World) (K:W.Frag) (mg:Str->Option Value) (base:Heap) (A:Around) (outer:List Env) (s:Shared) (H:Hp):Prop where
 frames:A.frames=some outer
 mod:Mod K mg base
 bs:∀ b o,base.get? b=some o->s.heap.get? b=some o/\H b=none
 bsz:base.objs.size<=s.heap.objs.size
 funs:s.heap.FunFrames base outer
 frf:∀ b ∈ frs outer,H b=none
 hok:HOk P w H s.heap
 bare:AllBare s.gens
def CE (outer:List Env) (P:Program) (w:World) (H:Hp) (s:Shared) (Q:VK) (u:Value) (s':Shared):Prop:=
 ∃ v H',s'.os=s.os/\AllBare s'.gens/\Un (frs outer) [] H H' s.heap s'.heap/\HOk P w H' s'.heap/\RelV v u/\Q v H'
def CR (CX:CXT) (outer:List Env) (P:Program) (w:World) (H:Hp) (s:Shared) (Q:VK) (E:XK) (r:Result) (s':Shared):Prop:=
 match r with
 | .ok (.ret u)=>CE outer P w H s Q u s'
 | .ok _=>False
 | .error e=>CX outer H s E e s'
structure FnOk (P:Program) (w:World) (K:W.Frag) (mg:Str->Option Value) (base:Heap) (CX:CXT) (k:Nat) (f:Addr) (fd:FuncData) (ps:List Str) (sp:Sp):Prop where
 len:∀ vs H Q E,sp vs H Q E->vs.length=ps.length
 run:∀ (A:Around) (outer:List Env) (s:Shared) (H:Hp) (args:Args) (us:List Value) (vs:List V) (Q:VK) (E:XK),Room k A->Env0 P w K mg base A outer s H->BindsTo s fd args (ps.zip us)->Vals vs us->sp vs H Q E->
  codeAny (model P w) A (.call (.ref f) args) (CR CX outer P w H s Q E) s
theorem FnOk.imp {P:Program}{w:World}{K:W.Frag}{mg:Str->Option Value}{base:Heap}{CX:CXT}{k:Nat}{f:Addr}{fd:FuncData}{ps:List Str}{sp sp':Sp} (F:FnOk P w K mg base CX k f fd ps sp)
 (h:∀ vs H Q E,sp' vs H Q E->sp vs H Q E):FnOk P w K mg base CX k f fd ps sp':=
 ⟨λvs H Q E q=>F.len vs H Q E (h _ _ _ _ q),λA outer s H args us vs Q E hr he hb hv hs=>F.run A outer s H args us vs Q E hr he hb hv (h _ _ _ _ hs)⟩
section
variable {X:Cx}{pins:List (Addr×Obj)}{σ:St}{H:Hp}{s s':Shared}
theorem Inv.env0 (I:Inv X pins σ H s):Env0 X.prog X.w X.K X.mg X.base X.A X.stack s H:=
 ⟨I.ok.frames,I.ok.mod,I.bs,Nat.le_trans I.ok.bsz I.sz,I.stack,I.stkFree,I.hok,I.bare⟩
theorem Inv.after {Q:VK}{u:Value} (I:Inv X pins σ H s) (h:CE X.stack X.prog X.w H s Q u s'):EP X pins σ Q u s':=by
 obtain⟨v,H',os,bare,un,hok,r,q⟩:=h
 obtain⟨hh,g,d,t,os'⟩:=s'
 obtain rfl:os'=s.os:=os
 exact⟨v,H',I.call (h':=hh) (g':=g) (d':=d) (t':=t) (ch:=[]) un hok bare (λb z=>absurd z (by simp)),r,q⟩
end
def Binds (K:W.Frag) (fd:FuncData) (ps:List Str) (ds:List Value):Prop:=
 ∀ (s:Shared) (us:List Value),K.In s.heap->(us++ds).length=ps.length->BindsTo s fd ⟨us,[]⟩ (ps.zip (us++ds))
theorem Binds.all {K:W.Frag}{fd:FuncData}{ps:List Str} (h:∀ us:List Value,us.length=ps.length->bindArgs fd ⟨us,[]⟩=pure (ps.zip us)):Binds K fd ps []:=λs us _ hl=>by
 rw[List.append_nil] at hl ⊢
 exact .of_eq (h us hl)
def uv (CX:CXT) (X:Cx) (E:XK):Prop:=∀ (pins:List (Addr×Obj)) (σ:St) (H:Hp) (s:Shared) (e:Value) (s':Shared),Inv X pins σ H s->CX X.stack H s E e s'->X.xe e s'
section
variable {X:Cx}{CX:CXT}{k:Nat}{f C:Addr}{fd:FuncData}{ps:List Str}{sp:Sp}{dvs:List V}{ds:List Value}{E:XK}{x m:Str}{p pos apos:Pos}{e o:Expr}{es:List Expr}{ta:TE}{t:TA}
structure Mk (K:W.Frag) (C f:Addr):Prop where
 makes:W.makesIn K C=true
 init:W.findIn K (.ref C) "__init__" = some (some (.ref f))
 fn:W.isFn K (.ref f)=true
 kp:W.keepIn K (.ref C)=true
end
section
variable {X:Cx}{CX:CXT}{k:Nat}{f C:Addr}{fd:FuncData}{ps ks:List Str}{sp:Sp}{E:XK}{x m:Str}{p pos apos kpos:Pos}{e o:Expr}{es:List Expr}{kws:List Keyword}{te ta:TE}{t tk:TA}{nm:Option Str}
structure KBinds (K:W.Frag) (fd:FuncData) (ps ks:List Str) (g:List Value->List Value->List Value) (gV:List V->List V->List V):Prop where
 to:∀ (s:Shared) (us ws:List Value),K.In s.heap->(g us ws).length=ps.length->BindsTo s fd ⟨us,ks.zip ws⟩ (ps.zip (g us ws))
 rel:∀ {vs:List V}{us:List Value}{zs:List V}{ws:List Value},Vals vs us->Vals zs ws->Vals (gV vs zs) (g us ws)
variable {g:List Value->List Value->List Value}{gV:List V->List V->List V}
end
structure FnScope (N P:List Str) (sc:Scope):Prop where
 kind:sc.kind=.function
 co:sc.isCoroutine=false
 gen:sc.isGenerator=false
 nd:N.Nodup
 pre:N.take P.length=P
 par:∀ x ∈ P,sc.names.lookup x=some .local\/sc.names.lookup x=some .cell
 nofree:∀ y ∈ sc.names,y.2 ≠ .free
theorem sd {kindOf:Str->Option NameKind}{x:Str}:∀ {binds:List (Str×Value)}{m:Str->Option Value},(∀ v,(x,v) ∉ binds)->bindL kindOf binds m x=m x
 | [],_,_=>rfl
 |
  (n,v) :: r,m,h=>by
  unfold bindL
  rw[sd λw hw=>h w (List.mem_cons_of_mem _ hw)]
  split
  ·have:x ≠ n:=by rintro rfl;exact h v List.mem_cons_self
   simp [this]
  ·rfl
theorem sJ {kindOf:Str->Option NameKind}{x:Str}:∀ {binds:List (Str×Value)}{m:Str->Option Value},(∀ v,(x,v) ∉ binds)->bindC kindOf binds m x=m x
 | [],_,_=>rfl
 |
  (n,v) :: r,m,h=>by
  unfold bindC
  rw[sJ λw hw=>h w (List.mem_cons_of_mem _ hw)]
  split
  ·rfl
  ·have:x ≠ n:=by rintro rfl;exact h v List.mem_cons_self
   simp [this]
theorem rW {kindOf:Str->Option NameKind}{x:Str}{v:Value}:∀ {P:List Str}{vs:List Value}{i:Nat}{m:Str->Option Value},P.Nodup->P[i]?=some x->vs[i]?=some v->kindOf x=some .local->
 bindL kindOf (P.zip vs) m x=some v
 | [],_,_,_,_,h,_,_=>by simp at h
 | _ :: _,[],_,_,_,_,h,_=>by simp at h
 |
  p :: P,w :: vs,0,m,nd,h1,h2,hk=>by
  simp at h1 h2;subst h1;subst h2
  show bindL kindOf ((p,w) :: P.zip vs) m p=_
  unfold bindL
  rw[sd λv hv=>(List.nodup_cons.mp nd).1 (List.of_mem_zip hv).1,if_pos hk]
  simp
 |
  p :: P,w :: vs,i + 1,m,nd,h1,h2,hk=>by
  show bindL kindOf ((p,w) :: P.zip vs) m x=_
  unfold bindL
  exact rW (i:=i) (List.nodup_cons.mp nd).2 (by simpa using h1) (by simpa using h2) hk
theorem rX {kindOf:Str->Option NameKind}{x:Str}{v:Value}:∀ {P:List Str}{vs:List Value}{i:Nat}{m:Str->Option Value},P.Nodup->P[i]?=some x->vs[i]?=some v->kindOf x ≠ some .local->
 bindC kindOf (P.zip vs) m x=some v
 | [],_,_,_,_,h,_,_=>by simp at h
 | _ :: _,[],_,_,_,_,h,_=>by simp at h
 |
  p :: P,w :: vs,0,m,nd,h1,h2,hk=>by
  simp at h1 h2;subst h1;subst h2
  show bindC kindOf ((p,w) :: P.zip vs) m p=_
  unfold bindC
  rw[sJ λv hv=>(List.nodup_cons.mp nd).1 (List.of_mem_zip hv).1,if_neg hk]
  simp
 |
  p :: P,w :: vs,i + 1,m,nd,h1,h2,hk=>by
  show bindC kindOf ((p,w) :: P.zip vs) m x=_
  unfold bindC
  exact rX (i:=i) (List.nodup_cons.mp nd).2 (by simpa using h1) (by simpa using h2) hk
def gJ (N:List Str) (vs:List V):St:=vs.map some++List.replicate (N.length - vs.length) none
def fD (CX:CXT) (P:Program) (w:World) (K:W.Frag) (mg:Str->Option Value) (base:Heap) (N:List Str) (qual:Str) (scope:Scope) (f:Addr) (cd:Value) (A:Around) (outer:List Env) (s:Shared) (H:Hp) (E:XK):Cx where
 prog:=P
 w:=w
 K:=K
 mg:=mg
 base:=base
 A:=A.deeper (envOfC qual scope s.heap.objs.size f cd)
 N:=N
 s₀:=s
 H₀:=H
 env:=envOfC qual scope s.heap.objs.size f cd
 outer:=outer
 stack:=envOfC qual scope s.heap.objs.size f cd :: outer
 ex:=[]
 calm:=true
 fn:=λ_=>true
 pn:=[]
 xe:=λe s'=>wpAny (model P w) (A.deeper (envOfC qual scope s.heap.objs.size f cd)) (leaving (envOfC qual scope s.heap.objs.size f cd) e) (λ_ s''=>CX outer H s E e s'') (λe' s''=>CX outer H s E e' s'') s'
theorem vz {sc:Scope}{n:Nat}{x:Str} (h:sc.names.lookup x=some .cell):∃ c,(cellsFrom n sc.names []).lookup x=some c:=by
 have q:=W.cellsFrom_some sc.names n [] (.inl h)
 exact Option.isSome_iff_exists.mp q
theorem Ah {CX:CXT}{P:Program}{w:World}{K:W.Frag}{mg:Str->Option Value}{base:Heap}{N ps:List Str}{qual:Str}{scope:Scope}{f:Addr}{cd:Value}{A:Around}{outer:List Env}{s s1:Shared}{H:Hp}{E:XK}{us:List Value}{vs:List V}
 (S:FnScope N ps scope) (hd:A.handled=none) (e0:Env0 P w K mg base A outer s H) (hl:vs.length=ps.length) (r:Vals vs us)
 (x:InCallC s s.heap.objs.size (bindL (envOfC qual scope s.heap.objs.size f cd).kindOf (ps.zip us) λ_=>none) (cellsFrom (s.heap.objs.size + 1) scope.names []) (bindC (envOfC qual scope s.heap.objs.size f cd).kindOf (ps.zip us) λ_=>none) s1):
 Inv (fD CX P w K mg base N qual scope f cd A outer s H E) [] (gJ N vs) H s1:=by
 have hpl:ps.length<=N.length:=by have:=congrArg List.length S.pre;rw[List.length_take] at this;omega
 obtain⟨h1,tk,rfl,hk⟩:=x.done
 have noA:∀ b:Addr,b ∉ (fD CX P w K mg base N qual scope f cd A outer s H E).ex:=λb z=>absurd (show b ∈ ([]:List Addr) from z) (by simp)
 refine⟨⟨e0.mod,S.kind,rfl,rfl,Nat.le_refl _,λy z c h1 h2=>?_,λy hy=>?_,λy c _ h=>?_,λ_=>hd,Around.frames_deeper e0.frames,.inr ⟨rfl,rfl⟩,λb z=>absurd z (noA b),e0.bs,e0.bsz,λb _ _=>noA b,λb z=>absurd z (noA b),e0.funs,e0.frf⟩,
  rfl,e0.bare,Un.kept hk,⟨_,x.toInCall.ns,λi y v h1 h2 h3=>?_⟩,λy c h=>⟨_,x.cell y c h⟩,e0.hok.fresh (Nat.le_refl _),λy c h=>?_,λp hp=>absurd (show p ∈ ([]:List (Addr×Obj)) from hp) (by simp),e0.hok.kept hk,?_⟩
 ·exact name_of_addr x.apart (PySem.mem_of_lookup h1) (PySem.mem_of_lookup h2)
 ·have hy:scope.names.lookup y=some .cell\/scope.names.lookup y=some .free:=hy
  rcases hy with hy | hy
  ·exact vz hy
  ·exact absurd rfl (S.nofree _ (PySem.mem_of_lookup hy))
 ·exact Nat.le_of_lt (x.above y c (PySem.mem_of_lookup h))
 ·have hi:i < vs.length:=by
   unfold gJ at h2
   by_cases hi:i < vs.length
   ·exact hi
   ·rw[List.getElem?_append_right (by simpa using hi)] at h2
    rw[List.getElem?_replicate] at h2
    split at h2 <;> cases h2
  have ha:vs[i]?=some v:=by
   unfold gJ at h2
   rw[List.getElem?_append_left (by simpa using hi),List.getElem?_map] at h2
   cases e:vs[i]? with
   | none=>rw[e] at h2;cases h2
   | some a=>rw[e] at h2;cases h2;rfl
  obtain⟨u,hu,rv⟩:=r.get ha
  have hp:ps[i]?=some y:=by
   rw[<- S.pre,List.getElem?_take_of_lt (by omega)];exact h1
  have ndP:ps.Nodup:=by rw[<- S.pre];exact S.nd.sublist (List.take_sublist _ _)
  refine⟨u,rv,?_⟩
  rcases S.par y (List.mem_of_getElem? hp) with k | k
  ·exact .inl ⟨k,rW ndP hp hu k⟩
  ·obtain⟨c,e⟩:=vz (n:=s.heap.objs.size + 1) k
   refine .inr ⟨.inl k,c,e,?_⟩
   have q:=x.cell y c e
   rw[rX ndP hp hu (by show scope.names.lookup y ≠ _;rw[k];decide)] at q
   exact q
 ·exact e0.hok.fresh (Nat.le_of_lt (x.above y c (PySem.mem_of_lookup h)))
 ·unfold gJ
  show _=N.length
  rw[List.length_append,List.length_map,List.length_replicate]
  omega
theorem Lm {CX:CXT}{P:Program}{w:World}{K:W.Frag}{mg:Str->Option Value}{base:Heap}{k:Nat}{f:Addr}{name qual:Str}{params:Arguments}{body:List Stmt}{scope:Scope}{dV kV doc pm cdv ct oc:Value}{an od:Option Addr}
 {osl:Array (Option Value)}{N ps:List Str}{sp:Sp} (lk:K.lookup f=some ⟨oc,od,.func (W.fnOf name qual params body scope dV kV doc pm an cdv ct),osl⟩) (hcd:W.codeIn K cdv qual=true) (S:FnScope N ps scope)
 (len:∀ vs H Q E,sp vs H Q E->vs.length=ps.length)
 (pi:∀ (A:Around) (outer:List Env) (s:Shared) (H:Hp) (vs:List V) (Q:VK) (E:XK),Room k (A.deeper (envOfC qual scope s.heap.objs.size f cdv))->sp vs H Q E->
  ∃ t,PSs (fD CX P w K mg base N qual scope f cdv A outer s H E) body t/\t { nx:=λ_ H'=>Q .non H',rt:=Q } (gJ N vs) H):
 FnOk P w K mg base CX (k + 1) f (W.fnOf name qual params body scope dV kV doc pm an cdv ct) ps sp:=by
 refine⟨len,λA outer s H args us vs Q E hr e0 hb r hsp=>?_⟩
 have hl:=len _ _ _ _ hsp
 have KX:K.In s.heap:=e0.mod.kin.keeps λb o e=>(e0.bs b o e).1
 have lim:s.heap.NoLimit:=e0.mod.nolimit.keeps λb o e=>(e0.bs b o e).1
 have hkind:∀ y ∈ ps.zip us,scope.names.lookup y.1=some .local\/(scope.names.lookup y.1=some .cell/\((cellsFrom (s.heap.objs.size + 1) scope.names []).lookup y.1).isSome=true):=λ⟨n,v⟩ hy=>by
  rcases S.par n (List.of_mem_zip hy).1 with q | q
  ·exact .inl q
  ·exact .inr ⟨q,W.cellsFrom_some _ _ _ (.inl q)⟩
 refine codeAny_call_function hr.depth (KX _ _ lk) rfl S.co S.gen rfl (W.codeRec_of KX hcd) (hb _ _ _ _ ?_)
 refine wpAny_newFunctionEnv_cells S.kind hkind λenv he s1 x=>?_
 subst he
 refine⟨lim.keeps x.toInCall.keep,codeAny_func ?_⟩
 obtain⟨t,ht,hq⟩:=pi A outer s H vs Q E (hr.deeper _) hsp
 have I:Inv (fD CX P w K mg base N qual scope f cdv A outer s H E) [] (gJ N vs) H s1:=Ah S hr.hd e0 hl r x
 refine wpAny_mono (ht [] s1 (gJ N vs) H _ I hq) (λfl s' hs=>?_) λe s' hs=>hs
 have fin:∀ {σ':St}{H':Hp}{v:V}{u:Value},Inv (fD CX P w K mg base N qual scope f cdv A outer s H E) [] σ' H' s'->RelV v u->Q v H'->CE outer P w H s Q u s':=
  λ{σ' H' v u} J rv q=>⟨v,H',J.os,J.bare,J.base,J.hok,rv,q⟩
 cases fl with
 |
  ret u=>
  obtain⟨v,σ',H',J,rv,q⟩:=hs
  exact fin J rv q
 |
  next=>
  obtain⟨σ',H',J,q⟩:=hs
  exact fin (v:=V.non) (u:=Value.none) J rfl q
 |
  brk=>
  obtain⟨_,_,_,q⟩:=hs
  exact False.elim q
 |
  cont=>
  obtain⟨_,_,_,q⟩:=hs
  exact False.elim q
end L2
namespace L2
open PySem PySem.Spec PyProof.Rows
section
variable {X:Cx}{x:Str}{p pos:Pos}{e:Expr}{es:List Expr}{t:TA}{id T:String}{r:List V->Hp->VK->Prop}
def tCB (r:List V->Hp->VK->Prop) (t:TA):TE:=λσ H Q=>t σ H λvs H1=>r vs H1 Q
theorem Co (hc:CallR X (.builtin id) r) (hg:Gl X x) (hm:X.mg x=none) (hv:bootBuiltins x=some (.builtin id)) (ha:PA X (e :: es) t) (hn:x ≠ "__name__" := by decide) (hdb:(x == ("__debug__" : Str))=false:=by decide)
 (he:starEach (e :: es) X.env=(false,eval e X.env) :: starEach es X.env:=by rfl) (hpl:(backTo pos (starEach es X.env)).any (·.1)=false:=by rfl):PE X (.Call (.Name x p) (e :: es) [] pos) (tCB r t):=by
 intro pins s σ H Q I h
 refine wpAny_Call_Name_kw (iS I hg hm hv ?_ hn hdb)
 exact PyProof.Rows.callWith_builtin1 (thn (ha pos pins s σ H _ I h) λus s1 ⟨vs,H1,I1,r1,q1⟩=>hc pins s1 σ H1 vs us Q I1 r1 q1) he hpl
theorem zM (hc:CallR X (.type T) r) (hg:Gl X x) (hm:X.mg x=none) (hv:bootBuiltins x=some (.type T)) (ha:PA X (e :: es) t) (hn:x ≠ "__name__" := by decide) (hdb:(x == ("__debug__" : Str))=false:=by decide)
 (he:starEach (e :: es) X.env=(false,eval e X.env) :: starEach es X.env:=by rfl) (hpl:(backTo pos (starEach es X.env)).any (·.1)=false:=by rfl):PE X (.Call (.Name x p) (e :: es) [] pos) (tCB r t):=by
 intro pins s σ H Q I h
 refine wpAny_Call_Name_kw (iS I hg hm hv ?_ hn hdb)
 exact PyProof.Rows.callWith_type1 (thn (ha pos pins s σ H _ I h) λus s1 ⟨vs,H1,I1,r1,q1⟩=>hc pins s1 σ H1 vs us Q I1 r1 q1) he hpl
end
end L2
namespace HT
open PySem PyProof.Rows
section
open PySem.SeqAt
open PySem.AutoSeq1 (wpAny_loadPart')
open PySem.MeetsSeq PySem.MeetsSeq2 PySem.MeetsSeq3
end
section
variable {prog:Program}{w:World}{A:Around}{E:Value->Shared->Prop}{s:Shared}
theorem cat_tup {t b:Addr}{vs ws:List Value}{Q:Value->Shared->Prop} (ht:IsTup s.heap t vs.toArray) (hb:IsTup s.heap b ws.toArray) (hv:vs ≠ [])
 (h1:ws=[]->Q (.ref t) s) (h2:ws ≠ []->Q (.ref s.heap.objs.size) { s with heap:=s.heap.push { cls:=.type "tuple",data:=.seq (vs++ws).toArray } })
 (hsz:vs.length + ws.length<=sizeLine):wpAny (model prog w) A (binaryOp .Add (.ref t) (.ref b)) Q E s:=by
 obtain⟨⟨cls,dd,data,sl⟩,ho,hc,n,hd⟩:=id ht
 obtain⟨⟨cls2,dd2,data2,sl2⟩,ho2,hc2,n2,hd2⟩:=id hb
 simp only at hc hd hc2 hd2
 subst hc hd hc2 hd2
 have e:vs.toArray++ws.toArray=(vs++ws).toArray:=by simp
 by_cases hw:ws=[]
 ·exact concat_meets ⟨_,ho,rfl⟩ ⟨_,ho2,rfl⟩ noFill_tuple_add seq_tuple_add PySem.F.slot_tuple_add PySem.F.entry_tuple_add (PySem.F.args_tuple_add_2 _ _)
   (tuple_addW1 t b vs.toArray ws.toArray n n2 dd dd2 sl sl2 (by simpa using hv) (by simp [hw])) ⟨ho,ho2,h1 hw⟩
 ·refine concat_meets ⟨_,ho,rfl⟩ ⟨_,ho2,rfl⟩ noFill_tuple_add seq_tuple_add PySem.F.slot_tuple_add PySem.F.entry_tuple_add (PySem.F.args_tuple_add_2 _ _)
   (tuple_addW2 t b vs.toArray ws.toArray n n2 dd dd2 sl sl2 (by simpa using hv) (by simpa using hw) (by rw[List.size_toArray,List.size_toArray];exact hsz)) ⟨ho,ho2,?_⟩
  rw[e]
  exact h2 hw
def sIx (n d:Nat):Option Int->Nat
 | none=>d
 | some v=>if v < 0 then (v + (n:Int)).toNat else min v.toNat n
theorem sIx_none (n d:Nat):sIx n d none=d:=rfl
theorem sIx_nat (n d k:Nat):sIx n d (some (k:Int))=min k n:=by
 show (if (k:Int) < 0 then ((k:Int) + (n:Int)).toNat else min (k:Int).toNat n)=min k n
 rw[if_neg (by omega),Int.toNat_natCast]
theorem Js (n d:Nat) (hd:d<=n) (o:Option Int):sIx n d o<=n:=by
 cases o with
 | none=>exact hd
 |
  some v=>
  show (if v < 0 then (v + (n:Int)).toNat else min v.toNat n)<=n
  by_cases hv:v < 0
  ·rw[if_pos hv];omega
  ·rw[if_neg hv];exact Nat.min_le_right _ _
theorem xf (v:Int) (n d:Nat):(if v < 0 then max (v + (n:Int)) 0 else min v (n:Int))=((sIx n d (some v):Nat):Int):=by
 show (if v < 0 then max (v + (n:Int)) 0 else min v (n:Int))=(((if v < 0 then (v + (n:Int)).toNat else min v.toNat n):Nat):Int)
 by_cases hv:v < 0
 ·simp only[if_pos hv];omega
 ·simp only[if_neg hv];omega
theorem zc (lo hi:Option Int) (n:Nat):Builtin.Slice.sliceAdjust lo hi 1 (n:Int)=(((sIx n 0 lo:Nat):Int),((sIx n n hi:Nat):Int)):=by
 have h1:¬ ((1:Int) < 0):=by omega
 unfold Builtin.Slice.sliceAdjust
 simp only[h1,if_false]
 refine Prod.ext ?_ ?_
 ·cases lo with
  | none=>rfl
  | some v=>exact xf v n 0
 ·cases hi with
  | none=>rfl
  | some v=>exact xf v n n
theorem yL (i j:Nat):Builtin.Slice.slicePlaces (i:Int) (j:Int) 1=j - i:=by
 unfold Builtin.Slice.slicePlaces
 have h1:(1:Int) > 0:=by omega
 simp only[h1,if_true,Int.ediv_one]
 split <;> omega
theorem p9 {v:Value}{o:Option Int}{Q:Option Int->Shared->Prop} (p:IsPart v o) (h:Q o s):wpAny (model prog w) A (Builtin.Slice.slicePartIndex v) Q E s:=by
 cases p with
 | none=>exact slicePart_none h
 | int i t=>exact slicePart_int h
theorem n8 {sl:Addr}{vl vu:Value}{lo hi:Option Int}{n:Nat}{Q:Int×Int×Nat->Shared->Prop} (hs:s.heap.IsSliceOf sl vl vu .none) (pl:IsPart vl lo) (pu:IsPart vu hi)
 (h:Q (((sIx n 0 lo:Nat):Int),1,sIx n n hi - sIx n 0 lo) s):wpAny (model prog w) A (Builtin.Slice.sliceApplied (.ref sl) (pure (n:Int))) Q E s:=by
 obtain⟨os,hos,hcs,hds⟩:=id hs
 unfold Builtin.Slice.sliceApplied Builtin.Slice.sliceFields
 refine wpAny_bind (wpAny_bind (wpAny_field hos hds (x:=vl) rfl (wpAny_bind (wpAny_field hos hds (x:=vu) rfl (wpAny_bind (wpAny_field hos hds (x:=.none) rfl (wpAny_pure ?_)))))))
 refine wpAny_bind (slicePart_none ?_)
 show wpAny _ _ (if ((1:Int) == 0)=true then _ else _) _ _ s
 rw[if_neg (by decide)]
 refine wpAny_bind (p9 pl (wpAny_bind (p9 pu (wpAny_bind (wpAny_pure ?_)))))
 show wpAny _ _ (match Builtin.Slice.sliceAdjust lo hi 1 (n:Int) with | (lo,hi)=>pure (lo,(1:Int),Builtin.Slice.slicePlaces lo hi 1)) _ _ s
 rw[zc lo hi n]
 show wpAny _ _ (pure (((sIx n 0 lo:Nat):Int),(1:Int),Builtin.Slice.slicePlaces ((sIx n 0 lo:Nat):Int) ((sIx n n hi:Nat):Int) 1)) _ _ s
 rw[yL]
 exact wpAny_pure h
theorem Cq (xs:Array Value) (i k:Nat):((List.range k).filterMap λ(m:Nat)=>xs[((i:Int) + (m:Int) * 1).toNat]?).toArray=((xs.toList.drop i).take k).toArray:=by
 have e:(λ(m:Nat)=>xs[((i:Int) + (m:Int) * 1).toNat]?)=λm=>xs[i + m]?:=by
  funext m
  have:((i:Int) + (m:Int) * 1).toNat=i + m:=by omega
  rw[this]
 rw[e]
 have:=pick_run xs i k
 rw[List.filterMap_map] at this
 have e2:((λx=>xs[x]?) ∘ λx=>i + x)=λm=>xs[i + m]?:=rfl
 rw[e2] at this
 rw[this]
theorem getItem_tuple_cut {t sl:Addr}{items:Array Value}{vl vu:Value}{lo hi:Option Int}{Q:Value->Shared->Prop} (ht:IsTup s.heap t items) (hs:s.heap.IsSliceOf sl vl vu .none) (pl:IsPart vl lo) (pu:IsPart vu hi)
 (hw:¬ (sIx items.size 0 lo=0/\sIx items.size items.size hi=items.size))
 (h:Q (.ref s.heap.objs.size) { s with heap:=s.heap.push { cls:=.type "tuple",data:=.seq ((items.toList.drop (sIx items.size 0 lo)).take (sIx items.size items.size hi - sIx items.size 0 lo)).toArray } })
 (hsz:items.size<=sizeLine):wpAny (model prog w) A (getItem (.ref t) (.ref sl)) Q E s:=by
 have htake:sizeOk (.seq ((items.toList.drop (sIx items.size 0 lo)).take (sIx items.size items.size hi - sIx items.size 0 lo)).toArray):=by
  show ((items.toList.drop (sIx items.size 0 lo)).take (sIx items.size items.size hi - sIx items.size 0 lo)).toArray.size<=sizeLine
  rw[List.size_toArray,List.length_take,List.length_drop,Array.length_toList]
  omega
 have hj:sIx items.size items.size hi<=items.size:=Js _ _ (Nat.le_refl _) hi
 obtain⟨os,hos,hcs,hds⟩:=id hs
 have hTs:s.TypeIs (.ref sl) "slice" := ⟨os,hos,hcs⟩
 unfold getItem
 try with_reducible refine wpAny_holding ?_
 first | refine wpAny_bind (wpAny_pure ?_) | skip
 refine wpAny_bind (wpAny_sequenceKey ht.typeIs (by decide) ?_)
 refine wpAny_bind (wpAny_callSpecial?_slot (name:=Str.ofString "__getitem__") ht.typeIs PyProof.Rows.slot_tuple_getitem
  (wpAny_call_entry PyProof.Rows.slot_tuple_getitem ht.typeIs entry_tuple_getitem ?_ (args_tuple_getitem _ _)))
 show wpAny _ _ (Builtin.Tuple.tupleItemsOf (.ref t) >>= _) _ _ s
 refine wpAny_bind (tupleItemsOf_ ht ?_)
 refine wpAny_bind (wpAny_typeOf hTs ?_)
 rw[if_pos (by decide)]
 refine wpAny_bind (n8 hs pl pu ?_)
 have hno:¬ ((((sIx items.size 0 lo:Nat):Int) == 0 && (1:Int) == 1 && (sIx items.size items.size hi - sIx items.size 0 lo) == items.size)=true):=by
  intro q
  rw[Bool.and_eq_true,Bool.and_eq_true] at q
  have q1:((sIx items.size 0 lo:Nat):Int)=0:=eq_of_beq q.1.1
  have q2:sIx items.size items.size hi - sIx items.size 0 lo=items.size:=eq_of_beq q.2
  exact hw ⟨by omega,by omega⟩
 show wpAny _ _ (if (((sIx items.size 0 lo:Nat):Int) == 0 && (1:Int) == 1 && (sIx items.size items.size hi - sIx items.size 0 lo) == items.size)=true then _ else _) _ _ s
 rw[if_neg hno,Cq]
 first
  | exact wpAny_bind (m:=Builtin.Tuple.tupleExact _) (wpAny_newObj_type (wpAny_pure ⟨_,rfl,wpAny_pure h⟩) htake)
  | exact wpAny_bind (m:=Builtin.Tuple.tupleExact _) (wpAny_newObj_type (wpAny_bind (wpAny_pure (wpAny_pure ⟨_,rfl,wpAny_pure h⟩))) htake)
  | exact wpAny_bind (wpAny_bind (m:=Builtin.Tuple.tupleExact _) (wpAny_newObj_type (wpAny_pure (wpAny_pure ⟨_,rfl,wpAny_pure h⟩)) htake))
  | exact wpAny_bind (wpAny_bind (m:=Builtin.Tuple.tupleExact _) (wpAny_newObj_type (wpAny_pure ⟨_,rfl,wpAny_pure h⟩) htake))
end
end HT
namespace L2
open PySem PySem.Spec PyProof.Rows
abbrev TO:=St->Hp->(Option Int->Hp->Prop)->Prop
def PO (X:Cx) (e:Option Expr) (t:TO):Prop:=
 ∀
  (pins:List (Addr×Obj)) (s:Shared) (σ:St) (H:Hp) (Q:Option Int->Hp->Prop),Inv X pins σ H s->t σ H Q->
  wpAny (model X.prog X.w) X.A (evalPart e X.env) (λu s'=>∃ o H',Inv X pins σ H' s'/\IsPart u o/\Q o H') X.xe s
def Eh:TO:=λ_ H Q=>Q none H
def Me (t:TE):TO:=λσ H Q=>t σ H λx H1=>∃ i,x=.int i/\Q (some i) H1
section
variable {X:Cx}{e:Expr}{te:TE}{lo hi:Option Expr}{tl th:TO}{pos p2:Pos}
theorem FY:PO X none Eh:=by
 intro pins s σ H Q I h
 rw[evalPart_none]
 exact wpAny_pure ⟨none,H,I,.none,h⟩
theorem EZ (h:PE X e te):PO X (some e) (Me te):=by
 intro pins s σ H Q I hw
 rw[evalPart_some]
 refine thn (h pins s σ H _ I hw) λu s1 ⟨x,H1,I1,r1,q1⟩=>?_
 obtain⟨i,rfl,q⟩:=q1
 obtain⟨t,rfl⟩:=r1
 exact⟨some i,H1,I1,.int i t,q⟩
def SlR (X:Cx) (r:V->Option Int->Option Int->Hp->VK->Prop):Prop:=
 ∀
  (pins:List (Addr×Obj)) (s:Shared) (σ:St) (H:Hp) (x:V) (v vl vu:Value) (lo hi:Option Int) (sl:Addr) (Q:VK),Inv X pins σ H s->RelV x v->s.heap.IsSliceOf sl vl vu .none->IsPart vl lo->IsPart vu hi->r x lo hi H Q->
  ∃ T id,typeLookup (.type T) "__getitem__" = pure (some (.builtin id))/\s.TypeIs v T/\wpAny (model X.prog X.w) X.A (getItem v (.ref sl)) (EP X pins σ Q) X.xe s
theorem SlR.or {r r':V->Option Int->Option Int->Hp->VK->Prop} (h:SlR X r) (h':SlR X r'):SlR X (λx lo hi H Q=>r x lo hi H Q\/r' x lo hi H Q):=by
 intro pins s σ H x v vl vu lo hi sl Q I rx hs pl pu q
 rcases q with q | q
 ·exact h pins s σ H x v vl vu lo hi sl Q I rx hs pl pu q
 ·exact h' pins s σ H x v vl vu lo hi sl Q I rx hs pl pu q
def tSl (r:V->Option Int->Option Int->Hp->VK->Prop) (te:TE) (tl th:TO):TE:=λσ H Q=>te σ H λx H1=>tl σ H1 λl H2=>th σ H2 λu H3=>r x l u H3 Q
theorem CK {r:V->Option Int->Option Int->Hp->VK->Prop} (hr:SlR X r) (he:PE X e te) (hl:PO X lo tl) (hu:PO X hi th):PE X (.Subscript e (.Slice lo hi none p2) pos) (tSl r te tl th):=by
 intro pins s σ H Q I h
 refine Subscript_ (thn (he pins s σ H _ I h) λv s1 ⟨x,H1,I1,r1,q1⟩=>?_)
 refine wpAny_Slice (thn (hl pins s1 σ H1 _ I1 q1) λvl s2 ⟨l,H2,I2,pl,q2⟩=>thn (hu pins s2 σ H2 _ I2 q2) λvu s3 ⟨u,H3,I3,pu,q3⟩=>?_)
 rw[evalPart_none]
 refine wpAny_pure ?_
 have I4:Inv X pins σ H3 { s3 with heap:=s3.heap.push { cls:=.type "slice",data:=.fields #[vl,vu,.none] } }:=I3.kept (t':=s3.toks) λb ob q=>Heap.get?_push_of_some _ q
 obtain⟨T,id,hT,ht,hg⟩:=hr pins { s3 with heap:=s3.heap.push { cls:=.type "slice",data:=.fields #[vl,vu,.none] } } σ H3 x v vl vu l u s3.heap.objs.size Q I4 r1 (Heap.IsSliceOf.new ..) pl pu q3
 show wpAny (model X.prog X.w) X.A (subscriptTail e (.Slice lo hi none p2) v (.ref s3.heap.objs.size)) (EP X pins σ Q) X.xe { s3 with heap:=s3.heap.push { cls:=.type "slice",data:=.fields #[vl,vu,.none] } }
 exact tail_any (ops:=[.ref s3.heap.objs.size,v]) ht hT hg (by with_unfolding_all rfl)
def mK (xs:List V) (lo hi:Option Int):List V:=(xs.drop (HT.sIx xs.length 0 lo)).take (HT.sIx xs.length xs.length hi - HT.sIx xs.length 0 lo)
theorem nT (xs:List V) (lo hi:Option Int):(mK xs lo hi).length<=xs.length:=by
 unfold mK
 rw[List.length_take,List.length_drop]
 omega
def rSlT (K:W.Frag):V->Option Int->Option Int->Hp->VK->Prop:=λx lo hi H Q=>∃ a xs,x=.ref a/\SqT K H a xs/\
 ¬ (HT.sIx xs.length 0 lo=0/\HT.sIx xs.length xs.length hi=xs.length)/\∀ p,H p=none->Q (.ref p) (upd H p (.tup (mK xs lo hi)))
theorem JM:SlR X (rSlT X.K):=by
 intro pins s σ H x v vl vu lo hi sl Q I rx hs pl pu h
 obtain⟨a,xs,rfl,hx,hw,q⟩:=h
 cases rx
 obtain⟨its,r,ht,hz⟩:=I.tuple hx
 have db:its.toArray.size=xs.length:=by rw[List.size_toArray];exact r.length.symm
 refine⟨"tuple",_,PyProof.Rows.slot_tuple_getitem.lookup,ht.typeIs,?_⟩
 refine HT.getItem_tuple_cut ht hs pl pu (by rw[db];exact hw) ?_ (by rw[db];exact hz)
 rw[db]
 refine⟨.ref s.heap.objs.size,_,I.laid (t':=s.toks) (o:=.tup (mK xs lo hi)) (λb ob q=>Heap.get?_push_of_some _ q) (Nat.le_refl _) ?_,rfl,q _ (I.hok.fresh (Nat.le_refl _))⟩
 exact⟨Nat.le_trans (nT xs lo hi) hz,_,(r.drop (HT.sIx xs.length 0 lo)).take (HT.sIx xs.length xs.length hi - HT.sIx xs.length 0 lo),IsTup.new _ _⟩
def nE (K:W.Frag):R2:=λx y H Q=>∃ a b xs ys,x=.ref a/\y=.ref b/\SqT K H a xs/\SqT K H b ys/\xs ≠ []/\xs.length + ys.length<=sizeLine/\
 (ys=[]->Q (.ref a) H)/\(ys ≠ []->∀ p,H p=none->Q (.ref p) (upd H p (.tup (xs++ys))))
theorem Vals.nil_iff {xs:List V}{us:List Value} (r:Vals xs us):us=[] ↔ xs=[]:=by
 cases r with
 | nil=>simp
 | cons _ _=>simp
theorem Ga:OpR X (binaryOp .Add) (nE X.K):=by
 intro pins s σ H x y v u Q I rx ry h
 obtain⟨a,b,xs,ys,rfl,rfl,ha,hb,hx,hz,q1,q2⟩:=h
 cases rx
 cases ry
 obtain⟨its,r1,p1,_⟩:=I.tuple ha
 obtain⟨its2,r2,p2,_⟩:=I.tuple hb
 refine HT.cat_tup p1 p2 (λz=>hx (r1.nil_iff.mp z)) (λz=>⟨.ref a,H,I,rfl,q1 (r2.nil_iff.mp z)⟩) (λz=>?_) (by rw[<- r1.length,<- r2.length];exact hz)
 refine⟨.ref s.heap.objs.size,_,I.laid (t':=s.toks) (o:=.tup (xs++ys)) (λb ob q=>Heap.get?_push_of_some _ q) (Nat.le_refl _) ?_,rfl,q2 (λw=>z (r2.nil_iff.mpr w)) _ (I.hok.fresh (Nat.le_refl _))⟩
 exact⟨by rw[List.length_append];exact hz,_,r1.append r2,IsTup.new _ _⟩
end
end L2
namespace L2
open PySem PySem.Spec PyProof.Rows
def ixN (n:Nat) (i:Int):Option Nat:=if 0<=i then (if i < n then some i.toNat else none) else if -(n:Int)<=i then some (i + n).toNat else none
def atI {α:Type} (xs:List α) (i:Int):Option α:=(ixN xs.length i).bind λj=>xs[j]?
theorem Fu {n:Nat}{i:Int}{j:Nat} (h:ixN n i=some j):seqIndex? i n=some j/\j < n/\-(n:Int)<=i/\i < n:=by
 unfold ixN at h
 by_cases h0:0<=i
 ·rw[if_pos h0] at h
  by_cases h1:i < n
  ·rw[if_pos h1] at h
   have e:i.toNat=j:=Option.some.inj h
   exact⟨by rw[seqIndex_of h0 h1,e],by omega,by omega,h1⟩
  ·rw[if_neg h1] at h;cases h
 ·rw[if_neg h0] at h
  by_cases h1:-(n:Int)<=i
  ·rw[if_pos h1] at h
   have e:(i + n).toNat=j:=Option.some.inj h
   exact⟨by rw[seqIndex_neg (by omega) h1,e],by omega,h1,by omega⟩
  ·rw[if_neg h1] at h;cases h
theorem xO {α:Type}{xs:List α}{i:Int}{v:α} (h:atI xs i=some v):∃ j,seqIndex? i xs.length=some j/\xs[j]?=some v/\j < xs.length/\-(xs.length:Int)<=i/\i < xs.length:=by
 unfold atI at h
 cases e:ixN xs.length i with
 | none=>rw[e] at h;cases h
 |
  some j=>
  rw[e] at h
  obtain⟨h1,h2,h3,h4⟩:=Fu e
  exact⟨j,h1,h,h2,h3,h4⟩
def qH (b:Expr):Prop:=∀ o i,subscripted b false o i=operate [o,i] (getItem o i)
def IxR (X:Cx) (r:R2):Prop:=
 ∀
  (value na:Expr) (pins:List (Addr×Obj)) (s:Shared) (σ:St) (H:Hp) (x y:V) (v u:Value) (Q:VK),Inv X pins σ H s->RelV x v->RelV y u->r x y H Q->
  subscripted na false v u=operate [v,u] (getItem v u)->wpAny (model X.prog X.w) X.A (subscriptTail value na v u) (EP X pins σ Q) X.xe s
def MtR (X:Cx) (id:String) (r:V->List V->Hp->VK->Prop):Prop:=
 ∀
  (pins:List (Addr×Obj)) (s:Shared) (σ:St) (H:Hp) (x:V) (xs:List V) (v:Value) (us:List Value) (Q:VK),Inv X pins σ H s->RelV x v->Vals xs us->r x xs H Q->
  wpAny (model X.prog X.w) X.A (call (.builtin id) (v :: us)) (EP X pins σ Q) X.xe s
section
variable {X:Cx}{a b:Expr}{ta tb:TE}{pos:Pos}
theorem IxR.or {r r':R2} (h:IxR X r) (h':IxR X r'):IxR X (λx y H Q=>r x y H Q\/r' x y H Q):=by
 intro value na pins s σ H x y v u Q I rx ry q hs
 rcases q with q | q
 ·exact h value na pins s σ H x y v u Q I rx ry q hs
 ·exact h' value na pins s σ H x y v u Q I rx ry q hs
theorem KN {r:R2} (hr:IxR X r) (ha:PE X a ta) (hb:PE X b tb) (hs:qH b):PE X (.Subscript a b pos) (tOp r ta tb):=by
 intro pins s σ H Q I h
 exact Subscript_ (Ds ha hb I h λv u s2 x y H2 I2 rx ry q=>hr a b pins s2 σ H2 x y v u Q I2 rx ry q (hs _ _))
def yC (K:W.Frag):R2:=λx y H Q=>∃ p xs i v,x=.ref p/\y=.int i/\SqL K H p xs/\atI xs i=some v/\Q v H
def y9 (K:W.Frag):R2:=λx y H Q=>∃ p xs i v,x=.ref p/\y=.int i/\SqT K H p xs/\atI xs i=some v/\Q v H
theorem Ex:IxR X (yC X.K):=by
 intro value na pins s σ H x y v u Q I rx ry h hs
 obtain⟨p,xs,i,z,rfl,rfl,hq,he,q⟩:=h
 cases rx
 obtain⟨t,rfl⟩:=ry
 obtain⟨its,r,pl,hz⟩:=I.list hq
 obtain⟨j,h1,h2,h3,h4,h5⟩:=xO he
 obtain⟨w,ew,rw'⟩:=r.get h2
 have hl:=r.length
 have hn:=o7
 have fin:EP X pins σ Q w s:=⟨z,H,I,rw',q⟩
 by_cases h0:0<=i
 ·have hj:i.toNat=j:=by
   rw[seqIndex_of h0 h5] at h1
   exact Option.some.inj h1
  exact item_listR pl.isList h0 (by omega) (by rw[hj];simpa using ew) fin hs
 ·have hj:(i + (its.toArray.size:Int)).toNat=j:=by
   rw[seqIndex_neg (by omega) h4] at h1
   rw[List.size_toArray,<- hl]
   exact Option.some.inj h1
  exact subscriptTail_builtinR (x:=w) pl.isList.typeIs slot_list_getitem.lookup
   (wpAny_getItem_list_neg (Q:=λr s'=>r=w/\EP X pins σ Q r s') pl.isList (by omega) (by rw[List.size_toArray] <;> omega) (by omega) (by rw[hj];simpa using ew) ⟨rfl,fin⟩) hs
theorem J8:IxR X (y9 X.K):=by
 intro value na pins s σ H x y v u Q I rx ry h hs
 obtain⟨p,xs,i,z,rfl,rfl,hq,he,q⟩:=h
 cases rx
 obtain⟨t,rfl⟩:=ry
 obtain⟨its,r,pl,hz⟩:=I.tuple hq
 obtain⟨j,h1,h2,h3,h4,h5⟩:=xO he
 obtain⟨w,ew,rw'⟩:=r.get h2
 have hl:=r.length
 have hn:=o7
 have fin:EP X pins σ Q w s:=⟨z,H,I,rw',q⟩
 exact subscriptTail_builtinR (x:=w) pl.typeIs slot_tuple_getitem.lookup
  (getItem_tuple (j:=j) (Q:=λr s'=>r=w/\EP X pins σ Q r s') pl (by omega) (by omega) (by rw[List.size_toArray,<- hl];exact h1) (by simpa using ew) ⟨rfl,fin⟩) hs
theorem um (lo hi:Option Int) (n:Nat):(sliceBounds lo hi none n).1=((HT.sIx n 0 lo:Nat):Int)/\(sliceBounds lo hi none n).2.1=((HT.sIx n n hi:Nat):Int)/\(sliceBounds lo hi none n).2.2=1:=by
 refine⟨?_,?_,rfl⟩
 ·cases lo with
  | none=>simp [sliceBounds,HT.sIx]
  |
   some i=>
   simp only[sliceBounds,HT.sIx,Option.getD_none,show (1:Int) > 0 by decide,if_true]
   by_cases h:i < 0
   ·simp only[h,if_true] <;> omega
   ·simp only[h,if_false] <;> omega
 ·cases hi with
  | none=>simp [sliceBounds,HT.sIx]
  |
   some i=>
   simp only[sliceBounds,HT.sIx,Option.getD_none,show (1:Int) > 0 by decide,if_true]
   by_cases h:i < 0
   ·simp only[h,if_true] <;> omega
   ·simp only[h,if_false] <;> omega
theorem sY (its:List Value) (lo hi:Option Int):slicePick its.toArray lo hi none=((its.drop (HT.sIx its.length 0 lo)).take (HT.sIx its.length its.length hi - HT.sIx its.length 0 lo)).toArray:=by
 obtain⟨h1,h2,h3⟩:=um lo hi its.toArray.size
 unfold slicePick
 rw[h1,h2,h3]
 simp only[sliceRange_one,pick_run,List.size_toArray] <;> rfl
def rSlL (K:W.Frag):V->Option Int->Option Int->Hp->VK->Prop:=λx lo hi H Q=>∃ a xs,x=.ref a/\SqL K H a xs/\∀ p,H p=none->Q (.ref p) (upd H p (.lst (mK xs lo hi)))
theorem Gb:SlR X (rSlL X.K):=by
 intro pins s σ H x v vl vu lo hi sl Q I rx hs pl pu h
 obtain⟨a,xs,rfl,hx,q⟩:=h
 cases rx
 obtain⟨its,r,ht,hz⟩:=I.list hx
 have db:=r.length
 refine⟨"list",_,slot_list_getitem.lookup,ht.isList.typeIs,?_⟩
 refine wpAny_getItem_list_slice ht.isList hs pl pu .none (by simp) ?_ (by rw[List.size_toArray] <;> omega)
 rw[sY,<- db]
 refine⟨.ref s.heap.objs.size,_,I.laid (t':=s.toks) (o:=.lst (mK xs lo hi)) (λb ob q=>Heap.get?_push_of_some _ q) (Nat.le_refl _) ?_,rfl,q _ (I.hok.fresh (Nat.le_refl _))⟩
 exact⟨Nat.le_trans (nT xs lo hi) hz,_,0,(r.drop (HT.sIx xs.length 0 lo)).take (HT.sIx xs.length xs.length hi - HT.sIx xs.length 0 lo),Heap.get?_push_size _ rfl⟩
def flatV:V->Bool
 | .non=>true
 | .bl _=>true
 | .int _=>true
 | .str _=>true
 | _=>false
def eqV:V->V->Bool
 | .non,.non=>true
 | .bl a,.bl b=>a == b
 | .bl a,.int b=>(if a then 1 else 0) == b
 | .int a,.bl b=>a == (if b then 1 else 0)
 | .int a,.int b=>a == b
 | .str a,.str b=>a == b
 | _,_=>false
theorem JK {A:Around}{s:Shared}{y x:V}{u v:Value} (ry:RelV y u) (rx:RelV x v) (fy:flatV y=true) (fx:flatV x=true):SeqAt.EqAt A s u v (eqV y x):=by
 cases y with
 |
  non=>
  cases ry
  cases x with
  | non=>cases rx;exact SeqAt.EqAt.same _
  | bl b=>cases rx;exact SeqAt.EqAt.none_bool b
  | int b=>obtain⟨t,rfl⟩:=rx;exact SeqAt.EqAt.none_int b t
  | str b=>obtain⟨t,rfl⟩:=rx;exact SeqAt.EqAt.none_str b t
  | _=>exact absurd (show false=true from fx) Bool.false_ne_true
 |
  bl a=>
  cases ry
  cases x with
  | non=>cases rx;exact SeqAt.EqAt.bool_none a
  | bl b=>cases rx;exact SeqAt.EqAt.bool_bool a b
  | int b=>obtain⟨t,rfl⟩:=rx;exact SeqAt.EqAt.bool_int a b t
  | str b=>obtain⟨t,rfl⟩:=rx;exact SeqAt.EqAt.bool_str a b t
  | _=>exact absurd (show false=true from fx) Bool.false_ne_true
 |
  int a=>
  obtain⟨t',rfl⟩:=ry
  cases x with
  | non=>cases rx;exact SeqAt.EqAt.int_none a t'
  | bl b=>cases rx;exact SeqAt.EqAt.int_bool a t' b
  | int b=>obtain⟨t,rfl⟩:=rx;exact SeqAt.EqAt.int_int a t' b t
  | str b=>obtain⟨t,rfl⟩:=rx;exact SeqAt.EqAt.int_str a t' b t
  | _=>exact absurd (show false=true from fx) Bool.false_ne_true
 |
  str a=>
  obtain⟨t',rfl⟩:=ry
  cases x with
  | non=>cases rx;exact SeqAt.EqAt.str_none a t'
  | bl b=>cases rx;exact SeqAt.EqAt.str_bool a t' b
  | int b=>obtain⟨t,rfl⟩:=rx;exact SeqAt.EqAt.str_int a t' b t
  | str b=>obtain⟨t,rfl⟩:=rx;exact SeqAt.EqAt.str_str a t' b t
  | _=>exact absurd (show false=true from fx) Bool.false_ne_true
 | _=>exact absurd (show false=true from fy) Bool.false_ne_true
def eqU (x:V) (u:Value):Bool:=match u with
 | .none=>eqV .non x
 | .bool b=>eqV (.bl b) x
 | .int i _=>eqV (.int i) x
 | .str z _=>eqV (.str z) x
 | _=>false
theorem Ar {x y:V}{u:Value} (r:RelV y u) (f:flatV y=true):eqU x u=eqV y x:=by
 cases y with
 | non=>cases r;rfl
 | bl b=>cases r;rfl
 | int i=>obtain⟨t,rfl⟩:=r;rfl
 | str z=>obtain⟨t,rfl⟩:=r;rfl
 | _=>exact absurd (show false=true from f) Bool.false_ne_true
theorem kM {x:V}:∀ {xs:List V}{us:List Value},Vals xs us->xs.all flatV=true->us.any (eqU x)=xs.any λy=>eqV y x
 | _,_,.nil,_=>rfl
 |
  y :: xs,u :: us,.cons r t,f=>by
  rw[List.all_cons,Bool.and_eq_true] at f
  rw[List.any_cons,List.any_cons,Ar r f.1,kM t f.2]
theorem jv {A:Around}{s:Shared}{x:V}{v:Value} (rx:RelV x v) (fx:flatV x=true):∀ {xs:List V}{us:List Value},Vals xs us->xs.all flatV=true->∀ u ∈ us,SeqAt.EqAt A s u v (eqU x u)
 | _,_,.nil,_=>λu hu=>by cases hu
 |
  y :: xs,u :: us,.cons r t,f=>λu' hu=>by
  rw[List.all_cons,Bool.and_eq_true] at f
  rcases List.mem_cons.mp hu with rfl | hu
  ·rw[Ar r f.1];exact JK r rx f.1 fx
  ·exact jv rx fx t f.2 u' hu
def inV (x:V) (xs:List V):Bool:=xs.any λy=>eqV y x
def rIn (K:W.Frag) (jp:Bool):R2:=λx y H Q=>∃ p xs,y=.ref p/\(SqL K H p xs\/SqT K H p xs)/\flatV x=true/\xs.all flatV=true/\Q (.bl (if jp then !inV x xs else inV x xs)) H
theorem Ao:OpR X (compareOp .In) (rIn X.K false):=by
 intro pins s σ H x y v u Q I rx ry h
 obtain⟨p,xs,rfl,hq,fx,fs,q⟩:=h
 cases ry
 rcases hq with hq | hq
 ·obtain⟨its,r,pl,hz⟩:=I.list hq
  refine SeqAt.in_listAt (eqU x) pl.isList (λw hw=>jv rx fx r fs w (by simpa using hw)) ⟨.bl _,H,I,rfl,?_⟩
  rw[show its.toArray.any (eqU x)=its.any (eqU x) by simp,kM r fs]
  exact q
 ·obtain⟨its,r,pl,hz⟩:=I.tuple hq
  refine SeqAt.in_tupleAt (eqU x) pl (λw hw=>jv rx fx r fs w (by simpa using hw)) ⟨.bl _,H,I,rfl,?_⟩
  rw[show its.toArray.any (eqU x)=its.any (eqU x) by simp,kM r fs]
  exact q
theorem vW:OpR X (compareOp .NotIn) (rIn X.K true):=by
 intro pins s σ H x y v u Q I rx ry h
 obtain⟨p,xs,rfl,hq,fx,fs,q⟩:=h
 cases ry
 rcases hq with hq | hq
 ·obtain⟨its,r,pl,hz⟩:=I.list hq
  refine SeqAt.notIn_listAt (eqU x) pl.isList (λw hw=>jv rx fx r fs w (by simpa using hw)) ⟨.bl _,H,I,rfl,?_⟩
  rw[show its.toArray.any (eqU x)=its.any (eqU x) by simp,kM r fs]
  exact q
 ·obtain⟨its,r,pl,hz⟩:=I.tuple hq
  refine SeqAt.notIn_tupleAt (eqU x) pl (λw hw=>jv rx fx r fs w (by simpa using hw)) ⟨.bl _,H,I,rfl,?_⟩
  rw[show its.toArray.any (eqU x)=its.any (eqU x) by simp,kM r fs]
  exact q
theorem v9:CallR X (.builtin "len") (λxs H Q=>∃ p ys,xs=[.ref p]/\(SqL X.K H p ys\/SqT X.K H p ys)/\Q (.int ys.length) H):=by
 intro pins s σ H xs us Q I r h
 obtain⟨p,ys,rfl,hq,q⟩:=h
 obtain⟨u,rfl,rx⟩:=lU r
 cases rx
 have hn:=o7
 rcases hq with hq | hq
 ·obtain⟨its,r',pl,hz⟩:=I.list hq
  have db:=r'.length
  exact Calls.call_len_list pl.isList (by simp only[List.size_toArray] <;> omega) ⟨.int ys.length,H,I.tok _,⟨s.toks + 1,by rw[List.size_toArray,db]⟩,q⟩
 ·obtain⟨its,r',pl,hz⟩:=I.tuple hq
  have db:=r'.length
  exact len_tuple pl (by simp only[List.size_toArray] <;> omega) ⟨.int ys.length,H,I.tok _,⟨s.toks + 1,by rw[List.size_toArray,db]⟩,q⟩
theorem uk:CallR X (.builtin "len") (λxs H Q=>∃ z,xs=[.str z]/\z.length<=sizeLine/\Q (.int z.length) H):=by
 intro pins s σ H xs us Q I r h
 obtain⟨z,rfl,hz,q⟩:=h
 obtain⟨u,rfl,t,rfl⟩:=lU r
 have hn:=o7
 exact len_str (by omega) ⟨.int z.length,H,I.tok _,⟨_,rfl⟩,q⟩
theorem CallR.or {f:Value}{r r':List V->Hp->VK->Prop} (h:CallR X f r) (h':CallR X f r'):CallR X f (λxs H Q=>r xs H Q\/r' xs H Q):=by
 intro pins s σ H xs us Q I rs q
 rcases q with q | q
 ·exact h pins s σ H xs us Q I rs q
 ·exact h' pins s σ H xs us Q I rs q
theorem uO:CallR X (.type "list") (λxs H Q=>∃ p ys,xs=[.ref p]/\(SqL X.K H p ys\/SqT X.K H p ys)/\∀ l,H l=none->Q (.ref l) (upd H l (.lst ys))):=by
 intro pins s σ H xs us Q I r h
 obtain⟨p,ys,rfl,hq,q⟩:=h
 obtain⟨u,rfl,rx⟩:=lU r
 cases rx
 have fin:∀ (its:List Value),Vals ys its->ys.length<=sizeLine->∀ (h':Heap) (c':Nat),(∀ b o',s.heap.get? b=some o'->h'.get? b=some o')->
  h'.get? s.heap.objs.size=some { cls:=.type "list",dict:=none,data:=.seq its.toArray c',slots:=#[] }->EP X pins σ Q (.ref s.heap.objs.size) { s with heap:=h' }:=λits r' hz h' c' kp e=>
  ⟨.ref s.heap.objs.size,_,I.laid (t':=s.toks) kp (Nat.le_refl _) (show ObjOk X.prog X.w _ h' _ (.lst ys) from ⟨hz,its,c',r',e⟩),rfl,q _ (I.hok.fresh (Nat.le_refl _))⟩
 rcases hq with hq | hq
 ·obtain⟨its,r',pl,hz⟩:=I.list hq
  have db:=r'.length
  obtain⟨o,ho,hc,n,hd⟩:=pl.isList
  exact call_list_seq p (.inl rfl) ho hc hd (λh' c' kp e=>fin its r' hz h' c' kp e) (by simp only[List.size_toArray] <;> omega)
 ·obtain⟨its,r',pl,hz⟩:=I.tuple hq
  have db:=r'.length
  obtain⟨o,ho,hc,n,hd⟩:=pl
  exact call_list_seq p (.inr rfl) ho hc hd (λh' c' kp e=>fin its r' hz h' c' kp e) (by simp only[List.size_toArray] <;> omega)
def tyV (K:W.Frag) (T:String) (x:V) (H:Hp):Prop:=match x with
 | .str _=>T = "str"
 | .int _=>T = "int"
 | .ref p=>(T = "list" /\ ∃ xs,SqL K H p xs)\/(T = "tuple" /\ ∃ o,K.lookup p=some o/\o.cls=.type "tuple" /\ o.dict=none)\/
  (T = "dict" /\ ((∃ kvs,H p=some (.dK kvs))\/∃ kvs,H p=some (.dT kvs)))\/(T = "set" /\ ∃ S n,H p=some (.set S n))
 | _=>False
theorem AU {pins:List (Addr×Obj)}{σ:St}{H:Hp}{s:Shared}{T:String}{x:V}{v:Value} (I:Inv X pins σ H s) (r:RelV x v) (ty:tyV X.K T x H):
 s.TypeIs v T/\∀ a,v=.ref a->∃ ob,s.heap.get? a=some ob/\ob.dict=none:=by
 cases x with
 |
  str z=>
  obtain⟨t,rfl⟩:=r
  cases (show T = "str" from ty)
  exact⟨typeIs_str s z t,λ_ e=>nomatch e⟩
 |
  int i=>
  obtain⟨t,rfl⟩:=r
  cases (show T = "int" from ty)
  exact⟨typeIs_int s i t,λ_ e=>nomatch e⟩
 |
  ref p=>
  cases r
  rcases ty with ⟨rfl,xs,hq⟩ | ⟨rfl,o,hk,hc,hd⟩ | ⟨rfl,hk⟩ | ⟨rfl,S,n,hk⟩
  ·obtain⟨its,_,pl,_⟩:=I.list hq
   refine⟨pl.isList.typeIs,λa e=>?_⟩
   cases e
   obtain⟨o,n,e,c,hd,_⟩:=pl
   exact⟨o,e,hd⟩
  ·refine⟨⟨o,I.kIn p o hk,hc⟩,λa e=>?_⟩
   cases e
   exact⟨o,I.kIn _ o hk,hd⟩
  ·have z:∃ o,s.heap.get? p=some o/\o.ExactDict:=by
    rcases hk with ⟨kvs,hk⟩ | ⟨kvs,hk⟩
    ·obtain⟨_,_,_,_,o,_,_,e,ex,_⟩:=I.hok p _ hk
     exact⟨o,e,ex⟩
    ·obtain⟨_,_,_,_,o,_,_,e,ex,_⟩:=I.hok p _ hk
     exact⟨o,e,ex⟩
   obtain⟨o,e,ex⟩:=z
   refine⟨⟨o,e,ex.1⟩,λa e2=>?_⟩
   cases e2
   exact⟨o,e,ex.2.1⟩
  ·obtain⟨o,_,_,_,e,ex,_⟩:=I.hok p _ hk
   refine⟨⟨o,e,ex.1⟩,λa e2=>?_⟩
   cases e2
   exact⟨o,e,ex.2.1⟩
 | _=>exact False.elim ty
def tBM0 (K:W.Frag) (T:String) (r:V->List V->Hp->VK->Prop) (to:TE):TE:=λσ H Q=>to σ H λx H1=>tyV K T x H1/\r x [] H1 Q
def tBM (K:W.Frag) (T:String) (r:V->List V->Hp->VK->Prop) (to:TE) (t:TA):TE:=λσ H Q=>to σ H λx H1=>tyV K T x H1/\t σ H1 λxs H2=>r x xs H2 Q
variable {o e:Expr}{es:List Expr}{to:TE}{t:TA}{name:Str}{apos cpos:Pos}{T id:String}{r:V->List V->Hp->VK->Prop}
theorem Hw (pa:PlainAttrs T) (slot:Slot T name id) (hty:typeOf (.builtin id)=pure (.type "method_descriptor")) (hm:MtR X id r) (ho:PE X o to)
 (r_:attributeBase o name X.env (eval o X.env)=eval o X.env:=by rfl) (p_:(apos.endLine == cpos.line)=true:=by rfl):PE X (.Call (.Attribute o name apos) [] [] cpos) (tBM0 X.K T r to):=by
 intro pins s σ H Q I h
 refine wpAny_Call_method0_late r_ p_ (thn (ho pins s σ H _ I h) λv s1 ⟨x,H1,I1,r1,ty,q1⟩=>?_)
 obtain⟨h1,h2⟩:=AU I1 r1 ty
 exact⟨T,id,pa,slot,hty,h1,h2,Calls.callWith_builtin rfl (PySem.evalArgs_none (hm pins s1 σ H1 x [] v [] Q I1 r1 .nil q1))⟩
theorem Ld (pa:PlainAttrs T) (slot:Slot T name id) (hty:typeOf (.builtin id)=pure (.type "method_descriptor")) (hm:MtR X id r) (ho:PE X o to) (ha:PA X (e :: es) t)
 (r_:attributeBase o name X.env (eval o X.env)=eval o X.env:=by rfl)
 (hfew:((backTo cpos (starEach (e :: es) X.env)).all (λx=>!x.1) && (backToKw cpos (keywordEach [] X.env)).all (λx=>x.1.isSome)
  && decide ((e :: es).length + ([]:List Keyword).length + (if ([]:List Keyword).isEmpty then 0 else 1) < 30))=true:=by rfl)
 (p_:(apos.endLine == cpos.line)=true:=by rfl) (hs:starEach (e :: es) X.env=(false,eval e X.env) :: starEach es X.env:=by rfl) (kw:(backTo cpos (starEach es X.env)).any (·.1)=false:=by rfl):
 PE X (.Call (.Attribute o name apos) (e :: es) [] cpos) (tBM X.K T r to t):=by
 intro pins s σ H Q I h
 refine wpAny_Call_method_late r_ hfew p_ rfl (thn (ho pins s σ H _ I h) λv s1 ⟨x,H1,I1,r1,ty,q1⟩=>?_)
 obtain⟨h1,h2⟩:=AU I1 r1 ty
 refine⟨T,id,pa,slot,hty,h1,h2,?_⟩
 have hA:=ha cpos pins s1 σ H1 _ I1 q1
 rw[hs] at hA ⊢
 refine Calls.callWith_builtin (by show (false || (backTo cpos (starEach es X.env)).any (·.1))=false;rw[kw] <;> rfl) (Calls.evalArgs_plain ?_)
 exact thn hA λus s2 ⟨vs,H2,I2,r2,q2⟩=>hm pins s2 σ H2 x vs v us Q I2 r1 r2 q2
end
end L2
namespace L2
open PySem PySem.Spec PyProof.Rows
def MtM (X:Cx) (id:String) (r:V->List V->Hp->VK->Prop):Prop:=
 ∀
  (pins:List (Addr×Obj)) (s:Shared) (σ:St) (H:Hp) (x:V) (xs:List V) (v:Value) (us:List Value) (Q:VK),Inv X pins σ H s->RelV x v->Vals xs us->r x xs H Q->
  wpAny (model X.prog X.w) X.A (call (.builtin id) (v :: us)) (EP X pins σ Q) X.xe s
theorem Vals.one {x:V}{us:List Value} (r:Vals [x] us):∃ u,us=[u]/\RelV x u:=by
 cases r with
 | cons r t=>cases t;exact⟨_,rfl,r⟩
theorem Vals.zero:∀ {us:List Value},Vals [] us->us=[]
 | _,.nil=>rfl
theorem Vals.reverse {xs:List V}{us:List Value} (h:Vals xs us):Vals xs.reverse us.reverse:=by
 induction h with
 | nil=>exact .nil
 | cons r t ih=>rw[List.reverse_cons,List.reverse_cons];exact Vals.append ih (.cons r .nil)
section
variable {X:Cx}{pins:List (Addr×Obj)}{σ:St}{H:Hp}{s:Shared}{l b:Addr}{xs ys zs:List V}
theorem Inv.lset {its its':List Value}{n:Nat}{f:Array Value->Array Value}{t':Nat} (I:Inv X pins σ H s) (hH:H l=some (.lst xs))
 (e:s.heap.get? l=some { cls:=.type "list",data:=.seq its.toArray n }) (hf:f its.toArray=its'.toArray) (hv:Vals ys its') (hz:ys.length<=sizeLine):
 Inv X pins σ (upd H l (.lst ys)) { s with heap:=s.heap.update l (Obj.mapSeq f),toks:=t' }:=by
 have q:=PySem.IsL.update e f
 rw[hf] at q
 refine I.write (x:=l) (e:=l) (by rw[hH];exact trivial) (.inl rfl) (λb' u hb hu=>(Heap.get?_update_other s.heap (Obj.mapSeq f) (Ne.symm hb)).trans hu) ⟨_,q⟩ ?_
 exact⟨hz,its',_,hv,q⟩
theorem Inv.lnew {its:List Value}{t':Nat} (I:Inv X pins σ H s) (hv:Vals ys its) (hz:ys.length<=sizeLine):
 Inv X pins σ (upd H s.heap.objs.size (.lst ys)) { s with heap:=s.heap.push { cls:=.type "list",data:=.seq its.toArray },toks:=t' }:=
 I.laid (λ_ _ q=>Heap.get?_push_of_some _ q) (Nat.le_refl _) ⟨hz,its,0,hv,Heap.get?_push_size _ rfl⟩
theorem Inv.fresh (I:Inv X pins σ H s):H s.heap.objs.size=none:=I.hok.fresh (Nat.le_refl _)
theorem Inv.lstM (I:Inv X pins σ H s) (hH:H l=some (.lst xs)):xs.length<=sizeLine/\∃ (its:List Value) (n:Nat),Vals xs its/\xs.length=its.length/\s.heap.get? l=some { cls:=.type "list",data:=.seq its.toArray n }:=by
 obtain⟨z,its,n,r,e⟩:=I.hok l _ hH
 exact⟨z,its,n,r,r.length,e⟩
end
section
variable {X:Cx}
def qw:V->List V->Hp->VK->Prop:=λx vs H Q=>∃ l xs y,x=.ref l/\vs=[y]/\H l=some (.lst xs)/\xs.length < sizeLine/\Q .non (upd H l (.lst (xs++[y])))
theorem iN:MtM X "list.append" qw:=by
 intro pins s σ H x vs v us Q I rx rv h
 obtain⟨l,xs,y,rfl,rfl,hH,hz,q⟩:=h
 cases rx
 obtain⟨u,rfl,ru⟩:=rv.one
 obtain⟨z,its,n,r,hl,e⟩:=I.lstM hH
 refine call_meets F.slot_list_append ⟨_,e,rfl⟩ F.entry_list_append (F.args_list_append_2 _ _) (PySem.list_append l its.toArray n u (by rw[List.size_toArray];omega)) ⟨e,?_⟩
 refine⟨.non,_,I.lset (its':=its++[u]) hH e (by simp) (r.append (.cons ru .nil)) ?_,rfl,q⟩
 rw[List.length_append,List.length_singleton]
 omega
def oH:V->List V->Hp->VK->Prop:=λx vs H Q=>∃ l xs,x=.ref l/\vs=[]/\H l=some (.lst xs)/\Q .non (upd H l (.lst xs.reverse))
theorem yh:MtM X "list.reverse" oH:=by
 intro pins s σ H x vs v us Q I rx rv h
 obtain⟨l,xs,rfl,rfl,hH,q⟩:=h
 cases rx
 have hus:=rv.zero
 subst hus
 obtain⟨z,its,n,r,hl,e⟩:=I.lstM hH
 refine call_meets F.slot_list_reverse ⟨_,e,rfl⟩ F.entry_list_reverse (F.args_list_reverse_1 _) (AutoSeq1.list_reverse_list_0 l its.toArray n (by rw[List.size_toArray];omega)) ⟨e,?_⟩
 refine⟨.non,_,I.lset (its':=its.reverse) hH e (by simp) r.reverse ?_,rfl,q⟩
 rw[List.length_reverse]
 omega
def rq:R2:=λx y H Q=>∃ l b xs zs,x=.ref l/\y=.ref b/\H l=some (.lst xs)/\H b=some (.lst zs)/\xs.length + zs.length<=sizeLine/\∀ p,H p=none->Q (.ref p) (upd H p (.lst (xs++zs)))
theorem HN:OpR X (binaryOp .Add) rq:=by
 intro pins s σ H x y v u Q I rx ry h
 obtain⟨l,b,xs,zs,rfl,rfl,hH,hB,hz,q⟩:=h
 cases rx
 cases ry
 obtain⟨z,its,n,r,hl,e⟩:=I.lstM hH
 obtain⟨z2,its2,n2,r2,hl2,e2⟩:=I.lstM hB
 refine PySem.P.add_list e e2 ?_ (by rw[List.size_toArray,List.size_toArray];omega)
 have ea:its.toArray++its2.toArray=(its++its2).toArray:=by simp
 rw[ea]
 exact⟨.ref _,_,I.lnew (t':=s.toks) (r.append r2) (by rw[List.length_append];omega),rfl,q _ I.fresh⟩
end
section
variable {prog:Program}{w:World}{A:Around}{E:Value->Shared->Prop}{s:Shared}
set_option maxRecDepth 100000 in
end
section
variable {X:Cx}
end
end L2
namespace Att
open PySem PySem.W PySem.Calls PyProof.Rows
theorem pP {P:Params}{h:Heap}:∀ (ns:List Int) (vs:List Value),WellAll P h vs (ns.map WData.int)->IntsAre vs ns:=by
 intro ns
 induction ns with
 |
  nil=>
  intro vs w
  rw[List.map_nil] at w
  cases w
  exact .nil
 |
  cons n ns ih=>
  intro vs w
  rw[List.map_cons] at w
  cases w with
  |
   cons a b=>
   cases a
   exact .cons _ _ (ih _ b)
theorem Bf {l:OpenLaw}{n:Nat} (hn:l.most=some n) {P:Params}{h:Heap}{args:List WData}{vals:List Value}
 (hpre:l.row.toRowW.claim.pre args=true) (hwl:WellAll P h vals args):
 ∃ a vs ns,vals=[Value.ref a]/\args=[WData.list (ns.map WData.int)]/\h.get? a=some { cls:=.type "list",data:=.seq vs.toArray }/\IntsAre vs ns/\ns.length<=n:=by
 have hsh:WShape.hasAll [] args [.list .int]=true:=(pre_splitW hpre).1
 have hc:l.pre.holds [] { args:=args }=true:=(pre_splitW hpre).2
 obtain⟨d,r,rfl,h1,h2⟩:=hasAllW_cons hsh
 obtain rfl:=hasAllW_nil h2
 obtain⟨xs,rfl,h3⟩:=hasW_list h1
 obtain⟨ns,rfl⟩:=items_int h3
 have db:ns.length<=n:=by
  unfold OpenLaw.pre at hc
  have h4:(WTm.not (.lt (.lit (.int (n:Int))) (.len (.arg 0)))).holds [] { args:=[.list (ns.map .int)] }=true:=by
   have h4:=(holds_andW hc).1
   rw[hn] at h4
   exact h4
  have h5:=condW_of h4 (w_not (w_lt w_lit (w_len_list (w_arg rfl))))
  rw[List.length_map] at h5
  refine Nat.le_of_not_lt λq=>?_
  have q':(n:Int) < ((ns.length:Nat):Int):=by omega
  first
   | (rw[decide_eq_true q'] at h5;exact absurd h5 (by decide))
   | (simp at h5;omega)
 cases hwl with
 |
  cons w1 w2=>
  cases w2
  cases w1 with
  | list ho hall=>exact⟨_,_,ns,rfl,rfl,ho,pP ns _ hall,db⟩
theorem Av (l:OpenLaw) (args:List WData):l.row.toRowW.claim.post args (.bool true) args=true:=
 postW_of (r:=l.row.toRowW) (X:=(true == true))
  (show WShape.has [] (.bool true) .bool=true by first | rfl | decide | simp [WShape.has,WShape.arms,WShape.armsAll])
  (show (WTm.eq .res (.lit (.bool true))).value [] { args:=args,res:=some (.bool true),after:=args }=some (.bool (true == true)) from w_eq_bool (w_res rfl) w_lit) rfl
theorem attach_call {l:OpenLaw}{n:Nat}{q:Program}{loose:List Str}{XP:(Str->Option Value)->Heap->Prop}{YP:World->Heap->Prop}{d:DefRec}
 (hn:l.most=some n) (hdf:d.params.defaults=[])
 (call:∀ (w:World) (s₀ s₁:Shared) (mg mb:Str->Option Value) (fa:Addr) (o:Obj) (pm cd doc:Value) (a:Addr) (vs:List Value) (ns:List Int),
  Ground q loose [] XP w s₀ mg mb s₁.heap->YP w s₁.heap->
  s₁.heap.get? fa=some o->o.data=.func (docDef d.name d.params d.body d.scope pm cd doc)->s₁.heap.CodeRec cd d.name->mg d.name=some (.ref fa)->
  s₁.heap.get? a=some { cls:=.type "list",data:=.seq vs.toArray }->IntsAre vs ns->ns.length<=n->s₁.gens=#[]->
  codeAny (model l.prog w) callerA (.call (.ref fa) ⟨[.ref a],[]⟩) (λr s'=>r=.ok (.ret (.bool true))/\OldK s₁.heap s'.heap/\s'.os=s₁.os/\AllBare s'.gens) s₁):
 WalkO q loose XP YP l.row.toRowW d [] (λf vs=>PySem.call f vs):=by
 intro w s₀ s₁ mg mb G Y fa o pm cd doc dV kV ho hd hcd hD hmg hg args vals as hpre hlay hrd hwl hlo
 obtain rfl:dV=.none:=Dflts.none hD hdf
 obtain rfl:kV=.none:=Dflts.noKw hD
 obtain⟨a,vs,ns,rfl,rfl,hobj,hints,db⟩:=Bf hn hpre hwl
 refine enter_call (codeAny_mono (call w s₀ s₁ mg mb fa o pm cd doc a vs ns G Y ho (fd_plain hd) hcd hmg hobj hints db hg) λr s' hq=>?_)
 obtain⟨rfl,h2,h3,h4⟩:=hq
 exact⟨.inl ⟨.bool true,.bool true,[],rfl,λ_=>rfl,.bool true,Av l _,λ_=>⟨List.Pairwise.nil,λ_ hm=>(nomatch hm)⟩⟩,h2,h3,h4⟩
section
variable {prog:Program}{w:World}{A:Around}{E:Value->Shared->Prop}{s:Shared}{K:Frag}
def vd (h:Heap):Heap:={ h with objs:=#[] }
theorem yw (h:Heap) (b:Addr):(vd h).get? b=none:=by
 cases e:(vd h).get? b with
 | none=>rfl
 | some o=>exact absurd (Heap.lt_size e) (Nat.not_lt_zero _)
def ledger (h:Heap) (L d:Addr):List (Addr×Obj):=(List.range h.objs.size).filterMap λa=>if a=L\/a=d then none else (h.get? a).map λo=>(a,o)
theorem fr_all {h:Heap}{L:Addr}{m:Str->Option Value} (n:h.Ns L m):Fr (vd h) L h m:=
 ⟨n,λb o e=>(by rw[yw] at e;cases e),Nat.zero_le _⟩
end
end Att
namespace L2
open PySem PySem.Spec PyProof.Rows
theorem se:∀ {vs:List Value}{ns:List Int},IntsAre vs ns->Vals (ns.map V.int) vs
 | _,_,.nil=>.nil
 | _,_,.cons n t h=>.cons ⟨t,rfl⟩ (se h)
def qz (H:Hp):Prop:=∀ b,H b=none\/∃ o xs,H b=some (.frz o (.lst xs))
theorem Bo {P:Program}{w:World}{K:W.Frag}{mg mb:Str->Option Value}{CX:CXT}{k:Nat}{fa a:Addr}{fd:FuncData}{x:Str}{sp:Sp}{s₁:Shared}{vs:List Value}{ns:List Int}
 (KX:K.In s₁.heap) (hns:s₁.heap.Ns mainGlobals mg) (hb:s₁.heap.Ns builtinsNs mb) (hbb:∀ x:Str,x ≠ "__name__" -> mb x=bootBuiltins x) (hlim:s₁.heap.NoLimit) (hg:s₁.gens=#[])
 (ha:s₁.heap.get? a=some { cls:=.type "list",data:=.seq vs.toArray }) (hi:IntsAre vs ns) (hl:ns.length<=sizeLine) (hr:Room k callerA)
 (F:∀ base:Heap,K.In base->base.Ns mainGlobals mg->FnOk P w K mg base CX k fa fd [x] sp) (hbind:∀ (s:Shared) (u:Value),BindsTo s fd ⟨[u],[]⟩ [(x,u)])
 (hsp:∀ H:Hp,qz H->SqL K H a (ns.map V.int)->sp [.ref a] H (λv _=>v=.bl true) λ_ _ _=>False)
 (hCX:∀ H e s',CX [] H s₁ (λ_ _ _=>False) e s'->False):
 codeAny (model P w) callerA (.call (.ref fa) ⟨[.ref a],[]⟩) (λr s'=>r=.ok (.ret (.bool true))/\OldK s₁.heap s'.heap/\s'.os=s₁.os/\AllBare s'.gens) s₁:=by
 have rv:=se hi
 have lenV:=hi.length
 have core
  : ∀ H:Hp,qz H->SqL K H a (ns.map V.int)->HOk P w H s₁.heap->(∀ b,H b ≠ none->b=a)->(H a ≠ none->K.lookup a=none)->
  codeAny (model P w) callerA (.call (.ref fa) ⟨[.ref a],[]⟩) (λr s'=>r=.ok (.ret (.bool true))/\OldK s₁.heap s'.heap/\s'.os=s₁.os/\AllBare s'.gens) s₁:=by
  intro H hO hS hok hA hK
  have base_of:∀ {b:Addr}{o:Obj},s₁.heap.get? b=some o->H b=none->(me s₁.heap H).get? b=some o:=λe n=>Cf e n
  have noA:∀ {b:Addr}{o:Obj}{es:Array DictEntry}{ep:Nat},s₁.heap.get? b=some o->o.data=.dict es ep->H b=none:=λ{b o es ep} e d=>by
   cases q:H b with
   | none=>rfl
   |
    some u=>
    have e':b=a:=hA b (by rw[q];simp)
    subst e'
    rw[ha] at e;cases e
    have d':Data.seq vs.toArray _=Data.dict es ep:=d
    cases d'
  have nsK:∀ {b:Addr}{m:Str->Option Value},s₁.heap.Ns b m->(me s₁.heap H).Ns b m:=λ{b m} ⟨o,es,ep,e,d,r⟩=>⟨o,es,ep,base_of e (noA e d),d,r⟩
  have hKb:K.In (me s₁.heap H):=λb o e=>base_of (KX b o e) (by
   cases q:H b with
   | none=>rfl
   |
    some u=>
    have e':b=a:=hA b (by rw[q];simp)
    subst e'
    rw[hK (by rw[q];simp)] at e;cases e)
  have hM:Mod K mg (me s₁.heap H):=⟨hKb,nsK hns,⟨mb,nsK hb,hbb⟩,let ⟨mc,h1,h2⟩:=hlim;⟨mc,nsK h1,h2⟩⟩
  have e0:Env0 P w K mg (me s₁.heap H) callerA [] s₁ H:=⟨rfl,hM,λb o e=>EV e,Nat.le_of_eq (AS _ _),trivial,λb hb=>absurd (show b ∈ ([]:List Addr) from hb) (by simp),hok,.of_eq hg⟩
  refine codeAny_mono ((F _ hKb (nsK hns)).run callerA [] s₁ H ⟨[.ref a],[]⟩ [.ref a] [.ref a] _ _ hr e0 (hbind s₁ (.ref a)) (.cons rfl .nil) (hsp H hO hS)) λr s' h=>?_
  cases r with
  | error e=>exact (hCX H e s' h).elim
  |
   ok fl=>
   cases fl with
   | next=>exact False.elim h
   | brk=>exact False.elim h
   | cont=>exact False.elim h
   |
    ret u=>
    obtain⟨v,H',os,bare,un,hok',r',q⟩:=h
    have q':v=.bl true:=q
    subst q'
    obtain rfl:u=Value.bool true:=r'
    refine⟨rfl,OldK.of_keep λb o e=>?_,os,bare⟩
    cases q:H b with
    | none=>exact un.keep b o e q (by intro z;exact absurd (show b ∈ ([]:List Addr) from z) (by simp)) (by simp)
    |
     some u=>
     rcases hO b with z | ⟨ob,xs,z⟩
     ·rw[q] at z;cases z
     ·have z2:=un.frzs b ob _ z
      obtain⟨e1,_⟩:=hok b _ z
      obtain⟨e2,_⟩:=hok' b _ z2
      rw[e] at e1;cases e1
      exact e2
 cases hk:K.lookup a with
 |
  some o=>
  have e:=KX a o hk
  rw[ha] at e
  cases e
  refine core (λ_=>none) (λ_=>.inl rfl) (.inr ⟨_,vs.toArray,_,hk,rfl,rfl,rfl,by rw[List.size_toArray,lenV];exact hl,by simpa using rv⟩) (λb u z=>by have z':(none:Option HO)=some u:=z;cases z') (λb z=>absurd rfl z) λz=>absurd rfl z
 |
  none=>
  refine core (λb=>if b=a then some (.frz { cls:=.type "list",data:=.seq vs.toArray } (.lst (ns.map V.int))) else none) (λb=>?_) (.inl (.inr ⟨{ cls:=.type "list",data:=.seq vs.toArray },if_pos rfl⟩)) (λb u z=>?_) (λb z=>?_) λ_=>hk
  ·by_cases hb:b=a
   ·exact .inr ⟨_,_,if_pos hb⟩
   ·exact .inl (if_neg hb)
  ·by_cases hb:b=a
   ·have z':=(if_pos hb).symm.trans z
    cases z'
    subst hb
    exact⟨ha,by rw[List.length_map];exact hl,vs,_,rv,ha⟩
   ·have z':=(if_neg hb).symm.trans z
    cases z'
  ·by_cases hb:b=a
   ·exact hb
   ·exact absurd (if_neg hb) z
end L2
namespace L2
open PySem PySem.Spec PyProof.Rows
abbrev KOf {K:W.Frag}{h:Heap} (_:K.In h):W.Frag:=K
theorem walk_of {l:W.OpenLaw}{n k:Nat}{q:Program}{loose:List Str}{XP:(Str->Option Value)->Heap->Prop}{YP:World->Heap->Prop}{d:DefRec}{K:Params->W.Frag}{CX:World->CXT}{sp:World->Sp}{x:Str}
 (hn:l.most=some n) (hn2:n<=sizeLine) (hdf:d.params.defaults=[]) (hr:Room k callerA)
 (hY:∀ (w:World) (h:Heap),YP w h->(K w.params).In h)
 (F:∀ (w:World) (mg:Str->Option Value) (fa:Addr) (h:Heap),(K w.params).In h->h.Ns mainGlobals mg->mg d.name=some (.ref fa)->
  ∃
   fd:FuncData,(∀ (s:Shared) (u:Value),BindsTo s fd ⟨[u],[]⟩ [(x,u)])/\
   ∀ base:Heap,(K w.params).In base->base.Ns mainGlobals mg->FnOk l.prog w (K w.params) mg base (CX w) k fa fd [x] (sp w))
 (hsp:∀ (w:World) (H:Hp) (a:Addr) (ns:List Int),ns.length<=n->qz H->SqL (K w.params) H a (ns.map V.int)->sp w [.ref a] H (λv _=>v=.bl true) λ_ _ _=>False)
 (hCX:∀ (w:World) (H:Hp) (s:Shared) (e:Value) (s':Shared),CX w [] H s (λ_ _ _=>False) e s'->False):
 W.WalkO q loose XP YP l.row.toRowW d [] (λf vs=>PySem.call f vs):=by
 refine Att.attach_call hn hdf λw s₀ s₁ mg mb fa o pm cd doc a vs ns G Y ho hd hcd hmg hobj hints db hg=>?_
 have KX:=hY w _ Y
 obtain⟨fd,hb,hF⟩:=F w mg fa _ KX G.T.g hmg
 exact Bo KX G.T.g G.T.b G.T.builtins G.T.nolimit hg hobj hints (Nat.le_trans db hn2) hr hF hb (λH hO hS=>hsp w H a ns db hO hS) λH e s'=>hCX w H s₁ e s'
end L2
namespace L2
open PySem PySem.Spec PyProof.Rows
def eg (s:Stmt):Arguments:=match s with
 | .FunctionDef _ a _ _ _ _ _ _ _ _=>a
 | _=>{ posonlyargs:=[],args:=[],vararg:=none,kwonlyargs:=[],kw_defaults:=[],kwarg:=none,defaults:=[] }
def cA (s:Stmt):List Stmt:=match s with
 | .FunctionDef _ _ b _ _ _ _ _ _ _=>b
 | _=>[]
def aw (s:Stmt):Scope:=match s with
 | .FunctionDef _ _ _ _ _ _ sc _ _ _=>sc
 | _=>{ kind:=.function,names:=[],isGenerator:=false,isCoroutine:=false }
abbrev E0:XK:=λ_ _ _=>False
structure Fun (K:W.Frag) (x qual:Str) (st:Stmt) (f:Addr) (fd:FuncData):Prop where
 ex:∃ (oc:Value) (od:Option Addr) (kV doc pm:Value) (an:Option Addr) (cdv ct:Value) (osl:Array (Option Value)),
  fd=W.fnOf x qual (eg st) (cA st) (aw st) .none kV doc pm an cdv ct/\K.lookup f=some ⟨oc,od,.func fd,osl⟩/\W.codeIn K cdv qual=true
 kp:W.keepIn K (.ref f)=true
section
variable {P:Program}{w:World}{K:W.Frag}{mg:Str->Option Value}{base:Heap}
theorem Fun.binds {x qual:Str}{st:Stmt}{f:Addr}{fd:FuncData}{ps:List Str} (F:Fun K x qual st f fd)
 (h:∀ (kV doc pm:Value) (an:Option Addr) (cdv ct:Value) (us:List Value),us.length=ps.length->bindArgs (W.fnOf x qual (eg st) (cA st) (aw st) .none kV doc pm an cdv ct) ⟨us,[]⟩=pure (ps.zip us)):Binds K fd ps []:=by
 obtain⟨oc,od,kV,doc,pm,an,cdv,ct,osl,rfl,lk,hcd⟩:=F.ex
 exact .all (h kV doc pm an cdv ct)
theorem JQ {x qual:Str}{st:Stmt}{f:Addr}{oc:Value}{od an:Option Addr}{osl:Array (Option Value)}{kV doc pm cdv ct:Value} (l:K.lookup f=some ⟨oc,od,.func (W.fnOf x qual (eg st) (cA st) (aw st) .none kV doc pm an cdv ct),osl⟩)
 (c:W.codeIn K cdv qual=true) (k:W.keepIn K (.ref f)=true):Fun K x qual st f (W.fnOf x qual (eg st) (cA st) (aw st) .none kV doc pm an cdv ct):=⟨⟨oc,od,kV,doc,pm,an,cdv,ct,osl,rfl,l,c⟩,k⟩
end
theorem gz {A:Around}{k:Nat} (hr:Room k A):A.units + 1 < cLine:=Nat.lt_of_le_of_lt (Nat.add_le_add_left (by decide:1<=64) _) hr.units
section
variable {X:Cx}
end
end L2
namespace L2
open PySem PySem.Spec PyProof.Rows
section
variable {X:Cx}{pins:List (Addr×Obj)}{σ:St}{H:Hp}{s:Shared}
theorem Inv.track {a:Addr}{o:HO} (I:Inv X pins σ H s) (hn:H a=none) (h0:X.s₀.heap.get? a=none) (hL:a ≠ X.env.locals) (hc:∀ x c,X.env.cells.lookup x=some c->c ≠ a)
 (hp:∀ p ∈ X.pn++pins,p.1 ≠ a) (new:ObjOk X.prog X.w (upd H a o) s.heap a o):Inv X pins σ (upd H a o) s:=by
 have ne:∀ b u,H b=some u->b ≠ a:=λb u e z=>by rw[z,hn] at e;cases e
 have ne0:∀ b u,X.s₀.heap.get? b=some u->b ≠ a:=λb u e z=>by rw[z,h0] at e;cases e
 refine⟨I.ok,I.os,I.bare,⟨I.base.keep,I.base.slot,λb u e n hx=>?_,I.base.there,λb xs e=>?_,λb u xs e=>?_,λb ps e=>?_⟩,I.loc,I.cell,?_,λx c e=>?_,λp hp'=>?_,λb u e=>?_,I.len⟩
 ·rw[aV (ne0 b u e)];exact I.base.free b u e n hx
 ·have q:=I.base.tups b xs e
  rw[aV (ne _ _ q)];exact q
 ·have q:=I.base.frzs b u xs e
  rw[aV (ne _ _ q)];exact q
 ·obtain⟨m,q⟩:=I.base.tbls b ps e
  exact⟨m,by rw[aV (ne _ _ q)];exact q⟩
 ·rw[aV (Ne.symm hL)];exact I.free
 ·rw[aV (hc x c e)];exact I.freeC x c e
 ·obtain⟨e,n,r⟩:=I.pin p hp'
  exact⟨e,by rw[aV (hp p hp')];exact n,r⟩
 ·by_cases hb:b=a
  ·subst hb;rw[dB] at e;cases e;exact new
  ·rw[aV hb] at e
   exact (I.hok b u e).stay (λc v _ q=>q) (λc q=>by rw[aV (ne _ _ q)];exact q) λc xs q=>by rw[aV (ne _ _ q)];exact q
end
theorem kW {env:Env}:∀ {names:List (Str×NameKind)} (cs:List (Str×Addr)),(∀ x ∈ names,x.2=.free->∃ c,env.cells.lookup x.1=some c)->(∀ x c,cs.lookup x=some c->env.cells.lookup x=some c)->
 ∃
  cl,(forIn names cs λ(x:Str×NameKind) (r:List (Str×Addr))=>if (x.2 == NameKind.free)=true then do let a <- cellOf env x.1;pure (ForInStep.yield ((x.1,a) :: r)) else pure (ForInStep.yield r):Sem (List (Str×Addr)))=pure cl/\
  (∀ x c,cl.lookup x=some c->env.cells.lookup x=some c)/\(∀ x c,cs.lookup x=some c->∃ c',cl.lookup x=some c')/\∀ x ∈ names,x.2=.free->∃ c,cl.lookup x.1=some c
 | [],cs,_,h=>⟨cs,by simp,h,λx c e=>⟨c,e⟩,λ_ hx=>nomatch hx⟩
 |
  (n,k) :: r,cs,hf,h=>by
  rw[List.forIn_cons]
  by_cases hk:k=.free
  ·subst hk
   obtain⟨c,hc⟩:=hf (n,.free) List.mem_cons_self rfl
   have hcell:cellOf env n=pure c:=by unfold cellOf;rw[hc]
   have h':∀ x d,((n,c) :: cs).lookup x=some d->env.cells.lookup x=some d:=λx d e=>by
    rw[List.lookup_cons] at e
    cases q:x == n with
    | true=>rw[q] at e;cases e;rw[beq_iff_eq.mp q];exact hc
    | false=>rw[q] at e;exact h x d e
   obtain⟨cl,e1,e2,e3,e4⟩:=kW (env:=env) (names:=r) ((n,c) :: cs) (λx hx=>hf x (List.mem_cons_of_mem _ hx)) h'
   have top:∃ c',cl.lookup n=some c':=e3 n c (by rw[List.lookup_cons];simp)
   refine⟨cl,?_,e2,λx d e=>?_,λx hx tt=>?_⟩
   ·simp only[beq_self_eq_true,if_true,hcell]
    exact e1
   ·by_cases q:x=n
    ·rw[q];exact top
    ·exact e3 x d (by rw[List.lookup_cons,(beq_eq_false_iff_ne.mpr q:(x == n)=false)];exact e)
   ·rcases List.mem_cons.mp hx with rfl | hx
    ·exact top
    ·exact e4 x hx tt
  ·have hb:(k == NameKind.free)=false:=by simpa using hk
   obtain⟨cl,e1,e2,e3,e4⟩:=kW (env:=env) (names:=r) cs (λx hx=>hf x (List.mem_cons_of_mem _ hx)) h
   refine⟨cl,?_,e2,e3,λx hx tt=>?_⟩
   ·simp only[hb,Bool.false_eq_true,if_false]
    exact e1
   ·rcases List.mem_cons.mp hx with rfl | hx
    ·exact absurd tt hk
    ·exact e4 x hx tt
theorem mB {env:Env}{scope:Scope} (hf:∀ x ∈ scope.names,x.2=.free->∃ c,env.cells.lookup x.1=some c):
 ∃ cl,closureFor scope env=pure cl/\(∀ x c,cl.lookup x=some c->env.cells.lookup x=some c)/\∀ x ∈ scope.names,x.2=.free->∃ c,cl.lookup x.1=some c:=by
 obtain⟨cl,e1,e2,_,e4⟩:=kW (env:=env) (names:=scope.names) [] hf (λx c e=>by simp at e)
 refine⟨cl,?_,e2,e4⟩
 unfold closureFor
 simp only[e1]
 rfl
def aS (X:Cx) (N:List Str) (scope:Scope) (cl:List (Str×Addr)) (C:Addr) (s₂:Shared) (H:Hp) (fp:List Addr):Cx:=
 { X with N:=N,s₀:=s₂,H₀:=H,env:=compEnvC scope cl C X.env,outer:=X.stack,stack:=X.stack,ex:=fp,fn:=λ_=>false,pn:=[],xe:=λ_ _=>False }
def dO (sub:List (Option Nat)) (σ:St):St:=sub.map λo=>o.bind λi=>(σ[i]?).bind id
def LcW (J:It) (sub:List (Option Nat)) (g:TG) (tc:TT) (te:TE) (σ:St) (H1:Hp) (Q:VK):Prop:=∃ W:Nat->Nat->List V->St->Hp->Prop,(∃ m,W 0 m [] (dO sub σ) H1)/\∀ i m ys σ H,W i m ys σ H->
 (J.stop i H/\ys.length<=sizeLine/\∀ D,H D=none->Q (.ref D) (upd H D (.lst ys)))\/
 (J.go i H/\ys.length < sizeLine/\∃ Nx:List V->St->Hp->Prop,(∀ ys' σ' H',Nx ys' σ' H'->∃ m',m' < m/\W (i + 1) m' ys' σ' H')/\
  ∀ x H',J.yld i H x H'->g x σ H' λσ2 H2=>tc σ2 H2 λb H3=>if b=true then te σ2 H3 λy H4=>Nx (ys++[y]) σ2 H4 else Nx ys σ2 H3)
def lH (wi:TI) (sub:List (Option Nat)) (g:TG) (tc:TT) (te:TE):TE:=λσ H Q=>wi σ H λJ H1=>LcW J sub g tc te σ H1 Q
abbrev BN:TT:=λ_ H Q=>Q true H
section
variable {prog:Program}{w:World}{A:Around}{R:Result->Shared->Prop}{s:Shared}
theorem nh {lv target al:Expr}{ifs:List Expr}{scope:Scope}{pos:Pos}{it acc:Value}{env:Env} (I:Nat->Shared->Prop)
 (turn
  : ∀ n s,I n s->wpAny (model prog w) A (pyNext it) (λr s₁=>match r with
  | none=>R (.ok .next) s₁
  | some v=>wpAny (model prog w) A (letOwnedTupleGo target it v) (λ_ s₁'=>wpAny (model prog w) A (assign target env v) (λ_ s₂=>
   wpAny (model prog w) A (forIn ifs true λc r=>if r=true then do let ok <- isTrue c env (eval c env);pure (ForInStep.yield ok) else pure (ForInStep.yield r))
    (λok s₃=>if ok=true then wpAny (model prog w) A (eval lv env) (λx s₄=>wpAny (model prog w) A (call (.builtin "list.append") [acc,x]) (λ_ s₅=>∃ m,m < n/\I m s₅) (λ_ _=>False) s₄) (λ_ _=>False) s₃
     else ∃ m,m < n/\I m s₃) (λ_ _=>False) s₂) (λ_ _=>False) s₁') (λ_ _=>False) s₁) (λ_ _=>False) s)
 (n:Nat) (h:I n s):
 codeAny (model prog w) A (.compLoop (.ListComp lv [⟨target,al,ifs,0⟩] scope pos) 0 it acc env) R s:=by
 refine codeAny_loop rfl I (λn s hI=>?_) n h
 show wpAny _ _ ((compTurn (.ListComp lv [⟨target,al,ifs,0⟩] scope pos) 0 it acc env).onRaise (λx=>do noteFrame x env;theTreesLotGoes x)) _ _ s
 refine wpAny_noted ?_
 rw[compTurn_list]
 refine wpAny_mono (E:=λ_ _=>False) ?_ (λ_ _ q=>q) λ_ _ q=>q.elim
 refine wpAny_bind (wpAny_standAt (wpAny_bind (wpAny_mono (turn n s hI) (λr s₁ h₁=>?_) λ_ _ h'=>h')))
 cases r with
 | none=>exact wpAny_pure h₁
 |
  some v=>
  refine wpAny_bind (wpAny_mono h₁ (λ_ s₁' h₁'=>?_) λ_ _ h'=>h')
  refine wpAny_bind (wpAny_mono h₁' (λ_ s₂ h₂=>?_) λ_ _ h'=>h')
  refine wpAny_bind (wpAny_mono h₂ (λok s₃ h₃=>?_) λ_ _ h'=>h')
  cases ok with
  |
   true=>
   simp only[if_true] at h₃ ⊢
   refine wpAny_bind (wpAny_bind (wpAny_mono h₃ (λx s₄ h₄=>?_) λ_ _ h'=>h'))
   refine wpAny_bind (wpAny_mono h₄ (λ_ s₅ h₅=>?_) λ_ _ h'=>h')
   exact wpAny_pure (wpAny_pure ⟨rfl,h₅⟩)
  |
   false=>
   simp only[Bool.false_eq_true,if_false] at h₃ ⊢
   first
    | exact wpAny_bind (wpAny_pure (wpAny_pure ⟨rfl,h₃⟩))
    | exact wpAny_pure ⟨rfl,h₃⟩
end
section
variable {X:Cx}
def PTs (X:Cx) (ifs:List Expr) (t:TT):Prop:=
 ∀
  (pins:List (Addr×Obj)) (s:Shared) (σ:St) (H:Hp) (Q:Bool->Hp->Prop),Inv X pins σ H s->t σ H Q->
  wpAny (model X.prog X.w) X.A (forIn ifs true λc r=>if r=true then do let ok <- isTrue c X.env (eval c X.env);pure (ForInStep.yield ok) else pure (ForInStep.yield r)) (TP X pins σ Q) X.xe s
theorem xU:PTs X [] (λ_ H Q=>Q true H):=λpins s σ H Q I h=>by
 rw[List.forIn_nil]
 exact wpAny_pure ⟨H,I,h⟩
theorem xK {c:Expr}{tc:TT} (hc:PT X c tc):PTs X [c] tc:=λpins s σ H Q I h=>by
 rw[List.forIn_cons]
 simp only[if_true]
 refine wpAny_bind (wpAny_bind (thn (hc pins s σ H Q I h) λb s1 q=>wpAny_pure ?_))
 dsimp only
 rw[List.forIn_nil]
 exact wpAny_pure q
theorem Ay {lv al tg:Expr}{ifs:List Expr}{scope:Scope}{pos:Pos}{wi:TI}{g:TG}{tc:TT}{te:TE}{N:List Str}{sub:List (Option Nat)}
 (hc:X.calm=true) (hi:PI X tg al wi)
 (hk:scope.kind=.function) (hnc:∀ x ∈ scope.names,x.2 ≠ .cell) (bi:∀ x ∈ scope.names,x.2=.local->scope.names.lookup x.1=some .local)
 (tt:∀ x ∈ scope.names,x.2=.free->X.env.kindOf x.1=some .cell\/X.env.kindOf x.1=some .free)
 (hsl:sub.length=N.length) (io:∀ (j i:Nat) (x:Str),sub[j]?=some (some i)->N[j]?=some x->X.N[i]?=some x/\scope.names.lookup x=some .free)
 (hg:∀ cl C s₂ H fp,PG (aS X N scope cl C s₂ H fp) tg g) (ht:∀ cl C s₂ H fp,PTs (aS X N scope cl C s₂ H fp) ifs tc) (he:∀ cl C s₂ H fp,PE (aS X N scope cl C s₂ H fp) lv te)
 (hs:∀ x,foldedSetIterable al X.env x=pure x:=by intro _;rfl):
 PE X (.ListComp lv [⟨tg,al,ifs,0⟩] scope pos) (lH wi sub g tc te):=by
 intro pins s σ H Q I h
 obtain⟨cl,hclos,hcl,hclf⟩:=mB (env:=X.env) (scope:=scope) λx hx hf=>I.ok.has x.1 (tt x hx hf)
 rw[eval_ListComp]
 refine wpAny_comprehension_free (use:=none) rfl hs hclos hk bi ?_
 show wpAny _ _ (eval al X.env) _ _ _
 refine thn (hi pins s σ H _ I h) λv s1 h1=>thn h1 λitv s2 h2=>?_
 obtain⟨it,fp,tn,J,H2,e,I2,T,st2,f2,W,⟨m0,w0⟩,turn⟩:=h2
 subst e
 refine wpAny_newObj_type (wpAny_newFunctionEnv hnc (by intro y hy;simp at hy) (λh₁ hns₁ hsb₁=>?_) hk)
 dsimp only at hns₁ hsb₁ ⊢
 generalize hH2:s2.heap.push { cls:=.type "list",dict:=none,data:=.seq ([]:List Value).toArray }=G2 at hns₁ hsb₁ ⊢
 have hC:G2.objs.size=s2.heap.objs.size + 1:=by rw[<- hH2,Heap.size_push]
 have hDC:s2.heap.objs.size ≠ G2.objs.size:=by omega
 have below:∀ b,b < s2.heap.objs.size->b ≠ G2.objs.size/\b ≠ s2.heap.objs.size:=λb hb=>⟨by omega,by omega⟩
 have old:∀ b o,s2.heap.get? b=some o->h₁.get? b=some o:=λb o e=>hsb₁.extBut b o (below b (Heap.lt_size e)).1 (Heap.get?_push_of_some _ (hH2 ▸ Heap.get?_push_of_some _ e))
 have hD₁:h₁.get? s2.heap.objs.size=some { cls:=.type "list",dict:=none,data:=.seq ([]:List Value).toArray }:=hsb₁.extBut _ _ hDC (Heap.get?_push_of_some _ (hH2 ▸ Heap.get?_push_size _ rfl))
 have fresh:∀ a,s2.heap.objs.size<=a->s2.heap.get? a=none:=λa ha=>Heap.get?_none_of_le ha
 have cellOld:∀ x c,cl.lookup x=some c->c < s2.heap.objs.size:=λx c e=>by
  obtain⟨v,z⟩:=I2.cell x c (hcl x c e)
  exact z.lt
 have fpOld:∀ b ∈ fp,b < s2.heap.objs.size:=λb hb=>by
  obtain⟨o,e,_⟩:=T.obj _ _ st2 b hb
  exact Heap.lt_size e
 let Y:Cx:=aS X N scope cl G2.objs.size s2 H2 fp
 have okY:Y.Ok
  := by
  refine⟨I2.ok.mod,?_,I2.ok.glob,I2.ok.blt,?_,λx y c e1 e2=>I2.ok.inj x y c (hcl x c e1) (hcl y c e2),λx hx=>?_,λx c hfn _=>absurd hfn Bool.false_ne_true,I2.ok.hd,I2.ok.frames,.inl rfl,
   λb hb=>⟨?_,λx c e z=>?_⟩,I2.bs,Nat.le_trans I2.ok.bsz I2.sz,λb o e hb=>?_,λb hb hf=>?_,I2.stack,I2.stkFree⟩
  ·show (relabel scope X.env).kind=.function
   exact hk
  ·show s2.heap.objs.size<=G2.objs.size
   omega
  ·have hx':(
    relabel scope X.env).names.lookup x=some .cell\/(relabel scope X.env).names.lookup x=some .free:=hx
   have:∃ k,
    (x,k) ∈ scope.names/\k=.free:=by
    have gen:∀ (names:List (Str×NameKind)),(∀ y ∈ names,y.2 ≠ .cell)->∀ kk,(kk=NameKind.cell\/kk=NameKind.free)->(names.map λ(n,k)=>if (k == NameKind.free && X.env.scope.kind == .function && X.env.kindOf n == some .cell) then (n,NameKind.cell) else (n,k)).lookup x=some kk->∃ k,(x,k) ∈ names/\k=.free:=by
     intro names
     induction names with
     | nil=>intro _ kk _ e;simp at e
     |
      cons y r ih=>
      intro hn kk hkk e
      obtain⟨n,k⟩:=y
      rw[List.map_cons,List.lookup_cons] at e
      by_cases hkf:k=.free
      ·subst hkf
       by_cases hxn:x=n
       ·exact⟨.free,by rw[hxn];exact List.mem_cons_self,rfl⟩
       ·have hb:(x == (if (NameKind.free == NameKind.free && X.env.scope.kind == .function && X.env.kindOf n == some .cell)=true then (n,NameKind.cell) else (n,NameKind.free)).1)=false:=by
         split <;> exact beq_eq_false_iff_ne.mpr hxn
        rw[hb] at e
        obtain⟨k',m,q⟩:=ih (λz hz=>hn z (List.mem_cons_of_mem _ hz)) kk hkk e
        exact⟨k',List.mem_cons_of_mem _ m,q⟩
      ·have hb0:(k == NameKind.free && X.env.scope.kind == .function && X.env.kindOf n == some .cell)=false:=by
        have:(k == NameKind.free)=false:=by simpa using hkf
        rw[this];rfl
       rw[hb0] at e
       simp only[Bool.false_eq_true,if_false] at e
       cases q:x == n with
       |
        true=>
        rw[q] at e
        have e':k=kk:=Option.some.inj e
        subst e'
        rcases hkk with z | z
        ·exact absurd z (hn (n,k) List.mem_cons_self)
        ·exact absurd z hkf
       |
        false=>
        rw[q] at e
        obtain⟨k',m,q⟩:=ih (λz hz=>hn z (List.mem_cons_of_mem _ hz)) kk hkk e
        exact⟨k',List.mem_cons_of_mem _ m,q⟩
    rcases hx' with z | z
    ·exact gen scope.names hnc _ (.inl rfl) z
    ·exact gen scope.names hnc _ (.inr rfl) z
   obtain⟨k,m,q⟩:=this
   exact hclf (x,k) m q
  ·show b ≠ G2.objs.size
   exact (below b (fpOld b hb)).1
  ·exact (f2 b hb).2.2.2.2.1 x c (hcl x c e) z
  ·rcases (f2 b hb).2.2.2.1 with z | z
   ·exact I2.ok.noex b o e z
   ·exact absurd (Nat.lt_of_lt_of_le (Heap.lt_size e) (Nat.le_trans I2.ok.bsz z)) (Nat.lt_irrefl _)
  ·have hf':b ∈ frs X.stack:=hf
   rcases List.mem_cons.mp (I2.stkSub b hf') with z | z
   ·exact (f2 b hb).2.1 z
   ·exact (f2 b hb).2.2.1 z
 have startLoc
  : ∃ m,h₁.Ns G2.objs.size m/\∀ (i:Nat) (x:Str) (v:V),N[i]?=some x->(dO sub σ)[i]?=some (some v)->Vis (relabel scope X.env) x->∃ u,RelV v u/\Bu Y.env h₁ m x u:=by
  refine⟨_,hns₁,λj x v e1 e2 e3=>?_⟩
  unfold dO at e2
  rw[List.getElem?_map] at e2
  cases q:sub[j]? with
  | none=>rw[q] at e2;cases e2
  |
   some o=>
   rw[q] at e2
   cases o with
   | none=>cases e2
   |
    some i=>
    obtain⟨hNi,hfree⟩:=io j i x q e1
    have e2':(σ[i]?).bind id=some v:=Option.some.inj e2
    have e2'':σ[i]?=some (some v):=by
     cases z:σ[i]? with
     | none=>rw[z] at e2';cases e2'
     | some y=>rw[z] at e2';rw[show y=some v from e2']
    obtain⟨m2,hn2,hl2⟩:=I2.loc
    have hkx:=tt (x,.free) (PySem.mem_of_lookup hfree) rfl
    obtain⟨u,r,l⟩:=hl2 i x v hNi e2'' (by rcases hkx with z | z;exact .inr (.inl z);exact .inr (.inr z))
    refine⟨u,r,.inr ⟨?_,?_⟩⟩
    ·rcases e3
      with z | z | z
     ·exfalso
      have gen:∀ (names:List (Str×NameKind)),names.lookup x=some .free->(names.map λ(n,k)=>if (k == NameKind.free && X.env.scope.kind == .function && X.env.kindOf n == some .cell) then (n,NameKind.cell) else (n,k)).lookup x=some .local->False:=by
       intro names
       induction names with
       | nil=>intro e _;simp at e
       |
        cons y r ih=>
        intro e1 e2
        obtain⟨n,k⟩:=y
        rw[List.lookup_cons] at e1
        rw[List.map_cons,List.lookup_cons] at e2
        by_cases hxn:x=n
        ·have hb1:(x == n)=true:=beq_iff_eq.mpr hxn
         rw[hb1] at e1
         have:k=.free:=Option.some.inj e1
         subst this
         split at e2
         ·rename_i hq
          split at e2 <;> cases e2
         ·rename_i hq
          split at hq <;> (rw[hb1] at hq;cases hq)
        ·have hb1:(x == n)=false:=beq_eq_false_iff_ne.mpr hxn
         rw[hb1] at e1
         refine ih e1 ?_
         split at e2
         ·rename_i hq
          split at hq <;> (rw[hb1] at hq;cases hq)
         ·exact e2
      exact gen scope.names hfree z
     ·exact .inl z
     ·exact .inr z
    ·obtain⟨c,hc'⟩:=hclf (x,.free) (PySem.mem_of_lookup hfree) rfl
     refine⟨c,hc',?_⟩
     rcases l with ⟨k,_⟩ | ⟨_,c2,ec2,z⟩
     ·rcases hkx with z | z <;> (rw[k] at z;cases z)
     ·have:=hcl x c hc'
      rw[ec2] at this
      cases this
      obtain⟨oc,hoc,hd⟩:=z
      exact⟨oc,old _ _ hoc,hd⟩
 have pinD:∀ {σ':St}{H':Hp}{s':Shared}{pl:List (Addr×Obj)}{o:Obj},Inv Y pl σ' H' s'->s'.heap.get? s2.heap.objs.size=some o->(∀ v,o.data ≠ .cell v)->H' s2.heap.objs.size=none->Inv Y [(s2.heap.objs.size,o)] σ' H' s':=λ{σ' H' s' pl o} IY e d n=>
  IY.pins_of λp hp=>by
   have e':p=(s2.heap.objs.size,o):=by simpa using hp
   subst e'
   refine⟨e,n,?_,?_,d⟩
   ·show s2.heap.objs.size ≠ G2.objs.size
    omega
   ·intro hf
    have hf':s2.heap.objs.size ∈ frs X.stack:=hf
    obtain⟨_,o',ho',_⟩:=I2.stack.mem hf'
    exact absurd (Heap.lt_size ho') (Nat.lt_irrefl _)
 have fpY:∀ {H':Hp}{pl:List (Addr×Obj)},(∀ b ∈ fp,H' b=none)->(∀ p ∈ pl,p.1 ∉ fp)->∀ b ∈ fp,FpOk Y pl H' b:=λ{H' pl} hn hp b hb=>by
  refine⟨hn b hb,?_,?_,.inl hb,λx c e=>?_,λp hp'=>?_⟩
  ·exact (okY.exf b hb).1
  ·exact okY.exfs b hb
  ·exact (okY.exf b hb).2 x c e
  ·intro z
   have hp'':p ∈ pl:=by simpa [Y,aS] using hp'
   exact hp p hp'' (by rw[z];exact hb)
 have hDfp:s2.heap.objs.size ∉ fp:=λz=>Nat.lt_irrefl _ (fpOld _ z)
 have loop
  : ∀ s₃:Shared,s₃={ s2 with heap:=h₁,toks:=s2.toks + ([]:List (Str×Value)).length }->
  codeAny (model X.prog X.w) X.A (.compLoop (.ListComp lv [⟨tg,al,ifs,0⟩] scope pos) 0 (.ref it) (.ref s2.heap.objs.size) (compEnvC scope cl G2.objs.size X.env))
   (compPost (model X.prog X.w) X.A X.xe none (EP X pins σ Q) (.ref s2.heap.objs.size) G2.objs.size) s₃:=by
  rintro s₃ rfl
  have IY0:Inv Y [(s2.heap.objs.size,{ cls:=.type "list",dict:=none,data:=.seq ([]:List Value).toArray })] (dO sub σ) H2 { s2 with heap:=h₁,toks:=s2.toks + ([]:List (Str×Value)).length }:=by
   have J0:Inv Y [] (dO sub σ) H2 { s2 with heap:=h₁,toks:=s2.toks + ([]:List (Str×Value)).length }:=by
    refine⟨okY,rfl,I2.bare,Un.kept old,startLoc,λx c e=>?_,I2.hok.fresh (by show s2.heap.objs.size<=G2.objs.size;omega),λx c e=>I2.freeC x c (hcl x c e),λp hp=>absurd (show p ∈ ([]:List (Addr×Obj)) from hp) (by simp),I2.hok.kept old,?_⟩
    ·obtain⟨v,oc,hoc,hd⟩:=I2.cell x c (hcl x c e)
     exact⟨v,oc,old _ _ hoc,hd⟩
    ·show (dO sub σ).length=N.length
     unfold dO
     rw[List.length_map];exact hsl
   exact pinD J0 hD₁ (λv z=>by cases z) I2.fresh
  refine nh (λn s'=>∃ (i:Nat) (ys:List V) (its:List Value) (k:Nat) (σ':St) (H':Hp),Inv Y [(s2.heap.objs.size,{ cls:=.type "list",dict:=none,data:=.seq its.toArray k })] σ' H' s'/\Vals ys its/\tn i s'.heap/\(∀ b ∈ fp,H' b=none)/\W i n ys σ' H') ?_ m0
   ⟨0,[],[],0,dO sub σ,H2,IY0,.nil,T.keep _ _ _ st2 (λb hb o e=>old b o e),λb hb=>(f2 b hb).1,w0⟩
  rintro n s3 ⟨i,ys,its,k,σ3,H3,I3,rv,st3,fr3,w3⟩
  have npl:∀ (o:Obj),∀ p ∈ [(s2.heap.objs.size,o)],p.1 ∉ fp:=λo p hp=>by
   have e':p=(s2.heap.objs.size,o):=by simpa using hp
   subst e'
   exact hDfp
  rcases turn i n ys σ3 H3 w3 with ⟨stop,hz,qn⟩ | ⟨go,hz,Nx,hNx,step⟩
  ·refine wpAny_mono (T.done Y rfl rfl rfl hc i _ s3 σ3 H3 (λ_ _=>False) I3 (fpY fr3 (npl _)) st3 stop) (λr s4 ⟨hr,I4⟩=>?_) λ_ _ z=>z
   subst hr
   obtain⟨m4,hn4,_⟩:=I4.loc
   refine⟨m4,hn4,λh' hs'=>?_⟩
   have hCfree:H3 G2.objs.size=none:=I4.free
   have hD4:=I4.pin (s2.heap.objs.size,{ cls:=.type "list",dict:=none,data:=.seq its.toArray k }) (List.mem_append_right _ List.mem_cons_self)
   have un4:Un (frs X.stack) fp H2 H3 s2.heap s4.heap:=I4.base
   have up:∀ b o,b ≠ G2.objs.size->s4.heap.get? b=some o->h'.get? b=some o:=λb o hb e=>hs'.extBut b o hb e
   have ne2:∀ b o,s2.heap.get? b=some o->b ≠ G2.objs.size:=λb o e=>(below b (Heap.lt_size e)).1
   have un5:Un (frs X.stack) fp H2 H3 s2.heap h':=by
    refine⟨λb o e n hb hx=>up b o (ne2 b o e) (un4.keep b o e n hb hx),λb o e n hb hx=>?_,un4.free,λb o e hx=>?_,un4.tups,un4.frzs,un4.tbls⟩
    ·obtain⟨sl,q⟩:=un4.slot b o e n hb hx
     exact⟨sl,up b _ (ne2 b o e) q⟩
    ·obtain⟨o',q⟩:=un4.there b o e hx
     exact⟨o',up b _ (ne2 b o e) q⟩
   have hok5:HOk X.prog X.w H3 h':=λb u e=>(I4.hok b u e).stay (λc v hcc q=>up c v (λz=>by
    rcases hcc with zz | zz
    ·rw[zz] at z;rw[z,hCfree] at e;cases e
    ·rw[z,hCfree] at zz;cases zz) q) (λ_ q=>q) λ_ _ q=>q
   have I5:Inv X pins σ H3 { s4 with heap:=h' }:=I2.call' (s':={ s4 with heap:=h' }) (ch:=fp) I4.os un5 hok5 I4.bare λb hb=>by
    obtain⟨_,g1,_,g3,g4,g5⟩:=f2 b hb
    exact⟨g3,g1,g4,g5⟩
   have hDfree:H3 s2.heap.objs.size=none:=hD4.2.1
   have sz0:X.s₀.heap.objs.size<=s2.heap.objs.size:=I2.sz
   refine⟨.ref s2.heap.objs.size,_,I5.track (o:=.lst ys) hDfree (Heap.get?_none_of_le sz0) (Nat.ne_of_gt I2.lt) (λx c e z=>?_) (λp hp z=>?_) ?_,rfl,qn _ hDfree⟩
   ·obtain⟨v,q⟩:=I2.cell x c e
    exact absurd q.lt (by rw[z];exact Nat.lt_irrefl _)
   ·exact absurd (Heap.lt_size (I2.pin p hp).1) (by rw[z];exact Nat.lt_irrefl _)
   ·exact⟨hz,its,k,rv,up _ _ hDC hD4.1⟩
  ·refine wpAny_mono (T.item Y rfl rfl rfl hc i _ s3 σ3 H3 (λ_ _=>False) I3 (fpY fr3 (npl _)) st3 go) (λr s4 ⟨u,hr,h4⟩=>?_) λ_ _ z=>z
   subst hr
   refine wpAny_mono h4 (λ_ s5 ⟨x,H5,I5,r5,y5,st5,fr5⟩=>?_) λ_ _ z=>z
   have I5':=I5.pinned (fpY fr5 (npl _)) (T.obj _ _ st5)
   refine wpAny_mono (hg cl G2.objs.size s2 H2 fp _ s5 σ3 H5 x u _ I5' r5 (step x H5 y5)) (λ_ s6 ⟨σ6,H6,I6,q6⟩=>?_) λ_ _ z=>z
   refine wpAny_mono (ht cl G2.objs.size s2 H2 fp _ s6 σ6 H6 _ I6 q6) (λok s7 ⟨H7,I7,q7⟩=>?_) λ_ _ z=>z
   have back:∀ {σ':St}{H':Hp}{s':Shared},Inv Y ([(s2.heap.objs.size,{ cls:=.type "list",dict:=none,data:=.seq its.toArray k })]++kA fp s5.heap) σ' H' s'->tn (i + 1) s'.heap/\∀ b ∈ fp,H' b=none:=λ{σ' H' s'} IB=>by
    refine⟨T.keep _ _ _ st5 λb hb o e=>(IB.pin (b,o) (List.mem_append_right _ (List.mem_append_right _ (fu hb e)))).1,λb hb=>?_⟩
    obtain⟨o,e,d⟩:=T.obj _ _ st5 b hb
    exact (IB.pin (b,o) (List.mem_append_right _ (List.mem_append_right _ (fu hb e)))).2.1
   cases ok with
   |
    false=>
    rw[if_neg Bool.false_ne_true] at q7
    obtain⟨m',hm,w7⟩:=hNx _ _ _ q7
    rw[if_neg Bool.false_ne_true]
    obtain⟨t7,f7⟩:=back I7
    exact⟨m',hm,i + 1,ys,its,k,σ6,H7,I7.unpinned,rv,t7,f7,w7⟩
   |
    true=>
    rw[if_pos rfl] at q7
    rw[if_pos rfl]
    refine wpAny_mono (he cl G2.objs.size s2 H2 fp _ s7 σ6 H7 _ I7 q7) (λy s8 ⟨yv,H8,I8,r8,q8⟩=>?_) λ_ _ z=>z
    obtain⟨m',hm,w8⟩:=hNx _ _ _ q8
    obtain⟨t8,f8⟩:=back I8
    have I9:=I8.unpinned
    have hD9:=I9.pin (s2.heap.objs.size,{ cls:=.type "list",dict:=none,data:=.seq its.toArray k }) (List.mem_append_right _ List.mem_cons_self)
    have e9:s8.heap.get? s2.heap.objs.size=some { cls:=.type "list",dict:=none,data:=.seq its.toArray k }:=hD9.1
    have db:=rv.length
    refine call_meets F.slot_list_append ⟨_,e9,rfl⟩ F.entry_list_append (F.args_list_append_2 _ _) (PySem.list_append _ its.toArray k y (by rw[List.size_toArray];omega)) ⟨e9,?_⟩
    have q9:=PySem.IsL.update e9 (λxs=>xs.push y)
    have ea:its.toArray.push y=(its++[y]).toArray:=by simp
    rw[ea] at q9
    have k9:∀ b o,b ≠ s2.heap.objs.size->s8.heap.get? b=some o->(s8.heap.update s2.heap.objs.size (Obj.mapSeq λxs=>xs.push y)).get? b=some o:=λb o hb e=>(Heap.get?_update_other _ _ (Ne.symm hb)).trans e
    have I10:Inv Y [] σ6 H8 { s8 with heap:=s8.heap.update s2.heap.objs.size (Obj.mapSeq λxs=>xs.push y) }:=
     (I9.pins_of (pins':=[]) (λp hp=>nomatch hp)).turned (t':=s8.toks) k9 hD9.2.1 hD9.2.2.1 (.inr (Nat.le_refl _)) (λx c e z=>absurd (cellOld x c e) (by rw[z];exact Nat.lt_irrefl _))
      (λp hp=>absurd (show p ∈ ([]:List (Addr×Obj)) from hp) (by simp))
    refine⟨m',hm,i + 1,ys++[yv],its++[y],_,σ6,H8,pinD I10 q9 (λv z=>by cases z) hD9.2.1,rv.append (.cons r8 .nil),?_,f8,w8⟩
    exact T.keep _ _ _ t8 λb hb o e=>k9 b o (λz=>hDfp (by rw[<- z];exact hb)) e
 exact codeAny_compStart_list (loop _ rfl) (T.self _ 0 _ _ _ (T.keep _ _ _ st2 λb hb o e=>old b o e) (loop _ rfl))
def ft (M:List Str) (names:List (Str×NameKind)) (sub:List (Option Nat)) (N:List Str):Bool:=(sub.zip N).all λp=>match p.1 with
 | none=>true
 | some i=>M[i]? == some p.2 && names.lookup p.2 == some .free
theorem mj {M:List Str}{names:List (Str×NameKind)}{sub:List (Option Nat)}{N:List Str} (h:ft M names sub N=true) (j i:Nat) (x:Str) (h1:sub[j]?=some (some i)) (h2:N[j]?=some x):
 M[i]?=some x/\names.lookup x=some .free:=by
 unfold ft at h
 rw[List.all_eq_true] at h
 have hm:(some i,x) ∈ sub.zip N:=by
  refine List.mem_of_getElem? (i:=j) ?_
  rw[List.getElem?_zip_eq_some]
  exact⟨h1,h2⟩
 have q:=h _ hm
 simp only[Bool.and_eq_true,beq_iff_eq] at q
 exact q
def iB (kn names:List (Str×NameKind)):Bool:=names.all λx=>x.2 != .free || kn.lookup x.1 == some .cell || kn.lookup x.1 == some .free
theorem nA {kn names:List (Str×NameKind)} (h:iB kn names=true):∀ x ∈ names,x.2=.free->kn.lookup x.1=some .cell\/kn.lookup x.1=some .free:=λx hx hf=>by
 unfold iB at h
 rw[List.all_eq_true] at h
 have q:=h x hx
 rw[hf] at q
 simpa using q
theorem FZ {lv al tg c:Expr}{scope:Scope}{pos:Pos}{wi:TI}{g:TG}{tc:TT}{te:TE} (M:List Str) (kn:List (Str×NameKind)) (N:List Str) (sub:List (Option Nat))
 (hc:X.calm=true) (hi:PI X tg al wi)
 (hg:∀ cl C s₂ H fp,PG (aS X N scope cl C s₂ H fp) tg g) (ht:∀ cl C s₂ H fp,PT (aS X N scope cl C s₂ H fp) c tc) (he:∀ cl C s₂ H fp,PE (aS X N scope cl C s₂ H fp) lv te)
 (hM:X.N=M:=by rfl) (hkn:X.env.scope.names=kn:=by rfl) (io:ft M scope.names sub N=true:=by decide)
 (hk:scope.kind=.function:=by rfl) (hnc:∀ x ∈ scope.names,x.2 ≠ .cell:=by decide) (bi:∀ x ∈ scope.names,x.2=.local->scope.names.lookup x.1=some .local:=by decide)
 (tt:iB kn scope.names=true:=by decide)
 (hsl:sub.length=N.length:=by rfl) (hs:∀ x,foldedSetIterable al X.env x=pure x:=by intro _;rfl):
 PE X (.ListComp lv [⟨tg,al,[c],0⟩] scope pos) (lH wi sub g tc te):=
 Ay hc hi hk hnc bi (by subst hkn;exact nA tt) hsl (by subst hM;exact mj io) hg (λcl C s₂ H fp=>xK (ht cl C s₂ H fp)) he hs
theorem LB {lv al tg:Expr}{scope:Scope}{pos:Pos}{wi:TI}{g:TG}{te:TE} (M:List Str) (kn:List (Str×NameKind)) (N:List Str) (sub:List (Option Nat))
 (hc:X.calm=true) (hi:PI X tg al wi)
 (hg:∀ cl C s₂ H fp,PG (aS X N scope cl C s₂ H fp) tg g) (he:∀ cl C s₂ H fp,PE (aS X N scope cl C s₂ H fp) lv te)
 (hM:X.N=M:=by rfl) (hkn:X.env.scope.names=kn:=by rfl) (io:ft M scope.names sub N=true:=by decide)
 (hk:scope.kind=.function:=by rfl) (hnc:∀ x ∈ scope.names,x.2 ≠ .cell:=by decide) (bi:∀ x ∈ scope.names,x.2=.local->scope.names.lookup x.1=some .local:=by decide)
 (tt:iB kn scope.names=true:=by decide)
 (hsl:sub.length=N.length:=by rfl) (hs:∀ x,foldedSetIterable al X.env x=pure x:=by intro _;rfl):
 PE X (.ListComp lv [⟨tg,al,[],0⟩] scope pos) (lH wi sub g BN te):=
 Ay hc hi hk hnc bi (by subst hkn;exact nA tt) hsl (by subst hM;exact mj io) hg (λcl C s₂ H fp=>xU) he hs
end
end L2
namespace L2
open PySem PySem.Spec PyProof.Rows PySem.W PySem.Builtin PySem.Builtin.ObjectAttr PySem.Builtin.Getset_descriptor
structure XCls (K:W.Frag) (C:Addr):Prop where
 cls:(clsIn K C).isSome=true
 ga:findIn K (.ref C) "__getattribute__" = some (some (.builtin "BaseException.__getattribute__"))
 gt:findIn K (.ref C) "__getattr__" = some none
 at_:findIn K (.ref C) "__class__" = some (some (.builtin "object.__class__"))
 gs:specialIn K (.builtin "object.__class__") "__get__" = some (some (.builtin "getset_descriptor.__get__"))
 tk:takesIn K (.builtin "object.__class__")=some true
 mo:mroIn K C (.type "object")=some true
 mb:mroIn K C (.type "BaseException")=some true
section
variable {prog:Program}{w:World}{A:Around}{E:Value->Shared->Prop}{K:W.Frag}{x C:Addr}{o:Obj}
theorem lK {M:Model}{h:Heap} (hx:h.get? x=some o) (hc:o.cls=.ref C):Looks M h (typeOf (.ref x)) (.ref C):=hc ▸ (Looks.ld hx).andThen .now
theorem Dw {M:Model}{h:Heap} (X:K.In h) (T:XCls K C):Looks M h (find (.ref x) (.ref C) "__class__") (.bind (.builtin "getset_descriptor.__get__") (.builtin "object.__class__")):=by
 have L1:=looks_findIn (M:=M) X T.at_
 have L2:Looks M h (getOf (some (.builtin "object.__class__"))) (some (.builtin "getset_descriptor.__get__")):=looks_specialIn X T.gs
 have L3:=looks_takesIn (M:=M) X T.tk
 refine L1.andThen (L2.andThen ?_)
 exact (show Looks M h (dataDescriptor? (some (.builtin "object.__class__")) (some (.builtin "getset_descriptor.__get__"))) (some (.builtin "getset_descriptor.__get__",.builtin "object.__class__")) from L3.andThen .now).andThen (Looks.tag .now)
theorem tf {s:Shared}{tp:Value}{R:Result->Shared->Prop} (X:K.In s.heap) (hx:s.heap.get? x=some o) (hc:o.cls=.ref C) (T:XCls K C)
 (h:R (.ok (.ret (.ref C))) s):codeAny (model prog w) A (.call (.builtin "getset_descriptor.__get__") ⟨[.builtin "object.__class__",.ref x,tp],[]⟩) R s:=by
 obtain⟨hh,g,dr,t,os⟩:=s
 have L0:=lK (M:=model prog w) hx hc
 have L1:=looks_mroIn (M:=model prog w) X T.mo
 refine codeAny_call_builtin KF.slot_gs.plain KF.entry_gs (KF.slot_gs.check _ _ _ _ _ _ _ _ KF.type_class (KF.args_gs _ _ _) ?_)
 unfold Builtin.«getset_descriptor.__get__» descrGet
 rw[dga_obj]
 refine wpAny_bind (wpAny_pure ?_)
 unfold descrGetter descrCheckInstance descrNameAndClass isInstance
 simp only[KF.owner_class]
 repeat lk
 refine⟨Code.quiet_builtin _ (by decide),codeAny_builtin KF.entry_class ?_⟩
 unfold Builtin.«object.__class__» shownTypeOf
 repeat lk
 exact h
theorem Bd {M:Model}{nameV:Value}{s:Shared}{Q:Unit->Shared->Prop} (X:K.In s.heap) (hx:s.heap.get? x=some o) (hc:o.cls=.ref C) (T:XCls K C) (hq:Q () s):
 wpAny M A (checkBuiltinCall "BaseException.__getattribute__" ⟨[.ref x,nameV],[]⟩) Q E s:=by
 obtain⟨h,g,dr,t,os⟩:=s
 have hk:builtinKind "BaseException.__getattribute__" = some .slot:=by decide
 have hsplit:splitId "BaseException.__getattribute__" = some ("BaseException", "__getattribute__"):=by decide
 have ha:=PySem.F.args_bexc_ga (.ref x) nameV
 have L0:=lK (M:=M) hx hc
 have LM:=looks_mroIn (M:=M) X T.mb
 have LI:Looks M h (isInstance (.ref x) (.type "BaseException")) true:=L0.andThen LM
 simp only[checkBuiltinCall,hk,hsplit]
 refine wpAny_bind ?_
 refine LI.at ?_
 repeat (first | wp_step)
 all_goals exact hq
theorem JO {s:Shared}{Q:Option Value->Shared->Prop} (X:K.In s.heap) (hx:s.heap.get? x=some o) (hc:o.cls=.ref C) (T:XCls K C) (h:Q (some (.ref C)) { s with toks:=s.toks + 1 }):
 wpAny (model prog w) A (getAttr? (.ref x) "__class__") Q E s:=by
 obtain⟨hh,g,d,t,os⟩:=s
 have L0:=lK (M:=model prog w) hx hc
 have L1:=looks_findIn (M:=model prog w) X T.ga
 have L2:=looks_findIn (M:=model prog w) X T.gt
 have LF:=Dw (M:=model prog w) (x:=x) X T
 have f3:=PySem.F.excAttr_ValueError.ga.bind (.ref x)
 have hx2:(Value.builtin "BaseException.__getattribute__" == Value.builtin "object.__getattribute__")=false:=by decide
 unfold getAttr? getAttrBy? getAttrBy
 refine wpAny_bind (wpAny_mkText (wpAny_bind (wpAny_attempt (wpAny_holding (wpAny_bind (L0.at (wpAny_bind (L1.at ?_))))))))
 dsimp only
 rw[if_neg (by rw[hx2];simp)]
 unfold getAttrByItsOwn hookBefore
 rw[if_pos (show onTheHeap (Value.ref C)=true from rfl)]
 refine wpAny_bind (L2.at ?_)
 unfold callGetattribute
 refine wpAny_bind (wpAny_attempt (wpAny_holding ?_))
 rw[if_neg (by simp)]
 unfold boundAndCalled
 refine wpAny_bind (wpAny_of_eq f3 ?_)
 refine wpAny_call (codeAny_call_builtin PySem.F.excAttr_ValueError.ga.plain PySem.F.entry_bexc_ga (Bd X hx hc T ?_))
 unfold Builtin.«object.__getattribute__»
 repeat (first | (refine wpAny_bind (L0.at ?_)) | (refine wpAny_bind (LF.at ?_)) | wp_step)
 refine tf (s:=⟨hh,g,d,t + 1,os⟩) X hx hc T ?_
 repeat (first | exact h | wp_step)
def C4 (x:Addr) (C:Addr) (h:Heap):Prop:=∃ o vs,h.get? x=some o/\o.cls=.ref C/\o.data=.fields vs
theorem Cw (T:XCls K C):KitX K (.ref x) (.ref C) (C4 x C) where
 ty:=λM h _ ⟨o,_,hx,hc,_⟩=>lK hx hc
 it:=λM h X _=>by
  obtain⟨cd,hcd⟩:=Option.isSome_iff_exists.mp T.cls
  unfold clsIn at hcd
  split at hcd
  ·rename_i c' d' cd' sl' ho
   intro A' Q' E' s' k q
   unfold isType loadHead
   exact wpAny_bind (wpAny_loadPart (k _ _ (X _ _ ho)) (wpAny_pure q))
  ·cases hcd
 ne:=λh tp dd its n sl X htp=>by
  obtain⟨cd,hcd⟩:=Option.isSome_iff_exists.mp T.cls
  refine Bool.eq_false_iff.mpr λq=>?_
  have e:C=tp:=Value.ref.inj (beq_iff_eq.mp q)
  subst e
  unfold clsIn at hcd
  split at hcd
  ·rename_i c' d' cd' sl' ho
   have z:=(X _ _ ho).symm.trans htp
   cases z
  ·cases hcd
 ca:=λX ⟨o,_,hx,hc,_⟩ k=>JO X hx hc T k
end
inductive TyX (K:W.Frag) (H:Hp):V->Value->Prop where
 | of {x:V}{t:Value} (h:TyOf K H x t):TyX K H x t
 | exc {a C:Addr} (e:H a=some (.ext (C4 a C))) (T:XCls K C):TyX K H (.ref a) (.ref C)
 | sqT {a:Addr}{xs:List V} (h:SqT K H a xs):TyX K H (.ref a) (.type "tuple")
 | sqL {a:Addr}{xs:List V} (h:SqL K H a xs):TyX K H (.ref a) (.type "list")
section
variable {X:Cx}{pins:List (Addr×Obj)}{σ:St}{H:Hp}{s:Shared}{A:Around}{E:Value->Shared->Prop}{Q:Value->Shared->Prop}{c:Value}{b:Bool}
theorem xw {x:V}{u t:Value} (I:Inv X pins σ H s) (rx:RelV x u) (ty:TyX X.K H x t):∃ Hh:Heap->Prop,KitX X.K u t Hh/\Hh s.heap/\u ≠ .builtin "__main__.__loader__#opaque" := by
 cases ty with
 |
  exc ea T=>
  cases (show u=Value.ref _ from rx)
  exact⟨_,Cw T,(I.hok _ _ ea).1,λz=>nomatch z⟩
 |
  sqT h=>
  cases (show u=Value.ref _ from rx)
  obtain⟨its,rv,⟨o,e,c,_⟩,_⟩:=I.tuple h
  exact⟨_,kitx_tuple,⟨o,e,c⟩,λz=>nomatch z⟩
 |
  sqL h=>
  cases (show u=Value.ref _ from rx)
  obtain⟨its,rv,⟨o,n,e,c,_⟩,_⟩:=I.list h
  exact⟨_,kitx_list,⟨o,e,c⟩,λz=>nomatch z⟩
 |
  of ty=>
  cases ty with
  | non=>cases (show u=Value.none from rx);exact⟨_,kitx_none,True.intro,λz=>nomatch z⟩
  | bl y=>cases (show u=Value.bool y from rx);exact⟨_,kitx_bool,True.intro,λz=>nomatch z⟩
  | int i=>obtain⟨t,q⟩:=(show ∃ t,u=Value.int i t from rx);cases q;exact⟨_,kitx_int,True.intro,λz=>nomatch z⟩
  | str y=>obtain⟨t,q⟩:=(show ∃ t,u=Value.str y t from rx);cases q;exact⟨_,kitx_str,True.intro,λz=>nomatch z⟩
  | flt y=>obtain⟨t,q⟩:=(show ∃ t,u=Value.float y t from rx);cases q;exact⟨_,kitx_float,True.intro,λz=>nomatch z⟩
  |
   @lst a xs ea=>
   cases (show u=Value.ref a from rx)
   obtain⟨_,_,n,_,h1⟩:=(show ObjOk X.prog X.w H s.heap a (.lst xs) from I.hok a _ ea)
   exact⟨_,kitx_list,⟨_,h1,rfl⟩,λz=>nomatch z⟩
  |
   @frz a ob xs ea=>
   cases (show u=Value.ref a from rx)
   obtain⟨_,_,_,n,_,h1⟩:=(show ObjOk X.prog X.w H s.heap a (.frz ob (.lst xs)) from I.hok a _ ea)
   exact⟨_,kitx_list,⟨_,h1,rfl⟩,λz=>nomatch z⟩
  |
   @tup a xs ea=>
   cases (show u=Value.ref a from rx)
   obtain⟨_,_,_,p⟩:=(show ObjOk X.prog X.w H s.heap a (.tup xs) from I.hok a _ ea)
   obtain⟨o,h1,h2,_⟩:=p
   exact⟨_,kitx_tuple,⟨o,h1,h2⟩,λz=>nomatch z⟩
  |
   @dK a kvs ea=>
   cases (show u=Value.ref a from rx)
   obtain⟨_,_,vs,_,p⟩:=(show ObjOk X.prog X.w H s.heap a (.dK kvs) from I.hok a _ ea)
   obtain⟨o,es,ep,h1,h2,_⟩:=p
   exact⟨_,kitx_dict,⟨o,h1,h2.1⟩,λz=>nomatch z⟩
  |
   @dT a kvs ea=>
   cases (show u=Value.ref a from rx)
   obtain⟨_,_,xs,_,o,es,ep,h1,h2,_⟩:=(show ObjOk X.prog X.w H s.heap a (.dT kvs) from I.hok a _ ea)
   exact⟨_,kitx_dict,⟨o,h1,h2.1⟩,λz=>nomatch z⟩
  |
   @ins a C dx fs ea cl ha hn htk hm=>
   cases (show u=Value.ref a from rx)
   obtain⟨mA,O,_⟩:=EY I.hok ea
   obtain⟨od,J,_⟩:=O.look
   exact⟨_,kitx_own (cl.get _) cl.hd ha hn htk hm,J,λz=>nomatch z⟩
end
section
variable {X:Cx}
def gQ:V->Option Value
 | .ref C=>some (.ref C)
 | .ty T=>some (.type T)
 | _=>none
theorem vE {c:V}{u v:Value} (h:gQ c=some v) (r:RelV c u):u=v:=by
 cases c with
 | ref C=>cases r;exact Option.some.inj h
 | ty T=>cases r;exact Option.some.inj h
 | _=>cases h
theorem sj:∀ {cs:List V}{us vs:List Value},cs.mapM gQ=some vs->Vals cs us->us=vs
 |
  [],_,vs,h,.nil=>by
  have h':some ([]:List Value)=some vs:=h
  exact Option.some.inj h'
 |
  c :: cs,_,vs,h,.cons r rr=>by
  rw[List.mapM_cons] at h
  cases q:gQ c with
  | none=>rw[q] at h;cases h
  |
   some v=>
   rw[q] at h
   cases q2:cs.mapM gQ with
   | none=>rw[q2] at h;cases h
   |
    some vs'=>
    rw[q2] at h
    have h':some (v :: vs')=some vs:=h
    cases h'
    rw[vE q r,sj q2 rr]
theorem Cc:CallR X (.builtin "isinstance") (λxs H Q=>∃ x c t v b,xs=[x,c]/\TyX X.K H x t/\gQ c=some v/\kitOne X.K t v=some b/\Q (.bl b) H):=by
 intro pins s σ H xs us Q I r h
 obtain⟨x,c,t,v,b,rfl,ty,hc,hk,q⟩:=h
 obtain⟨u,w',rfl,rx,rc⟩:=DQ r
 obtain rfl:=vE hc rc
 obtain⟨Hh,Z,p,hne⟩:=xw I rx ty
 exact kia_one Z I.kIn p hk hne λtk=>⟨.bl b,H,I.tok _,rfl,q⟩
end
end L2
namespace L2
open PySem PySem.Spec PyProof.Rows
theorem ObjOk.there {P:Program}{w:World}{H:Hp}{h:Heap}{a:Addr}{o:HO} (x:ObjOk P w H h a o):∃ u,h.get? a=some u:=by
 cases o with
 | lst xs=>obtain⟨_,_,_,_,e⟩:=x;exact⟨_,e⟩
 | tup xs=>obtain⟨_,_,_,ob,e,_⟩:=x;exact⟨_,e⟩
 | dK kvs=>obtain⟨_,_,_,_,o,_,_,e,_⟩:=x;exact⟨_,e⟩
 | dT kvs=>obtain⟨_,_,_,_,o,_,_,e,_⟩:=x;exact⟨_,e⟩
 | set S n=>obtain⟨o,_,_,_,e,_⟩:=x;exact⟨_,e⟩
 | ins C dx fs=>obtain⟨_,_,_,e,_⟩:=x;exact⟨_,e⟩
 | own y=>exact x
 | xd fs=>obtain⟨_,⟨_,_,_,e,_⟩,_⟩:=x;exact⟨_,e⟩
 | rng lo hi=>obtain⟨_,_,_,e⟩:=x;exact⟨_,e⟩
 | frz ob u=>obtain⟨e,_⟩:=x;exact⟨_,e⟩
 | tbl ps=>exact⟨_,show h.get? a=some _ from x⟩
 | met f y=>exact⟨_,show h.get? a=some _ from x⟩
 | ext φ=>obtain⟨_,e,_⟩:=x;exact e
structure Fly (P:Program) (w:World) (outer:List Env) (H:Hp) (h₀:Heap) (H':Hp) (ea:Addr) (cls:Value) (h:Heap) (B:Heap) (t:Addr):Prop where
 un:Un (frs outer) [] H H' h₀ h
 hok:HOk P w H' h
 fl:Heap.FlyingW B outer ea cls (.ref t) h
 old:∀ b o,h₀.get? b=some o->b ∉ frs outer->∃ o',B.get? b=some o'
 trk:∀ b o,H' b=some o->∃ o',B.get? b=some o'
def CX1 (P:Program) (w:World):CXT:=λouter H s E e s'=>∃ (ea t:Addr) (cls:Value) (H':Hp) (B:Heap),e=.ref ea/\s'.os=s.os/\AllBare s'.gens/\Fly P w outer H s.heap H' ea cls s'.heap B t/\E cls none H'
theorem vB {env:Env}{outer:List Env}{L:Addr} (h:env.frame=some L):frs (env :: outer)=L :: frs outer:=by
 unfold frs
 rw[List.filterMap_cons,h]
section
variable {P:Program}{w:World}{outer:List Env}{H H':Hp}{h₀ h h' B:Heap}{ea t L:Addr}{cls:Value}
theorem Fly.step {outer':List Env} (F:Fly P w outer H h₀ H' ea cls h B t) (fl':Heap.FlyingW B outer' ea cls (.ref t) h') (up:h.UpToSlots h'):
 Un (frs outer) [] H H' h₀ h'/\HOk P w H' h':=by
 have st:=F.fl.1
 have same:∀ b o,(∃ o',B.get? b=some o')->h.get? b=some o->h'.get? b=some o:=λb o ⟨o',e⟩ q=>by
  have z:=st b o' e
  rw[q] at z;cases z
  exact fl'.1 b _ e
 have frame:∀ b o,b ∈ frs outer->h.get? b=some o->∃ sl,h'.get? b=some { o with slots:=sl }:=λb o hb q=>by
  obtain⟨_,o',ho',hd⟩:=F.fl.2.2.1.mem hb
  rw[q] at ho';cases ho'
  exact up b o q hd
 refine⟨⟨λb o e n hb hx=>same b o (F.old b o e hb) (F.un.keep b o e n hb hx),λb o e n hb hx=>?_,F.un.free,λb o e hx=>?_,F.un.tups,F.un.frzs,F.un.tbls⟩,λa o e=>?_⟩
 ·obtain⟨sl,q⟩:=F.un.slot b o e n hb hx
  obtain⟨sl',q'⟩:=frame b _ hb q
  exact⟨sl',q'⟩
 ·obtain⟨o',q⟩:=F.un.there b o e hx
  by_cases hb:b ∈ frs outer
  ·obtain⟨sl,q'⟩:=frame b _ hb q
   exact⟨_,q'⟩
  ·exact⟨o',same b o' (F.old b o e hb) q⟩
 ·refine (F.hok a o e).stay (λb u hb q=>same b u ?_ q) (λ_ q=>q) λ_ _ q=>q
  rcases hb with z | z
  ·rw[z];exact F.trk a o e
  ·exact F.trk b _ z
end
structure Cx.Top (X:Cx):Prop where
 ex:X.ex=[]
 stk:X.stack=X.env :: X.outer
 fr:X.env.frame=some X.env.locals
section
variable {X:Cx}{pins:List (Addr×Obj)}{σ:St}{H:Hp}{s s':Shared}{E:XK}{e:Value}
theorem AN {A:Around}{E':Value->Shared->Prop} (T:X.Top) (hA:A.frames=some X.stack) (I:Inv X pins σ H s) (h:CX1 X.prog X.w X.stack H s E e s'):
 wpAny (model X.prog X.w) A (leaving X.env e) (λ_ s''=>CX1 X.prog X.w X.outer X.H₀ X.s₀ E e s'') E' s':=by
 obtain⟨ea,t,cls,H',B,rfl,os,bare,F,q⟩:=h
 have F0:=F
 rw[T.stk] at F
 have hf:=vB (outer:=X.outer) T.fr
 refine wpAny_leaves_onW (by rw[hA,T.stk]) T.fr F.fl λh'' fl'' up=>?_
 obtain⟨un2,hok2⟩:=F.step fl'' up
 have exn:∀ b,b ∉ X.ex:=λb z=>by rw[T.ex] at z;cases z
 have neL:∀ b o,X.s₀.heap.get? b=some o->b ≠ X.env.locals:=λb o e=>Nat.ne_of_lt (Nat.lt_of_lt_of_le (Heap.lt_size e) I.ok.above)
 have notin:∀ b o,X.s₀.heap.get? b=some o->b ∉ frs X.outer->b ∉ frs (X.env :: X.outer):=λb o e hb z=>by
  rw[hf] at z
  rcases List.mem_cons.mp z with z | z
  ·exact neL b o e z
  ·exact hb z
 refine⟨ea,t,cls,H',B,rfl,os.trans I.os,bare,⟨⟨λb o e n hb hx=>?_,λb o e n hb hx=>?_,λb o e n hx=>?_,λb o e hx=>?_,λb xs e=>un2.tups b xs (I.base.tups b xs e),λb o xs e=>un2.frzs b o xs (I.base.frzs b o xs e),λb ps e=>?_⟩,hok2,fl'',λb o e hb=>?_,F.trk⟩,q⟩
 ·exact un2.keep b o (I.base.keep b o e n hb (exn b)) (I.base.free b o e n (exn b)) (notin b o e hb) (by simp)
 ·obtain⟨sl,e1⟩:=I.base.slot b o e n hb (exn b)
  obtain⟨sl',e2⟩:=un2.slot b _ e1 (I.base.free b o e n (exn b)) (by rw[hf];exact List.mem_cons_of_mem _ hb) (by simp)
  exact⟨sl',e2⟩
 ·obtain⟨o',e1⟩:=I.base.there b o e (exn b)
  exact un2.free b o' e1 (I.base.free b o e n (exn b)) (by simp)
 ·obtain⟨o',e1⟩:=I.base.there b o e (exn b)
  exact un2.there b o' e1 (by simp)
 ·obtain⟨m1,e1⟩:=I.base.tbls b ps e
  obtain⟨m2,e2⟩:=un2.tbls b _ e1
  exact⟨m1++m2,by rw[e2,Array.append_assoc]⟩
 ·obtain⟨o',e1⟩:=I.base.there b o e (exn b)
  exact F.old b o' e1 (notin b o e hb)
theorem Br {A:Around}{E':Value->Shared->Prop}{h':Heap}{ea:Addr}{cls:Value}{args:List Value} (T:X.Top) (hA:A.frames=some X.stack) (I:Inv X pins σ H s) (hx:Heap.MadeExcOf s.heap h' ea cls args) (q:E cls none H):
 wpAny (model X.prog X.w) A (leaving X.env (.ref ea)) (λ_ s''=>CX1 X.prog X.w X.outer X.H₀ X.s₀ E (.ref ea) s'') E' { s with heap:=h' }:=by
 have hf:=vB (outer:=X.outer) T.fr
 have stk:=I.stack
 rw[T.stk] at stk
 have hin:∀ env ∈ (X.env :: X.outer),∀ b,env.frame=some b->b ∈ frs (X.env :: X.outer):=λenv he b hb=>List.mem_filterMap.mpr ⟨env,he,hb⟩
 refine wpAny_leaves_madeW (base:=W.hideAll s.heap (frs (X.env :: X.outer))) (h:=s.heap) (by rw[hA,T.stk]) T.fr (λb o q=>W.of_hideAll _ q) (W.funFrames_hide stk hin) hx λh'' t fl tup tn up=>?_
 have inB:∀ b o,s.heap.get? b=some o->b ∉ frs (X.env :: X.outer)->(W.hideAll s.heap (frs (X.env :: X.outer))).get? b=some o:=λb o e hb=>W.hideAll_get _ e hb
 have free:∀ b ∈ frs (X.env :: X.outer),H b=none:=λb hb=>I.stkFree b (by rw[T.stk];exact hb)
 have up2:s.heap.UpToSlots h'':=(Heap.UpToSlots.of_keeps hx.keeps).trans up
 have exn:∀ b,b ∉ X.ex:=λb z=>by rw[T.ex] at z;cases z
 have neL:∀ b o,X.s₀.heap.get? b=some o->b ≠ X.env.locals:=λb o e=>Nat.ne_of_lt (Nat.lt_of_lt_of_le (Heap.lt_size e) I.ok.above)
 have notin:∀ b o,X.s₀.heap.get? b=some o->b ∉ frs X.outer->b ∉ frs (X.env :: X.outer):=λb o e hb z=>by
  rw[hf] at z
  rcases List.mem_cons.mp z with z | z
  ·exact neL b o e z
  ·exact hb z
 have trk:∀ b o,H b=some o->∃ o',(W.hideAll s.heap (frs (X.env :: X.outer))).get? b=some o':=λb o e=>by
  obtain⟨u,hu⟩:=(I.hok b o e).there
  exact⟨u,inB b u hu λz=>by rw[free b z] at e;cases e⟩
 refine⟨ea,t,cls,H,_,rfl,I.os,I.bare,⟨⟨λb o e n hb hx=>?_,λb o e n hb hx=>?_,λb o e n hx=>?_,λb o e hx=>?_,I.base.tups,I.base.frzs,I.base.tbls⟩,λa o e=>?_,fl,λb o e hb=>?_,trk⟩,q⟩
 ·exact fl.1 b o (inB b o (I.base.keep b o e n hb (exn b)) (notin b o e hb))
 ·obtain⟨sl,e1⟩:=I.base.slot b o e n hb (exn b)
  obtain⟨_,o',ho',hd⟩:=I.ok.funs.mem hb
  rw[e] at ho';cases ho'
  obtain⟨sl',e2⟩:=up2 b _ e1 hd
  exact⟨sl',e2⟩
 ·exact I.base.free b o e n (exn b)
 ·obtain⟨o',e1⟩:=I.base.there b o e (exn b)
  by_cases hb:b ∈ frs X.outer
  ·obtain⟨_,o2,ho2,hd⟩:=I.funs.mem hb
   rw[e1] at ho2;cases ho2
   obtain⟨sl',e2⟩:=up2 b _ e1 hd
   exact⟨_,e2⟩
  ·exact⟨o',fl.1 b o' (inB b o' e1 (notin b o e hb))⟩
 ·refine (I.hok a o e).stay (λb u hb q=>?_) (λ_ q=>q) λ_ _ q=>q
  refine fl.1 b u (inB b u q λz=>?_)
  rcases hb with y | y
  ·rw[y] at z;rw[free a z] at e;cases e
  ·rw[free b z] at y;cases y
 ·obtain⟨o',e1⟩:=I.base.there b o e (exn b)
  exact⟨o',inB b o' e1 (notin b o e hb)⟩
end
end L2
namespace L2
open PySem PySem.Spec PyProof.Rows
section
variable {P:Program}{w:World}{K:W.Frag}{mg:Str->Option Value}{base:Heap}{N:List Str}{qual:Str}{scope:Scope}{f:Addr}{cd:Value}{A:Around}{outer:List Env}{s:Shared}{H:Hp}{E:XK}
theorem DF:(fD (CX1 P w) P w K mg base N qual scope f cd A outer s H E).Top:=⟨rfl,rfl,rfl⟩
theorem ay:uv (CX1 P w) (fD (CX1 P w) P w K mg base N qual scope f cd A outer s H E) E:=λpins σ H s e s' I h=>AN DF I.ok.frames I h
theorem K5 {X:Cx}:uv (CX1 P w) X E0:=λpins σ H s e s' I ⟨_,_,_,_,_,_,_,_,_,q⟩=>q.elim
theorem gb:PassesOwn (model P w) (fD (CX1 P w) P w K mg base N qual scope f cd A outer s H E).A (fD (CX1 P w) P w K mg base N qual scope f cd A outer s H E).env (fD (CX1 P w) P w K mg base N qual scope f cd A outer s H E).xe:=PassesOwn.leaving
def Rz (X:Cx) (E:XK):Prop:=∀ (pins:List (Addr×Obj)) (σ:St) (H:Hp) (s:Shared) (h':Heap) (ea:Addr) (cls:Value) (args:List Value),Inv X pins σ H s->Heap.MadeExcOf s.heap h' ea cls args->E cls none H->X.xe (.ref ea) { s with heap:=h' }
theorem rz1:Rz (fD (CX1 P w) P w K mg base N qual scope f cd A outer s H E) E:=λpins σ H s h' ea cls args I hx q=>Br DF I.ok.frames I hx q
theorem Fun.okR {x qual:Str}{st:Stmt}{f:Addr}{fd:FuncData}{N ps:List Str}{k:Nat}{sp:Sp} (F:Fun K x qual st f fd) (S:FnScope N ps (aw st)) (len:∀ vs H Q E,sp vs H Q E->vs.length=ps.length)
 (pi:∀ (cdv:Value) (A:Around) (outer:List Env) (s:Shared) (H:Hp) (vs:List V) (Q:VK) (E:XK),Room k (A.deeper (envOfC qual (aw st) s.heap.objs.size f cdv))->sp vs H Q E->
  ∃ t,PSs (fD (CX1 P w) P w K mg base N qual (aw st) f cdv A outer s H E) (cA st) t/\t { nx:=λ_ H'=>Q .non H',rt:=Q } (gJ N vs) H):FnOk P w K mg base (CX1 P w) (k + 1) f fd ps sp:=by
 obtain⟨oc,od,kV,doc,pm,an,cdv,ct,osl,rfl,lk,hcd⟩:=F.ex
 exact Lm lk hcd S len λA outer s H vs Q E hr hsp=>pi cdv A outer s H vs Q E hr hsp
end
abbrev fb:List Value:=[.type "ValueError",.type "Exception",.type "BaseException",.type "object"]
theorem Bb {K:W.Frag}{h:Heap}{C:Addr} (X:K.In h) (q:W.excIn K C fb "ValueError.__new__" = true):
 ∃ bm N nm q' bs hdct sn sub ab col dd k0 k1 k2 k3 k5 mN,h.get? C=some (excClassObj nm q' C N bs bm hdct sn sub ab col dd k0 k1 k2 k3 k5 "ValueError.__new__")/\h.Ns N mN/\mN "__init__" = none/\OwnTail h fb bm:=by
 unfold W.excIn at q
 split at q
 ·rename_i dd cd sl ho
  split at q
  ·rename_i C' bm k0 k1 k2 k3 n k5 hm hs
   simp only[Bool.and_eq_true,beq_iff_eq,Bool.not_eq_true'] at q
   obtain⟨⟨⟨⟨⟨rfl,rfl⟩,hdel⟩,ht⟩,hok⟩,hni⟩:=q
   obtain⟨nm,bs,mro,ns,qn,hd,sn,sub,ab,col,del⟩:=cd
   dsimp only at hm hdel hok hni
   subst hm hdel
   have hsl:sl=#[k0,k1,k2,k3,some (.builtin "ValueError.__new__"),k5]:=by
    obtain⟨l⟩:=sl
    simp only at hs
    rw[hs]
   subst hsl
   exact⟨bm,ns,nm,qn,bs,hd,sn,sub,ab,col,dd,k0,k1,k2,k3,k5,_,X _ _ ho,.of_isNs (W.isNs_of_in X hok),W.nsMap_none_of_in X hok hni,W.tail_of_in X ht⟩
  ·cases q
 ·cases q
section
variable {X:Cx}{x:Str}{C:Addr}{E:XK}{np cpos pos:Pos}{e₀:Expr}{es:List Expr}{ta:TA}
def Ho (C:Addr) (E:XK) (ta:TA):TS:=λ_ σ H=>ta σ H λvs H1=>vs.length<=sizeLine/\E (.ref C) none H1
theorem Dp (hc:X.calm=true) (hR:Rz X E) (hg:Gl X x) (hm:X.mg x=some (.ref C)) (hq:W.excIn X.K C fb "ValueError.__new__" = true) (ha:PA X (e₀ :: es) ta)
 (he:starEach (e₀ :: es) X.env=(false,eval e₀ X.env) :: starEach es X.env:=by rfl) (kw:(backTo cpos (starEach es X.env)).any (·.1)=false:=by rfl) (hd:(x == ("__debug__" : Str))=false:=by decide):
 PS X (.Raise (some (.Call (.Name x np) (e₀ :: es) [] cpos)) none pos) (Ho C E ta):=by
 intro pins s σ H D I h
 obtain⟨bm,N,nm,q',bs,hdct,sn,sub,ab,col,dd,k0,k1,k2,k3,k5,mN,hC,hN,hni,T⟩:=Bb I.ok.mod.kin hq
 refine wpAny_Raise_call_subT (C:=C) (nm:=nm) (q:=q') (N:=N) (bs:=bs) (bm:=bm) (hdct:=hdct) (sn:=sn) (sub:=sub) (ab:=ab) (col:=col) (dd:=dd) (k0:=k0) (k1:=k1) (k2:=k2) (k3:=k3) (k5:=k5)
  PySem.F.excBase_ValueError (mN:=mN) (T.hasType PySem.F.excBase_ValueError.hasBase) (I.ok.hd hc) (by rw[he];show (false || (backTo cpos (starEach es X.env)).any (·.1))=false;rw[kw];rfl) hni (qu I hg hm ⟨rfl,?_⟩ hd)
 have hA:=ha cpos pins s σ H _ I h
 rw[he] at hA ⊢
 refine Calls.evalArgs_plain (thn hA λus s2 ⟨vs,H2,I2,r2,hz,q2⟩=>⟨rfl,by rw[<- r2.length];exact hz,I2.bk _ _ hC,hN.keeps I2.bk,T.keeps I2.bk,λh' e hm'=>?_⟩)
 exact hR pins σ H2 s2 h' e _ _ I2 hm' q2
end
abbrev XS:=St->XK
abbrev TEx:=St->Hp->VK->XK->Prop
abbrev TSx:=Ends->XS->St->Hp->Prop
def XP (X:Cx) (pins:List (Addr×Obj)) (E:XS) (e:Value) (s':Shared):Prop:=∃ σ1 H1 s1,Inv X pins σ1 H1 s1/\CX1 X.prog X.w X.stack H1 s1 (E σ1) e s'
def PEx (X:Cx) (e:Expr) (t:TEx):Prop:=
 ∀ (pins:List (Addr×Obj)) (s:Shared) (σ:St) (H:Hp) (Q:VK) (E:XS),Inv X pins σ H s->t σ H Q (E σ)->wpAny (model X.prog X.w) X.A (eval e X.env) (EP X pins σ Q) (XP X pins E) s
section
variable {X:Cx}{st:Stmt}{rest:List Stmt}{t u:TSx}{e:Expr}{es:List Expr}{te:TEx}{pos p:Pos}{x:Str}{f:Addr}{fd:FuncData}{ps:List Str}{sp:Sp}{k:Nat}{ta:TA}{dvs:List V}{ds:List Value}
end
section
variable {X:Cx}{pins:List (Addr×Obj)}{σ:St}{H:Hp}{s:Shared}{ea:Addr}
end
structure XHand (K:W.Frag) (C:Addr):Prop where
 ty:W.typeIn K (.ref C)=some (.type "type")
 cls:(W.clsIn K C).isSome=true
 mb:W.mroIn K C (.type "BaseException")=some true
section
variable {X:Cx}{x n:Str}{C:Addr}{i:Nat}{body suite:List Stmt}{b₀:Stmt}{tb:TSx}{ts:TS}{np hpos pos:Pos}
end
end L2
namespace L2
open PySem PySem.Spec PyProof.Rows
mutual
inductive Rep (K:W.Frag) (H:Hp):V->PyData->Prop where
 | non:Rep K H .non .none
 | bl (b:Bool):Rep K H (.bl b) (.bool b)
 | int (i:Int):Rep K H (.int i) (.int i)
 | str (x:Str):Rep K H (.str x) (.str x)
 | tup {a:Addr}{xs:List V}{ds:List PyData} (h:SqT K H a xs) (r:Reps K H xs ds):Rep K H (.ref a) (.tuple ds)
 | lst {a:Addr}{xs:List V}{ds:List PyData} (h:SqL K H a xs) (r:Reps K H xs ds):Rep K H (.ref a) (.list ds)
inductive Reps (K:W.Frag) (H:Hp):List V->List PyData->Prop where
 | nil:Reps K H [] []
 | cons {x:V}{d:PyData}{xs:List V}{ds:List PyData} (r:Rep K H x d) (rr:Reps K H xs ds):Reps K H (x :: xs) (d :: ds)
end
section
variable {X:Cx}{pins:List (Addr×Obj)}{σ:St}{H H':Hp}{s:Shared}{K:W.Frag}
theorem Rep.reads (I:Inv X pins σ H s) {v:V}{d:PyData}{u:Value} (r:Rep X.K H v d) (q:RelV v u):∃ as,Reads s.heap u d as:=
 Rep.rec (motive_1:=λv d _=>∀ u,RelV v u->∃ as,Reads s.heap u d as) (motive_2:=λvs ds _=>∀ us,Vals vs us->∃ as,ReadsAll s.heap us ds as)
  (λu r=>by cases r;exact⟨_,.none⟩) (λb u r=>by cases r;exact⟨_,.bool b⟩) (λi u r=>by obtain⟨t,rfl⟩:=r;exact⟨_,.int i t⟩) (λx u r=>by obtain⟨t,rfl⟩:=r;exact⟨_,.str x t⟩)
  (λh _ ih u r=>by
   cases r
   obtain⟨its,rv,⟨o,e,c,n,d⟩,_⟩:=I.tuple h
   obtain⟨as,q⟩:=ih _ rv
   exact⟨as,.tuple e c d (by simpa using q)⟩)
  (λh _ ih u r=>by
   cases r
   obtain⟨its,rv,⟨o,n,e,c,_,d⟩,_⟩:=I.list h
   obtain⟨as,q⟩:=ih _ rv
   exact⟨_,.list e c d (by simpa using q)⟩)
  (λus r=>by cases r;exact⟨_,.nil⟩)
  (λ_ _ a b us q=>by
   cases q with
   |
    cons q1 q2=>
    obtain⟨as,h1⟩:=a _ q1
    obtain⟨bs,h2⟩:=b _ q2
    exact⟨_,.cons h1 h2⟩) r u q
end
section
variable {X:Cx}
def xZ (K:W.Frag):R2:=λx y H Q=>∃ dx dy,Rep K H x dx/\Rep K H y dy/\SeqAt.shaped dx=true/\SeqAt.shaped dy=true/\Q (.bl (PyData.eqv dx dy)) H
def yN (K:W.Frag):R2:=λx y H Q=>∃ dx dy,Rep K H x dx/\Rep K H y dy/\SeqAt.shaped dx=true/\SeqAt.shaped dy=true/\Q (.bl (!PyData.eqv dx dy)) H
theorem G6 (hu:X.A.units + 64 < cLine):OpR X (compareOp .Eq) (xZ X.K):=by
 intro pins s σ H x y v u Q I rx ry h
 obtain⟨dx,dy,r1,r2,h1,h2,q⟩:=h
 obtain⟨as,q1⟩:=r1.reads I rx
 obtain⟨bs,q2⟩:=r2.reads I ry
 exact SeqAt.compareEq_shaped q1 q2 h1 h2 hu (mH I q rfl)
theorem H0 (hu:X.A.units + 64 < cLine):OpR X (compareOp .NotEq) (yN X.K):=by
 intro pins s σ H x y v u Q I rx ry h
 obtain⟨dx,dy,r1,r2,h1,h2,q⟩:=h
 obtain⟨as,q1⟩:=r1.reads I rx
 obtain⟨bs,q2⟩:=r2.reads I ry
 exact SeqAt.compareNe_shaped q1 q2 h1 h2 hu (mH I q rfl)
open PySem.Builtin.Int (intBits)
def CDivB (i j:Int):Prop:=j ≠ 0/\intBits j<=8000
def D6 (i j:Int):Prop:=intBits i<=100000/\intBits j<=100000
theorem fX:OpR X (binaryOp .FloorDiv) (rI CDivB λi j=>.int (i.fdiv j)):=opI λi j _ _ _ _ _ hc q=>floordiv_int hc.1 q (.inl (PyProof.noPylong_of_log2 (by
 have h:=hc.2
 have h0:=hc.1
 unfold intBits at h
 have hb:(j == 0)=false:=by simpa using h0
 rw[hb] at h
 simp only[Bool.false_eq_true,if_false] at h
 omega)))
theorem Ez:OpR X (binaryOp .Mult) (rI D6 λi j=>.int (i * j)):=opI λi j _ _ _ _ _ hc q=>mul_int q (PySem.IntMulOk.of_le hc.1 hc.2 (by decide))
theorem zG (bs:List Bool):((List.range bs.length).all λi=>bs.getD i false)=bs.all id:=by
 rw[Bool.eq_iff_iff,List.all_eq_true,List.all_eq_true]
 constructor
 ·intro h x hx
  obtain⟨i,hi,rfl⟩:=List.mem_iff_getElem.mp hx
  have:=h i (List.mem_range.mpr hi)
  simpa [List.getD_eq_getElem?_getD,hi] using this
 ·intro h i hi
  have hi':=List.mem_range.mp hi
  have:=h bs[i] (List.getElem_mem hi')
  simpa [List.getD_eq_getElem?_getD,hi'] using this
theorem CN (hc:X.calm=true):CallR X (.builtin "all") (λxs H Q=>∃ (a:Addr) (bs:List Bool),xs=[.ref a]/\SqL X.K H a (bs.map V.bl)/\Q (.bl (bs.all id)) H):=by
 intro pins s σ H xs us Q I r h
 obtain⟨a,bs,rfl,hq,q⟩:=h
 obtain⟨u,rfl,ru⟩:=lU r
 cases ru
 obtain⟨its,rv,p,hz⟩:=I.list hq
 have hl:=rv.length
 rw[List.length_map] at hl
 have hlt:a < s.heap.objs.size:=by obtain⟨o,n,e,_⟩:=p;exact Heap.lt_size e
 refine call_all_walk (wpAny_pyIter_list p.isList ?_)
 refine⟨s.heap.objs.size,_,_,_,_,_,λi=>bs.getD i false,rfl,Walks.list (A:=X.A.in1) (I.ok.hd hc) s.heap.objs.size a (Nat.ne_of_lt hlt) its.toArray,⟨⟨_,Heap.get?_push_size _ rfl,rfl,rfl⟩,(p.keeps λb o e=>Heap.get?_push_of_some _ e).isList⟩,λi v s' Q' E' hP hQ=>?_,λh' tk hk=>?_⟩
 ·have hP':its[i]?=some v:=by simpa using hP
  have hi:i < bs.length:=by rw[hl];exact (List.getElem?_eq_some_iff.mp hP').1
  have hb:(bs.map V.bl)[i]?=some (V.bl bs[i]):=by simp [hi]
  obtain⟨u,hu,ru⟩:=rv.get hb
  rw[hP'] at hu
  cases hu
  cases ru
  refine wpAny_truthy_bool ?_
  have e:bs.getD i false=bs[i]:=by simp [List.getD_eq_getElem?_getD,hi]
  show Q' bs[i] s'
  rw[<- e]
  exact hQ
 ·have e1:its.toArray.size=bs.length:=by rw[List.size_toArray,hl]
  rw[e1,zG]
  have hn:H s.heap.objs.size=none:=I.fresh
  have I1:Inv X pins σ H { s with heap:=s.heap.push { cls:=.type "list_iterator",dict:=none,data:=.fields #[.ref a,rawInt 0] } }:=I.kept (t':=s.toks) λb o e=>Heap.get?_push_of_some _ e
  refine⟨.bl _,H,?_,rfl,q⟩
  refine I.kept (t':=tk) λb o e=>?_
  have hne:b ≠ s.heap.objs.size:=Nat.ne_of_lt (Heap.lt_size e)
  exact hk b o (by simpa using hne) (Heap.get?_push_of_some _ e)
end
end L2
namespace L2
open PySem PySem.Spec PyProof.Rows
structure Def (K:W.Frag) (mg:Str->Option Value) (x:Str) (st:Stmt):Prop where
 ex:∃ f fd,Fun K x x st f fd/\mg x=some (.ref f)
theorem aJ {K:W.Frag}{h:Heap}{mg:Str->Option Value}{x:Str}{st:Stmt}{f:Addr}{oc:Value}{od an:Option Addr}{osl:Array (Option Value)}{kV doc pm cdv ct:Value} (X:K.In h) (G:h.Ns mainGlobals mg)
 (a:W.nsIn K mainGlobals x=some (some (.ref f))) (l:K.lookup f=some ⟨oc,od,.func (W.fnOf x x (eg st) (cA st) (aw st) .none kV doc pm an cdv ct),osl⟩)
 (c:W.codeIn K cdv x=true) (k:W.keepIn K (.ref f)=true):Def K mg x st:=⟨f,_,JQ l c k,W.mg_of X G a⟩
theorem Fun.look {K:W.Frag}{x qual:Str}{st:Stmt}{f:Addr}{fd:FuncData} (F:Fun K x qual st f fd):∃ oc od osl,K.lookup f=some ⟨oc,od,.func fd,osl⟩:=by
 obtain⟨oc,od,kV,doc,pm,an,cdv,ct,osl,rfl,lk,hcd⟩:=F.ex
 exact⟨oc,od,osl,lk⟩
structure Callee (P:Program) (w:World) (K:W.Frag) (mg:Str->Option Value) (base:Heap) (x:Str) (k:Nat) (ps:List Str) (sp:Sp):Prop where
 ex:∃ f fd,FnOk P w K mg base (CX1 P w) k f fd ps sp/\mg x=some (.ref f)/\W.keepIn K (.ref f)=true/\Binds K fd ps []/\∃ oc od osl,K.lookup f=some ⟨oc,od,.func fd,osl⟩
section
variable {P:Program}{w:World}{K:W.Frag}{mg:Str->Option Value}{base:Heap}{x:Str}{st:Stmt}{k:Nat}{ps N:List Str}{sp:Sp}
theorem Callee.imp {sp':Sp} (C:Callee P w K mg base x k ps sp) (h:∀ vs H Q E,sp' vs H Q E->sp vs H Q E):Callee P w K mg base x k ps sp':=by
 obtain⟨f,fd,F,r⟩:=C.ex
 exact⟨f,fd,F.imp h,r⟩
theorem Def.okR (D:Def K mg x st) (S:FnScope N ps (aw st))
 (hb:∀ (kV doc pm:Value) (an:Option Addr) (cdv ct:Value) (us:List Value),us.length=ps.length->bindArgs (W.fnOf x x (eg st) (cA st) (aw st) .none kV doc pm an cdv ct) ⟨us,[]⟩=pure (ps.zip us))
 (len:∀ vs H Q E,sp vs H Q E->vs.length=ps.length)
 (pi:∀ (f:Addr) (cdv:Value) (A:Around) (outer:List Env) (s:Shared) (H:Hp) (vs:List V) (Q:VK) (E:XK),Room k (A.deeper (envOfC x (aw st) s.heap.objs.size f cdv))->sp vs H Q E->
  ∃ t,PSs (fD (CX1 P w) P w K mg base N x (aw st) f cdv A outer s H E) (cA st) t/\t { nx:=λ_ H'=>Q .non H',rt:=Q } (gJ N vs) H):Callee P w K mg base x (k + 1) ps sp:=by
 obtain⟨f,fd,F,m⟩:=D.ex
 exact⟨f,fd,F.okR S len (pi f),m,F.kp,F.binds hb,F.look⟩
end
section
variable {X:Cx}{x:Str}{p pos:Pos}{e:Expr}{es:List Expr}{ta:TA}{k:Nat}{ps:List Str}{sp:Sp}{E:XK}
end
section
variable {X:Cx}{K:W.Frag}{tg l:Expr}{tl:TE}
theorem allK (h:X.K=K) (hc:X.calm=true):CallR X (.builtin "all") (λxs H Q=>∃ (a:Addr) (bs:List Bool),xs=[.ref a]/\SqL K H a (bs.map V.bl)/\Q (.bl (bs.all id)) H):=by subst h;exact CN hc
theorem fC (h:X.K=K) (hu:X.A.units + 64 < cLine):OpR X (compareOp .Eq) (xZ K):=by subst h;exact G6 hu
theorem lA (h:X.K=K) (hu:X.A.units + 64 < cLine):OpR X (compareOp .NotEq) (yN K):=by subst h;exact H0 hu
theorem inK (h:X.K=K):OpR X (compareOp .In) (rIn K false):=by subst h;exact Ao
theorem uP (h:X.K=K):OpR X (compareOp .NotIn) (rIn K true):=by subst h;exact vW
end
end L2
namespace L2
open PySem PySem.Spec PyProof.Rows
section
variable {X:Cx}
theorem AB {lv al tg:Expr}{ifs:List Expr}{scope:Scope}{pos:Pos}{wi:TI}{g:TG}{tc:TT}{te:TE}{N:List Str}{sub:List (Option Nat)}{iT:Nat}{xT:Str}{px spos:Pos}
 (hc:X.calm=true) (hN:X.N.Nodup) (hix:X.N[iT]?=some xT) (hxl:Loc X.env.scope xT) (hi:PI X tg al wi)
 (hk:scope.kind=.function) (hnc:∀ x ∈ scope.names,x.2 ≠ .cell) (bi:∀ x ∈ scope.names,x.2=.local->scope.names.lookup x.1=some .local)
 (tt:∀ x ∈ scope.names,x.2=.free->X.env.kindOf x.1=some .cell\/X.env.kindOf x.1=some .free)
 (hsl:sub.length=N.length) (io:∀ (j i:Nat) (x:Str),sub[j]?=some (some i)->N[j]?=some x->X.N[i]?=some x/\scope.names.lookup x=some .free)
 (hg:∀ cl C s₂ H fp,PG (aS X N scope cl C s₂ H fp) tg g) (ht:∀ cl C s₂ H fp,PTs (aS X N scope cl C s₂ H fp) ifs tc) (he:∀ cl C s₂ H fp,PE (aS X N scope cl C s₂ H fp) lv te)
 (hsw:swapsWith (.ListComp lv [⟨tg,al,ifs,0⟩] scope pos) (some (.Name xT px)) spos.line X.env=pure true)
 (hs:∀ x,foldedSetIterable al X.env x=pure x:=by intro _;rfl) (hf:X.fn xT=true\/X.env.scope.names.lookup xT=some .local:=by first | exact .inl rfl | exact .inr rfl | assumption):
 PS X (.Assign [.Name xT px] (.ListComp lv [⟨tg,al,ifs,0⟩] scope pos) spos) (vn (lH wi sub g tc te) (pY iT)):=by
 intro pins s σ H D0 I h
 obtain⟨cl,hclos,hcl,hclf⟩:=mB (env:=X.env) (scope:=scope) λx hx hf=>I.ok.has x.1 (tt x hx hf)
 rw[exec_Assign_Name_used _ _ _ _ hsw]
 refine wpAny_bind (wpAny_standAt (wpAny_bind ?_))
 show wpAny _ X.A (do let _ <- comprehension (.ListComp lv [⟨tg,al,ifs,0⟩] scope pos) scope X.env _ (newList []) false (eval al X.env) (some (assign (.Name xT px) X.env))) _ _ s
 refine wpAny_bind (wpAny_mono (wpAny_comprehension_free (use:=some (assign (.Name xT px) X.env)) (Q:=λ_ s'=>SP X pins D0 .next s') rfl hs hclos hk bi ?_) (λ_ s' hq=>wpAny_pure (wpAny_pure hq)) λ_ _ e=>e)
 show wpAny _ _ (eval al X.env) _ _ _
 refine thn (hi pins s σ H _ I h) λv s1 h1=>thn h1 λitv s2 h2=>?_
 obtain⟨it,fp,tn,J,H2,e,I2,T,st2,f2,W,⟨m0,w0⟩,turn⟩:=h2
 subst e
 refine wpAny_newObj_type (wpAny_newFunctionEnv hnc (by intro y hy;simp at hy) (λh₁ hns₁ hsb₁=>?_) hk)
 dsimp only at hns₁ hsb₁ ⊢
 generalize hH2:s2.heap.push { cls:=.type "list",dict:=none,data:=.seq ([]:List Value).toArray }=G2 at hns₁ hsb₁ ⊢
 have hC:G2.objs.size=s2.heap.objs.size + 1:=by rw[<- hH2,Heap.size_push]
 have hDC:s2.heap.objs.size ≠ G2.objs.size:=by omega
 have below:∀ b,b < s2.heap.objs.size->b ≠ G2.objs.size/\b ≠ s2.heap.objs.size:=λb hb=>⟨by omega,by omega⟩
 have old:∀ b o,s2.heap.get? b=some o->h₁.get? b=some o:=λb o e=>hsb₁.extBut b o (below b (Heap.lt_size e)).1 (Heap.get?_push_of_some _ (hH2 ▸ Heap.get?_push_of_some _ e))
 have hD₁:h₁.get? s2.heap.objs.size=some { cls:=.type "list",dict:=none,data:=.seq ([]:List Value).toArray }:=hsb₁.extBut _ _ hDC (Heap.get?_push_of_some _ (hH2 ▸ Heap.get?_push_size _ rfl))
 have fresh:∀ a,s2.heap.objs.size<=a->s2.heap.get? a=none:=λa ha=>Heap.get?_none_of_le ha
 have cellOld:∀ x c,cl.lookup x=some c->c < s2.heap.objs.size:=λx c e=>by
  obtain⟨v,z⟩:=I2.cell x c (hcl x c e)
  exact z.lt
 have fpOld:∀ b ∈ fp,b < s2.heap.objs.size:=λb hb=>by
  obtain⟨o,e,_⟩:=T.obj _ _ st2 b hb
  exact Heap.lt_size e
 let Y:Cx:=aS X N scope cl G2.objs.size s2 H2 fp
 have okY:Y.Ok
  := by
  refine⟨I2.ok.mod,?_,I2.ok.glob,I2.ok.blt,?_,λx y c e1 e2=>I2.ok.inj x y c (hcl x c e1) (hcl y c e2),λx hx=>?_,λx c hfn _=>absurd hfn Bool.false_ne_true,I2.ok.hd,I2.ok.frames,.inl rfl,
   λb hb=>⟨?_,λx c e z=>?_⟩,I2.bs,Nat.le_trans I2.ok.bsz I2.sz,λb o e hb=>?_,λb hb hf=>?_,I2.stack,I2.stkFree⟩
  ·show (relabel scope X.env).kind=.function
   exact hk
  ·show s2.heap.objs.size<=G2.objs.size
   omega
  ·have hx':(
    relabel scope X.env).names.lookup x=some .cell\/(relabel scope X.env).names.lookup x=some .free:=hx
   have:∃ k,
    (x,k) ∈ scope.names/\k=.free:=by
    have gen:∀ (names:List (Str×NameKind)),(∀ y ∈ names,y.2 ≠ .cell)->∀ kk,(kk=NameKind.cell\/kk=NameKind.free)->(names.map λ(n,k)=>if (k == NameKind.free && X.env.scope.kind == .function && X.env.kindOf n == some .cell) then (n,NameKind.cell) else (n,k)).lookup x=some kk->∃ k,(x,k) ∈ names/\k=.free:=by
     intro names
     induction names with
     | nil=>intro _ kk _ e;simp at e
     |
      cons y r ih=>
      intro hn kk hkk e
      obtain⟨n,k⟩:=y
      rw[List.map_cons,List.lookup_cons] at e
      by_cases hkf:k=.free
      ·subst hkf
       by_cases hxn:x=n
       ·exact⟨.free,by rw[hxn];exact List.mem_cons_self,rfl⟩
       ·have hb:(x == (if (NameKind.free == NameKind.free && X.env.scope.kind == .function && X.env.kindOf n == some .cell)=true then (n,NameKind.cell) else (n,NameKind.free)).1)=false:=by
         split <;> exact beq_eq_false_iff_ne.mpr hxn
        rw[hb] at e
        obtain⟨k',m,q⟩:=ih (λz hz=>hn z (List.mem_cons_of_mem _ hz)) kk hkk e
        exact⟨k',List.mem_cons_of_mem _ m,q⟩
      ·have hb0:(k == NameKind.free && X.env.scope.kind == .function && X.env.kindOf n == some .cell)=false:=by
        have:(k == NameKind.free)=false:=by simpa using hkf
        rw[this];rfl
       rw[hb0] at e
       simp only[Bool.false_eq_true,if_false] at e
       cases q:x == n with
       |
        true=>
        rw[q] at e
        have e':k=kk:=Option.some.inj e
        subst e'
        rcases hkk with z | z
        ·exact absurd z (hn (n,k) List.mem_cons_self)
        ·exact absurd z hkf
       |
        false=>
        rw[q] at e
        obtain⟨k',m,q⟩:=ih (λz hz=>hn z (List.mem_cons_of_mem _ hz)) kk hkk e
        exact⟨k',List.mem_cons_of_mem _ m,q⟩
    rcases hx' with z | z
    ·exact gen scope.names hnc _ (.inl rfl) z
    ·exact gen scope.names hnc _ (.inr rfl) z
   obtain⟨k,m,q⟩:=this
   exact hclf (x,k) m q
  ·show b ≠ G2.objs.size
   exact (below b (fpOld b hb)).1
  ·exact (f2 b hb).2.2.2.2.1 x c (hcl x c e) z
  ·rcases (f2 b hb).2.2.2.1 with z | z
   ·exact I2.ok.noex b o e z
   ·exact absurd (Nat.lt_of_lt_of_le (Heap.lt_size e) (Nat.le_trans I2.ok.bsz z)) (Nat.lt_irrefl _)
  ·have hf':b ∈ frs X.stack:=hf
   rcases List.mem_cons.mp (I2.stkSub b hf') with z | z
   ·exact (f2 b hb).2.1 z
   ·exact (f2 b hb).2.2.1 z
 have startLoc
  : ∃ m,h₁.Ns G2.objs.size m/\∀ (i:Nat) (x:Str) (v:V),N[i]?=some x->(dO sub σ)[i]?=some (some v)->Vis (relabel scope X.env) x->∃ u,RelV v u/\Bu Y.env h₁ m x u:=by
  refine⟨_,hns₁,λj x v e1 e2 e3=>?_⟩
  unfold dO at e2
  rw[List.getElem?_map] at e2
  cases q:sub[j]? with
  | none=>rw[q] at e2;cases e2
  |
   some o=>
   rw[q] at e2
   cases o with
   | none=>cases e2
   |
    some i=>
    obtain⟨hNi,hfree⟩:=io j i x q e1
    have e2':(σ[i]?).bind id=some v:=Option.some.inj e2
    have e2'':σ[i]?=some (some v):=by
     cases z:σ[i]? with
     | none=>rw[z] at e2';cases e2'
     | some y=>rw[z] at e2';rw[show y=some v from e2']
    obtain⟨m2,hn2,hl2⟩:=I2.loc
    have hkx:=tt (x,.free) (PySem.mem_of_lookup hfree) rfl
    obtain⟨u,r,l⟩:=hl2 i x v hNi e2'' (by rcases hkx with z | z;exact .inr (.inl z);exact .inr (.inr z))
    refine⟨u,r,.inr ⟨?_,?_⟩⟩
    ·rcases e3
      with z | z | z
     ·exfalso
      have gen:∀ (names:List (Str×NameKind)),names.lookup x=some .free->(names.map λ(n,k)=>if (k == NameKind.free && X.env.scope.kind == .function && X.env.kindOf n == some .cell) then (n,NameKind.cell) else (n,k)).lookup x=some .local->False:=by
       intro names
       induction names with
       | nil=>intro e _;simp at e
       |
        cons y r ih=>
        intro e1 e2
        obtain⟨n,k⟩:=y
        rw[List.lookup_cons] at e1
        rw[List.map_cons,List.lookup_cons] at e2
        by_cases hxn:x=n
        ·have hb1:(x == n)=true:=beq_iff_eq.mpr hxn
         rw[hb1] at e1
         have:k=.free:=Option.some.inj e1
         subst this
         split at e2
         ·rename_i hq
          split at e2 <;> cases e2
         ·rename_i hq
          split at hq <;> (rw[hb1] at hq;cases hq)
        ·have hb1:(x == n)=false:=beq_eq_false_iff_ne.mpr hxn
         rw[hb1] at e1
         refine ih e1 ?_
         split at e2
         ·rename_i hq
          split at hq <;> (rw[hb1] at hq;cases hq)
         ·exact e2
      exact gen scope.names hfree z
     ·exact .inl z
     ·exact .inr z
    ·obtain⟨c,hc'⟩:=hclf (x,.free) (PySem.mem_of_lookup hfree) rfl
     refine⟨c,hc',?_⟩
     rcases l with ⟨k,_⟩ | ⟨_,c2,ec2,z⟩
     ·rcases hkx with z | z <;> (rw[k] at z;cases z)
     ·have:=hcl x c hc'
      rw[ec2] at this
      cases this
      obtain⟨oc,hoc,hd⟩:=z
      exact⟨oc,old _ _ hoc,hd⟩
 have pinD:∀ {σ':St}{H':Hp}{s':Shared}{pl:List (Addr×Obj)}{o:Obj},Inv Y pl σ' H' s'->s'.heap.get? s2.heap.objs.size=some o->(∀ v,o.data ≠ .cell v)->H' s2.heap.objs.size=none->Inv Y [(s2.heap.objs.size,o)] σ' H' s':=λ{σ' H' s' pl o} IY e d n=>
  IY.pins_of λp hp=>by
   have e':p=(s2.heap.objs.size,o):=by simpa using hp
   subst e'
   refine⟨e,n,?_,?_,d⟩
   ·show s2.heap.objs.size ≠ G2.objs.size
    omega
   ·intro hf
    have hf':s2.heap.objs.size ∈ frs X.stack:=hf
    obtain⟨_,o',ho',_⟩:=I2.stack.mem hf'
    exact absurd (Heap.lt_size ho') (Nat.lt_irrefl _)
 have fpY:∀ {H':Hp}{pl:List (Addr×Obj)},(∀ b ∈ fp,H' b=none)->(∀ p ∈ pl,p.1 ∉ fp)->∀ b ∈ fp,FpOk Y pl H' b:=λ{H' pl} hn hp b hb=>by
  refine⟨hn b hb,?_,?_,.inl hb,λx c e=>?_,λp hp'=>?_⟩
  ·exact (okY.exf b hb).1
  ·exact okY.exfs b hb
  ·exact (okY.exf b hb).2 x c e
  ·intro z
   have hp'':p ∈ pl:=by simpa [Y,aS] using hp'
   exact hp p hp'' (by rw[z];exact hb)
 have hDfp:s2.heap.objs.size ∉ fp:=λz=>Nat.lt_irrefl _ (fpOld _ z)
 have loop
  : ∀ s₃:Shared,s₃={ s2 with heap:=h₁,toks:=s2.toks + ([]:List (Str×Value)).length }->
  codeAny (model X.prog X.w) X.A (.compLoop (.ListComp lv [⟨tg,al,ifs,0⟩] scope pos) 0 (.ref it) (.ref s2.heap.objs.size) (compEnvC scope cl G2.objs.size X.env))
   (compPost (model X.prog X.w) X.A X.xe (some (assign (.Name xT px) X.env)) (λ_ s'=>SP X pins D0 .next s') (.ref s2.heap.objs.size) G2.objs.size) s₃:=by
  rintro s₃ rfl
  have IY0:Inv Y [(s2.heap.objs.size,{ cls:=.type "list",dict:=none,data:=.seq ([]:List Value).toArray })] (dO sub σ) H2 { s2 with heap:=h₁,toks:=s2.toks + ([]:List (Str×Value)).length }:=by
   have J0:Inv Y [] (dO sub σ) H2 { s2 with heap:=h₁,toks:=s2.toks + ([]:List (Str×Value)).length }:=by
    refine⟨okY,rfl,I2.bare,Un.kept old,startLoc,λx c e=>?_,I2.hok.fresh (by show s2.heap.objs.size<=G2.objs.size;omega),λx c e=>I2.freeC x c (hcl x c e),λp hp=>absurd (show p ∈ ([]:List (Addr×Obj)) from hp) (by simp),I2.hok.kept old,?_⟩
    ·obtain⟨v,oc,hoc,hd⟩:=I2.cell x c (hcl x c e)
     exact⟨v,oc,old _ _ hoc,hd⟩
    ·show (dO sub σ).length=N.length
     unfold dO
     rw[List.length_map];exact hsl
   exact pinD J0 hD₁ (λv z=>by cases z) I2.fresh
  refine nh (λn s'=>∃ (i:Nat) (ys:List V) (its:List Value) (k:Nat) (σ':St) (H':Hp),Inv Y [(s2.heap.objs.size,{ cls:=.type "list",dict:=none,data:=.seq its.toArray k })] σ' H' s'/\Vals ys its/\tn i s'.heap/\(∀ b ∈ fp,H' b=none)/\W i n ys σ' H') ?_ m0
   ⟨0,[],[],0,dO sub σ,H2,IY0,.nil,T.keep _ _ _ st2 (λb hb o e=>old b o e),λb hb=>(f2 b hb).1,w0⟩
  rintro n s3 ⟨i,ys,its,k,σ3,H3,I3,rv,st3,fr3,w3⟩
  have npl:∀ (o:Obj),∀ p ∈ [(s2.heap.objs.size,o)],p.1 ∉ fp:=λo p hp=>by
   have e':p=(s2.heap.objs.size,o):=by simpa using hp
   subst e'
   exact hDfp
  rcases turn i n ys σ3 H3 w3 with ⟨stop,hz,qn⟩ | ⟨go,hz,Nx,hNx,step⟩
  ·refine wpAny_mono (T.done Y rfl rfl rfl hc i _ s3 σ3 H3 (λ_ _=>False) I3 (fpY fr3 (npl _)) st3 stop) (λr s4 ⟨hr,I4⟩=>?_) λ_ _ z=>z
   subst hr
   obtain⟨m4,hn4,_⟩:=I4.loc
   have hs':Heap.SameBut G2.objs.size s4.heap s4.heap:=⟨rfl,λ_ _=>rfl⟩
   obtain⟨h',hh'⟩:∃ h',h'=s4.heap:=⟨_,rfl⟩
   rw[<- hh'] at hs'
   rw[hh'] at hs'
   clear hh' h'
   generalize hh':s4.heap=h' at hs'
   have hs':Heap.SameBut G2.objs.size s4.heap h':=by rw[hh'];exact hs'
   have hCfree:H3 G2.objs.size=none:=I4.free
   have hD4:=I4.pin (s2.heap.objs.size,{ cls:=.type "list",dict:=none,data:=.seq its.toArray k }) (List.mem_append_right _ List.mem_cons_self)
   have un4:Un (frs X.stack) fp H2 H3 s2.heap s4.heap:=I4.base
   have up:∀ b o,b ≠ G2.objs.size->s4.heap.get? b=some o->h'.get? b=some o:=λb o hb e=>hs'.extBut b o hb e
   have ne2:∀ b o,s2.heap.get? b=some o->b ≠ G2.objs.size:=λb o e=>(below b (Heap.lt_size e)).1
   have un5:Un (frs X.stack) fp H2 H3 s2.heap h':=by
    refine⟨λb o e n hb hx=>up b o (ne2 b o e) (un4.keep b o e n hb hx),λb o e n hb hx=>?_,un4.free,λb o e hx=>?_,un4.tups,un4.frzs,un4.tbls⟩
    ·obtain⟨sl,q⟩:=un4.slot b o e n hb hx
     exact⟨sl,up b _ (ne2 b o e) q⟩
    ·obtain⟨o',q⟩:=un4.there b o e hx
     exact⟨o',up b _ (ne2 b o e) q⟩
   have hok5:HOk X.prog X.w H3 h':=λb u e=>(I4.hok b u e).stay (λc v hcc q=>up c v (λz=>by
    rcases hcc with zz | zz
    ·rw[zz] at z;rw[z,hCfree] at e;cases e
    ·rw[z,hCfree] at zz;cases zz) q) (λ_ q=>q) λ_ _ q=>q
   have I5:Inv X pins σ H3 { s4 with heap:=h' }:=I2.call' (s':={ s4 with heap:=h' }) (ch:=fp) I4.os un5 hok5 I4.bare λb hb=>by
    obtain⟨_,g1,_,g3,g4,g5⟩:=f2 b hb
    exact⟨g3,g1,g4,g5⟩
   have hDfree:H3 s2.heap.objs.size=none:=hD4.2.1
   have sz0:X.s₀.heap.objs.size<=s2.heap.objs.size:=I2.sz
   have hCold:∀ b,b < s2.heap.objs.size->b ≠ G2.objs.size:=λb hb=>(below b hb).1
   have I6:Inv X pins σ (upd H3 s2.heap.objs.size (.lst ys)) { s4 with heap:=h' }:=by
    refine I5.track (o:=.lst ys) hDfree (Heap.get?_none_of_le sz0) (Nat.ne_of_gt I2.lt) (λx c e z=>?_) (λp hp z=>?_) ?_
    ·obtain⟨v,q⟩:=I2.cell x c e
     exact absurd q.lt (by rw[z];exact Nat.lt_irrefl _)
    ·exact absurd (Heap.lt_size (I2.pin p hp).1) (by rw[z];exact Nat.lt_irrefl _)
    ·exact⟨hz,its,k,rv,up _ _ hDC hD4.1⟩
   have I6':Inv X pins σ (upd H3 s2.heap.objs.size (.lst ys)) s4:=by
    have e4:({ s4 with heap:=h' }:Shared)=s4:=by rw[<- hh']
    rw[e4] at I6;exact I6
   refine wpAny_assign_Name (sx (v:=.ref s2.heap.objs.size) I6' hN hix hxl rfl (λs7 I7 ⟨a7,sb7,ha7⟩=>?_) hf)
   have ha:a7 < s2.heap.objs.size:=by
    rcases ha7 with z | z
    ·rw[z];exact I2.lt
    ·obtain⟨v,q⟩:=I2.cell xT a7 z
     exact q.lt
   refine⟨m4,hn4.sameBut sb7 (Ne.symm (hCold a7 ha)),λh8 hs8=>?_⟩
   have I8:Inv X pins (σ.set iT (some (.ref s2.heap.objs.size))) (upd H3 s2.heap.objs.size (.lst ys)) { s7 with heap:=h8,toks:=s7.toks }:=by
    refine I7.turned (it:=G2.objs.size) (t':=s7.toks) (λb o hb e=>hs8.extBut b o hb e) ?_ ?_ (.inr ?_) (λx c e=>?_) (λp hp=>?_)
    ·rw[aV (Ne.symm hDC)];exact hCfree
    ·exact Ne.symm (hCold _ I2.lt)
    ·omega
    ·obtain⟨v,q⟩:=I2.cell x c e
     exact hCold _ q.lt
    ·exact hCold _ (Heap.lt_size (I2.pin p hp).1)
   exact⟨_,_,I8,qn _ hDfree⟩
  ·refine wpAny_mono (T.item Y rfl rfl rfl hc i _ s3 σ3 H3 (λ_ _=>False) I3 (fpY fr3 (npl _)) st3 go) (λr s4 ⟨u,hr,h4⟩=>?_) λ_ _ z=>z
   subst hr
   refine wpAny_mono h4 (λ_ s5 ⟨x,H5,I5,r5,y5,st5,fr5⟩=>?_) λ_ _ z=>z
   have I5':=I5.pinned (fpY fr5 (npl _)) (T.obj _ _ st5)
   refine wpAny_mono (hg cl G2.objs.size s2 H2 fp _ s5 σ3 H5 x u _ I5' r5 (step x H5 y5)) (λ_ s6 ⟨σ6,H6,I6,q6⟩=>?_) λ_ _ z=>z
   refine wpAny_mono (ht cl G2.objs.size s2 H2 fp _ s6 σ6 H6 _ I6 q6) (λok s7 ⟨H7,I7,q7⟩=>?_) λ_ _ z=>z
   have back:∀ {σ':St}{H':Hp}{s':Shared},Inv Y ([(s2.heap.objs.size,{ cls:=.type "list",dict:=none,data:=.seq its.toArray k })]++kA fp s5.heap) σ' H' s'->tn (i + 1) s'.heap/\∀ b ∈ fp,H' b=none:=λ{σ' H' s'} IB=>by
    refine⟨T.keep _ _ _ st5 λb hb o e=>(IB.pin (b,o) (List.mem_append_right _ (List.mem_append_right _ (fu hb e)))).1,λb hb=>?_⟩
    obtain⟨o,e,d⟩:=T.obj _ _ st5 b hb
    exact (IB.pin (b,o) (List.mem_append_right _ (List.mem_append_right _ (fu hb e)))).2.1
   cases ok with
   |
    false=>
    rw[if_neg Bool.false_ne_true] at q7
    obtain⟨m',hm,w7⟩:=hNx _ _ _ q7
    rw[if_neg Bool.false_ne_true]
    obtain⟨t7,f7⟩:=back I7
    exact⟨m',hm,i + 1,ys,its,k,σ6,H7,I7.unpinned,rv,t7,f7,w7⟩
   |
    true=>
    rw[if_pos rfl] at q7
    rw[if_pos rfl]
    refine wpAny_mono (he cl G2.objs.size s2 H2 fp _ s7 σ6 H7 _ I7 q7) (λy s8 ⟨yv,H8,I8,r8,q8⟩=>?_) λ_ _ z=>z
    obtain⟨m',hm,w8⟩:=hNx _ _ _ q8
    obtain⟨t8,f8⟩:=back I8
    have I9:=I8.unpinned
    have hD9:=I9.pin (s2.heap.objs.size,{ cls:=.type "list",dict:=none,data:=.seq its.toArray k }) (List.mem_append_right _ List.mem_cons_self)
    have e9:s8.heap.get? s2.heap.objs.size=some { cls:=.type "list",dict:=none,data:=.seq its.toArray k }:=hD9.1
    have db:=rv.length
    refine call_meets F.slot_list_append ⟨_,e9,rfl⟩ F.entry_list_append (F.args_list_append_2 _ _) (PySem.list_append _ its.toArray k y (by rw[List.size_toArray];omega)) ⟨e9,?_⟩
    have q9:=PySem.IsL.update e9 (λxs=>xs.push y)
    have ea:its.toArray.push y=(its++[y]).toArray:=by simp
    rw[ea] at q9
    have k9:∀ b o,b ≠ s2.heap.objs.size->s8.heap.get? b=some o->(s8.heap.update s2.heap.objs.size (Obj.mapSeq λxs=>xs.push y)).get? b=some o:=λb o hb e=>(Heap.get?_update_other _ _ (Ne.symm hb)).trans e
    have I10:Inv Y [] σ6 H8 { s8 with heap:=s8.heap.update s2.heap.objs.size (Obj.mapSeq λxs=>xs.push y) }:=
     (I9.pins_of (pins':=[]) (λp hp=>nomatch hp)).turned (t':=s8.toks) k9 hD9.2.1 hD9.2.2.1 (.inr (Nat.le_refl _)) (λx c e z=>absurd (cellOld x c e) (by rw[z];exact Nat.lt_irrefl _))
      (λp hp=>absurd (show p ∈ ([]:List (Addr×Obj)) from hp) (by simp))
    refine⟨m',hm,i + 1,ys++[yv],its++[y],_,σ6,H8,pinD I10 q9 (λv z=>by cases z) hD9.2.1,rv.append (.cons r8 .nil),?_,f8,w8⟩
    exact T.keep _ _ _ t8 λb hb o e=>k9 b o (λz=>hDfp (by rw[<- z];exact hb)) e
 exact codeAny_compStart_list (loop _ rfl) (T.self _ 0 _ _ _ (T.keep _ _ _ st2 λb hb o e=>old b o e) (loop _ rfl))
theorem Kh {lv al tg:Expr}{scope:Scope}{pos px spos:Pos}{wi:TI}{g:TG}{te:TE}{iT:Nat}{xT:Str} (M:List Str) (kn:List (Str×NameKind)) (N:List Str) (sub:List (Option Nat))
 (hc:X.calm=true) (hN:X.N.Nodup) (hix:X.N[iT]?=some xT) (hxl:Loc X.env.scope xT) (hi:PI X tg al wi)
 (hg:∀ cl C s₂ H fp,PG (aS X N scope cl C s₂ H fp) tg g) (he:∀ cl C s₂ H fp,PE (aS X N scope cl C s₂ H fp) lv te)
 (hsw:swapsWith (.ListComp lv [⟨tg,al,[],0⟩] scope pos) (some (.Name xT px)) spos.line X.env=pure true:=by rfl)
 (hM:X.N=M:=by rfl) (hkn:X.env.scope.names=kn:=by rfl) (io:ft M scope.names sub N=true:=by decide)
 (hk:scope.kind=.function:=by rfl) (hnc:∀ x ∈ scope.names,x.2 ≠ .cell:=by decide) (bi:∀ x ∈ scope.names,x.2=.local->scope.names.lookup x.1=some .local:=by decide)
 (tt:iB kn scope.names=true:=by decide)
 (hsl:sub.length=N.length:=by rfl) (hs:∀ x,foldedSetIterable al X.env x=pure x:=by intro _;rfl) (hf:X.fn xT=true\/X.env.scope.names.lookup xT=some .local:=by first | exact .inl rfl | exact .inr rfl | assumption):
 PS X (.Assign [.Name xT px] (.ListComp lv [⟨tg,al,[],0⟩] scope pos) spos) (vn (lH wi sub g BN te) (pY iT)):=
 AB hc hN hix hxl hi hk hnc bi (by subst hkn;exact nA tt) hsl (by subst hM;exact mj io) hg (λcl C s₂ H fp=>xU) he hsw hs hf
end
end L2
namespace L2
open PySem PySem.Spec PyProof.Rows
theorem xE:∀ {ns:List Int}{its:List Value},Vals (ns.map V.int) its->IntsAre its ns
 | [],_,h=>by cases h;exact .nil
 |
  i :: r,_,h=>by
  cases h with
  |
   cons h1 h2=>
   obtain⟨t,rfl⟩:=h1
   exact .cons i t (xE h2)
theorem fc {X:Cx}{K:W.Frag} (hK:X.K=K) (hc:X.calm=true):CallR X (.builtin "sum") (λxs H Q=>∃ (a:Addr) (ns:List Int),xs=[.ref a]/\SqL K H a (ns.map V.int)/\Q (.int ns.sum) H):=by
 subst hK
 intro pins s σ H xs us Q I r h
 obtain⟨a,ns,rfl,hq,q⟩:=h
 obtain⟨u,rfl,ru⟩:=lU r
 cases ru
 obtain⟨its,rv,p,hz⟩:=I.list hq
 have hi:=xE rv
 obtain⟨ys,hy⟩:=hi.allInts.items
 have hn:numsOf its.toArray.toList=ns:=by rw[show its.toArray.toList=its from rfl,hi.numsOf]
 have pl:=p.isList
 rw[hy] at pl hn
 rw[nums_intItems] at hn
 refine sum_intListG (I.ok.hd hc) pl λh' tk t' hk=>?_
 rw[preSum_eq,List.take_of_length_le (by simp),hn]
 exact⟨.int ns.sum,H,I.kept (t':=tk) hk,⟨_,rfl⟩,q⟩
end L2
namespace Fr
def dv (a b:Int):Int:=if b < 0 then -((Int.gcd a b:Nat):Int) else ((Int.gcd a b:Nat):Int)
def T (a b:Int):Int:=a.fdiv (dv a b)
def B (a b:Int):Int:=b.fdiv (dv a b)
theorem uW {a b:Int} (hb:b ≠ 0):0 < Int.gcd a b:=Int.gcd_pos_of_ne_zero_right a hb
theorem dv_ne {a b:Int} (hb:b ≠ 0):dv a b ≠ 0:=by
 have:=uW (a:=a) hb
 unfold dv
 split <;> omega
theorem CF (a b:Int):dv a b ∣ a:=by
 have h:((Int.gcd a b:Nat):Int) ∣ a:=Int.gcd_dvd_left a b
 unfold dv
 split
 ·exact Int.neg_dvd.mpr h
 ·exact h
theorem Dt (a b:Int):dv a b ∣ b:=by
 have h:((Int.gcd a b:Nat):Int) ∣ b:=Int.gcd_dvd_right a b
 unfold dv
 split
 ·exact Int.neg_dvd.mpr h
 ·exact h
theorem xQ {a d q:Int} (hd:d ≠ 0) (h:a=d * q):a.fdiv d=q:=by
 rw[h,Int.mul_comm]
 exact Int.mul_fdiv_cancel q hd
theorem T_mul {a b:Int} (hb:b ≠ 0):T a b * dv a b=a:=by
 obtain⟨q,h⟩:=CF a b
 have:T a b=q:=xQ (dv_ne hb) h
 rw[this,Int.mul_comm];exact h.symm
theorem B_mul {a b:Int} (hb:b ≠ 0):B a b * dv a b=b:=by
 obtain⟨q,h⟩:=Dt a b
 have:B a b=q:=xQ (dv_ne hb) h
 rw[this,Int.mul_comm];exact h.symm
theorem B_pos {a b:Int} (hb:b ≠ 0):0 < B a b:=by
 have h:=B_mul (a:=a) hb
 have hg:=uW (a:=a) hb
 generalize hx:B a b=x at h ⊢
 unfold dv at h
 split at h
 ·rename_i hneg
  have h2:x * ((Int.gcd a b:Nat):Int)=-b:=by rw[Int.mul_neg] at h;omega
  rcases Int.lt_or_le 0 x with z | z
  ·exact z
  ·have:x * ((Int.gcd a b:Nat):Int)<=0:=Int.mul_nonpos_of_nonpos_of_nonneg z (by omega)
   omega
 ·rename_i hpos
  rcases Int.lt_or_le 0 x with z | z
  ·exact z
  ·have:x * ((Int.gcd a b:Nat):Int)<=0:=Int.mul_nonpos_of_nonpos_of_nonneg z (by omega)
   omega
theorem cross {a b:Int} (hb:b ≠ 0):T a b * b=a * B a b:=by
 have h1:=T_mul (a:=a) hb
 have h2:=B_mul (a:=a) hb
 generalize T a b=x at *
 generalize B a b=y at *
 generalize dv a b=d at *
 rw[<- h2,<- h1]
 rw[<- Int.mul_assoc,Int.mul_right_comm]
theorem dv_abs (a b:Int):(dv a b).natAbs=Int.gcd a b:=by
 unfold dv
 split <;> simp
theorem low {a b:Int} (hb:b ≠ 0):Int.gcd (T a b) (B a b)=1:=by
 have h1:=T_mul (a:=a) hb
 have h2:=B_mul (a:=a) hb
 have hg:=uW (a:=a) hb
 have e1:a.natAbs=(T a b).natAbs * Int.gcd a b:=by rw[<- dv_abs a b,<- Int.natAbs_mul,h1]
 have e2:b.natAbs=(B a b).natAbs * Int.gcd a b:=by rw[<- dv_abs a b,<- Int.natAbs_mul,h2]
 have e3:Int.gcd a b=Nat.gcd ((T a b).natAbs * Int.gcd a b) ((B a b).natAbs * Int.gcd a b):=by rw[<- e1,<- e2];rfl
 rw[Nat.gcd_mul_right] at e3
 show Nat.gcd (T a b).natAbs (B a b).natAbs=1
 generalize Nat.gcd (T a b).natAbs (B a b).natAbs=k at *
 generalize Int.gcd a b=g at *
 have:(1:Nat) * g=k * g:=by omega
 exact (Nat.eq_of_mul_eq_mul_right hg this).symm
theorem uniq {x y x' y':Int} (hy:0 < y) (hy':0 < y') (h:Int.gcd x y=1) (h':Int.gcd x' y'=1) (e:x * y'=x' * y):x=x'/\y=y':=by
 have c1:Nat.Coprime y.natAbs x.natAbs:=by rw[Nat.coprime_comm];exact h
 have c2:Nat.Coprime y'.natAbs x'.natAbs:=by rw[Nat.coprime_comm];exact h'
 have e1:x.natAbs * y'.natAbs=x'.natAbs * y.natAbs:=by rw[<- Int.natAbs_mul,<- Int.natAbs_mul,e]
 have d1:y.natAbs ∣ y'.natAbs:=c1.dvd_of_dvd_mul_left (by rw[e1];exact Nat.dvd_mul_left _ _)
 have d2:y'.natAbs ∣ y.natAbs:=c2.dvd_of_dvd_mul_left (by rw[<- e1];exact Nat.dvd_mul_left _ _)
 have ey:y.natAbs=y'.natAbs:=Nat.dvd_antisymm d1 d2
 have ey':y=y':=by omega
 subst ey'
 exact⟨Int.eq_of_mul_eq_mul_right (by omega) e,rfl⟩
theorem same {a b c d:Int} (hb:b ≠ 0) (hd:d ≠ 0) (e:a * d=c * b):T a b=T c d/\B a b=B c d:=by
 refine uniq (B_pos hb) (B_pos hd) (low hb) (low hd) ?_
 have h1:=cross (a:=a) hb
 have h2:=cross (a:=c) hd
 have hbd:b * d ≠ 0:=Int.mul_ne_zero hb hd
 refine Int.eq_of_mul_eq_mul_right hbd ?_
 calc T a b * B c d * (b * d)=(T a b * b) * (B c d * d):=by rw[Int.mul_assoc,Int.mul_left_comm (B c d) b d,<- Int.mul_assoc]
  _=(a * B a b) * (B c d * d):=by rw[h1]
  _=(a * d) * (B c d * B a b):=by rw[Int.mul_assoc a,Int.mul_assoc a,Int.mul_left_comm (B a b),Int.mul_left_comm d,Int.mul_comm (B a b) d]
  _=(c * b) * (B c d * B a b):=by rw[e]
  _=(c * B c d) * (B a b * b):=by rw[Int.mul_assoc c,Int.mul_assoc c,Int.mul_left_comm b,Int.mul_comm b (B a b)]
  _=(T c d * d) * (B a b * b):=by rw[<- h2]
  _=T c d * B a b * (b * d):=by rw[Int.mul_assoc,Int.mul_assoc,Int.mul_left_comm d,Int.mul_comm d b]
theorem self {a b:Int} (hb:0 < b) (h:Int.gcd a b=1):T a b=a/\B a b=b:=
 uniq (B_pos (by omega)) hb (low (by omega)) h (cross (by omega))
theorem euc (m n:Nat):Nat.gcd n (m % n)=Nat.gcd m n:=by
 rw[Nat.gcd_comm,<- Nat.gcd_rec,Nat.gcd_comm]
end Fr
set_option maxHeartbeats 1000000
namespace L2
open PySem PySem.Spec PyProof.Rows
theorem Inv.turnedL {X:Cx}{pins:List (Addr×Obj)}{σ:St}{H:Hp}{s:Shared}{h':Heap}{t':Nat}{ch:List Addr} (I:Inv X pins σ H s) (k:∀ b o,b ∉ ch->s.heap.get? b=some o->h'.get? b=some o) (hf:∀ b ∈ ch,FpOk X pins H b):Inv X pins σ H { s with heap:=h',toks:=t' }:=by
 have away:∀ b u,H b=some u->b ∉ ch:=λb u e z=>by have:=(hf b z).1;rw[e] at this;cases this
 refine I.step (g':=s.gens) (d':=s.drawn) (ch:=ch) (λb hb=>⟨(hf b hb).2.2.2.1,(hf b hb).2.1,(hf b hb).2.2.2.2.1,(hf b hb).2.2.2.2.2⟩) (λb o _ _ hc e _=>k b o hc e) (λb o _ _ hc e _=>⟨o.slots,k b o hc e⟩) (λ_ _ _ _ n=>n)
  (λb o hc e=>⟨o,k b o hc e⟩) (λ_ _ e=>e) (λ_ _ _ e=>e) (λb ps e=>⟨#[],by rw[e];simp⟩) (λm hm=>?_) (λb u e=>?_) I.bare
 ·obtain⟨o,es,ep,ho,r⟩:=hm
  exact⟨o,es,ep,k _ o (λz=>(hf _ z).2.1 rfl) ho,r⟩
 ·refine (I.hok b u e).stay (λc v hc q=>k c v ?_ q) (λ_ q=>q) λ_ _ q=>q
  rcases hc with z | z
  ·rw[z];exact away b u e
  ·exact away c _ z
theorem FpOk.up {X:Cx}{pins:List (Addr×Obj)}{H:Hp}{b p:Addr}{o:HO} (f:FpOk X pins H b) (hn:b ≠ p):FpOk X pins (upd H p o) b:=⟨by rw[aV hn];exact f.1,f.2⟩
theorem xW {prog:Program}{w:World}{A:Around}{E:Value->Shared->Prop}{s:Shared}{j t:Addr}{n:Nat}{its:Array Value}{v:Value}{Q:Value->Shared->Prop} (hj:s.heap.IsTupleIter j t n) (ht:s.heap.IsTuple t its) (hv:its[n]?=some v)
 (k:∀ h',h'.IsTupleIter j t (n + 1)->Heap.SameBut j s.heap h'->Q v { s with heap:=h' }):wpAny (model prog w) A (Builtin.SmallTypes.nextOf (.ref j)) Q E s:=by
 obtain⟨oj,ej,cj,dj⟩:=id hj
 obtain⟨ot,et,_,m,dt⟩:=ht
 unfold Builtin.SmallTypes.nextOf
 refine wpAny_bind (wpAny_callSpecial?_slot (name:=Str.ofString "__next__") hj.typeIs F.slot_tuple_iterator_next (wpAny_call_entry F.slot_tuple_iterator_next hj.typeIs F.entry_tuple_iterator_next ?_ (F.args_tuple_iterator_next_1 _)))
 show wpAny _ _ (field (.ref j) 0 >>= _) _ _ s
 refine wpAny_bind (wpAny_field ej dj (x:=.ref t) rfl ?_)
 show wpAny _ _ (if (Value.ref t == Value.none)=true then _ else _) _ _ s;rw[if_neg (show ¬ ((Value.ref t == Value.none)=true) from Bool.false_ne_true)]
 show wpAny _ _ (field (.ref j) 1 >>= _) _ _ s
 refine wpAny_bind (wpAny_field ej dj (x:=.int n 0) rfl ?_)
 show wpAny _ _ (seqItems? (.ref t) >>= _) _ _ s;refine wpAny_bind (wpAny_seqItems et dt ?_)
 simp only[Int.toNat_natCast,hv]
 refine wpAny_bind (wpAny_setField ej dj (by simp) (wpAny_pure ⟨v,rfl,wpAny_pure (k _ ?_ (Heap.SameBut.update ..))⟩))
 exact⟨_,Heap.get?_update_self _ ej (Obj.isFreed_of_fields (Obj.data_mapFields dj _)),(Obj.cls_mapFields ..).trans cj,by rw[Obj.data_mapFields dj];simp [rawInt]⟩
theorem rn {prog:Program}{w:World}{A:Around}{E:Value->Shared->Prop}{s:Shared}{j t:Addr}{n:Nat}{its:Array Value}{Q:Value->Shared->Prop} (hh:A.handled=none) (hj:s.heap.IsTupleIter j t n) (ht:s.heap.IsTuple t its) (hv:its[n]?=none)
 (k:∀ h' e,Heap.ExtBut j s.heap h'->(∃ o,h'.get? e=some o/\o.cls=.type "StopIteration")->E (.ref e) { s with heap:=h' }):wpAny (model prog w) A (Builtin.SmallTypes.nextOf (.ref j)) Q E s:=by
 obtain⟨oj,ej,cj,dj⟩:=id hj
 obtain⟨ot,et,_,m,dt⟩:=ht
 unfold Builtin.SmallTypes.nextOf
 refine wpAny_bind (wpAny_callSpecial?_slot (name:=Str.ofString "__next__") hj.typeIs F.slot_tuple_iterator_next (wpAny_call_entry F.slot_tuple_iterator_next hj.typeIs F.entry_tuple_iterator_next ?_ (F.args_tuple_iterator_next_1 _)))
 show wpAny _ _ (field (.ref j) 0 >>= _) _ _ s
 refine wpAny_bind (wpAny_field ej dj (x:=.ref t) rfl ?_)
 show wpAny _ _ (if (Value.ref t == Value.none)=true then _ else _) _ _ s;rw[if_neg (show ¬ ((Value.ref t == Value.none)=true) from Bool.false_ne_true)]
 show wpAny _ _ (field (.ref j) 1 >>= _) _ _ s
 refine wpAny_bind (wpAny_field ej dj (x:=.int n 0) rfl ?_)
 show wpAny _ _ (seqItems? (.ref t) >>= _) _ _ s;refine wpAny_bind (wpAny_seqItems et dt ?_)
 simp only[Int.toNat_natCast,hv]
 refine wpAny_bind (wpAny_rule (wpAny_bind (wpAny_setField ej dj (by simp) ?_)));show wpAny _ _ (newExc (.type "StopIteration") [] >>= _) _ _ _
 refine wpAny_bind ?_;simp only[newExc,newTuple]
 refine wpAny_bind (wpAny_newObj_type ?_ (by size_fits));refine wpAny_bind (m:=firstArgMember _ _) (wpAny_of_eq (a:=Value.none) (by first | rfl | (simp only[firstArgMember];rfl)) ?_)
 refine wpAny_newObj_type ?_ (by size_fits);simp only[raiseNew]
 refine wpAny_bind (wpAny_handled ?_);first | rw[show A.in1.handled=none from hh] | rw[hh]
 refine wpAny_bind (wpAny_pure (wpAny_throw ?_));exact k _ _ (((Heap.SameBut.update ..).extBut.push _).push _) ⟨_,Heap.get?_push_size _ rfl,rfl⟩
def SqB (K:W.Frag) (b:Bool) (H:Hp) (a:Addr) (xs:List V):Prop:=match b with
 | true=>SqL K H a xs
 | false=>SqT K H a xs
def ItB (b:Bool) (h:Heap) (j a:Addr) (i:Nat):Prop:=match b with
 | true=>h.IsListIter j a i
 | false=>h.IsTupleIter j a i
theorem SqB.inj {X:Cx}{pins:List (Addr×Obj)}{σ:St}{H:Hp}{s:Shared}{b:Bool}{a:Addr}{xs ys:List V} (I:Inv X pins σ H s) (x:SqB X.K b H a xs) (y:SqB X.K b H a ys):xs=ys:=by
 cases b with
 | true=>exact I.list_inj x y
 | false=>exact I.tuple_inj x y
def IteE (K:W.Frag) (b:Bool) (a:Addr):It:=
 ⟨λi H=>∃ xs x,SqB K b H a xs/\xs[i]?=some x,λi H x H'=>∃ p u,x=.ref p/\H p=none/\H'=upd H p (.tup [.int (i:Nat),u])/\∀ xs,SqB K b H a xs->xs[i]?=some u,λi H=>∃ xs,SqB K b H a xs/\xs.length=i⟩
theorem nL {b:Bool}{h:Heap}{j a:Addr}{i:Nat} (z:ItB b h j a i):∃ o,h.get? j=some o/\(∀ v,o.data ≠ .cell v)/\o.cls=.type (if b then "list_iterator" else "tuple_iterator"):=by
 cases b with
 | true=>obtain⟨o,e,c,d⟩:=z;exact⟨o,e,(λv y=>by rw[d] at y;cases y),c⟩
 | false=>obtain⟨o,e,c,d⟩:=z;exact⟨o,e,(λv y=>by rw[d] at y;cases y),c⟩
theorem cH {b:Bool}{h h':Heap}{j a:Addr}{i:Nat} (z:ItB b h j a i) (k:∀ o,h.get? j=some o->h'.get? j=some o):ItB b h' j a i:=by
 cases b with
 | true=>obtain⟨o,e,r⟩:=z;exact⟨o,k o e,r⟩
 | false=>obtain⟨o,e,r⟩:=z;exact⟨o,k o e,r⟩
def LsB (b:Bool) (h:Heap) (a:Addr) (its:Array Value):Prop:=match b with
 | true=>h.IsList a its
 | false=>h.IsTuple a its
theorem LsB.keep {b:Bool}{h h':Heap}{a:Addr}{its:Array Value} (z:LsB b h a its) (k:∀ o,h.get? a=some o->h'.get? a=some o):LsB b h' a its:=by
 cases b <;> (obtain⟨o,e,r⟩:=z;exact⟨o,k o e,r⟩)
theorem x9 {prog:Program}{w:World}{A:Around}{E:Value->Shared->Prop}{s:Shared}{b:Bool}{j a:Addr}{n:Nat}{its:Array Value}{v:Value}{Q:Value->Shared->Prop} (hj:ItB b s.heap j a n) (ht:LsB b s.heap a its) (hv:its[n]?=some v)
 (k:∀ h',ItB b h' j a (n + 1)->Heap.SameBut j s.heap h'->Q v { s with heap:=h' }):wpAny (model prog w) A (Builtin.SmallTypes.nextOf (.ref j)) Q E s:=by
 cases b with
 | true=>exact wpAny_nextOf_list_item hj ht hv k
 | false=>exact xW hj ht hv k
theorem sC {prog:Program}{w:World}{A:Around}{E:Value->Shared->Prop}{s:Shared}{b:Bool}{j a:Addr}{n:Nat}{its:Array Value}{Q:Value->Shared->Prop} (hh:A.handled=none) (hj:ItB b s.heap j a n) (ht:LsB b s.heap a its) (hv:its[n]?=none)
 (k:∀ h' e,Heap.ExtBut j s.heap h'->(∃ o,h'.get? e=some o/\o.cls=.type "StopIteration")->E (.ref e) { s with heap:=h' }):wpAny (model prog w) A (Builtin.SmallTypes.nextOf (.ref j)) Q E s:=by
 cases b with
 | true=>exact wpAny_nextOf_list_end hh hj ht hv k
 | false=>exact rn hh hj ht hv k
section
variable {prog:Program}{w:World}{A:Around}{E:Value->Shared->Prop}{s:Shared}{b1 b2:Bool}{z p q j1 j2 a1 a2:Addr}{n:Nat}{xs ys:Array Value}{x y u v:Value}
theorem zipN {Q:Value->Shared->Prop} (D:ZipApart z p q j1 j2 a1 a2) (hz:IsZip s.heap z p q .none) (hp:IsPair s.heap p (.ref j1) (.ref j2)) (hq:IsPair s.heap q u v)
 (i1:ItB b1 s.heap j1 a1 n) (i2:ItB b2 s.heap j2 a2 n) (l1:LsB b1 s.heap a1 xs) (l2:LsB b2 s.heap a2 ys) (ex:xs[n]?=some x) (ey:ys[n]?=some y)
 (k:∀ h',IsZip h' z p q (rawInt s.heap.objs.size)->IsPair h' q x y->ItB b1 h' j1 a1 (n + 1)->ItB b2 h' j2 a2 (n + 1)->IsPair h' s.heap.objs.size x y->(∀ c o,c ≠ z->c ≠ q->c ≠ j1->c ≠ j2->s.heap.get? c=some o->h'.get? c=some o)->Q (.ref s.heap.objs.size) { s with heap:=h' }):
 wpAny (model prog w) A (Builtin.«zip.__next__» ⟨[.ref z],[]⟩) (λfin s'=>∃ v,fin=.done (.ret v)/\Q v s') E s:=by
 show wpAny _ _ (field (.ref z) 2 >>= _) _ _ _;refine wpAny_bind (wpAny_field hz rfl (x:=.bool false) rfl ?_)
 show wpAny _ _ (field (.ref z) 3 >>= _) _ _ _;refine wpAny_bind (wpAny_field hz rfl (x:=.ref p) rfl ?_)
 refine wpAny_bind (wpAny_seqItems hp rfl ?_);show wpAny _ _ (Builtin.SmallTypes.ownedTupleIsFree (.ref z) >>= _) _ _ _
 refine wpAny_bind ?_;unfold Builtin.SmallTypes.ownedTupleIsFree
 refine wpAny_bind (wpAny_field hz rfl (x:=.none) rfl (wpAny_pure ?_));simp only[if_true]
 refine wpAny_bind (wpAny_rule ?_);refine wpAny_bind (wpAny_field hz rfl (x:=.ref q) rfl ?_)
 refine wpAny_bind (wpAny_setField_rec hz (by simp) λg1 (y1:IsZip g1 z p q .ellipsis) t1=>?_)
 refine wpAny_bind ?_;simp only[List.zipIdx_cons,List.zipIdx_nil,List.forIn_cons,List.forIn_nil]
 refine wpAny_bind (wpAny_bind (wpAny_onRaise ?_));show wpAny _ _ (Builtin.SmallTypes.nextOf (.ref j1) >>= _) _ _ _
 refine wpAny_bind (x9 (cH i1 λo e=>t1.extBut _ _ D.i1z e) (l1.keep λo e=>t1.extBut _ _ D.l1z e) ex λg2 m1 t2=>wpAny_pure ?_)
 have q2:IsPair g2 q u v:=t2.extBut _ _ D.TOi1 (t1.extBut _ _ D.TOz hq)
 refine wpAny_bind (wpAny_seqItems q2 rfl ?_);refine wpAny_bind (wpAny_updateSeq_pair q2 λg3 (q3:IsPair g3 q x v) t3=>?_)
 refine wpAny_bind (wpAny_letGo (wpAny_pure ?_));refine wpAny_bind (wpAny_bind (wpAny_onRaise ?_))
 show wpAny _ _ (Builtin.SmallTypes.nextOf (.ref j2) >>= _) _ _ _
 refine wpAny_bind (x9 (cH i2 λo e=>t3.extBut _ _ D.TOi2.symm (t2.extBut _ _ D.i12.symm (t1.extBut _ _ D.i2z e))) (l2.keep λo e=>t3.extBut _ _ D.l2TO (t2.extBut _ _ D.l2i1 (t1.extBut _ _ D.l2z e))) ey λg4 m2 t4=>wpAny_pure ?_)
 have q4:IsPair g4 q x v:=t4.extBut _ _ D.TOi2 q3
 refine wpAny_bind (wpAny_seqItems q4 rfl ?_);refine wpAny_bind (wpAny_updateSeq_pair q4 λg5 (q5:IsPair g5 q x y) t5=>?_)
 refine wpAny_bind (wpAny_letGo (wpAny_pure (wpAny_pure ?_)));refine wpAny_bind (wpAny_seqItems q5 rfl ?_);refine wpAny_bind (wpAny_newTuple ?_)
 have sz:g5.objs.size=s.heap.objs.size:=by rw[t5.1,t4.1,t3.1,t2.1,t1.1]
 have y5:IsZip g5 z p q .ellipsis:=t5.extBut _ _ D.TOz.symm (t4.extBut _ _ D.i2z.symm (t3.extBut _ _ D.TOz.symm (t2.extBut _ _ D.i1z.symm y1)))
 have all5:∀ c o,c ≠ z->c ≠ q->c ≠ j1->c ≠ j2->s.heap.get? c=some o->g5.get? c=some o:=λc o c1 c2 c3 c4 e=>t5.extBut _ _ c2 (t4.extBut _ _ c4 (t3.extBut _ _ c2 (t2.extBut _ _ c3 (t1.extBut _ _ c1 e))))
 have n1:ItB b1 g5 j1 a1 (n + 1):=cH m1 λo e=>t5.extBut _ _ D.TOi1.symm (t4.extBut _ _ D.i12 (t3.extBut _ _ D.TOi1.symm e))
 have n2:ItB b2 g5 j2 a2 (n + 1):=cH m2 λo e=>t5.extBut _ _ D.TOi2.symm e
 have zl:z < g5.objs.size:=Heap.lt_size y5
 show wpAny _ _ (Builtin.SmallTypes.ownedTupleHandOut (.ref z) (.ref g5.objs.size) >>= _) _ _ _;refine wpAny_bind ?_;unfold Builtin.SmallTypes.ownedTupleHandOut
 have y6:IsZip (g5.push { cls:=.type "tuple",data:=.seq #[x,y] }) z p q .ellipsis:=Heap.get?_push_of_some _ y5
 refine wpAny_bind (wpAny_setField_rec y6 (by simp) λg7 (y7:IsZip g7 z p q (rawInt g5.objs.size)) t7=>?_)
 refine wpAny_setField_rec y7 (by simp) λg8 (y8:IsZip g8 z p q (rawInt g5.objs.size)) t8=>?_
 have up:∀ c o,c ≠ z->g5.get? c=some o->g8.get? c=some o:=λc o c1 e=>t8.extBut _ _ c1 (t7.extBut _ _ c1 (Heap.get?_push_of_some _ e))
 have w8:IsPair g8 g5.objs.size x y:=t8.extBut _ _ (Nat.ne_of_gt zl) (t7.extBut _ _ (Nat.ne_of_gt zl) (Heap.get?_push_size _ rfl))
 rw[sz] at y8 w8
 refine wpAny_pure ⟨_,rfl,?_⟩
 show Q (.ref g5.objs.size) _;rw[sz]
 exact k g8 y8 (up _ _ D.TOz q5) (cH n1 λo e=>up _ o D.i1z e) (cH n2 λo e=>up _ o D.i2z e) w8 λc o c1 c2 c3 c4 e=>up c o c1 (all5 c o c1 c2 c3 c4 e)
theorem C1 {Q:Fin->Shared->Prop} (hh:A.handled=none) (D:ZipApart z p q j1 j2 a1 a2) (hz:IsZip s.heap z p q .none) (hp:IsPair s.heap p (.ref j1) (.ref j2)) (hq:IsPair s.heap q u v)
 (i1:ItB b1 s.heap j1 a1 n) (i2:ItB b2 s.heap j2 a2 n) (l1:LsB b1 s.heap a1 xs) (l2:LsB b2 s.heap a2 ys) (en:xs[n]?=none\/ys[n]?=none)
 (k:∀ h' e,(∀ c o,c ≠ z->c ≠ q->c ≠ j1->c ≠ j2->s.heap.get? c=some o->h'.get? c=some o)->(∃ o,h'.get? e=some o/\o.cls=.type "StopIteration")->E (.ref e) { s with heap:=h' }):wpAny (model prog w) A (Builtin.«zip.__next__» ⟨[.ref z],[]⟩) Q E s:=by
 show wpAny _ _ (field (.ref z) 2 >>= _) _ _ _;refine wpAny_bind (wpAny_field hz rfl (x:=.bool false) rfl ?_)
 show wpAny _ _ (field (.ref z) 3 >>= _) _ _ _;refine wpAny_bind (wpAny_field hz rfl (x:=.ref p) rfl ?_)
 refine wpAny_bind (wpAny_seqItems hp rfl ?_);show wpAny _ _ (Builtin.SmallTypes.ownedTupleIsFree (.ref z) >>= _) _ _ _
 refine wpAny_bind ?_;unfold Builtin.SmallTypes.ownedTupleIsFree
 refine wpAny_bind (wpAny_field hz rfl (x:=.none) rfl (wpAny_pure ?_));simp only[if_true]
 refine wpAny_bind (wpAny_rule ?_);refine wpAny_bind (wpAny_field hz rfl (x:=.ref q) rfl ?_)
 refine wpAny_bind (wpAny_setField_rec hz (by simp) λg1 (y1:IsZip g1 z p q .ellipsis) t1=>?_)
 refine wpAny_bind ?_;simp only[List.zipIdx_cons,List.zipIdx_nil,List.forIn_cons,List.forIn_nil]
 refine wpAny_bind (wpAny_bind (wpAny_onRaise ?_));show wpAny _ _ (Builtin.SmallTypes.nextOf (.ref j1) >>= _) _ _ _
 cases ex:xs[n]? with
 |
  none=>
  refine wpAny_bind (sC hh (cH i1 λo e=>t1.extBut _ _ D.i1z e) (l1.keep λo e=>t1.extBut _ _ D.l1z e) ex λg2 e t2 ⟨oe,he,ce⟩=>?_)
  have y2:IsZip g2 z p q .ellipsis:=t2 _ _ D.i1z.symm y1
  have ez:e ≠ z:=λw=>by subst w;rw[y2] at he;cases he;simp at ce
  exact wpAny_setField_rec y2 (by simp) λg3 _ t3=>k g3 e (λc o c1 _ c3 _ w=>t3.extBut _ _ c1 (t2 _ _ c3 (t1.extBut _ _ c1 w))) ⟨oe,t3.extBut _ _ ez he,ce⟩
 |
  some x=>
  have ey:ys[n]?=none:=en.resolve_left λw=>by rw[ex] at w;cases w
  refine wpAny_bind (x9 (cH i1 λo e=>t1.extBut _ _ D.i1z e) (l1.keep λo e=>t1.extBut _ _ D.l1z e) ex λg2 m1 t2=>wpAny_pure ?_)
  have q2:IsPair g2 q u v:=t2.extBut _ _ D.TOi1 (t1.extBut _ _ D.TOz hq)
  refine wpAny_bind (wpAny_seqItems q2 rfl ?_);refine wpAny_bind (wpAny_updateSeq_pair q2 λg3 q3 t3=>?_);refine wpAny_bind (wpAny_letGo (wpAny_pure ?_))
  refine wpAny_bind (wpAny_bind (wpAny_onRaise ?_));show wpAny _ _ (Builtin.SmallTypes.nextOf (.ref j2) >>= _) _ _ _
  refine wpAny_bind (sC hh (cH i2 λo e=>t3.extBut _ _ D.TOi2.symm (t2.extBut _ _ D.i12.symm (t1.extBut _ _ D.i2z e))) (l2.keep λo e=>t3.extBut _ _ D.l2TO (t2.extBut _ _ D.l2i1 (t1.extBut _ _ D.l2z e))) ey λg4 e t4 ⟨oe,he,ce⟩=>?_)
  have y4:IsZip g4 z p q .ellipsis:=t4 _ _ D.i2z.symm (t3.extBut _ _ D.TOz.symm (t2.extBut _ _ D.i1z.symm y1))
  have ez:e ≠ z:=λw=>by subst w;rw[y4] at he;cases he;simp at ce
  exact wpAny_setField_rec y4 (by simp) λg5 _ t5=>k g5 e (λc o c1 c2 c3 c4 w=>t5.extBut _ _ c1 (t4 _ _ c4 (t3.extBut _ _ c2 (t2.extBut _ _ c3 (t1.extBut _ _ c1 w))))) ⟨oe,t5.extBut _ _ ez he,ce⟩
end
end L2
namespace L2
open PySem PySem.Spec PyProof.Rows
def Cz (b:Bool):String:=if b then "list_iterator" else "tuple_iterator"
theorem xG {prog:Program}{w:World}{A:Around}{E:Value->Shared->Prop}{s:Shared}{b:Bool}{a:Addr}{its:Array Value}{Q:Value->Shared->Prop} (h:LsB b s.heap a its) (k:Q (.ref s.heap.objs.size) { s with heap:=s.heap.push { cls:=.type (Cz b),data:=.fields #[.ref a,.int 0 0] } }):wpAny (model prog w) A (pyIter (.ref a)) Q E s:=by
 cases b with
 | true=>exact wpAny_pyIter_list h k
 | false=>exact wpAny_pyIter_tuple h k
abbrev zp1 (h:Heap) (b:Bool) (a:Addr):Heap:=h.push { cls:=.type (Cz b),data:=.fields #[.ref a,.int 0 0] }
abbrev zp2 (h:Heap) (b c:Bool) (a d:Addr):Heap:=zp1 (zp1 h b a) c d
abbrev zp3 (h:Heap) (b c:Bool) (a d:Addr):Heap:=(zp2 h b c a d).push { cls:=.type "tuple",data:=.seq #[.ref h.objs.size,.ref (zp1 h b a).objs.size] }
abbrev zp4 (h:Heap) (b c:Bool) (a d:Addr):Heap:=(zp3 h b c a d).push { cls:=.type "tuple",data:=.seq #[.none,.none] }
abbrev zp5 (h:Heap) (b c:Bool) (a d:Addr):Heap:=(zp4 h b c a d).push { cls:=.type "zip",data:=.fields #[.none,.bool false,.bool false,.ref (zp2 h b c a d).objs.size,.ref (zp3 h b c a d).objs.size] }
theorem Dl (b c:Bool) (a d:Addr) (xs ys:Array Value):Meets (Builtin.«zip.__new__» ⟨[.type "zip",.ref a,.ref d],[]⟩) (λ_ R s=>LsB b s.heap a xs/\LsB c s.heap d ys/\R (.ok (.ret (.ref (zp4 s.heap b c a d).objs.size))) { s with heap:=zp5 s.heap b c a d }):=
 .of_wp λprog w A R s h=>by
  obtain⟨hp,g,dr,tk,os⟩:=s;obtain⟨la,ld,h⟩:=h
  have io:=sub_zip
  have L1:LsB b (Shared.heap ⟨hp,g,dr,tk,os⟩) a xs:=la
  have L2':LsB c (Shared.heap ⟨hp.push { cls:=.type (Cz b),data:=.fields #[.ref a,.int 0 0] },g,dr,tk,os⟩) d ys:=ld.keep λo e=>Heap.get?_push_of_some _ e
  wp_walk using xG L1,xG L2'
  exact⟨_,rfl,h⟩
theorem Af {prog:Program}{w:World}{A:Around}{E:Value->Shared->Prop}{s:Shared}{b c:Bool}{a d:Addr}{xs ys:Array Value}{Q:Value->Shared->Prop} (la:LsB b s.heap a xs) (ld:LsB c s.heap d ys)
 (k:∀ h',IsZip h' (s.heap.objs.size + 4) (s.heap.objs.size + 2) (s.heap.objs.size + 3) .none->IsPair h' (s.heap.objs.size + 2) (.ref s.heap.objs.size) (.ref (s.heap.objs.size + 1))->IsPair h' (s.heap.objs.size + 3) .none .none->
  ItB b h' s.heap.objs.size a 0->ItB c h' (s.heap.objs.size + 1) d 0->(∀ c o,s.heap.get? c=some o->h'.get? c=some o)->Q (.ref (s.heap.objs.size + 4)) { s with heap:=h' }):wpAny (model prog w) A (call (.type "zip") [.ref a,.ref d]) Q E s:=by
 refine callType_new F.called_zip (by decide) (F.typeCall_zip_2 _ _) (F.newCall_zip_2 _ _) (λobj=>F.args_object_init_3 obj _ _) F.entry_zip_new (Dl b c a d xs ys) ⟨la,ld,?_⟩
 have n1:(zp1 s.heap b a).objs.size=s.heap.objs.size + 1:=Heap.size_push ..
 have n2:(zp2 s.heap b c a d).objs.size=s.heap.objs.size + 2:=by rw[Heap.size_push,n1]
 have n3:(zp3 s.heap b c a d).objs.size=s.heap.objs.size + 3:=by rw[Heap.size_push,n2]
 have n4:(zp4 s.heap b c a d).objs.size=s.heap.objs.size + 4:=by rw[Heap.size_push,n3]
 have up:=λ{h:Heap}{x:Addr}{o:Obj} (o':Obj) (e:h.get? x=some o)=>Heap.get?_push_of_some o' e
 have e5:(zp5 s.heap b c a d).get? (zp4 s.heap b c a d).objs.size=some _:=Heap.get?_push_size _ rfl
 have e4:(zp5 s.heap b c a d).get? (zp3 s.heap b c a d).objs.size=some _:=up _ (Heap.get?_push_size _ rfl)
 have e3:(zp5 s.heap b c a d).get? (zp2 s.heap b c a d).objs.size=some _:=up _ (up _ (Heap.get?_push_size _ rfl))
 have e2:(zp5 s.heap b c a d).get? (zp1 s.heap b a).objs.size=some _:=up _ (up _ (up _ (Heap.get?_push_size _ rfl)))
 have e1:(zp5 s.heap b c a d).get? s.heap.objs.size=some _:=up _ (up _ (up _ (up _ (Heap.get?_push_size _ rfl))))
 show _/\_
 rw[n2,n3,n4] at e5;rw[n1,n2] at e3;rw[n3] at e4;rw[n1] at e2;rw[n4]
 have i1:ItB b (zp5 s.heap b c a d) s.heap.objs.size a 0:=by cases b <;> exact⟨_,e1,rfl,rfl⟩
 have i2:ItB c (zp5 s.heap b c a d) (s.heap.objs.size + 1) d 0:=by cases c <;> exact⟨_,e2,rfl,rfl⟩
 exact⟨⟨_,e5,rfl⟩,k _ e5 e3 e4 i1 i2 λx o e=>up _ (up _ (up _ (up _ (up _ e))))⟩
def ItZ (K:W.Frag) (b c:Bool) (a d:Addr):It:=
 ⟨λi H=>∃ xs ys x y,SqB K b H a xs/\SqB K c H d ys/\xs[i]?=some x/\ys[i]?=some y,
  λi H x H'=>∃ p u v,x=.ref p/\H p=none/\H'=upd H p (.tup [u,v])/\(∀ xs,SqB K b H a xs->xs[i]?=some u)/\∀ ys,SqB K c H d ys->ys[i]?=some v,
  λi H=>∃ xs ys,SqB K b H a xs/\SqB K c H d ys/\(xs[i]?=none\/ys[i]?=none)⟩
theorem kT {X:Cx}{pins:List (Addr×Obj)}{σ:St}{H:Hp}{s:Shared}{b:Bool}{a:Addr}{xs:List V} (I:Inv X pins σ H s) (hq:SqB X.K b H a xs):∃ its:List Value,Vals xs its/\LsB b s.heap a its.toArray:=by
 cases b with
 | true=>obtain⟨its,rv,p,_⟩:=I.list hq;exact⟨its,rv,p.isList⟩
 | false=>obtain⟨its,rv,p,_⟩:=I.tuple hq;exact⟨its,rv,p⟩
theorem C6 {P:Program}{w:World}{K:W.Frag}{elts:List Expr}{x1:Nat}{tp:Pos} (b c:Bool) (a d z p q j1 j2:Addr) (D:ZipApart z p q j1 j2 a d):
 Turn P w K (.Tuple elts x1 tp) (ItZ K b c a d) [z,p,q,j1,j2] z (λi h=>IsZip h z p q .none/\IsPair h p (.ref j1) (.ref j2)/\(∃ u v,IsPair h q u v)/\ItB b h j1 a i/\ItB c h j2 d i) where
 mem:=by simp
 obj:=λi h st e he=>by
  obtain⟨s1,s2,⟨u,v,s3⟩,s4,s5⟩:=st
  obtain⟨o4,k4,l4,_⟩:=nL s4
  obtain⟨o5,k5,l5,_⟩:=nL s5
  simp only[List.mem_cons,List.not_mem_nil,or_false] at he
  rcases he with rfl | rfl | rfl | rfl | rfl
  ·exact⟨_,s1,λv y=>by cases y⟩
  ·exact⟨_,s2,λv y=>by cases y⟩
  ·exact⟨_,s3,λv y=>by cases y⟩
  ·exact⟨o4,k4,l4⟩
  ·exact⟨o5,k5,l5⟩
 keep:=λi h h' st k=>by
  obtain⟨s1,s2,⟨u,v,s3⟩,s4,s5⟩:=st
  exact⟨k z (by simp) _ s1,k p (by simp) _ s2,⟨u,v,k q (by simp) _ s3⟩,cH s4 λo e=>k j1 (by simp) o e,cH s5 λo e=>k j2 (by simp) o e⟩
 item:=
  by
  intro X hP hw hK hc i pins s σ H E I hf st hg
  subst hP hw hK
  obtain⟨xs,ys,x,y,qx,qy,ex,ey⟩:=hg
  obtain⟨s1,s2,⟨u,v,s3⟩,s4,s5⟩:=st
  obtain⟨ix,rx,lx⟩:=kT I qx
  obtain⟨iy,ry,ly⟩:=kT I qy
  obtain⟨ux,hux,rux⟩:=rx.get ex
  obtain⟨uy,huy,ruy⟩:=ry.get ey
  have hTy:s.TypeIs (.ref z) "zip" := ⟨_,s1,rfl⟩
  have zl:=Heap.lt_size s1
  have pl:=Heap.lt_size s2
  have ql:=Heap.lt_size s3
  obtain⟨o4,k4,_,_⟩:=nL s4
  obtain⟨o5,k5,_,_⟩:=nL s5
  have j1l:=Heap.lt_size k4
  have j2l:=Heap.lt_size k5
  unfold pyNext
  refine wpAny_bind (wpAny_attempt (wpAny_callSpecial?_slot (name:=Str.ofString "__next__") hTy F.slot_zip_next (wpAny_call_entry F.slot_zip_next hTy F.entry_zip_next (zipN D s1 s2 s3 s4 s5 lx ly (by simpa using hux) (by simpa using huy) λh' y1 y3 y4 y5 yT hk=>wpAny_pure ?_) (F.args_zip_next_1 _))))
  refine⟨_,rfl,wpAny_letOwnedTupleGo_zip (s:={ s with heap:=h' }) y1 λh2 z2 sb=>?_⟩
  have sb':Heap.SameBut z h' h2:=sb
  have hT:H s.heap.objs.size=none:=I.hok.fresh (Nat.le_refl _)
  have I1:Inv X pins σ (upd H s.heap.objs.size (.tup [x,y])) { s with heap:=s.heap.push { cls:=.type "tuple",data:=.seq #[ux,uy] },toks:=s.toks }:=
   I.laid (t':=s.toks) (λc o q=>Heap.get?_push_of_some _ q) (Nat.le_refl _) ⟨by show 2<=sizeLine;decide,[ux,uy],.cons rux (.cons ruy .nil),⟨_,Heap.get?_push_size _ rfl,rfl,_,rfl⟩⟩
  have fp':∀ e ∈ [z,p,q,j1,j2],FpOk X pins (upd H s.heap.objs.size (.tup [x,y])) e:=λe he=>by
   have:=hf e he
   simp only[List.mem_cons,List.not_mem_nil,or_false] at he
   rcases he with rfl | rfl | rfl | rfl | rfl
   ·exact this.up (Nat.ne_of_lt zl)
   ·exact this.up (Nat.ne_of_lt pl)
   ·exact this.up (Nat.ne_of_lt ql)
   ·exact this.up (Nat.ne_of_lt j1l)
   ·exact this.up (Nat.ne_of_lt j2l)
  have I2:Inv X pins σ (upd H s.heap.objs.size (.tup [x,y])) { s with heap:=h2,toks:=s.toks }:=
   Inv.turnedL (s:={ s with heap:=s.heap.push { cls:=.type "tuple",data:=.seq #[ux,uy] },toks:=s.toks }) (ch:=[z,p,q,j1,j2]) (t':=s.toks) I1 (λe o he qe=>by
    have c1:e ≠ z:=λw=>he (by simp [w])
    have c2:e ≠ q:=λw=>he (by simp [w])
    have c3:e ≠ j1:=λw=>he (by simp [w])
    have c4:e ≠ j2:=λw=>he (by simp [w])
    rw[sb'.2 e c1]
    have q':(s.heap.push { cls:=.type "tuple",data:=.seq #[ux,uy] }).get? e=some o:=qe
    by_cases w:e=s.heap.objs.size
    ·subst w
     rw[Heap.get?_push_size _ rfl] at q'
     cases q'
     exact yT
    ·rw[Heap.get?_push_ne _ _ _ w] at q'
     exact hk e o c1 c2 c3 c4 q') fp'
  refine⟨.ref s.heap.objs.size,_,I2,rfl,⟨_,x,y,rfl,hT,rfl,λzs hz=>by rw[SqB.inj I hz qx];exact ex,λzs hz=>by rw[SqB.inj I hz qy];exact ey⟩,⟨z2,?_,⟨ux,uy,?_⟩,cH y4 λo e=>(sb'.2 j1 D.i1z).trans e,cH y5 λo e=>(sb'.2 j2 D.i2z).trans e⟩,λe he=>(fp' e he).1⟩
  ·exact (sb'.2 p D.TIz).trans (hk p _ D.TIz D.TITO D.TIi1 D.TIi2 s2)
  ·exact (sb'.2 q D.TOz).trans y3
 done:=by
  intro X hP hw hK hc i pins s σ H E I hf st hg
  subst hP hw hK
  obtain⟨xs,ys,qx,qy,en⟩:=hg
  obtain⟨s1,s2,⟨u,v,s3⟩,s4,s5⟩:=st
  obtain⟨ix,rx,lx⟩:=kT I qx
  obtain⟨iy,ry,ly⟩:=kT I qy
  have hTy:s.TypeIs (.ref z) "zip" := ⟨_,s1,rfl⟩
  have en':ix.toArray[i]?=none\/iy.toArray[i]?=none:=by
   rcases en with e | e
   ·left;rw[List.getElem?_eq_none_iff] at e;simp;rw[<- rx.length];exact e
   ·right;rw[List.getElem?_eq_none_iff] at e;simp;rw[<- ry.length];exact e
  unfold pyNext
  refine wpAny_bind (wpAny_attempt (wpAny_callSpecial?_slot (name:=Str.ofString "__next__") hTy F.slot_zip_next (wpAny_call_entry F.slot_zip_next hTy F.entry_zip_next (C1 (I.ok.hd hc) D s1 s2 s3 s4 s5 lx ly en' λh' e hk ⟨o,ho,co⟩=>?_) (F.args_zip_next_1 _))))
  refine wpAny_bind (wpAny_isInstance (T := "StopIteration") (b:=true) ⟨o,ho,co⟩ isSubtype_stop (wpAny_pure ⟨rfl,?_⟩))
  exact Inv.turnedL (ch:=[z,p,q,j1,j2]) (t':=s.toks) I (λe o he qe=>hk e o (λw=>he (by simp [w])) (λw=>he (by simp [w])) (λw=>he (by simp [w])) (λw=>he (by simp [w])) qe) hf
 self:=λ_ _ _ _ _ st h=>wpAny_pyIter_zip st.1 h
theorem Bh:bootBuiltins "zip" = some (.type "zip"):=by decide
theorem GH {X:Cx}{l m:Expr}{tl:TA}{elts:List Expr}{x1:Nat}{tp p pos:Pos} (hg:Gl X "zip") (hm:X.mg "zip" = none) (ha:PA X [l,m] tl) (hs:starEach [l,m] X.env=[(false,eval l X.env),(false,eval m X.env)]:=by rfl) (hs2:starEach [m] X.env=[(false,eval m X.env)]:=by rfl):
 PI X (.Tuple elts x1 tp) (.Call (.Name "zip" p) [l,m] [] pos) (λσ H R=>tl σ H λvs H1=>∃ (b c:Bool) (a d:Addr) (xs ys:List V),vs=[.ref a,.ref d]/\SqB X.K b H1 a xs/\SqB X.K c H1 d ys/\R (ItZ X.K b c a d) H1):=by
 intro pins s σ H R I h
 refine Call_ (iS I hg hm Bh (PyProof.Rows.callWith_type1 (thn (ha pos pins s σ H _ I h) λus s1 ⟨vs,H1,I1,r1,q1⟩=>?_) (by rw[hs,hs2]) (by rw[hs2];rfl)))
 obtain⟨b,c,a,d,xs,ys,e,qx,qy,q⟩:=q1
 subst e
 cases r1 with
 |
  cons r rr=>
  cases rr with
  |
   cons r' rr=>
   cases rr
   cases r
   cases r'
   obtain⟨ix,rx,lx⟩:=kT I1 qx
   obtain⟨iy,ry,ly⟩:=kT I1 qy
   have la:a < s1.heap.objs.size:=by cases b <;> (obtain⟨o,e,_⟩:=lx;exact Heap.lt_size e)
   have ld:d < s1.heap.objs.size:=by cases c <;> (obtain⟨o,e,_⟩:=ly;exact Heap.lt_size e)
   refine Af lx ly λh' y1 y2 y3 y4 y5 hk=>wpAny_pyIter_zip y1 ⟨s1.heap.objs.size + 4,[s1.heap.objs.size + 4,s1.heap.objs.size + 2,s1.heap.objs.size + 3,s1.heap.objs.size,s1.heap.objs.size + 1],_,_,H1,rfl,I1.kept (t':=s1.toks) λc o z=>hk c o z,C6 b c a d _ _ _ _ _ (W.ktu_apart _ _ _ la ld),⟨y1,y2,⟨_,_,y3⟩,y4,y5⟩,λe he=>?_,q⟩
   have hge:s1.heap.objs.size<=e:=by
    simp only[List.mem_cons,List.not_mem_nil,or_false] at he
    rcases he with rfl | rfl | rfl | rfl | rfl
    ·exact Nat.le_add_right _ _
    ·exact Nat.le_add_right _ _
    ·exact Nat.le_add_right _ _
    ·exact Nat.le_refl _
    ·exact Nat.le_add_right _ _
   exact I1.fpOk hge (I1.hok.fresh hge)
end L2
namespace L2
open PySem PySem.Spec PyProof.Rows
inductive D where
 | non | bl (b:Bool) | int (i:Int) | str (x:Str) | ty (n:String) | glb (x:Str) | exc (x:Str) | tup (xs:List D) | ref (n:Nat) | kl (xs:List D)
 deriving Inhabited
inductive Ob where
 | lst (xs:List D) | fz (xs:List D) | set (xs:List Int) | dct (kvs:List (Key×D)) | any
 deriving Inhabited
abbrev AH:=List Ob
abbrev AE:=List (Option D)
inductive R (α:Type) where
 | ok (a:α) (h:AH) | exc (c:Str) (h:AH) | stuck
inductive SR where
 | nx (ae:AE) (h:AH) | rt (d:D) (h:AH) | bk (ae:AE) (h:AH) | ct (ae:AE) (h:AH) | exc (c:Str) (ae:AE) (h:AH) | stuck
abbrev ME:=AE->AH->R D
abbrev MT:=AE->AH->R Bool
abbrev MA:=AE->AH->R (List D)
abbrev MS:=AE->AH->SR
abbrev Fn:=List D->AH->R D
def R.bind {α β:Type} (r:R α) (f:α->AH->R β):R β:=match r with
 | .ok a h=>f a h
 | .exc c h=>.exc c h
 | .stuck=>.stuck
section
variable (K:W.Frag) (mg:Str->Option Value)
mutual
inductive RelD (ρ:List Addr) (H:Hp):D->V->Prop where
 | non:RelD ρ H .non .non
 | bl (b:Bool):RelD ρ H (.bl b) (.bl b)
 | int (i:Int):RelD ρ H (.int i) (.int i)
 | str (x:Str):RelD ρ H (.str x) (.str x)
 | ty (n:String):RelD ρ H (.ty n) (.ty n)
 | glb {x:Str}{a:Addr} (m:mg x=some (.ref a)):RelD ρ H (.glb x) (.ref a)
 | exc {x:Str}{a C:Addr} (m:mg x=some (.ref C)) (e:H a=some (.ext (C4 a C))):RelD ρ H (.exc x) (.ref a)
 | tup {p:Addr}{vs:List V}{ds:List D} (h:SqT K H p vs) (r:RelDs ρ H ds vs):RelD ρ H (.tup ds) (.ref p)
 | ref {n:Nat}{a:Addr} (e:ρ[n]?=some a):RelD ρ H (.ref n) (.ref a)
 | kl {a:Addr}{vs:List V}{ds:List D} (h:∃ (o:Obj) (its:Array Value) (n:Nat),K.lookup a=some o/\o.cls=.type "list" /\ o.dict=none/\o.data=.seq its n/\its.size<=sizeLine/\Vals vs its.toList) (r:RelDs ρ H ds vs):RelD ρ H (.kl ds) (.ref a)
inductive RelDs (ρ:List Addr) (H:Hp):List D->List V->Prop where
 | nil:RelDs ρ H [] []
 | cons {d:D}{v:V}{ds:List D}{vs:List V} (r:RelD ρ H d v) (rr:RelDs ρ H ds vs):RelDs ρ H (d :: ds) (v :: vs)
end
structure Le (ρ:List Addr) (H:Hp) (ρ':List Addr) (H':Hp):Prop where
 pre:∀ (n:Nat) (a:Addr),ρ[n]?=some a->ρ'[n]?=some a
 tup:∀ b xs,H b=some (.tup xs)->H' b=some (.tup xs)
 frz:∀ b o u,H b=some (.frz o u)->H' b=some (.frz o u)
 ext:∀ b φ,H b=some (.ext φ)->H' b=some (.ext φ)
def ObR (ρ:List Addr) (H:Hp) (a:Addr):Ob->Prop
 | .lst ds=>∃ vs,H a=some (.lst vs)/\RelDs K mg ρ H ds vs
 | .fz ds=>∃ o vs,H a=some (.frz o (.lst vs))/\RelDs K mg ρ H ds vs
 | .set xs=>xs.Nodup/\H a=some (.set (λi=>decide (i ∈ xs)) xs.length)
 | .dct kvs=>∃ ws,H a=some (.dK ws)/\ws.map (·.1)=kvs.map (·.1)/\RelDs K mg ρ H (kvs.map (·.2)) (ws.map (·.2))
 | .any=>∃ o,H a=some o
structure Wd (ρ:List Addr) (h:AH) (H:Hp):Prop where
 len:ρ.length=h.length
 nd:ρ.Nodup
 ob:∀ (n:Nat) (a:Addr) (o:Ob),ρ[n]?=some a->h[n]?=some o->ObR K mg ρ H a o
structure RelE (ρ:List Addr) (H:Hp) (ae:AE) (σ:St):Prop where
 len:ae.length=σ.length
 at_:∀ (i:Nat) (d:D),ae[i]?=some (some d)->∃ v,σ[i]?=some (some v)/\RelD K mg ρ H d v
def PostG {α:Type} (ρ:List Addr) (H:Hp) (E:XK) (k:α->AH->List Addr->Hp->Prop):R α->Prop
 | .ok a h=>∀ ρ' H',Le ρ H ρ' H'->Wd K mg ρ' h H'->k a h ρ' H'
 | .exc c h=>∀ ρ' H' C,Le ρ H ρ' H'->Wd K mg ρ' h H'->mg c=some (.ref C)->E (.ref C) none H'
 | .stuck=>False
abbrev eT (ρ:List Addr) (H:Hp) (Q:VK) (E:XK) (r:R D):Prop:=PostG K mg ρ H E (λd _ ρ' H'=>∀ v,RelD K mg ρ' H' d v->Q v H') r
abbrev D4 (ρ:List Addr) (H:Hp) (Q:Bool->Hp->Prop) (E:XK) (r:R Bool):Prop:=PostG K mg ρ H E (λb _ ρ' H'=>Q b H') r
abbrev Eb (ρ:List Addr) (H:Hp) (Q:List V->Hp->Prop) (E:XK) (r:R (List D)):Prop:=PostG K mg ρ H E (λd _ ρ' H'=>∀ vs,RelDs K mg ρ' H' d vs->Q vs H') r
def PostS (ρ:List Addr) (H:Hp) (D:Ends) (ES:St->XK):SR->Prop
 | .nx ae h=>∀ ρ' H' σ',Le ρ H ρ' H'->Wd K mg ρ' h H'->RelE K mg ρ' H' ae σ'->D.nx σ' H'
 | .bk ae h=>∀ ρ' H' σ',Le ρ H ρ' H'->Wd K mg ρ' h H'->RelE K mg ρ' H' ae σ'->D.bk σ' H'
 | .ct ae h=>∀ ρ' H' σ',Le ρ H ρ' H'->Wd K mg ρ' h H'->RelE K mg ρ' H' ae σ'->D.ct σ' H'
 | .rt d h=>∀ ρ' H' v,Le ρ H ρ' H'->Wd K mg ρ' h H'->RelD K mg ρ' H' d v->D.rt v H'
 | .exc c ae h=>∀ ρ' H' σ' C,Le ρ H ρ' H'->Wd K mg ρ' h H'->RelE K mg ρ' H' ae σ'->mg c=some (.ref C)->ES σ' (.ref C) none H'
 | .stuck=>False
def rdE (ES:St->XK) (F:ME):TE:=λσ H Q=>∃ ρ h ae,Wd K mg ρ h H/\RelE K mg ρ H ae σ/\eT K mg ρ H Q (ES σ) (F ae h)
def rdT (ES:St->XK) (F:MT):TT:=λσ H Q=>∃ ρ h ae,Wd K mg ρ h H/\RelE K mg ρ H ae σ/\D4 K mg ρ H Q (ES σ) (F ae h)
def rdA (ES:St->XK) (F:MA):TA:=λσ H Q=>∃ ρ h ae,Wd K mg ρ h H/\RelE K mg ρ H ae σ/\Eb K mg ρ H Q (ES σ) (F ae h)
def rdS (ES:St->XK) (F:MS):TS:=λD σ H=>∃ ρ h ae,Wd K mg ρ h H/\RelE K mg ρ H ae σ/\PostS K mg ρ H D ES (F ae h)
def spD (n:Nat) (S:Fn):Sp:=λvs H Q E=>∃ ρ h ds,Wd K mg ρ h H/\RelDs K mg ρ H ds vs/\ds.length=n/\eT K mg ρ H Q E (S ds h)
end
theorem rdE.el {K:W.Frag}{mg:Str->Option Value}{ES:St->XK}{F:ME}{σ:St}{H:Hp}{Q:VK}{C:Prop} (q:rdE K mg ES F σ H Q) (k:∀ ρ h ae,Wd K mg ρ h H->RelE K mg ρ H ae σ->eT K mg ρ H Q (ES σ) (F ae h)->C):C:=by
 obtain⟨ρ,h,ae,w,re,p⟩:=q
 exact k ρ h ae w re p
theorem rdT.el {K:W.Frag}{mg:Str->Option Value}{ES:St->XK}{F:MT}{σ:St}{H:Hp}{Q:Bool->Hp->Prop}{C:Prop} (q:rdT K mg ES F σ H Q) (k:∀ ρ h ae,Wd K mg ρ h H->RelE K mg ρ H ae σ->D4 K mg ρ H Q (ES σ) (F ae h)->C):C:=by
 obtain⟨ρ,h,ae,w,re,p⟩:=q
 exact k ρ h ae w re p
theorem rdA.el {K:W.Frag}{mg:Str->Option Value}{ES:St->XK}{F:MA}{σ:St}{H:Hp}{Q:List V->Hp->Prop}{C:Prop} (q:rdA K mg ES F σ H Q) (k:∀ ρ h ae,Wd K mg ρ h H->RelE K mg ρ H ae σ->Eb K mg ρ H Q (ES σ) (F ae h)->C):C:=by
 obtain⟨ρ,h,ae,w,re,p⟩:=q
 exact k ρ h ae w re p
theorem rdS.el {K:W.Frag}{mg:Str->Option Value}{ES:St->XK}{F:MS}{σ:St}{H:Hp}{De:Ends}{C:Prop} (q:rdS K mg ES F De σ H) (k:∀ ρ h ae,Wd K mg ρ h H->RelE K mg ρ H ae σ->PostS K mg ρ H De ES (F ae h)->C):C:=by
 obtain⟨ρ,h,ae,w,re,p⟩:=q
 exact k ρ h ae w re p
section
variable {K:W.Frag}{mg:Str->Option Value}{ρ ρ' ρ1:List Addr}{H H' H1:Hp}{h h':AH}{ae:AE}{σ:St}
theorem Le.refl:Le ρ H ρ H:=⟨λ_ _ e=>e,λ_ _ e=>e,λ_ _ _ e=>e,λ_ _ e=>e⟩
theorem Le.trans (a:Le ρ H ρ1 H1) (b:Le ρ1 H1 ρ' H'):Le ρ H ρ' H':=
 ⟨λn x e=>b.pre n x (a.pre n x e),λx y e=>b.tup x y (a.tup x y e),λx y z e=>b.frz x y z (a.frz x y z e),λx y e=>b.ext x y (a.ext x y e)⟩
theorem Le.sqT {a:Addr}{xs:List V} (l:Le ρ H ρ' H') (q:SqT K H a xs):SqT K H' a xs:=by
 rcases q with (q | ⟨o,q⟩) | q
 ·exact .inl (.inl (l.tup _ _ q))
 ·exact .inl (.inr ⟨o,l.frz _ _ _ q⟩)
 ·exact .inr q
theorem RelD.mono (l:Le ρ H ρ' H') {d:D}{v:V} (r:RelD K mg ρ H d v):RelD K mg ρ' H' d v:=
 RelD.rec (motive_1:=λd v _=>RelD K mg ρ' H' d v) (motive_2:=λds vs _=>RelDs K mg ρ' H' ds vs) .non (λb=>.bl b) (λi=>.int i) (λx=>.str x) (λn=>.ty n) (λm=>.glb m) (λm e=>.exc m (l.ext _ _ e)) (λh _ ih=>.tup (l.sqT h) ih) (λe=>.ref (l.pre _ _ e)) (λh _ ih=>.kl h ih) .nil (λ_ _ a b=>.cons a b) r
theorem RelDs.ind {M:List D->List V->Prop} (h0:M [] []) (h1:∀ {d v ds vs},RelD K mg ρ H d v->RelDs K mg ρ H ds vs->M ds vs->M (d :: ds) (v :: vs)) {ds:List D}{vs:List V} (r:RelDs K mg ρ H ds vs):M ds vs:=by
 induction ds generalizing vs with
 | nil=>cases r;exact h0
 |
  cons d ds ih=>
  cases r with
  | cons r rr=>exact h1 r rr (ih rr)
theorem RelDs.mono (l:Le ρ H ρ' H') {ds:List D}{vs:List V} (r:RelDs K mg ρ H ds vs):RelDs K mg ρ' H' ds vs:=r.ind .nil λr _ ih=>.cons (r.mono l) ih
theorem RelDs.len {ds:List D}{vs:List V} (r:RelDs K mg ρ H ds vs):ds.length=vs.length:=r.ind (M:=λds vs=>ds.length=vs.length) rfl λ_ _ ih=>congrArg (· + 1) ih
theorem RelDs.getD {ds:List D}{vs:List V}{i:Nat}{d:D} (r:RelDs K mg ρ H ds vs) (e:ds[i]?=some d):∃ v,vs[i]?=some v/\RelD K mg ρ H d v:=
 r.ind (M:=λds vs=>∀ i,ds[i]?=some d->∃ v,vs[i]?=some v/\RelD K mg ρ H d v) (λ_ e=>by rw[List.getElem?_nil] at e;cases e) (λr _ ih i e=>match i,e with
  | 0,e=>by cases e;exact⟨_,rfl,r⟩
  | i + 1,e=>ih i e) i e
theorem RelDs.append {ds es:List D}{vs ws:List V} (r:RelDs K mg ρ H ds vs) (q:RelDs K mg ρ H es ws):RelDs K mg ρ H (ds++es) (vs++ws):=r.ind (M:=λds vs=>RelDs K mg ρ H (ds++es) (vs++ws)) q λr _ ih=>.cons r ih
theorem RelDs.take {ds:List D}{vs:List V} (n:Nat) (r:RelDs K mg ρ H ds vs):RelDs K mg ρ H (ds.take n) (vs.take n):=
 r.ind (M:=λds vs=>∀ n:Nat,RelDs K mg ρ H (ds.take n) (vs.take n)) (λn=>by rw[List.take_nil,List.take_nil];exact .nil) (λr _ ih n=>by cases n with | zero=>exact .nil | succ n=>exact .cons r (ih n)) n
theorem RelDs.drop {ds:List D}{vs:List V} (n:Nat) (r:RelDs K mg ρ H ds vs):RelDs K mg ρ H (ds.drop n) (vs.drop n):=
 r.ind (M:=λds vs=>∀ n:Nat,RelDs K mg ρ H (ds.drop n) (vs.drop n)) (λn=>by rw[List.drop_nil,List.drop_nil];exact .nil) (λr rr ih n=>by cases n with | zero=>exact .cons r rr | succ n=>exact ih n) n
theorem RelDs.reverse {ds:List D}{vs:List V} (r:RelDs K mg ρ H ds vs):RelDs K mg ρ H ds.reverse vs.reverse:=by
 induction ds generalizing vs with
 | nil=>cases r;exact .nil
 |
  cons d ds ih=>
  cases r with
  | cons q rr=>rw[List.reverse_cons,List.reverse_cons];exact (ih rr).append (.cons q .nil)
theorem RelDs.ints:∀ {ns:List Int}{vs:List V},RelDs K mg ρ H (ns.map D.int) vs->vs=ns.map V.int:=by
 intro ns
 induction ns with
 | nil=>intro vs r;cases r;rfl
 |
  cons n ns ih=>
  intro vs r
  cases r with
  | cons r rr=>cases r;rw[ih rr];rfl
theorem RelDs.bls:∀ {ns:List Bool}{vs:List V},RelDs K mg ρ H (ns.map D.bl) vs->vs=ns.map V.bl:=by
 intro ns
 induction ns with
 | nil=>intro vs r;cases r;rfl
 |
  cons n ns ih=>
  intro vs r
  cases r with
  | cons r rr=>cases r;rw[ih rr];rfl
theorem RelE.mono (l:Le ρ H ρ' H') (r:RelE K mg ρ H ae σ):RelE K mg ρ' H' ae σ:=⟨r.len,λi d e=>by
 obtain⟨v,h1,h2⟩:=r.at_ i d e
 exact⟨v,h1,h2.mono l⟩⟩
theorem RelE.set {d:D}{v:V} (i:Nat) (r:RelE K mg ρ H ae σ) (q:RelD K mg ρ H d v):RelE K mg ρ H (ae.set i (some d)) (σ.set i (some v)):=⟨by rw[List.length_set,List.length_set];exact r.len,λj d' e=>by
 rw[List.getElem?_set] at e ⊢
 by_cases hij:i=j
 ·rw[if_pos hij] at e ⊢
  by_cases hi:i < ae.length
  ·rw[if_pos hi] at e
   cases e
   rw[if_pos (by rw[<- r.len];exact hi)]
   exact⟨v,rfl,q⟩
  ·rw[if_neg hi] at e;cases e
 ·rw[if_neg hij] at e ⊢
  exact r.at_ j d' e⟩
theorem ObR.mono {a:Addr}{o:Ob} (l:Le ρ H ρ' H') (e:H' a=H a) (q:ObR K mg ρ H a o):ObR K mg ρ' H' a o:=by
 cases o with
 | lst ds=>obtain⟨vs,h1,h2⟩:=q;exact⟨vs,e.trans h1,h2.mono l⟩
 | fz ds=>obtain⟨o,vs,h1,h2⟩:=q;exact⟨o,vs,e.trans h1,h2.mono l⟩
 | set xs=>exact⟨q.1,e.trans q.2⟩
 | dct kvs=>obtain⟨ws,h1,h2,h3⟩:=q;exact⟨ws,e.trans h1,h2,h3.mono l⟩
 | any=>obtain⟨o,h1⟩:=q;exact⟨o,e.trans h1⟩
theorem ObR.there {a:Addr}{o:Ob} (q:ObR K mg ρ H a o):∃ u,H a=some u:=by
 cases o with
 | lst ds=>obtain⟨vs,h1,_⟩:=q;exact⟨_,h1⟩
 | fz ds=>obtain⟨o,vs,h1,_⟩:=q;exact⟨_,h1⟩
 | set xs=>exact⟨_,q.2⟩
 | dct kvs=>obtain⟨ws,h1,_⟩:=q;exact⟨_,h1⟩
 | any=>exact q
theorem Wd.fresh (w:Wd K mg ρ h H) {p:Addr} (hp:H p=none):p ∉ ρ:=λhm=>by
 obtain⟨n,hn⟩:=List.getElem?_of_mem hm
 have hl:n < h.length:=by rw[<- w.len];exact (List.getElem?_eq_some_iff.mp hn).1
 obtain⟨u,hu⟩:=(w.ob n p h[n] hn (List.getElem?_eq_getElem hl)).there
 rw[hp] at hu;cases hu
theorem ff {p:Addr}{o:HO} (hp:H p=none):Le ρ H ρ (upd H p o):=
 ⟨λ_ _ e=>e,λb xs e=>by rw[aV (cS e hp)];exact e,λb xs u e=>by rw[aV (cS e hp)];exact e,λb xs e=>by rw[aV (cS e hp)];exact e⟩
theorem rG {m:List Addr}:Le ρ H (ρ++m) H:=
 ⟨λn a e=>by rw[List.getElem?_append_left (List.getElem?_eq_some_iff.mp e).1];exact e,λ_ _ e=>e,λ_ _ _ e=>e,λ_ _ e=>e⟩
theorem Wd.alloc {p:Addr}{u:HO}{o:Ob} (w:Wd K mg ρ h H) (hp:H p=none) (hn:ObR K mg (ρ++[p]) (upd H p u) p o):Wd K mg (ρ++[p]) (h++[o]) (upd H p u):=by
 refine⟨by rw[List.length_append,List.length_append,w.len];rfl,?_,λn a ob e1 e2=>?_⟩
 ·rw[List.nodup_append]
  exact⟨w.nd,by simp,λa ha b hb=>by rw[List.mem_singleton] at hb;subst hb;intro z;subst z;exact w.fresh hp ha⟩
 ·by_cases hl:n < ρ.length
  ·rw[List.getElem?_append_left hl] at e1
   rw[List.getElem?_append_left (by rw[<- w.len];exact hl)] at e2
   have q:=w.ob n a ob e1 e2
   obtain⟨v,hv⟩:=q.there
   exact q.mono ((ff hp).trans rG) (aV (cS hv hp))
  ·have h1:n=ρ.length:=by
    have:=(List.getElem?_eq_some_iff.mp e1).1
    rw[List.length_append] at this
    simp at this
    omega
   subst h1
   rw[List.getElem?_append_right (Nat.le_refl _),Nat.sub_self] at e1
   rw[w.len,List.getElem?_append_right (Nat.le_refl _),Nat.sub_self] at e2
   simp at e1 e2
   subst e1 e2
   exact hn
theorem Wd.tuple {p:Addr}{u:HO} (w:Wd K mg ρ h H) (hp:H p=none):Wd K mg ρ h (upd H p u):=
 ⟨w.len,w.nd,λn a ob e1 e2=>by
  have q:=w.ob n a ob e1 e2
  obtain⟨v,hv⟩:=q.there
  exact q.mono (ff hp) (aV (cS hv hp))⟩
theorem tD {a:Addr}{o u:HO} (e:H a=some u) (hu:(∀ xs,u ≠ .tup xs)/\(∀ x y,u ≠ .frz x y)/\∀ φ,u ≠ .ext φ):Le ρ H ρ (upd H a o):=by
 refine⟨λ_ _ e=>e,λb xs q=>?_,λb x y q=>?_,λb φ q=>?_⟩ <;> rw[aV] <;> (try exact q) <;> (intro z;subst z;rw[e] at q;have:=Option.some.inj q;first | exact hu.1 _ this | exact hu.2.1 _ _ this | exact hu.2.2 _ this)
theorem Wd.write {n:Nat}{a:Addr}{o u:HO}{ob:Ob} (w:Wd K mg ρ h H) (ea:ρ[n]?=some a) (e:H a=some u) (hu:(∀ xs,u ≠ .tup xs)/\(∀ x y,u ≠ .frz x y)/\∀ φ,u ≠ .ext φ)
 (hn:ObR K mg ρ (upd H a o) a ob):Wd K mg ρ (h.set n ob) (upd H a o):=by
 refine⟨by rw[List.length_set];exact w.len,w.nd,λm b ob' e1 e2=>?_⟩
 rw[List.getElem?_set] at e2
 by_cases hm:n=m
 ·subst hm
  rw[ea] at e1;cases e1
  rw[if_pos rfl] at e2
  split at e2
  ·cases e2;exact hn
  ·cases e2
 ·rw[if_neg hm] at e2
  have q:=w.ob m b ob' e1 e2
  refine q.mono (tD e hu) (aV λz=>hm ?_)
  subst z
  have h1:=(List.getElem?_eq_some_iff.mp e1)
  have h2:=(List.getElem?_eq_some_iff.mp ea)
  exact (List.getElem_inj (h₀:=h2.1) (h₁:=h1.1) w.nd).mp (h2.2.trans h1.2.symm)
theorem DM {vs:List V}:(∀ xs,HO.lst vs ≠ .tup xs)/\(∀ x y,HO.lst vs ≠ .frz x y)/\∀ φ,HO.lst vs ≠ .ext φ:=⟨λ_ z=>(nomatch z),λ_ _ z=>(nomatch z),λ_ z=>(nomatch z)⟩
theorem yk {ws:List (Key×V)}:(∀ xs,HO.dK ws ≠ .tup xs)/\(∀ x y,HO.dK ws ≠ .frz x y)/\∀ φ,HO.dK ws ≠ .ext φ:=⟨λ_ z=>(nomatch z),λ_ _ z=>(nomatch z),λ_ z=>(nomatch z)⟩
theorem PostG.mono {α:Type}{E:XK}{k:α->AH->List Addr->Hp->Prop}{r:R α} (l:Le ρ H ρ' H') (p:PostG K mg ρ H E k r):PostG K mg ρ' H' E k r:=by
 cases r with
 | ok d h=>exact λρ2 H2 l2=>p ρ2 H2 (l.trans l2)
 | exc c h=>exact λρ2 H2 C l2=>p ρ2 H2 C (l.trans l2)
 | stuck=>exact p
theorem PostG.imp {α:Type}{E:XK}{k k':α->AH->List Addr->Hp->Prop}{r:R α} (p:PostG K mg ρ H E k r) (i:∀ a h1 ρ' H',Le ρ H ρ' H'->Wd K mg ρ' h1 H'->k a h1 ρ' H'->k' a h1 ρ' H'):PostG K mg ρ H E k' r:=by
 cases r with
 | ok d h=>exact λρ2 H2 l2 w2=>i _ _ _ _ l2 w2 (p ρ2 H2 l2 w2)
 | exc c h=>exact p
 | stuck=>exact p
theorem PostG.bind {α β:Type}{E:XK}{k:β->AH->List Addr->Hp->Prop}{r:R α}{f:α->AH->R β} (p:PostG K mg ρ H E k (r.bind f)):PostG K mg ρ H E (λa h1 ρ' H'=>PostG K mg ρ' H' E k (f a h1)) r:=by
 cases r with
 | ok d h=>exact λρ2 H2 l2 w2=>PostG.mono l2 p
 | exc c h=>exact p
 | stuck=>exact p
theorem PostS.mono {De:Ends}{ES:St->XK}{r:SR} (l:Le ρ H ρ' H') (p:PostS K mg ρ H De ES r):PostS K mg ρ' H' De ES r:=by
 cases r with
 | nx ae h=>exact λρ2 H2 σ l2=>p ρ2 H2 σ (l.trans l2)
 | bk ae h=>exact λρ2 H2 σ l2=>p ρ2 H2 σ (l.trans l2)
 | ct ae h=>exact λρ2 H2 σ l2=>p ρ2 H2 σ (l.trans l2)
 | rt d h=>exact λρ2 H2 v l2=>p ρ2 H2 v (l.trans l2)
 | exc c ae h=>exact λρ2 H2 σ C l2=>p ρ2 H2 σ C (l.trans l2)
 | stuck=>exact p
end
end L2
namespace L2
open PySem PySem.Spec PyProof.Rows
section
variable {X:Cx}{e:Expr}{es:List Expr}{st:Stmt}{sts:List Stmt}
theorem PE.imp {t t':TE} (h:PE X e t) (k:∀ σ H Q,t' σ H Q->t σ H Q):PE X e t':=λpins s σ H Q I w=>h pins s σ H Q I (k σ H Q w)
theorem PT.imp {t t':TT} (h:PT X e t) (k:∀ σ H Q,t' σ H Q->t σ H Q):PT X e t':=λpins s σ H Q I w=>h pins s σ H Q I (k σ H Q w)
theorem PW.imp {t t':TT} (h:PW X e t) (k:∀ σ H Q,t' σ H Q->t σ H Q):PW X e t':=λwh pins s σ H Q I w=>h wh pins s σ H Q I (k σ H Q w)
theorem PA.imp {t t':TA} (h:PA X es t) (k:∀ σ H Q,t' σ H Q->t σ H Q):PA X es t':=λpos pins s σ H Q I w=>h pos pins s σ H Q I (k σ H Q w)
theorem PS.imp {t t':TS} (h:PS X st t) (k:∀ D σ H,t' D σ H->t D σ H):PS X st t':=λpins s σ H D I w=>h pins s σ H D I (k D σ H w)
theorem PSs.imp {t t':TS} (h:PSs X sts t) (k:∀ D σ H,t' D σ H->t D σ H):PSs X sts t':=λpins s σ H D I w=>h pins s σ H D I (k D σ H w)
theorem PG.imp {t t':TG} (h:PG X e t) (k:∀ v σ H Q,t' v σ H Q->t v σ H Q):PG X e t':=λpins s σ H v u Q I r w=>h pins s σ H v u Q I r (k v σ H Q w)
theorem PGs.imp {t t':TGs} (h:PGs X es t) (k:∀ v σ H Q,t' v σ H Q->t v σ H Q):PGs X es t':=λpins s σ H v u Q I r w=>h pins s σ H v u Q I r (k v σ H Q w)
theorem PO.imp {o:Option Expr}{t t':TO} (h:PO X o t) (k:∀ σ H Q,t' σ H Q->t σ H Q):PO X o t':=λpins s σ H Q I w=>h pins s σ H Q I (k σ H Q w)
end
section
variable (K:W.Frag) (mg:Str->Option Value) (X:Cx) (ES:St->XK)
def DE (e:Expr) (F:ME):Prop:=PE X e (rdE K mg ES F)
def DT (e:Expr) (F:MT):Prop:=PT X e (rdT K mg ES F)
def DW (e:Expr) (F:MT):Prop:=PW X e (rdT K mg ES F)
def DA (es:List Expr) (F:MA):Prop:=PA X es (rdA K mg ES F)
def DS (st:Stmt) (F:MS):Prop:=PS X st (rdS K mg ES F)
def DSs (st:List Stmt) (F:MS):Prop:=PSs X st (rdS K mg ES F)
end
def OpD (K:W.Frag) (mg:Str->Option Value) (r:R2) (g:D->D->AH->R D):Prop:=∀ ρ h H dx dy x y Q E,Wd K mg ρ h H->RelD K mg ρ H dx x->RelD K mg ρ H dy y->eT K mg ρ H Q E (g dx dy h)->r x y H Q
def UnD (K:W.Frag) (mg:Str->Option Value) (r:V->Hp->VK->Prop) (g:D->AH->R D):Prop:=∀ ρ h H dx x Q E,Wd K mg ρ h H->RelD K mg ρ H dx x->eT K mg ρ H Q E (g dx h)->r x H Q
def cW (K:W.Frag) (mg:Str->Option Value) (r:List V->Hp->VK->Prop) (g:Fn):Prop:=∀ ρ h H ds vs Q E,Wd K mg ρ h H->RelDs K mg ρ H ds vs->eT K mg ρ H Q E (g ds h)->r vs H Q
def dR (i:Nat):ME:=λae h=>match ae[i]? with
 | some (some d)=>.ok d h
 | _=>.stuck
def eC (d:D):ME:=λ_ h=>.ok d h
def eOp (g:D->D->AH->R D) (F G:ME):ME:=λae h=>(F ae h).bind λx h1=>(G ae h1).bind λy h2=>g x y h2
def eUn (g:D->AH->R D) (F:ME):ME:=λae h=>(F ae h).bind g
def qE:MA:=λ_ h=>.ok [] h
def tw (F:ME) (G:MA):MA:=λae h=>(F ae h).bind λx h1=>(G ae h1).bind λxs h2=>.ok (x :: xs) h2
def eFn (g:Fn) (A:MA):ME:=λae h=>(A ae h).bind g
def pE (ds:List D) (h:AH):R D:=if ds.length<=16777216 then .ok (.tup ds) h else .stuck
def eV (ds:List D) (h:AH):R D:=if ds.length<=16777216 then .ok (.ref h.length) (h++[.lst ds]) else .stuck
def asB (d:D) (h:AH):R Bool:=match d with
 | .bl b=>.ok b h
 | _=>.stuck
def C8 (F G:ME):ME:=λae h=>(F ae h).bind λx h1=>(asB x h1).bind λb h2=>if b=true then G ae h2 else .ok (.bl false) h2
def eOr (F G:ME):ME:=λae h=>(F ae h).bind λx h1=>(asB x h1).bind λb h2=>if b=true then .ok (.bl true) h2 else G ae h2
def CT (F:ME):ME:=λae h=>(F ae h).bind λx h1=>(asB x h1).bind λb h2=>.ok (.bl (!b)) h2
def tOf (F:ME):MT:=λae h=>(F ae h).bind asB
def tAn (c d:MT):MT:=λae h=>(c ae h).bind λb h1=>if b=true then d ae h1 else .ok false h1
def tO (c d:MT):MT:=λae h=>(c ae h).bind λb h1=>if b=true then .ok true h1 else d ae h1
def tNo (c:MT):MT:=λae h=>(c ae h).bind λb h1=>.ok (!b) h1
section
variable {K:W.Frag}{mg:Str->Option Value}{ρ:List Addr}{H:Hp}{h:AH}
theorem f9 {Q:VK}{E:XK}{ds:List D}{vs:List V}{p:Addr} (w:Wd K mg ρ h H) (rs:RelDs K mg ρ H ds vs) (hp:H p=none) (q:eT K mg ρ H Q E (.ok (.ref h.length) (h++[.lst ds]))):Q (.ref p) (upd H p (.lst vs)):=by
 have l:Le ρ H (ρ++[p]) (upd H p (.lst vs)):=(ff hp).trans rG
 refine q (ρ++[p]) _ l (w.alloc hp ⟨vs,dB,rs.mono l⟩) _ (.ref ?_)
 rw[<- w.len,List.getElem?_append_right (Nat.le_refl _),Nat.sub_self]
 rfl
theorem oO {Q:VK}{E:XK}{ds:List D}{vs:List V}{p:Addr} (w:Wd K mg ρ h H) (rs:RelDs K mg ρ H ds vs) (hp:H p=none) (q:eT K mg ρ H Q E (.ok (.tup ds) h)):Q (.ref p) (upd H p (.tup vs)):=
 q ρ _ (ff hp) (w.tuple hp) _ (.tup (SqT.of dB) (rs.mono (ff hp)))
theorem aP {Q:VK}{E:XK}{d:D}{v:V} (w:Wd K mg ρ h H) (r:RelD K mg ρ H d v) (q:eT K mg ρ H Q E (.ok d h)):Q v H:=q ρ H Le.refl w v r
end
section
variable {K:W.Frag}{mg:Str->Option Value}{X:Cx}{ES:St->XK}{e a b c:Expr}{es:List Expr}{F G:ME}{A:MA}{cf cg:MT}{pos:Pos}
theorem Gw (i:Nat) {x:Str} (hN:X.N[i]?=some x:=by rfl) (hv:Vis X.env.scope x:=by first | exact Or.inl rfl | exact Or.inr (Or.inl rfl) | exact Or.inr (Or.inr rfl)) (hd:(x == ("__debug__" : Str))=false:=by decide)
 (hcd:(x == ("__classdict__" : Str))=false:=by decide):DE K mg X ES (.Name x pos) (dR i):=PE.imp (Hf hN hv hd hcd) λσ H Q q_=>q_.el λρ h ae w re p=>by
 unfold dR at p
 split at p
 ·rename_i d ed
  obtain⟨v,e1,r⟩:=re.at_ i d ed
  exact⟨v,e1,aP w r p⟩
 ·exact p.elim
theorem ou {v:V}{d:D} (hp:PE X e (tC v)) (r:∀ ρ H,RelD K mg ρ H d v):DE K mg X ES e (eC d):=PE.imp hp λσ H Q q_=>q_.el λρ h ae w re p=>aP w (r ρ H) p
theorem Ie {i:Int}{j:Nat}:DE K mg X ES (.Constant (.int i) j pos) (eC (.int i)):=ou HL λ_ _=>.int i
theorem MB {i:Bool}{j:Nat}:DE K mg X ES (.Constant (.bool i) j pos) (eC (.bl i)):=ou Lk λ_ _=>.bl i
theorem J9 {j:Nat}:DE K mg X ES (.Constant .none j pos) (eC .non):=ou HK λ_ _=>.non
theorem IG {x:Str}{j:Nat}:DE K mg X ES (.Constant (.str x) j pos) (eC (.str x)):=ou Bk λ_ _=>.str x
theorem Gq {x:Str} (hg:Gl X x) (ha:∃ a,mg x=some (.ref a)) (hm:X.mg=mg:=by rfl) (hd:(x == ("__debug__" : Str))=false:=by decide):DE K mg X ES (.Name x pos) (eC (.glb x)):=by
 subst hm
 obtain⟨a,ha⟩:=ha
 exact ou (xy hg ha (v:=.ref a) rfl hd) λ_ _=>.glb ha
structure GC (K:W.Frag) (mg:Str->Option Value) (x:Str) (d:D):Prop where
 ex:∃ u v,mg x=some u/\RelV v u/\∀ ρ H,RelD K mg ρ H d v
theorem MM {x:Str}{d:D} (hg:Gl X x) (ha:GC K mg x d) (hm:X.mg=mg:=by rfl) (hd:(x == ("__debug__" : Str))=false:=by decide):DE K mg X ES (.Name x pos) (eC d):=by
 subst hm
 obtain⟨u,v,h1,h2,h3⟩:=ha.ex
 exact ou (xy hg h1 h2 hd) h3
theorem LX {x:Str}{n:String} (hg:Gl X x) (hm:mg x=none) (hv:bootBuiltins x=some (.type n)) (he:X.mg=mg:=by rfl) (hn:x ≠ "__name__" := by decide) (hd:(x == ("__debug__" : Str))=false:=by decide):DE K mg X ES (.Name x pos) (eC (.ty n)):=by
 subst he
 exact ou (EG hg hm hv (v:=.ty n) rfl hn hd) λ_ _=>.ty n
theorem tM {r:R2}{g:D->D->AH->R D} (hd:OpD K mg r g) (σ:St) (H:Hp) (Q:VK) (q:rdE K mg ES (eOp g F G) σ H Q):tOp r (rdE K mg ES F) (rdE K mg ES G) σ H Q:=by
 obtain⟨ρ,h,ae,w,re,p⟩:=q
 exact⟨ρ,h,ae,w,re,p.bind.imp λdx h1 ρ1 H1 l1 w1 p1 x rx=>⟨ρ1,h1,ae,w1,re.mono l1,p1.bind.imp λdy h2 ρ2 H2 l2 w2 p2 y ry=>hd ρ2 h2 H2 dx dy x y Q _ w2 (rx.mono l2) ry p2⟩⟩
theorem Mh {op:Operator}{r:R2}{g:D->D->AH->R D} (ho:OpR X (binaryOp op) r) (hd:OpD K mg r g) (ha:DE K mg X ES a F) (hb:DE K mg X ES b G):DE K mg X ES (.BinOp a op b pos) (eOp g F G):=PE.imp (MF ho ha hb) (tM hd)
theorem Ks {r:R2}{g:D->D->AH->R D} (hr:IxR X r) (hd:OpD K mg r g) (ha:DE K mg X ES a F) (hb:DE K mg X ES b G) (hs:qH b):DE K mg X ES (.Subscript a b pos) (eOp g F G):=PE.imp (KN hr ha hb hs) (tM hd)
theorem GA {op:CmpOp}{r:R2}{g:D->D->AH->R D} (ho:OpR X (compareOp op) r) (hd:OpD K mg r g) (ha:DE K mg X ES a F) (hb:DE K mg X ES b G) (hm:behindInMarks op b=false):DE K mg X ES (.Compare a [op] [b] pos) (eOp g F G):=PE.imp (Fb ho ha hb hm) (tM hd)
theorem xR (σ:St) (H:Hp) (Q:Bool->Hp->Prop) (q:rdT K mg ES (tOf F) σ H Q):rdE K mg ES F σ H λx H'=>∃ k,x=.bl k/\Q k H':=by
 obtain⟨ρ,h,ae,w,re,p⟩:=q
 refine⟨ρ,h,ae,w,re,p.bind.imp λd h1 ρ1 H1 l1 w1 p1 x rx=>?_⟩
 unfold asB at p1
 split at p1
 ·cases rx;exact⟨_,rfl,p1 ρ1 H1 Le.refl w1⟩
 ·exact p1.elim
theorem Ih {op:CmpOp}{r:R2}{g:D->D->AH->R D} (ho:OpR X (compareOp op) r) (hd:OpD K mg r g) (ha:DE K mg X ES a F) (hb:DE K mg X ES b G) (hm:behindInMarks op b=false):DT K mg X ES (.Compare a [op] [b] pos) (tOf (eOp g F G)):=
 PT.imp (Fj ho ha hb hm) λσ H Q q=>tM hd σ H _ (xR σ H Q q)
theorem Jj (ha:DE K mg X ES a F) (he:∀ tz,isTrue a X.env tz=(do let v <- tz;standAt a.pos;holding [v] (truthy v)):=by intro _;rfl):DT K mg X ES a (tOf F):=
 PT.imp (GQ ha he) λσ H Q q=>xR σ H Q q
theorem JC (ha:DT K mg X ES a cf):DT K mg X ES (.UnaryOp .Not a pos) (tNo cf):=PT.imp (Hj ha) λσ H Q q_=>q_.el λρ h ae w re p=>
 ⟨ρ,h,ae,w,re,p.bind.imp λb h1 ρ1 H1 l1 w1 p1=>p1 ρ1 H1 Le.refl w1⟩
theorem F9 (ha:DT K mg X ES a cf):DW K mg X ES (.BoolOp .And [a] pos) cf:=Fl ha
theorem GW (ha:DT K mg X ES a cf):DW K mg X ES (.BoolOp .Or [a] pos) cf:=Gx ha
theorem Im (ha:DT K mg X ES a cf) (hb:DW K mg X ES (.BoolOp .And (b :: es) pos) cg):DW K mg X ES (.BoolOp .And (a :: b :: es) pos) (tAn cf cg):=PW.imp (HS ha hb) λσ H Q q_=>q_.el λρ h ae w re p=>
 ⟨ρ,h,ae,w,re,p.bind.imp λb h1 ρ1 H1 l1 w1 p1=>by
  cases b with
  | true=>exact⟨ρ1,h1,ae,w1,re.mono l1,p1⟩
  | false=>exact p1 ρ1 H1 Le.refl w1⟩
theorem LY (ha:DT K mg X ES a cf) (hb:DW K mg X ES (.BoolOp .Or (b :: es) pos) cg):DW K mg X ES (.BoolOp .Or (a :: b :: es) pos) (tO cf cg):=PW.imp (K1 ha hb) λσ H Q q_=>q_.el λρ h ae w re p=>
 ⟨ρ,h,ae,w,re,p.bind.imp λb h1 ρ1 H1 l1 w1 p1=>by
  cases b with
  | true=>exact p1 ρ1 H1 Le.refl w1
  | false=>exact⟨ρ1,h1,ae,w1,re.mono l1,p1⟩⟩
theorem DW.dt (h:DW K mg X ES a cf):DT K mg X ES a cf:=PW.pt h
theorem HX {op} (h:DE K mg X ES a F):DE K mg X ES (.BoolOp op [a] pos) F:=HA h
theorem Hi (ha:DE K mg X ES a F) (hb:DE K mg X ES (.BoolOp .And (b :: es) pos) G):DE K mg X ES (.BoolOp .And (a :: b :: es) pos) (C8 F G):=PE.imp (Ic ha hb) λσ H Q q_=>q_.el λρ h ae w re p=>by
 refine⟨ρ,h,ae,w,re,p.bind.imp λd h1 ρ1 H1 l1 w1 p1 x rx=>?_⟩
 unfold asB at p1
 split at p1
 ·rename_i b'
  cases rx
  refine⟨b',rfl,?_⟩
  cases b' with
  | true=>exact⟨ρ1,h1,ae,w1,re.mono l1,p1⟩
  | false=>exact p1 ρ1 H1 Le.refl w1 _ (.bl false)
 ·exact p1.elim
theorem My (ha:DE K mg X ES a F) (hb:DE K mg X ES (.BoolOp .Or (b :: es) pos) G):DE K mg X ES (.BoolOp .Or (a :: b :: es) pos) (eOr F G):=PE.imp (Mz ha hb) λσ H Q q_=>q_.el λρ h ae w re p=>by
 refine⟨ρ,h,ae,w,re,p.bind.imp λd h1 ρ1 H1 l1 w1 p1 x rx=>?_⟩
 unfold asB at p1
 split at p1
 ·rename_i b'
  cases rx
  refine⟨b',rfl,?_⟩
  cases b' with
  | true=>exact p1 ρ1 H1 Le.refl w1 _ (.bl true)
  | false=>exact⟨ρ1,h1,ae,w1,re.mono l1,p1⟩
 ·exact p1.elim
theorem HG (ha:DE K mg X ES a F):DE K mg X ES (.UnaryOp .Not a pos) (CT F):=PE.imp (G4 ha) λσ H Q q_=>q_.el λρ h ae w re p=>by
 refine⟨ρ,h,ae,w,re,p.bind.imp λd h1 ρ1 H1 l1 w1 p1 x rx=>?_⟩
 unfold asB at p1
 split at p1
 ·cases rx
  exact⟨_,rfl,p1 ρ1 H1 Le.refl w1 _ (.bl _)⟩
 ·exact p1.elim
theorem Km {op:UnaryOp}{r:V->Hp->VK->Prop}{g:D->AH->R D} (ho:UnR X (unaryOp op) r) (hd:UnD K mg r g) (ha:DE K mg X ES a F):DE K mg X ES (.UnaryOp op a pos) (eUn g F):=PE.imp (Lw ho ha) λσ H Q q_=>q_.el λρ h ae w re p=>
 ⟨ρ,h,ae,w,re,p.bind.imp λd h1 ρ1 H1 l1 w1 p1 x rx=>hd ρ1 h1 H1 d x Q _ w1 rx p1⟩
theorem HH:DA K mg X ES [] qE:=PA.imp HM λσ H Q q_=>q_.el λρ h ae w re p=>p ρ H Le.refl w _ .nil
theorem Fz (ha:DE K mg X ES e F) (hr:DA K mg X ES es A) (hs:starEach (e :: es) X.env=(false,eval e X.env) :: starEach es X.env:=by rfl):DA K mg X ES (e :: es) (tw F A):=PA.imp (Ey ha hr hs) λσ H Q q_=>q_.el λρ h ae w re p=>
 ⟨ρ,h,ae,w,re,p.bind.imp λd h1 ρ1 H1 l1 w1 p1 x rx=>⟨ρ1,h1,ae,w1,re.mono l1,p1.bind.imp λds h2 ρ2 H2 l2 w2 p2 vs rs=>p2 ρ2 H2 Le.refl w2 _ (.cons (rx.mono l2) rs)⟩⟩
theorem IT {x1} (h:DA K mg X ES es A):DE K mg X ES (.Tuple es x1 pos) (eFn pE A):=PE.imp (G8 h) λσ H Q q_=>q_.el λρ h ae w re p=>
 ⟨ρ,
  h,ae,w,re,p.bind.imp λds h1 ρ1 H1 l1 w1 p1 vs rs=>by
  unfold pE at p1
  split at p1
  ·rename_i hl
   exact⟨by rw[<- rs.len];exact hl,λq hq=>oO w1 rs hq p1⟩
  ·exact p1.elim⟩
theorem Iz (h:DA K mg X ES es A):DE K mg X ES (.List es pos) (eFn eV A):=PE.imp (HV h) λσ H Q q_=>q_.el λρ h ae w re p=>
 ⟨ρ,
  h,ae,w,re,p.bind.imp λds h1 ρ1 H1 l1 w1 p1 vs rs=>by
  unfold eV at p1
  split at p1
  ·rename_i hl
   exact⟨by rw[<- rs.len];exact hl,λq hq=>f9 w1 rs hq p1⟩
  ·exact p1.elim⟩
theorem yB {r:List V->Hp->VK->Prop}{g:Fn} (hd:cW K mg r g) (σ:St) (H:Hp) (Q:VK) (q:rdE K mg ES (eFn g A) σ H Q):tCB r (rdA K mg ES A) σ H Q:=by
 obtain⟨ρ,h,ae,w,re,p⟩:=q
 exact⟨ρ,h,ae,w,re,p.bind.imp λds h1 ρ1 H1 l1 w1 p1 vs rs=>hd ρ1 h1 H1 ds vs Q _ w1 rs p1⟩
theorem Cv {id:String}{r:List V->Hp->VK->Prop}{g:Fn}{x:Str}{p:Pos} (hc:CallR X (.builtin id) r) (hd:cW K mg r g) (hg:Gl X x) (hm:mg x=none) (hv:bootBuiltins x=some (.builtin id)) (ha:DA K mg X ES (e :: es) A) (hk:X.mg=mg:=by rfl) (hn:x ≠ "__name__" := by decide) (hdb:(x == ("__debug__" : Str))=false:=by decide)
 (he:starEach (e :: es) X.env=(false,eval e X.env) :: starEach es X.env:=by rfl) (hpl:(backTo pos (starEach es X.env)).any (·.1)=false:=by rfl):DE K mg X ES (.Call (.Name x p) (e :: es) [] pos) (eFn g A):=by
 subst hk
 exact PE.imp (Co hc hg hm hv ha hn hdb he hpl) (yB hd)
theorem A8 {T:String}{r:List V->Hp->VK->Prop}{g:Fn}{x:Str}{p:Pos} (hc:CallR X (.type T) r) (hd:cW K mg r g) (hg:Gl X x) (hm:mg x=none) (hv:bootBuiltins x=some (.type T)) (ha:DA K mg X ES (e :: es) A) (hk:X.mg=mg:=by rfl) (hn:x ≠ "__name__" := by decide) (hdb:(x == ("__debug__" : Str))=false:=by decide)
 (he:starEach (e :: es) X.env=(false,eval e X.env) :: starEach es X.env:=by rfl) (hpl:(backTo pos (starEach es X.env)).any (·.1)=false:=by rfl):DE K mg X ES (.Call (.Name x p) (e :: es) [] pos) (eFn g A):=by
 subst hk
 exact PE.imp (zM hc hg hm hv ha hn hdb he hpl) (yB hd)
end
end L2
namespace L2
open PySem PySem.Spec PyProof.Rows
def SR.then (r:SR) (f:AE->AH->SR):SR:=match r with
 | .nx ae h=>f ae h
 | .rt d h=>.rt d h
 | .bk ae h=>.bk ae h
 | .ct ae h=>.ct ae h
 | .exc c ae h=>.exc c ae h
 | .stuck=>.stuck
def R.toS {α:Type} (r:R α) (ae:AE) (f:α->AH->SR):SR:=match r with
 | .ok a h=>f a h
 | .exc c h=>.exc c ae h
 | .stuck=>.stuck
def sNx:MS:=λae h=>.nx ae h
def sCt:MS:=λae h=>.ct ae h
def Ca (F G:MS):MS:=λae h=>(F ae h).then G
def Df (F:ME):MS:=λae h=>(F ae h).toS ae λd h1=>.rt d h1
def zw (F:ME):MS:=λae h=>(F ae h).toS ae λ_ h1=>.nx ae h1
def sIf (c:MT) (F G:MS):MS:=λae h=>(c ae h).toS ae λb h1=>if b=true then F ae h1 else G ae h1
abbrev MG:=D->AE->AH->R AE
abbrev MGs:=List D->AE->AH->R AE
def jH (F:ME) (g:MG):MS:=λae h=>(F ae h).toS ae λd h1=>(g d ae h1).toS ae λb_ h2=>.nx b_ h2
def gN (i:Nat):MG:=λd ae h=>.ok (ae.set i (some d)) h
def gsN:MGs:=λds ae h=>match ds with
 | []=>.ok ae h
 | _=>.stuck
def gsC (g:MG) (u:MGs):MGs:=λds ae h=>match ds with
 | d :: r=>(g d ae h).bind λb_ h'=>u r b_ h'
 | []=>.stuck
def gT (u:MGs):MG:=λd ae h=>match d with
 | .tup ds=>u ds ae h
 | _=>.stuck
def gS (F G:ME) (w:D->D->D->AH->R Unit):MG:=λv ae h=>(F ae h).bind λo h1=>(G ae h1).bind λi h2=>(w o i v h2).bind λ_ h3=>.ok ae h3
def B5 (i j:Nat) (A:MA):MS:=λae h=>(A ae h).toS ae λds h1=>match ds with
 | [d,e]=>.nx ((ae.set i (some d)).set j (some e)) h1
 | _=>.stuck
def tP (i:Nat) (g:D->D->AH->R D) (F:ME):MS:=λae h=>match ae[i]? with
 | some (some x)=>(F ae h).toS ae λy h1=>(g x y h1).toS ae λz h2=>.nx (ae.set i (some z)) h2
 | _=>.stuck
def ur (c:Str) (A:MA):MS:=λae h=>(A ae h).toS ae λds h1=>if ds.length<=16777216 then .exc c ae h1 else .stuck
section
variable (K:W.Frag) (mg:Str->Option Value)
def rdG (ES:St->XK) (g:MG):TG:=λv σ H Q=>∃ ρ h ae d,Wd K mg ρ h H/\RelE K mg ρ H ae σ/\RelD K mg ρ H d v/\PostG K mg ρ H (ES σ) (λb_ _ ρ' H'=>∀ σ',RelE K mg ρ' H' b_ σ'->Q σ' H') (g d ae h)
def rdGs (ES:St->XK) (g:MGs):TGs:=λvs σ H Q=>∃ ρ h ae ds,Wd K mg ρ h H/\RelE K mg ρ H ae σ/\RelDs K mg ρ H ds vs/\PostG K mg ρ H (ES σ) (λb_ _ ρ' H'=>∀ σ',RelE K mg ρ' H' b_ σ'->Q σ' H') (g ds ae h)
def DG (X:Cx) (ES:St->XK) (e:Expr) (g:MG):Prop:=PG X e (rdG K mg ES g)
def DGs (X:Cx) (ES:St->XK) (es:List Expr) (g:MGs):Prop:=PGs X es (rdGs K mg ES g)
def pk (X:Cx) (ES:St->XK):Prop:=∀ (pins:List (Addr×Obj)) (σ:St) (H:Hp) (s:Shared) (e:Value) (s':Shared),Inv X pins σ H s->CX1 X.prog X.w X.stack H s (ES σ) e s'->X.xe e s'
end
theorem rdG.el {K:W.Frag}{mg:Str->Option Value}{ES:St->XK}{g:MG}{v:V}{σ:St}{H:Hp}{Q:St->Hp->Prop}{C:Prop} (q:rdG K mg ES g v σ H Q) (k:∀ ρ h ae d,Wd K mg ρ h H->RelE K mg ρ H ae σ->RelD K mg ρ H d v->PostG K mg ρ H (ES σ) (λb_ _ ρ' H'=>∀ σ',RelE K mg ρ' H' b_ σ'->Q σ' H') (g d ae h)->C):C:=by
 obtain⟨ρ,h,ae,d,w,re,rd,p⟩:=q
 exact k ρ h ae d w re rd p
theorem rdGs.el {K:W.Frag}{mg:Str->Option Value}{ES:St->XK}{g:MGs}{v:List V}{σ:St}{H:Hp}{Q:St->Hp->Prop}{C:Prop} (q:rdGs K mg ES g v σ H Q) (k:∀ ρ h ae d,Wd K mg ρ h H->RelE K mg ρ H ae σ->RelDs K mg ρ H d v->PostG K mg ρ H (ES σ) (λb_ _ ρ' H'=>∀ σ',RelE K mg ρ' H' b_ σ'->Q σ' H') (g d ae h)->C):C:=by
 obtain⟨ρ,h,ae,d,w,re,rd,p⟩:=q
 exact k ρ h ae d w re rd p
section
variable {K:W.Frag}{mg:Str->Option Value}{X:Cx}{ES:St->XK}{ρ:List Addr}{H:Hp}{h:AH}{ae:AE}{σ:St}{De:Ends}
theorem cU {α:Type}{r:R α}{f:α->AH->SR}{k:α->AH->List Addr->Hp->Prop} (p:PostS K mg ρ H De ES (r.toS ae f)) (re:RelE K mg ρ H ae σ)
 (i:∀ a h1 ρ1 H1,Le ρ H ρ1 H1->Wd K mg ρ1 h1 H1->RelE K mg ρ1 H1 ae σ->PostS K mg ρ1 H1 De ES (f a h1)->k a h1 ρ1 H1):PostG K mg ρ H (ES σ) k r:=by
 cases r with
 | ok a h1=>exact λρ1 H1 l1 w1=>i a h1 ρ1 H1 l1 w1 (re.mono l1) (PostS.mono l1 p)
 | exc c h1=>exact λρ1 H1 C l1 w1 m=>p ρ1 H1 σ C l1 w1 (re.mono l1) m
 | stuck=>exact p
theorem jh {b_:AE} (p:PostS K mg ρ H De ES (.nx b_ h)) (w:Wd K mg ρ h H) (re:RelE K mg ρ H b_ σ):De.nx σ H:=p ρ H σ Le.refl w re
theorem Cb {r:SR}{f:AE->AH->SR}{N:St->Hp->Prop} (p:PostS K mg ρ H De ES (r.then f)) (i:∀ k_ h1 ρ1 H1 σ1,Le ρ H ρ1 H1->Wd K mg ρ1 h1 H1->RelE K mg ρ1 H1 k_ σ1->PostS K mg ρ1 H1 De ES (f k_ h1)->N σ1 H1):PostS K mg ρ H { De with nx:=N } ES r:=by
 cases r with
 | nx k_ h1=>exact λρ1 H1 σ1 l1 w1 re1=>i k_ h1 ρ1 H1 σ1 l1 w1 re1 (PostS.mono l1 p)
 | rt d h1=>exact p
 | bk k_ h1=>exact p
 | ct k_ h1=>exact p
 | exc c k_ h1=>exact p
 | stuck=>exact p
end
section
variable {K:W.Frag}{mg:Str->Option Value}{X:Cx}{ES:St->XK}{e a b c o i:Expr}{es:List Expr}{st:Stmt}{sts sts':List Stmt}{F G:ME}{A:MA}{cf:MT}{U V':MS}{g:MG}{gs:MGs}{pos:Pos}
theorem EB:DSs K mg X ES [] sNx:=PSs.imp Es λD σ H q_=>q_.el λρ h ae w re p=>jh p w re
theorem ET (h1:DS K mg X ES st U):DSs K mg X ES [st] U:=Ep h1
theorem Dh (h1:DS K mg X ES st U) (h2:DSs K mg X ES sts V'):DSs K mg X ES (st :: sts) (Ca U V'):=PSs.imp (Bt h1 h2) λD σ H q_=>q_.el λρ h ae w re p=>
 ⟨ρ,h,ae,w,re,Cb p λk_ h1 ρ1 H1 σ1 l1 w1 re1 p1=>⟨ρ1,h1,k_,w1,re1,p1⟩⟩
theorem wR:DS K mg X ES (.Continue pos) sCt:=PS.imp we λD σ H q_=>q_.el λρ h ae w re p=>p ρ H σ Le.refl w re
theorem Hx (he:DE K mg X ES e F):DS K mg X ES (.Return (some e) pos) (Df F):=PS.imp (JE he) λD σ H q_=>q_.el λρ h ae w re p=>
 ⟨ρ,h,ae,w,re,cU p re λd h1 ρ1 H1 l1 w1 re1 p1 v rv=>p1 ρ1 H1 v Le.refl w1 rv⟩
theorem EI (he:DE K mg X ES e F) (hs:swapsWith e none pos.line X.env=pure false:=by rfl):DS K mg X ES (.Expr e pos) (zw F):=PS.imp (FL he hs) λD σ H q_=>q_.el λρ h ae w re p=>
 ⟨ρ,h,ae,w,re,cU p re λd h1 ρ1 H1 l1 w1 re1 p1 v rv=>jh p1 w1 re1⟩
theorem K0 (hc:DT K mg X ES c cf) (ha:DSs K mg X ES sts U) (hb:DSs K mg X ES sts' V'):DS K mg X ES (.If c sts sts' pos) (sIf cf U V'):=PS.imp (LK hc ha hb) λD σ H q_=>q_.el λρ h ae w re p=>
 ⟨ρ,h,ae,w,re,cU p re λb h1 ρ1 H1 l1 w1 re1 p1=>by
  cases b with
  | true=>exact⟨ρ1,h1,ae,w1,re1,p1⟩
  | false=>exact⟨ρ1,h1,ae,w1,re1,p1⟩⟩
theorem EF {i:Nat}{x:Str} (hN:X.N.Nodup) (hi:X.N[i]?=some x) (hx:Loc X.env.scope x) (hf:X.fn x=true\/X.env.scope.names.lookup x=some .local:=by first | exact .inl rfl | exact .inr rfl | assumption):DG K mg X ES (.Name x pos) (gN i):=
 PG.imp (Fe hN hi hx hf) λv σ H Q q_=>q_.el λρ h ae d w re rd p=>p ρ H Le.refl w _ (re.set i rd)
theorem Fs:DGs K mg X ES [] gsN:=PGs.imp FP λvs σ H Q q_=>q_.el λρ h ae ds w re rd p=>by
 cases rd with
 | nil=>exact⟨rfl,p ρ H Le.refl w _ re⟩
 | cons r rr=>exact p.elim
theorem CS (h1:DG K mg X (λ_=>E0) e g) (h2:DGs K mg X (λ_=>E0) es gs)
 (hs:(assignEach (e :: es) X.env).map (·.2)=assign e X.env :: (assignEach es X.env).map (·.2):=by rfl):DGs K mg X (λ_=>E0) (e :: es) (gsC g gs):=PGs.imp (BJ h1 h2 hs) λvs σ H Q q_=>q_.el λρ h ae ds w re rd p=>by
 cases rd with
 | nil=>exact p.elim
 | cons r rr=>exact⟨_,_,rfl,ρ,h,ae,_,w,re,r,p.bind.imp λk_ h1 ρ1 H1 l1 w1 p1 σ1 re1=>⟨ρ1,h1,k_,_,w1,re1,rr.mono l1,p1⟩⟩
theorem GO {k n:Nat} (hK:X.K=K) (hc:X.calm=true) (h:DGs K mg X (λ_=>E0) es gs)
 (hn:(assignEach es X.env).length=n:=by rfl) (hst:(assignEach es X.env).findIdx? (·.1)=none:=by rfl):DG K mg X (λ_=>E0) (.Tuple es k pos) (gT λds ae h=>if ds.length=n then gs ds ae h else .stuck):=by
 subst hK
 refine PG.imp (zN hc h hn hst) λv σ H Q q_=>q_.el λρ h ae d w re rd p=>?_
 unfold gT at p
 cases rd with
 |
  tup q rs=>
  dsimp only at p
  split at p
  ·rename_i hl
   exact⟨_,_,rfl,q,by rw[<- rs.len];exact hl,ρ,h,ae,_,w,re,rs,p⟩
  ·exact p.elim
 | _=>exact p.elim
def noX {α:Type} (r:R α):R α:=match r with
 | .exc _ _=>.stuck
 | .ok a h=>.ok a h
 | .stuck=>.stuck
theorem DG.weak (hg:DG K mg X (λ_=>E0) e g):DG K mg X ES e (λd ae h=>noX (g d ae h)):=PG.imp hg λv σ H Q q_=>q_.el λρ h ae d w re rd p=>by
 refine⟨ρ,h,ae,d,w,re,rd,?_⟩
 try dsimp only at p
 cases q:g d ae h with
 | ok a h1=>rw[q] at p;exact p
 | exc c h1=>rw[q] at p;exact p.elim
 | stuck=>rw[q] at p;exact p.elim
def BX (K:W.Frag) (mg:Str->Option Value) (r:oT) (f:D->D->D->AH->R Unit):Prop:=∀ ρ h H do_ di dv o i v (Q:Hp->Prop) E,Wd K mg ρ h H->RelD K mg ρ H do_ o->RelD K mg ρ H di i->RelD K mg ρ H dv v->PostG K mg ρ H E (λ_ _ _ H'=>Q H') (f do_ di dv h)->r o i v H Q
theorem zI (he:DE K mg X ES e F) (hg:DG K mg X ES a g) (hs:swapsWithSole [a] e pos.line X.env=pure false:=by rfl) (hw:swappedStores [a] e X.env=pure none:=by rfl)
 (h1:(assignEach [a] X.env).map (·.2)=[assign a X.env]:=by rfl):DS K mg X ES (.Assign [a] e pos) (jH F g):=PS.imp (GF he hg hs hw h1) λD σ H q_=>q_.el λρ h ae w re p=>
 ⟨ρ,h,ae,w,re,cU p re λd h1 ρ1 H1 l1 w1 re1 p1 v rv=>⟨ρ1,h1,ae,d,w1,re1,rv,cU p1 re1 λae2 h2 ρ2 H2 l2 w2 re2 p2 σ' re'=>jh p2 w2 re'⟩⟩
theorem Il {i:Nat}{x:Str}{s_:Pos} (hN:X.N.Nodup) (hi:X.N[i]?=some x) (hx:Loc X.env.scope x) (he:DE K mg X ES e F) (hs:swapsWith e (some (.Name x s_)) pos.line X.env=pure false:=by rfl) (hf:X.fn x=true\/X.env.scope.names.lookup x=some .local:=by first | exact .inl rfl | exact .inr rfl | assumption):
 DS K mg X ES (.Assign [.Name x s_] e pos) (jH F (gN i)):=PS.imp (IX hN hi hx he hs hf) λD σ H q_=>q_.el λρ h ae w re p=>
 ⟨ρ,h,ae,w,re,cU p re λd h1 ρ1 H1 l1 w1 re1 p1 v rv=>jh p1 w1 (re1.set i rv)⟩
theorem Iv {i j:Nat}{x y:Str}{px py pt:Pos}{kt k2 pt2} (hc:X.calm=true) (hN:X.N.Nodup) (hi:X.N[i]?=some x) (hj:X.N[j]?=some y) (hij:i ≠ j)
 (hx:X.env.scope.names.lookup x=some .local) (hy:X.env.scope.names.lookup y=some .local) (ha:DA K mg X ES [a,b] A)
 (hw:swappedStores [.Tuple [.Name x px,.Name y py] kt pt] (.Tuple [a,b] k2 pt2) X.env=pure (some [x,y]))
 (hs:swapsWithSole [.Tuple [.Name x px,.Name y py] kt pt] (.Tuple [a,b] k2 pt2) pos.line X.env=pure false:=by rfl):
 DS K mg X ES (.Assign [.Tuple [.Name x px,.Name y py] kt pt] (.Tuple [a,b] k2 pt2) pos) (B5 i j A):=PS.imp (Hb hc hN hi hj hij hx hy ha hw hs) λD σ H q_=>q_.el λρ h ae w re p=>
 ⟨ρ,h,ae,w,re,cU p re λds h1 ρ1 H1 l1 w1 re1 p1 vs rs=>by
  split at p1
  ·cases rs with
   |
    cons r1 rs=>
    cases rs with
    |
     cons r2 rs=>
     cases rs
     exact⟨_,_,rfl,jh p1 w1 ((re1.set i r1).set j r2)⟩
  ·exact p1.elim⟩
def IpD (K:W.Frag) (mg:Str->Option Value) (r:TIp) (g:D->D->AH->R D):Prop:=∀ ρ h H dx dy x y Q E,Wd K mg ρ h H->RelD K mg ρ H dx x->RelD K mg ρ H dy y->eT K mg ρ H Q E (g dx dy h)->r x y H Q
theorem JL {i:Nat}{x:Str}{op:Operator}{ti:TIp}{s_:Pos}{gg:D->D->AH->R D} (hN:X.N.Nodup) (hi:X.N[i]?=some x) (hx:Loc X.env.scope x) (he:DE K mg X ES e F) (ho:PIp X op ti) (hd:IpD K mg ti gg) (hf:X.fn x=true\/X.env.scope.names.lookup x=some .local:=by first | exact .inl rfl | exact .inr rfl | assumption):
 DS K mg X ES (.AugAssign (.Name x s_) op e pos) (tP i gg F):=PS.imp (Gv hN hi hx he ho hf) λD σ H q_=>q_.el λρ h ae w re p=>by
 unfold tP at p
 split at p
 ·rename_i d ed
  obtain⟨v,e1,r⟩:=re.at_ i d ed
  exact⟨v,e1,ρ,h,ae,w,re,cU p re λdy h1 ρ1 H1 l1 w1 re1 p1 y ry=>hd ρ1 h1 H1 d dy v y _ _ w1 (r.mono l1) ry (cU p1 re1 λdz h2 ρ2 H2 l2 w2 re2 p2 z rz=>jh p2 w2 (re2.set i rz))⟩
 ·exact p.elim
theorem Cm {x:Str}{C:Addr}{E:XK}{np cpos:Pos} (hc:X.calm=true) (hR:Rz X E) (hg:Gl X x) (hm:mg x=some (.ref C)) (hq:W.excIn X.K C fb "ValueError.__new__" = true) (ha:DA K mg X (λ_=>E) (e :: es) A) (hk:X.mg=mg:=by rfl)
 (he:starEach (e :: es) X.env=(false,eval e X.env) :: starEach es X.env:=by rfl) (kw:(backTo cpos (starEach es X.env)).any (·.1)=false:=by rfl) (hd:(x == ("__debug__" : Str))=false:=by decide):
 DS K mg X (λ_=>E) (.Raise (some (.Call (.Name x np) (e :: es) [] cpos)) none pos) (ur x A):=by
 subst hk
 exact
  PS.imp (Dp hc hR hg hm hq ha he kw hd) λD σ H q_=>q_.el λρ h ae w re p=>
  ⟨ρ,
   h,ae,w,re,cU p re λds h1 ρ1 H1 l1 w1 re1 p1 vs rs=>by
   split at p1
   ·rename_i hl
    exact⟨by rw[<- rs.len];exact hl,p1 ρ1 H1 σ C Le.refl w1 re1 hm⟩
   ·exact p1.elim⟩
theorem FT {x:Str}{p:Pos}{k n:Nat}{ps:List Str}{S:Fn} (C:Callee X.prog X.w X.K X.mg X.base x k ps (spD K mg n S)) (hr:Room k X.A) (hg:Gl X x) (hx:pk X ES) (ha:DA K mg X ES (e :: es) A)
 (hdb:(x == ("__debug__" : Str))=false:=by decide) (he:starEach (e :: es) X.env=(false,eval e X.env) :: starEach es X.env:=by rfl) (hpl:(backTo pos (starEach es X.env)).any (·.1)=false:=by rfl):
 DE K mg X ES (.Call (.Name x p) (e :: es) [] pos) (eFn (λds h=>if ds.length=n then S ds h else .stuck) A):=by
 obtain⟨f,fd,F',m,kp,bb,_⟩:=C.ex
 intro pins s σ H Q I hh
 refine wpAny_Call_Name_kw (qu I hg m ?_ hdb)
 have rd:rdA K mg ES A σ H (λvs H1=>spD K mg n S vs H1 Q (ES σ)):=by
  obtain⟨ρ,h,ae,w,re,p⟩:=hh
  refine⟨ρ,h,ae,w,re,p.bind.imp λds h1 ρ1 H1 l1 w1 p1 vs rs=>?_⟩
  split at p1
  ·rename_i hl
   exact⟨ρ1,h1,ds,w1,rs,hl,p1⟩
  ·exact p1.elim
 refine W.callWith_K (h₀:=X.base) I.ok.mod.kin kp (wpAny_mono (ha pos pins s σ H _ I rd) (λus s1 ⟨vs,H1,I1,r,q⟩=>⟨I1.kIn,?_⟩) λ_ _ z=>z) he hpl
 have hl:(us++[]).length=ps.length:=by rw[List.append_nil,<- r.length];exact F'.len _ _ _ _ q
 refine wpAny_call (codeAny_mono (F'.run X.A X.stack s1 H1 ⟨us,[]⟩ us vs Q (ES σ) hr I1.env0 (by simpa using bb s1 us I1.kIn hl) r q) λr s' hq=>?_)
 cases r with
 | error ex=>exact hx pins σ H1 s1 ex s' I1 hq
 |
  ok fl=>
  cases fl with
  | ret u=>exact I1.after hq
  | next=>exact False.elim hq
  | brk=>exact False.elim hq
  | cont=>exact False.elim hq
def fnD (n:Nat) (F:MS):Fn:=λds h=>match F (ds.map some++List.replicate (n - ds.length) none) h with
 | .nx _ h'=>.ok .non h'
 | .rt d h'=>.ok d h'
 | .exc c _ h'=>.exc c h'
 | _=>.stuck
theorem ak {E:XK} (hp:uv (CX1 X.prog X.w) X E):pk X (λ_=>E):=λpins σ H s e s' I h=>hp pins σ H s e s' I h
theorem fj:pk X (λ_=>E0):=λpins σ H s e s' I h=>K5 pins σ H s e s' I h
end
section
variable {P:Program}{w:World}{K:W.Frag}{mg:Str->Option Value}{base:Heap}{x:Str}{st:Stmt}{k:Nat}{ps N:List Str}{F:MS}
theorem zj {ρ:List Addr}{H:Hp}{ds:List D}{vs:List V} (rs:RelDs K mg ρ H ds vs):RelE K mg ρ H (ds.map some++List.replicate (N.length - ds.length) none) (gJ N vs):=by
 unfold gJ
 refine⟨by rw[List.length_append,List.length_append,List.length_map,List.length_map,List.length_replicate,List.length_replicate,rs.len],λi d e=>?_⟩
 by_cases hi:i < ds.length
 ·rw[List.getElem?_append_left (by rw[List.length_map];exact hi),List.getElem?_map] at e
  have e':ds[i]?=some d:=by
   cases q:ds[i]? with
   | none=>rw[q] at e;cases e
   | some z=>rw[q] at e;cases e;rfl
  obtain⟨v,h1,h2⟩:=rs.getD e'
  refine⟨v,?_,h2⟩
  rw[List.getElem?_append_left (by rw[List.length_map,<- rs.len];exact hi),List.getElem?_map,h1];rfl
 ·rw[List.getElem?_append_right (by rw[List.length_map];omega),List.getElem?_replicate] at e
  split at e <;> cases e
theorem Def.okD (D:Def K mg x st) (S:FnScope N ps (aw st))
 (hb:∀ (kV doc pm:Value) (an:Option Addr) (cdv ct:Value) (us:List Value),us.length=ps.length->bindArgs (W.fnOf x x (eg st) (cA st) (aw st) .none kV doc pm an cdv ct) ⟨us,[]⟩=pure (ps.zip us))
 (pi:∀ (f:Addr) (cdv:Value) (A:Around) (outer:List Env) (s:Shared) (H:Hp) (E:XK),Room k (A.deeper (envOfC x (aw st) s.heap.objs.size f cdv))->
  DSs K mg (fD (CX1 P w) P w K mg base N x (aw st) f cdv A outer s H E) (λ_=>E) (cA st) F):Callee P w K mg base x (k + 1) ps (spD K mg ps.length (fnD N.length F)):=by
 refine D.okR S hb (λvs H Q E ⟨ρ,h,ds,w,rs,hl,p⟩=>by rw[<- rs.len];exact hl) λf cdv A outer s H vs Q E hr ⟨ρ,h,ds,w',rs,hl,p⟩=>?_
 refine⟨_,pi f cdv A outer s H E hr,ρ,h,_,w',zj rs,?_⟩
 unfold fnD at p
 split at p
 ·rename_i e;rw[e];exact λρ1 H1 σ1 l1 w1 re1=>p ρ1 H1 l1 w1 _ .non
 ·rename_i e;rw[e];exact λρ1 H1 v l1 w1 rv=>p ρ1 H1 l1 w1 v rv
 ·rename_i e;rw[e];exact λρ1 H1 σ1 C l1 w1 re1 m=>p ρ1 H1 C l1 w1 m
 ·exact p.elim
end
end L2
namespace L2
open PySem PySem.Spec PyProof.Rows
def bC (h:AH) (n:Nat):Option (List D):=match h[n]? with
 | some (.lst xs)=>some xs
 | some (.fz xs)=>some xs
 | _=>none
def jt (h:AH):D->Option (List D)
 | .tup xs=>some xs
 | .ref n=>bC h n
 | .kl xs=>some xs
 | _=>none
section
variable {K:W.Frag}{mg:Str->Option Value}{ρ:List Addr}{H:Hp}{h:AH}
theorem cE (w:Wd K mg ρ h H) {n:Nat}{a:Addr}{xs:List D} (ea:ρ[n]?=some a) (e:bC h n=some xs):∃ vs,SqL K H a vs/\RelDs K mg ρ H xs vs:=by
 unfold bC at e
 split at e
 ·rename_i ys eo
  cases e
  obtain⟨vs,h1,h2⟩:=w.ob n a _ ea eo
  exact⟨vs,SqL.of h1,h2⟩
 ·rename_i ys eo
  cases e
  obtain⟨o,vs,h1,h2⟩:=w.ob n a _ ea eo
  exact⟨vs,.inl (.inr ⟨o,h1⟩),h2⟩
 ·cases e
theorem iC (w:Wd K mg ρ h H) {d:D}{v:V}{xs:List D} (r:RelD K mg ρ H d v) (e:jt h d=some xs):∃ p vs,v=.ref p/\(SqL K H p vs\/SqT K H p vs)/\RelDs K mg ρ H xs vs:=by
 cases r with
 |
  tup q rs=>
  have e':some _=some xs:=e
  cases e'
  exact⟨_,_,rfl,.inr q,rs⟩
 |
  ref ea=>
  obtain⟨vs,h1,h2⟩:=cE w ea e
  exact⟨_,vs,rfl,.inl h1,h2⟩
 |
  kl q rs=>
  have e':some _=some xs:=e
  cases e'
  exact⟨_,_,rfl,.inl (.inr q),rs⟩
 | _=>cases e
end
def g2 (f:Int->Int->R D) (x y:D):R D:=match x,y with
 | .int i,.int j=>f i j
 | _,_=>.stuck
def gI (f:Int->Int->D):D->D->AH->R D:=λx y h=>match x,y with
 | .int i,.int j=>.ok (f i j) h
 | _,_=>.stuck
open Classical in
def gIc (C:Int->Int->Prop) (f:Int->Int->D):D->D->AH->R D:=λx y h=>match x,y with
 | .int i,.int j=>if C i j then .ok (f i j) h else .stuck
 | _,_=>.stuck
section
variable {K:W.Frag}{mg:Str->Option Value}{X:Cx}
theorem m8 {f:Int->Int->V}{g:Int->Int->D} (hr:∀ i j ρ H,RelD K mg ρ H (g i j) (f i j)):OpD K mg (rI0 f) (gI g):=λρ h H dx dy x y Q E w rx ry p=>by
 unfold gI at p
 split at p
 ·cases rx;cases ry;exact⟨_,_,rfl,rfl,aP w (hr _ _ ρ H) p⟩
 ·exact p.elim
theorem p8 {C:Int->Int->Prop}{f:Int->Int->V}{g:Int->Int->D} (hr:∀ i j ρ H,RelD K mg ρ H (g i j) (f i j)):OpD K mg (rI C f) (gIc C g):=λρ h H dx dy x y Q E w rx ry p=>by
 unfold gIc at p
 split at p
 ·cases rx;cases ry
  split at p
  ·rename_i hc;exact⟨_,_,rfl,rfl,hc,aP w (hr _ _ ρ H) p⟩
  ·exact p.elim
 ·exact p.elim
def gOr (g g':D->D->AH->R D):D->D->AH->R D:=λx y h=>match g x y h with
 | .stuck=>g' x y h
 | r=>r
theorem OpD.or {r r':R2}{g g':D->D->AH->R D} (a:OpD K mg r g) (b:OpD K mg r' g'):OpD K mg (λx y H Q=>r x y H Q\/r' x y H Q) (gOr g g'):=λρ h H dx dy x y Q E w rx ry p=>by
 unfold gOr at p
 split at p
 ·exact .inr (b ρ h H dx dy x y Q E w rx ry p)
 ·exact .inl (a ρ h H dx dy x y Q E w rx ry p)
end
def oD:D->D->AH->R D:=λx y h=>match x,y with
 | .ref n,.ref m=>match h[n]?,h[m]? with
  | some (.lst xs),some (.lst ys)=>if xs.length + ys.length<=16777216 then .ok (.ref h.length) (h++[.lst (xs++ys)]) else .stuck
  | _,_=>.stuck
 | .tup xs,.tup ys=>if xs.length + ys.length<=16777216 then .ok (.tup (xs++ys)) h else .stuck
 | _,_=>.stuck
def gIx:D->D->AH->R D:=λx y h=>match jt h x,y with
 | some xs,.int i=>match atI xs i with
  | some d=>.ok d h
  | none=>.stuck
 | _,_=>.stuck
section
variable {K:W.Frag}{mg:Str->Option Value}{X:Cx}
def nI (K:W.Frag):R2:=λx y H Q=>∃ a b ys,x=.ref a/\y=.ref b/\SqT K H a []/\SqT K H b ys/\Q (.ref b) H
theorem FV:OpR X (binaryOp .Add) (nI X.K):=by
 intro pins s σ H x y v u Q I rx ry h
 obtain⟨a,b,ys,rfl,rfl,ha,hb,q⟩:=h
 cases rx
 cases ry
 obtain⟨its,r1,p1,_⟩:=I.tuple ha
 obtain⟨its2,r2,p2,_⟩:=I.tuple hb
 have e:its=[]:=r1.nil_iff.mpr rfl
 subst e
 obtain⟨⟨cls,dd,data,sl⟩,ho,hc,n,hd⟩:=id p1
 obtain⟨⟨cls2,dd2,data2,sl2⟩,ho2,hc2,n2,hd2⟩:=id p2
 simp only at hc hd hc2 hd2
 subst hc hd hc2 hd2
 exact concat_meets ⟨_,ho,rfl⟩ ⟨_,ho2,rfl⟩ noFill_tuple_add seq_tuple_add PySem.F.slot_tuple_add PySem.F.entry_tuple_add (PySem.F.args_tuple_add_2 _ _)
  (tuple_addW0 _ _ _ _ n n2 dd dd2 sl sl2 rfl) ⟨ho,ho2,⟨.ref b,H,I,rfl,q⟩⟩
theorem EU:OpD K mg (λx y H Q=>rq x y H Q\/(nE K x y H Q\/nI K x y H Q)) oD:=λρ h H dx dy x y Q E w rx ry p=>by
 unfold oD at p
 split at p
 ·cases
   rx with
  |
   ref ea=>
   cases ry with
   |
    ref eb=>
    split at p
    ·rename_i xs ys e1 e2
     split at p
     ·rename_i hl
      obtain⟨vs,q1,r1⟩:=w.ob _ _ _ ea e1
      obtain⟨ws,q2,r2⟩:=w.ob _ _ _ eb e2
      exact .inl ⟨_,_,vs,ws,rfl,rfl,q1,q2,by rw[<- r1.len,<- r2.len];exact hl,λp' hp=>f9 w (r1.append r2) hp p⟩
     ·exact p.elim
    ·exact p.elim
 ·cases
   rx with
  |
   tup q1 r1=>
   cases ry with
   |
    tup q2 r2=>
    split at p
    ·rename_i hl
     cases r1 with
     | nil=>exact .inr (.inr ⟨_,_,_,rfl,rfl,q1,q2,aP w (.tup q2 r2) p⟩)
     |
      cons r0 r1=>
      refine .inr (.inl ⟨_,_,_,_,rfl,rfl,q1,q2,(λz=>nomatch z),by rw[<- (RelDs.cons r0 r1).len,<- r2.len];exact hl,λz=>?_,λ_ p' hp=>oO w ((RelDs.cons r0 r1).append r2) hp p⟩)
      subst z
      cases r2
      rw[List.append_nil] at p
      exact aP w (.tup q1 (.cons r0 r1)) p
    ·exact p.elim
 ·exact p.elim
theorem FC {ρ:List Addr}{H:Hp}{xs:List D}{vs:List V} (r:RelDs K mg ρ H xs vs) {i:Int}{d:D} (e:atI xs i=some d):∃ v,atI vs i=some v/\RelD K mg ρ H d v:=by
 unfold atI at e ⊢
 rw[<- r.len]
 cases q:ixN xs.length i with
 | none=>rw[q] at e;cases e
 | some j=>rw[q] at e;exact r.getD e
theorem HP:OpD K mg (λx y H Q=>yC K x y H Q\/y9 K x y H Q) gIx:=λρ h H dx dy x y Q E w rx ry p=>by
 unfold gIx at p
 split at p
 ·rename_i xs i e1
  split at p
  ·rename_i d e2
   cases ry
   obtain⟨pa,vs,rfl,hq,rs⟩:=iC w rx e1
   obtain⟨v,e3,rv⟩:=FC rs e2
   rcases hq with hq | hq
   ·exact .inl ⟨_,_,_,_,rfl,rfl,hq,e3,aP w rv p⟩
   ·exact .inr ⟨_,_,_,_,rfl,rfl,hq,e3,aP w rv p⟩
  ·exact p.elim
 ·exact p.elim
theorem ixK (h:X.K=K):IxR X (λx y H Q=>yC K x y H Q\/y9 K x y H Q):=by subst h;exact Ex.or J8
theorem catK (h:X.K=K):OpR X (binaryOp .Add) (λx y H Q=>rq x y H Q\/(nE K x y H Q\/nI K x y H Q)):=by subst h;exact HN.or (Ga.or FV)
end
def eR:Nat->AH->D->Option PyData
 | 0,_,_=>none
 | _ + 1,_,.non=>some .none
 | _ + 1,_,.bl b=>some (.bool b)
 | _ + 1,_,.int i=>some (.int i)
 | _ + 1,_,.str x=>some (.str x)
 | k + 1,h,.tup xs=>(xs.mapM (eR k h)).map .tuple
 | k + 1,h,.ref n=>match bC h n with
  | some xs=>(xs.mapM (eR k h)).map .list
  | none=>none
 | _ + 1,_,_=>none
theorem sL {K:W.Frag}{mg:Str->Option Value}{ρ:List Addr}{H:Hp}{f:D->Option PyData} (hf:∀ d v pd,RelD K mg ρ H d v->f d=some pd->Rep K H v pd):∀ {xs:List D}{vs:List V}{ps:List PyData},RelDs K mg ρ H xs vs->xs.mapM f=some ps->Reps K H vs ps:=by
 intro xs
 induction xs with
 |
  nil=>
  intro vs ps r e
  cases r
  have e':some []=some _:=e
  cases e';exact .nil
 |
  cons x xs ih=>
  intro vs ps r e
  cases r with
  |
   cons r rr=>
   rw[List.mapM_cons] at e
   cases q:f x with
   | none=>rw[q] at e;cases e
   |
    some pd=>
    rw[q] at e
    cases q2:xs.mapM f with
    | none=>rw[q2] at e;cases e
    |
     some pds=>
     rw[q2] at e
     have e':some (pd :: pds)=some ps:=e
     cases e'
     exact .cons (hf _ _ _ r q) (ih rr q2)
theorem hZ {K:W.Frag}{mg:Str->Option Value}{ρ:List Addr}{H:Hp}{h:AH} (w:Wd K mg ρ h H):∀ (k:Nat) {d:D}{v:V}{pd:PyData},RelD K mg ρ H d v->eR k h d=some pd->Rep K H v pd
 | 0,_,_,_,_,e=>by cases e
 |
  k + 1,d,v,pd,r,e=>by
  cases r with
  | non=>have e':some _=some pd:=e;cases e';exact .non
  | bl b=>have e':some _=some pd:=e;cases e';exact .bl b
  | int b=>have e':some _=some pd:=e;cases e';exact .int b
  | str b=>have e':some _=some pd:=e;cases e';exact .str b
  |
   tup q rs=>
   rename_i ds
   have e':(ds.mapM (eR k h)).map PyData.tuple=some pd:=e
   cases q2:ds.mapM (eR k h) with
   | none=>rw[q2] at e';cases e'
   |
    some ps=>
    rw[q2] at e'
    cases e'
    exact .tup q (sL (λd v pd r e=>hZ w k r e) rs q2)
  |
   ref ea=>
   rename_i n a
   unfold eR at e
   split at e
   ·rename_i xs e1
    obtain⟨vs,h1,h2⟩:=cE w ea e1
    cases q2:xs.mapM (eR k h) with
    | none=>rw[q2] at e;cases e
    |
     some ps=>
     rw[q2] at e
     cases e
     exact .lst h1 (sL (λd v pd r e=>hZ w k r e) h2 q2)
   ·cases e
  | _=>cases e
def ve (h:AH) (x y:D):Option Bool:=match eR 64 h x,eR 64 h y with
 | some a,some b=>if SeqAt.shaped a=true/\SeqAt.shaped b=true then some (PyData.eqv a b) else none
 | _,_=>none
def gEq (jp:Bool):D->D->AH->R D:=λx y h=>match ve h x y with
 | some b=>.ok (.bl (if jp then !b else b)) h
 | none=>.stuck
section
variable {K:W.Frag}{mg:Str->Option Value}{X:Cx}
theorem xb {ρ:List Addr}{H:Hp}{h:AH}{dx dy:D}{x y:V}{b:Bool} (w:Wd K mg ρ h H) (rx:RelD K mg ρ H dx x) (ry:RelD K mg ρ H dy y) (e:ve h dx dy=some b):
 ∃ a c,Rep K H x a/\Rep K H y c/\SeqAt.shaped a=true/\SeqAt.shaped c=true/\PyData.eqv a c=b:=by
 unfold ve at e
 split at e
 ·rename_i a c e1 e2
  split at e
  ·rename_i hs
   cases e
   exact⟨a,c,hZ w 64 rx e1,hZ w 64 ry e2,hs.1,hs.2,rfl⟩
  ·cases e
 ·cases e
theorem GK:OpD K mg (xZ K) (gEq false):=λρ h H dx dy x y Q E w rx ry p=>by
 unfold gEq at p
 split at p
 ·rename_i b e
  obtain⟨a,c,h1,h2,h3,h4,rfl⟩:=xb w rx ry e
  exact⟨a,c,h1,h2,h3,h4,aP w (.bl _) p⟩
 ·exact p.elim
theorem JH:OpD K mg (yN K) (gEq true):=λρ h H dx dy x y Q E w rx ry p=>by
 unfold gEq at p
 split at p
 ·rename_i b e
  obtain⟨a,c,h1,h2,h3,h4,rfl⟩:=xb w rx ry e
  exact⟨a,c,h1,h2,h3,h4,aP w (.bl _) p⟩
 ·exact p.elim
end
def nD:D->Bool
 | .non=>true
 | .bl _=>true
 | .int _=>true
 | .str _=>true
 | _=>false
def toV:D->V
 | .bl b=>.bl b
 | .int i=>.int i
 | .str x=>.str x
 | _=>.non
def eqF (x y:D):Bool:=eqV (toV x) (toV y)
def gIn (jp:Bool):D->D->AH->R D:=λx y h=>match jt h y with
 | some xs=>if nD x=true/\xs.all nD=true then .ok (.bl (if jp then !(xs.any λd=>eqF d x) else xs.any λd=>eqF d x)) h else .stuck
 | none=>.stuck
section
variable {K:W.Frag}{mg:Str->Option Value}{X:Cx}{ρ:List Addr}{H:Hp}
theorem vh {d:D}{v:V} (r:RelD K mg ρ H d v) (f:nD d=true):v=toV d/\flatV v=true:=by
 cases r with
 | non=>exact⟨rfl,rfl⟩
 | bl=>exact⟨rfl,rfl⟩
 | int=>exact⟨rfl,rfl⟩
 | str=>exact⟨rfl,rfl⟩
 | _=>cases f
theorem Ak:∀ {ds:List D}{vs:List V},RelDs K mg ρ H ds vs->ds.all nD=true->vs=ds.map toV/\vs.all flatV=true:=by
 intro ds
 induction ds with
 |
  nil=>
  intro vs r f
  cases r
  exact⟨rfl,rfl⟩
 |
  cons d0 ds ih=>
  intro vs r f
  cases r with
  |
   cons r rr=>
   rw[List.all_cons,Bool.and_eq_true] at f
   obtain⟨rfl,h1⟩:=vh r f.1
   obtain⟨rfl,h2⟩:=ih rr f.2
   exact⟨rfl,by rw[List.all_cons,h1,h2];rfl⟩
theorem AA (jp:Bool):OpD K mg (rIn K jp) (gIn jp):=λρ h H dx dy x y Q E w rx ry p=>by
 unfold gIn at p
 split at p
 ·rename_i xs e
  split at p
  ·rename_i hf
   obtain⟨pa,vs,rfl,hq,rs⟩:=iC w ry e
   obtain⟨rfl,f1⟩:=vh rx hf.1
   obtain⟨rfl,f2⟩:=Ak rs hf.2
   refine⟨pa,_,rfl,hq,f1,f2,?_⟩
   have e2:inV (toV dx) (xs.map toV)=xs.any λd=>eqF d dx:=by
    unfold inV eqF
    rw[List.any_map];rfl
   rw[e2]
   exact aP w (.bl _) p
  ·exact p.elim
 ·exact p.elim
def nq (jp:Bool):D->D->AH->R D:=λx y h=>match x,y with
 | .non,.non=>.ok (.bl (!jp)) h
 | _,.non=>.ok (.bl jp) h
 | _,_=>.stuck
theorem ED:OpD K mg (λx y H Q=>y=.non/\Q (.bl (decide (x=.non))) H) (nq false):=λρ h H dx dy x y Q E w rx ry p=>by
 unfold nq at p
 split at p
 ·cases rx;cases ry;exact⟨rfl,aP w (.bl _) p⟩
 ·rename_i hne
  cases ry
  refine⟨rfl,?_⟩
  have e:decide (x=V.non)=false:=by
   rw[decide_eq_false_iff_not]
   rintro rfl
   cases rx
   exact hne rfl
  rw[e]
  exact aP w (.bl _) p
 ·exact p.elim
theorem Ck:OpD K mg (λx y H Q=>y=.non/\Q (.bl (!decide (x=.non))) H) (nq true):=λρ h H dx dy x y Q E w rx ry p=>by
 unfold nq at p
 split at p
 ·cases rx;cases ry;exact⟨rfl,aP w (.bl _) p⟩
 ·rename_i hne
  cases ry
  refine⟨rfl,?_⟩
  have e:decide (x=V.non)=false:=by
   rw[decide_eq_false_iff_not]
   rintro rfl
   cases rx
   exact hne rfl
  rw[e]
  exact aP w (.bl _) p
 ·exact p.elim
end
end L2
namespace L2
open PySem PySem.Spec PyProof.Rows
inductive AIt where
 | lst (n:Nat) (xs:List D) | tup (xs:List D) | rng (lo:Int) (k:Nat) | enm (s:AIt) | zip (s t:AIt)
def ki:Nat->List D->List D
 | _,[]=>[]
 | i,d :: ds=>.tup [.int (i:Nat),d] :: ki (i + 1) ds
def AIt.items:AIt->List D
 | .lst _ xs=>xs
 | .tup xs=>xs
 | .rng lo k=>(List.range k).map λi=>D.int (lo + (i:Nat))
 | .enm s=>ki 0 s.items
 | .zip s t=>List.zipWith (λx y=>.tup [x,y]) s.items t.items
def AIt.guard:AIt->AH->Prop
 | .lst n xs,h=>bC h n=some xs
 | .enm s,h=>s.guard h
 | .zip s t,h=>s.guard h/\t.guard h
 | _,_=>True
def SrcR (K:W.Frag) (mg:Str->Option Value) (ρ:List Addr) (H:Hp):AIt->Bool->Addr->Prop
 | .lst n _,true,a=>ρ[n]?=some a
 | .tup xs,false,p=>∃ vs,SqT K H p vs/\RelDs K mg ρ H xs vs
 | _,_,_=>False
def ItR (K:W.Frag) (mg:Str->Option Value) (ρ:List Addr) (H:Hp):AIt->It->Prop
 | .lst n _,J=>∃ a,ρ[n]?=some a/\J=Itl K a
 | .tup xs,J=>∃ p vs,SqT K H p vs/\RelDs K mg ρ H xs vs/\J=Itt K p
 | .rng lo k,J=>J=Itr lo k
 | .enm s,J=>∃ b a,SrcR K mg ρ H s b a/\J=IteE K b a
 | .zip s t,J=>∃ b c a d,SrcR K mg ρ H s b a/\SrcR K mg ρ H t c d/\J=ItZ K b c a d
theorem vA:∀ {ds:List D}{k i:Nat}{e:D},(ki k ds)[i]?=some e->∃ d,ds[i]?=some d/\e=.tup [.int ((k + i:Nat):Int),d]
 | [],_,_,_,q=>by simp [ki] at q
 | d :: ds,k,0,e,q=>⟨d,rfl,by simpa [ki] using q.symm⟩
 |
  d :: ds,k,i + 1,e,q=>by
  obtain⟨d',q1,q2⟩:=vA (ds:=ds) (k:=k + 1) (i:=i) (e:=e) (by simpa [ki] using q)
  refine⟨d',by simpa using q1,?_⟩
  rw[q2]
  congr 4
  omega
theorem vG:∀ (ds:List D) (k:Nat),(ki k ds).length=ds.length
 | [],_=>rfl
 | _ :: ds,k=>by show (ki (k + 1) ds).length + 1=ds.length + 1;rw[vG ds]
section
variable {K:W.Frag}{mg:Str->Option Value}{ρ ρ1:List Addr}{H H1:Hp}{h h1:AH}
theorem SrcR.at_ {s:AIt}{b:Bool}{a:Addr} (r:SrcR K mg ρ H s b a) (l:Le ρ H ρ1 H1) (w:Wd K mg ρ1 h1 H1) (g:s.guard h1):∃ vs,SqB K b H1 a vs/\RelDs K mg ρ1 H1 s.items vs:=by
 cases s with
 |
  lst n xs=>
  cases b with
  | true=>exact cE w (l.pre _ _ r) g
  | false=>exact r.elim
 |
  tup xs=>
  cases b with
  | true=>exact r.elim
  | false=>obtain⟨vs,q,rs⟩:=r;exact⟨vs,l.sqT q,rs.mono l⟩
 | rng _ _=>cases b <;> exact r.elim
 | enm _=>cases b <;> exact r.elim
 | zip _ _=>cases b <;> exact r.elim
theorem ItR.step {it:AIt}{J:It} (hJ:ItR K mg ρ H it J) (l:Le ρ H ρ1 H1) (w:Wd K mg ρ1 h1 H1) (g:it.guard h1):
 (∀ (i:Nat) (d:D),it.items[i]?=some d->J.go i H1/\∀ x H',J.yld i H1 x H'->Le ρ1 H1 ρ1 H'/\Wd K mg ρ1 h1 H'/\RelD K mg ρ1 H' d x)/\J.stop it.items.length H1:=by
 cases it with
 |
  lst n xs=>
  obtain⟨a,ea,rfl⟩:=hJ
  obtain⟨vs,q,rs⟩:=cE w (l.pre _ _ ea) g
  refine⟨λi d e=>?_,vs,q,by rw[<- rs.len];exact Nat.le_refl _⟩
  obtain⟨v,ev,rv⟩:=rs.getD e
  refine⟨⟨vs,v,q,ev⟩,λx H' ⟨e1,y⟩=>?_⟩
  subst e1
  have:=(y vs q).symm.trans ev
  cases this
  exact⟨Le.refl,w,rv⟩
 |
  tup xs=>
  obtain⟨p,vs,q,rs,rfl⟩:=hJ
  have q1:=l.sqT q
  have rs1:=rs.mono l
  refine⟨λi d e=>?_,vs,q1,by rw[<- rs1.len];exact Nat.le_refl _⟩
  obtain⟨v,ev,rv⟩:=rs1.getD e
  refine⟨⟨vs,v,q1,ev⟩,λx H' ⟨e1,y⟩=>?_⟩
  subst e1
  have:=(y vs q1).symm.trans ev
  cases this
  exact⟨Le.refl,w,rv⟩
 |
  rng lo k=>
  cases hJ
  refine⟨λi d e=>?_,?_⟩
  ·have e':((List.range k).map λi=>D.int (lo + (i:Nat)))[i]?=some d:=e
   rw[List.getElem?_map] at e'
   cases q:(List.range k)[i]? with
   | none=>rw[q] at e';cases e'
   |
    some j=>
    rw[q] at e'
    have hj:=List.getElem?_eq_some_iff.mp q
    have e2:=hj.2
    rw[List.getElem_range] at e2
    subst e2
    cases e'
    refine⟨show i < k by simpa using hj.1,λx H' ⟨e1,e2⟩=>?_⟩
    subst e1 e2
    exact⟨Le.refl,w,.int _⟩
  ·show k<=((List.range k).map λi=>D.int (lo + (i:Nat))).length
   simp
 |
  enm s=>
  obtain⟨b,a,r,rfl⟩:=hJ
  obtain⟨vs,q,rs⟩:=r.at_ l w g
  refine⟨λi d e=>?_,vs,q,by show vs.length=(ki 0 s.items).length;rw[vG,rs.len]⟩
  obtain⟨d',q1,rfl⟩:=vA (show (ki 0 s.items)[i]?=some d from e)
  obtain⟨v,ev,rv⟩:=rs.getD q1
  refine⟨⟨vs,v,q,ev⟩,λx H' ⟨p,u,e1,hp,e2,hu⟩=>?_⟩
  subst e1 e2
  have:=(hu vs q).symm.trans ev
  cases this
  rw[Nat.zero_add]
  exact⟨ff hp,w.tuple hp,.tup (SqT.of dB) (.cons (.int _) (.cons (rv.mono (ff hp)) .nil))⟩
 |
  zip s t=>
  obtain⟨b,c,a,d,r1,r2,rfl⟩:=hJ
  obtain⟨vs,q,rs⟩:=r1.at_ l w g.1
  obtain⟨us,q',rs'⟩:=r2.at_ l w g.2
  refine⟨λi e ei=>?_,vs,us,q,q',?_⟩
  ·have ei':(List.zipWith (λx y=>D.tup [x,y]) s.items t.items)[i]?=some e:=ei
   rw[List.getElem?_zipWith] at ei'
   cases k1:s.items[i]? with
   | none=>rw[k1] at ei';cases ei'
   |
    some d1=>
    cases k2:t.items[i]? with
    | none=>rw[k1,k2] at ei';cases ei'
    |
     some d2=>
     rw[k1,k2] at ei'
     cases ei'
     obtain⟨v,ev,rv⟩:=rs.getD k1
     obtain⟨v',ev',rv'⟩:=rs'.getD k2
     refine⟨⟨vs,us,v,v',q,q',ev,ev'⟩,λx H' ⟨p,u,u',e1,hp,e2,hu,hu'⟩=>?_⟩
     subst e1 e2
     have:=(hu vs q).symm.trans ev
     cases this
     have:=(hu' us q').symm.trans ev'
     cases this
     exact⟨ff hp,w.tuple hp,.tup (SqT.of dB) (.cons (rv.mono (ff hp)) (.cons (rv'.mono (ff hp)) .nil))⟩
  ·have hl:(AIt.zip s t).items.length=min s.items.length t.items.length:=List.length_zipWith ..
   rw[hl,rs.len,rs'.len]
   rcases Nat.le_total vs.length us.length with z | z
   ·left;rw[Nat.min_eq_left z];exact List.getElem?_eq_none (Nat.le_refl _)
   ·right;rw[Nat.min_eq_right z];exact List.getElem?_eq_none (Nat.le_refl _)
end
def SR.loop (r:SR) (f:AE->AH->SR):SR:=match r with
 | .nx ae h=>f ae h
 | .ct ae h=>f ae h
 | .bk ae h=>.nx ae h
 | .rt d h=>.rt d h
 | .exc c ae h=>.exc c ae h
 | .stuck=>.stuck
open Classical in
def lO (G:AH->Prop) (g:MG) (B:MS):List D->MS
 | [],ae,h=>if G h then .nx ae h else .stuck
 | d :: ds,ae,h=>if G h then (g d ae h).toS ae λk_ h1=>(B k_ h1).loop (lO G g B ds) else .stuck
abbrev MI:=AE->AH->R AIt
def Cg (I:MI) (g:MG) (B:MS):MS:=λae h=>(I ae h).toS ae λit h1=>lO it.guard g B it.items ae h1
open Classical in
def lcL (G:AH->Prop) (g:MG) (c:MT) (F:ME):List D->List D->AE->AH->R (List D)
 | [],acc,_,h=>if G h then .ok acc h else .stuck
 | d :: ds,acc,ae,h=>if G h/\acc.length < 16777216 then (g d ae h).bind λk_ h1=>(c k_ h1).bind λb h2=>if b=true then (F k_ h2).bind λy h3=>lcL G g c F ds (acc++[y]) k_ h3 else lcL G g c F ds acc k_ h2 else .stuck
def lV (sub:List (Option Nat)) (ae:AE):AE:=sub.map λo=>o.bind λi=>(ae[i]?).bind id
def eLC (I:MI) (sub:List (Option Nat)) (g:MG) (c:MT) (F:ME):ME:=λae h=>(I ae h).bind λit h1=>(noX (lcL it.guard g c F it.items [] (lV sub ae) h1)).bind eV
def tY:MT:=λ_ h=>.ok true h
section
variable (K:W.Frag) (mg:Str->Option Value)
def rdI (ES:St->XK) (F:MI):TI:=λσ H R'=>∃ ρ h ae,Wd K mg ρ h H/\RelE K mg ρ H ae σ/\PostG K mg ρ H (ES σ) (λit _ ρ' H'=>∀ J,ItR K mg ρ' H' it J->R' J H') (F ae h)
def DI (X:Cx) (ES:St->XK) (tg al:Expr) (F:MI):Prop:=PI X tg al (rdI K mg ES F)
end
def Dn (F:ME):MI:=λae h=>(F ae h).bind λd h1=>match d with
 | .tup xs=>.ok (.tup xs) h1
 | .ref n=>match bC h1 n with
  | some xs=>.ok (.lst n xs) h1
  | none=>.stuck
 | _=>.stuck
def B7 (A:MA):MI:=λae h=>(A ae h).bind λds h1=>match ds with
 | [.int j]=>if -(2 ^ 62)<=j/\j < 2 ^ 62 then .ok (.rng 0 j.toNat) h1 else .stuck
 | _=>.stuck
def Bs (A:MA):MI:=λae h=>(A ae h).bind λds h1=>match ds with
 | [.int i,.int j]=>if -(2 ^ 62)<=i/\i < 2 ^ 62/\-(2 ^ 62)<=j/\j < 2 ^ 62 then .ok (.rng i (j - i).toNat) h1 else .stuck
 | _=>.stuck
def jm (d:D) (h:AH):Option AIt:=match d with
 | .tup xs=>some (.tup xs)
 | .ref n=>(bC h n).map (.lst n)
 | _=>none
def BD (A:MA):MI:=λae h=>(A ae h).bind λds h1=>match ds with
 | [d,e]=>(match jm d h1,jm e h1 with
  | some s,some t=>.ok (.zip s t) h1
  | _,_=>.stuck)
 | _=>.stuck
section
variable {K:W.Frag}{mg:Str->Option Value}{X:Cx}{ES:St->XK}{tg al e a b c lv:Expr}{F:ME}{A:MA}{I:MI}{g:MG}{cf:MT}{U:MS}{sts:List Stmt}{pos:Pos}
theorem PI.imp {t t':TI} (h:PI X tg al t) (k:∀ σ H Q,t' σ H Q->t σ H Q):PI X tg al t':=λpins s σ H Q I w=>h pins s σ H Q I (k σ H Q w)
theorem HU {l:Expr}{tl:TE} (hl:PE X l tl):PI X tg l (λσ H R=>tl σ H λx H1=>(∃ a,x=.ref a/\(∃ xs,SqL X.K H1 a xs)/\R (Itl X.K a) H1)\/(∃ a,x=.ref a/\(∃ xs,SqT X.K H1 a xs)/\R (Itt X.K a) H1)):=by
 intro pins s σ H R I h
 refine thn (hl pins s σ H _ I h) λv s1 ⟨x,H1,I1,r1,q1⟩=>?_
 rcases q1 with ⟨a,e,⟨xs,hq⟩,q⟩ | ⟨a,e,⟨xs,hq⟩,q⟩
 ·subst e
  cases r1
  obtain⟨its,rv,p,hz⟩:=I1.list hq
  refine wpAny_pyIter_list p.isList ?_
  refine⟨s1.heap.objs.size,[s1.heap.objs.size],_,_,H1,rfl,I1.kept (t':=s1.toks) λb o e=>Heap.get?_push_of_some _ e,Ae a _,⟨_,Heap.get?_push_size _ rfl,rfl,rfl⟩,λb hb=>?_,q⟩
  have e:b=s1.heap.objs.size:=by simpa using hb
  subst e
  exact I1.fpOk (Nat.le_refl _) (I1.hok.fresh (Nat.le_refl _))
 ·subst e
  cases r1
  obtain⟨its,rv,p,hz⟩:=I1.tuple hq
  refine wpAny_pyIter_tuple (show s1.heap.IsTuple a its.toArray from p) ?_
  refine⟨s1.heap.objs.size,[s1.heap.objs.size],_,_,H1,rfl,I1.kept (t':=s1.toks) λb o e=>Heap.get?_push_of_some _ e,y0 a _,⟨_,Heap.get?_push_size _ rfl,rfl,rfl⟩,λb hb=>?_,q⟩
  have e:b=s1.heap.objs.size:=by simpa using hb
  subst e
  exact I1.fpOk (Nat.le_refl _) (I1.hok.fresh (Nat.le_refl _))
theorem Jg (hK:X.K=K) (he:DE K mg X ES e F):DI K mg X ES tg e (Dn F):=by
 subst hK
 refine PI.imp (HU he) λσ H R ⟨ρ,h,ae,w,re,p⟩=>⟨ρ,h,ae,w,re,p.bind.imp λd h1 ρ1 H1 l1 w1 p1 v rv=>?_⟩
 cases rv with
 | tup q rs=>exact .inr ⟨_,rfl,⟨_,q⟩,p1 ρ1 H1 Le.refl w1 _ ⟨_,_,q,rs,rfl⟩⟩
 |
  ref ea=>
  dsimp only at p1
  split at p1
  ·rename_i xs e1
   obtain⟨vs,q,rs⟩:=cE w1 ea e1
   exact .inl ⟨_,rfl,⟨_,q⟩,p1 ρ1 H1 Le.refl w1 _ ⟨_,ea,rfl⟩⟩
  ·exact p1.elim
 | _=>exact p1.elim
theorem Aq {p:Pos} (hg:Gl X "range") (hm:mg "range" = none) (ha:DA K mg X ES [a] A) (hk:X.mg=mg:=by rfl) (hs:starEach [a] X.env=[(false,eval a X.env)]:=by rfl):DI K mg X ES tg (.Call (.Name "range" p) [a] [] pos) (B7 A):=by
 subst hk
 refine PI.imp (AZ hg hm ha hs) λσ H R ⟨ρ,h,ae,w,re,p⟩=>⟨ρ,h,ae,w,re,p.bind.imp λds h1 ρ1 H1 l1 w1 p1 vs rs=>?_⟩
 split at p1
 ·cases rs with
  |
   cons r rs=>
   cases r;cases rs
   split at p1
   ·rename_i hb
    exact⟨_,rfl,hb.1,hb.2,p1 ρ1 H1 Le.refl w1 _ rfl⟩
   ·exact p1.elim
 ·exact p1.elim
theorem Bg {p:Pos} (hg:Gl X "range") (hm:mg "range" = none) (ha:DA K mg X ES [a,b] A) (hk:X.mg=mg:=by rfl) (hs:starEach [a,b] X.env=[(false,eval a X.env),(false,eval b X.env)]:=by rfl) (hs2:starEach [b] X.env=[(false,eval b X.env)]:=by rfl):DI K mg X ES tg (.Call (.Name "range" p) [a,b] [] pos) (Bs A):=by
 subst hk
 refine PI.imp (zF hg hm ha hs hs2) λσ H R ⟨ρ,h,ae,w,re,p⟩=>⟨ρ,h,ae,w,re,p.bind.imp λds h1 ρ1 H1 l1 w1 p1 vs rs=>?_⟩
 split at p1
 ·cases
   rs with
  |
   cons r rs=>
   cases rs with
   |
    cons r2 rs=>
    cases r;cases r2;cases rs
    split at p1
    ·rename_i hb
     exact⟨_,_,rfl,hb,p1 ρ1 H1 Le.refl w1 _ rfl⟩
    ·exact p1.elim
 ·exact p1.elim
theorem sv {ρ:List Addr}{H:Hp}{h:AH}{d:D}{v:V}{s:AIt} (w:Wd K mg ρ h H) (r:RelD K mg ρ H d v) (q:jm d h=some s):∃ b p,v=.ref p/\SrcR K mg ρ H s b p/\∃ vs,SqB K b H p vs:=by
 cases r with
 | tup hq rs=>cases q;exact⟨false,_,rfl,⟨_,hq,rs⟩,_,hq⟩
 |
  ref ea=>
  obtain⟨xs,q1,rfl⟩:=Option.map_eq_some_iff.mp q
  obtain⟨vs,h1,h2⟩:=cE w ea q1
  exact⟨true,_,rfl,ea,vs,h1⟩
 | _=>cases q
theorem Hs {elts:List Expr}{x1:Nat}{tp p:Pos} (hK:X.K=K) (hg:Gl X "zip") (hm:mg "zip" = none) (ha:DA K mg X ES [a,b] A) (hk:X.mg=mg:=by rfl) (hs:starEach [a,b] X.env=[(false,eval a X.env),(false,eval b X.env)]:=by rfl) (hs2:starEach [b] X.env=[(false,eval b X.env)]:=by rfl):DI K mg X ES (.Tuple elts x1 tp) (.Call (.Name "zip" p) [a,b] [] pos) (BD A):=by
 subst hk hK
 refine PI.imp (GH hg hm ha hs hs2) λσ H R ⟨ρ,h,ae,w,re,p⟩=>⟨ρ,h,ae,w,re,p.bind.imp λds h1 ρ1 H1 l1 w1 p1 vs rs=>?_⟩
 split at p1
 ·cases
   rs with
  |
   cons r rs=>
   cases rs with
   |
    cons r' rs=>
    cases rs
    split at p1
    ·rename_i s t q q'
     obtain⟨b,pa,rfl,sr,xs,hx⟩:=sv w1 r q
     obtain⟨c,pd,rfl,sr',ys,hy⟩:=sv w1 r' q'
     exact⟨b,c,pa,pd,xs,ys,rfl,hx,hy,p1 ρ1 H1 Le.refl w1 _ ⟨b,c,pa,pd,sr,sr',rfl⟩⟩
    ·exact p1.elim
 ·exact p1.elim
theorem ub {ρ:List Addr}{H:Hp}{De:Ends}{r:SR}{f:AE->AH->SR}{N:St->Hp->Prop} (p:PostS K mg ρ H De ES (r.loop f)) (i:∀ k_ h1 ρ1 H1 σ1,Le ρ H ρ1 H1->Wd K mg ρ1 h1 H1->RelE K mg ρ1 H1 k_ σ1->PostS K mg ρ1 H1 De ES (f k_ h1)->N σ1 H1):
 PostS K mg ρ H { De with nx:=N,ct:=N,bk:=De.nx } ES r:=by
 cases r with
 | nx k_ h1=>exact λρ1 H1 σ1 l1 w1 re1=>i k_ h1 ρ1 H1 σ1 l1 w1 re1 (PostS.mono l1 p)
 | rt d h1=>exact p
 | bk k_ h1=>exact p
 | ct k_ h1=>exact λρ1 H1 σ1 l1 w1 re1=>i k_ h1 ρ1 H1 σ1 l1 w1 re1 (PostS.mono l1 p)
 | exc c k_ h1=>exact p
 | stuck=>exact p
theorem IW (hp:PassesOwn (model X.prog X.w) X.A X.env X.xe) (hc:X.calm=true) (hi:DI K mg X ES tg al I) (hg:DG K mg X ES tg g) (hb:DSs K mg X ES sts U)
 (hs:∀ x,foldedSetIterable al X.env x=pure x:=by intro _;rfl):DS K mg X ES (.For tg al sts [] pos) (Cg I g U):=by
 refine PS.imp (GR hp hc hi hg hb hs) λDe σ H q_=>q_.el λρ h ae w re p=>⟨ρ,h,ae,w,re,cU p re λit h1 ρ1 H1 l1 w1 re1 p1 J hJ=>?_⟩
 refine⟨λi m σ2 H2=>m=it.items.length - i/\i<=it.items.length/\∃ ρ2 h2 ae2,Le ρ1 H1 ρ2 H2/\Wd K mg ρ2 h2 H2/\RelE K mg ρ2 H2 ae2 σ2/\PostS K mg ρ2 H2 De ES (lO it.guard g U (it.items.drop i) ae2 h2),⟨_,rfl,Nat.zero_le _,ρ1,h1,ae,Le.refl,w1,re1,p1⟩,?_⟩
 rintro i m σ2 H2 ⟨rfl,hi',ρ2,h2,ae2,l2,w2,re2,p2⟩
 by_cases hlt:i < it.items.length
 ·have hd:it.items.drop i=it.items[i] :: it.items.drop (i + 1):=List.drop_eq_getElem_cons hlt
  rw[hd] at p2
  unfold lO at p2
  split at p2
  ·rename_i hG
   obtain⟨st,_⟩:=hJ.step l2 w2 hG
   obtain⟨go,yl⟩:=st i it.items[i] (List.getElem?_eq_getElem hlt)
   refine .inr ⟨go,λσ' H'=>∃ ρ3 h3 ae3,Le ρ1 H1 ρ3 H'/\Wd K mg ρ3 h3 H'/\RelE K mg ρ3 H' ae3 σ'/\PostS K mg ρ3 H' De ES (lO it.guard g U (it.items.drop (i + 1)) ae3 h3),
    λσ' H' ⟨ρ3,h3,ae3,q⟩=>⟨_,by omega,rfl,hlt,ρ3,h3,ae3,q⟩,λx H' hy=>?_⟩
   obtain⟨ly,wy,rx⟩:=yl x H' hy
   refine⟨ρ2,h2,ae2,_,wy,re2.mono ly,rx,cU (PostS.mono ly p2) (re2.mono ly) λae3 h3 ρ3 H3 l3 w3 re3 p3 σ' re'=>⟨ρ3,h3,ae3,w3,re',ub p3 λae4 h4 ρ4 H4 σ4 l4 w4 re4 p4=>⟨ρ4,h4,ae4,((l2.trans ly).trans l3).trans l4,w4,re4,p4⟩⟩⟩
  ·exact p2.elim
 ·have hi2:i=it.items.length:=by omega
  subst hi2
  rw[List.drop_length] at p2
  unfold lO at p2
  split at p2
  ·rename_i hG
   exact .inl ⟨(hJ.step l2 w2 hG).2,jh p2 w2 re2⟩
  ·exact p2.elim
theorem CH {ρ:List Addr}{H:Hp}{ae:AE}{σ:St} (re:RelE K mg ρ H ae σ) (sub:List (Option Nat)):RelE K mg ρ H (lV sub ae) (dO sub σ):=by
 unfold lV dO
 refine⟨by rw[List.length_map,List.length_map],λj d e=>?_⟩
 rw[List.getElem?_map] at e ⊢
 cases q:sub[j]? with
 | none=>rw[q] at e;cases e
 |
  some o=>
  rw[q] at e
  cases o with
  | none=>cases e
  |
   some i=>
   have e':(ae[i]?).bind id=some d:=Option.some.inj e
   cases q2:ae[i]? with
   | none=>rw[q2] at e';cases e'
   |
    some z=>
    rw[q2] at e'
    have e3:z=some d:=e'
    subst e3
    obtain⟨v,h1,h2⟩:=re.at_ i d q2
    refine⟨v,?_,h2⟩
    show some ((σ[i]?).bind id)=some (some v)
    rw[h1];rfl
theorem oQ {α:Type}{ρ:List Addr}{H:Hp}{E:XK}{r:R α}{f:α->AH->R (List D)}{m:List D->AH->R D}{k:D->AH->List Addr->Hp->Prop} (p:PostG K mg ρ H E k ((noX (r.bind f)).bind m)):
 PostG K mg ρ H E0 (λa h1 ρ' H'=>PostG K mg ρ' H' E k ((noX (f a h1)).bind m)) r:=by
 cases r with
 | ok a h1=>exact λρ1 H1 l1 w1=>PostG.mono l1 p
 | exc c h1=>exact p.elim
 | stuck=>exact p.elim
theorem tL {sub:List (Option Nat)} (σ:St) (H:Hp) (Q:VK) (q:rdE K mg ES (eLC I sub g cf F) σ H Q):lH (rdI K mg ES I) sub (rdG K mg (λ_=>E0) g) (rdT K mg (λ_=>E0) cf) (rdE K mg (λ_=>E0) F) σ H Q:=by
 obtain⟨ρ,h,ae,w,re,p⟩:=q
 refine⟨ρ,h,ae,w,re,p.bind.imp λit h1 ρ1 H1 l1 w1 p1 J hJ=>?_⟩
 have re1:=CH (re.mono l1) sub
 refine⟨λi m ys σ2 H2=>m=it.items.length - i/\i<=it.items.length/\∃ ρ2 h2 ae2 acc,Le ρ1 H1 ρ2 H2/\Wd K mg ρ2 h2 H2/\RelE K mg ρ2 H2 ae2 σ2/\RelDs K mg ρ2 H2 acc ys/\
  PostG K mg ρ2 H2 (ES σ) (λd _ ρ' H'=>∀ v,RelD K mg ρ' H' d v->Q v H') ((noX (lcL it.guard g cf F (it.items.drop i) acc ae2 h2)).bind eV),
  ⟨_,rfl,Nat.zero_le _,ρ1,h1,lV sub ae,[],Le.refl,w1,re1,.nil,p1⟩,?_⟩
 rintro i m ys σ2 H2 ⟨rfl,hi',ρ2,h2,ae2,acc,l2,w2,re2,rs,p2⟩
 by_cases hlt:i < it.items.length
 ·have hd:it.items.drop i=it.items[i] :: it.items.drop (i + 1):=List.drop_eq_getElem_cons hlt
  rw[hd] at p2
  unfold lcL at p2
  split at p2
  ·rename_i hG
   obtain⟨st,_⟩:=hJ.step l2 w2 hG.1
   obtain⟨go,yl⟩:=st i it.items[i] (List.getElem?_eq_getElem hlt)
   refine .inr ⟨go,by rw[<- rs.len];exact hG.2,λys' σ' H'=>∃ ρ3 h3 ae3 acc3,Le ρ1 H1 ρ3 H'/\Wd K mg ρ3 h3 H'/\RelE K mg ρ3 H' ae3 σ'/\RelDs K mg ρ3 H' acc3 ys'/\
    PostG K mg ρ3 H' (ES σ) (λd _ ρ' H'=>∀ v,RelD K mg ρ' H' d v->Q v H') ((noX (lcL it.guard g cf F (it.items.drop (i + 1)) acc3 ae3 h3)).bind eV),
    λys' σ' H' ⟨ρ3,h3,ae3,acc3,q⟩=>⟨_,by omega,rfl,hlt,ρ3,h3,ae3,acc3,q⟩,λx H' hy=>?_⟩
   obtain⟨ly,wy,rx⟩:=yl x H' hy
   refine⟨ρ2,h2,ae2,_,wy,re2.mono ly,rx,(oQ (PostG.mono ly p2)).imp λae3 h3 ρ3 H3 l3 w3 p3 σ3 re3=>⟨ρ3,h3,ae3,w3,re3,(oQ p3).imp λb h4 ρ4 H4 l4 w4 p4=>?_⟩⟩
   cases b with
   | true=>exact⟨ρ4,h4,ae3,w4,re3.mono l4,(oQ p4).imp λy h5 ρ5 H5 l5 w5 p5 v rv=>⟨ρ5,h5,ae3,acc++[y],(((l2.trans ly).trans l3).trans l4).trans l5,w5,(re3.mono l4).mono l5,((((rs.mono ly).mono l3).mono l4).mono l5).append (.cons rv .nil),p5⟩⟩
   | false=>exact⟨ρ4,h4,ae3,acc,((l2.trans ly).trans l3).trans l4,w4,re3.mono l4,((rs.mono ly).mono l3).mono l4,p4⟩
  ·exact p2.elim
 ·have hi2:i=it.items.length:=by omega
  subst hi2
  rw[List.drop_length] at p2
  unfold lcL at p2
  split at p2
  ·rename_i hG
   refine .inl ⟨(hJ.step l2 w2 hG).2,?_⟩
   have p3:PostG K mg ρ2 H2 (ES σ) (λd _ ρ' H'=>∀ v,RelD K mg ρ' H' d v->Q v H') (eV acc h2):=p2
   unfold eV at p3
   split at p3
   ·rename_i hl
    exact⟨by rw[<- rs.len];exact hl,λq hq=>f9 w2 rs hq p3⟩
   ·exact p3.elim
  ·exact p2.elim
theorem La {scope:Scope} (M:List Str) (kn:List (Str×NameKind)) (N:List Str) (sub:List (Option Nat))
 (hc:X.calm=true) (hi:DI K mg X ES tg al I)
 (hg:∀ cl C s₂ H fp,DG K mg (aS X N scope cl C s₂ H fp) (λ_=>E0) tg g) (he:∀ cl C s₂ H fp,DE K mg (aS X N scope cl C s₂ H fp) (λ_=>E0) lv F)
 (hM:X.N=M:=by rfl) (hkn:X.env.scope.names=kn:=by rfl) (io:ft M scope.names sub N=true:=by decide)
 (hk:scope.kind=.function:=by rfl) (hnc:∀ x ∈ scope.names,x.2 ≠ .cell:=by decide) (bi:∀ x ∈ scope.names,x.2=.local->scope.names.lookup x.1=some .local:=by decide)
 (tt:iB kn scope.names=true:=by decide)
 (hsl:sub.length=N.length:=by rfl) (hs:∀ x,foldedSetIterable al X.env x=pure x:=by intro _;rfl):
 DE K mg X ES (.ListComp lv [⟨tg,al,[],0⟩] scope pos) (eLC I sub g tY F):=
 PE.imp (LB M kn N sub hc hi hg he hM hkn io hk hnc bi tt hsl hs) λσ H Q q=>by
  have:=tL (cf:=tY) σ H Q q
  obtain⟨ρ,h,ae,w,re,p⟩:=this
  refine⟨ρ,h,ae,w,re,p.imp λit h1 ρ1 H1 l1 w1 k J hJ=>?_⟩
  obtain⟨W,w0,tn⟩:=k J hJ
  refine⟨W,w0,λi m ys σ2 H2 hW=>?_⟩
  rcases tn i m ys σ2 H2 hW with z | ⟨go,hl,Nx,hN,st⟩
  ·exact .inl z
  ·refine .inr ⟨go,hl,Nx,hN,λx H' hy=>?_⟩
   obtain⟨ρ3,h3,ae3,d3,w3,re3,rd3,p3⟩:=st x H' hy
   refine⟨ρ3,h3,ae3,d3,w3,re3,rd3,p3.imp λae4 h4 ρ4 H4 l4 w4 k4 σ4 re4=>?_⟩
   obtain⟨ρ5,h5,ae5,w5,re5,p5⟩:=k4 σ4 re4
   exact p5 ρ5 _ Le.refl w5
theorem FI {scope:Scope} (M:List Str) (kn:List (Str×NameKind)) (N:List Str) (sub:List (Option Nat))
 (hc:X.calm=true) (hi:DI K mg X ES tg al I)
 (hg:∀ cl C s₂ H fp,DG K mg (aS X N scope cl C s₂ H fp) (λ_=>E0) tg g) (ht:∀ cl C s₂ H fp,DT K mg (aS X N scope cl C s₂ H fp) (λ_=>E0) c cf) (he:∀ cl C s₂ H fp,DE K mg (aS X N scope cl C s₂ H fp) (λ_=>E0) lv F)
 (hM:X.N=M:=by rfl) (hkn:X.env.scope.names=kn:=by rfl) (io:ft M scope.names sub N=true:=by decide)
 (hk:scope.kind=.function:=by rfl) (hnc:∀ x ∈ scope.names,x.2 ≠ .cell:=by decide) (bi:∀ x ∈ scope.names,x.2=.local->scope.names.lookup x.1=some .local:=by decide)
 (tt:iB kn scope.names=true:=by decide)
 (hsl:sub.length=N.length:=by rfl) (hs:∀ x,foldedSetIterable al X.env x=pure x:=by intro _;rfl):
 DE K mg X ES (.ListComp lv [⟨tg,al,[c],0⟩] scope pos) (eLC I sub g cf F):=
 PE.imp (FZ M kn N sub hc hi hg ht he hM hkn io hk hnc bi tt hsl hs) λσ H Q q=>tL σ H Q q
theorem Ij {sub:List (Option Nat)} (σ:St) (H:Hp) (Q:VK) (q:rdE K mg ES (eLC I sub g tY F) σ H Q):lH (rdI K mg ES I) sub (rdG K mg (λ_=>E0) g) BN (rdE K mg (λ_=>E0) F) σ H Q:=by
 have:=tL (cf:=tY) σ H Q q
 obtain⟨ρ,h,ae,w,re,p⟩:=this
 refine⟨ρ,h,ae,w,re,p.imp λit h1 ρ1 H1 l1 w1 k J hJ=>?_⟩
 obtain⟨W,w0,tn⟩:=k J hJ
 refine⟨W,w0,λi m ys σ2 H2 hW=>?_⟩
 rcases tn i m ys σ2 H2 hW with z | ⟨go,hl,Nx,hN,st⟩
 ·exact .inl z
 ·refine .inr ⟨go,hl,Nx,hN,λx H' hy=>?_⟩
  obtain⟨ρ3,h3,ae3,d3,w3,re3,rd3,p3⟩:=st x H' hy
  refine⟨ρ3,h3,ae3,d3,w3,re3,rd3,p3.imp λae4 h4 ρ4 H4 l4 w4 k4 σ4 re4=>?_⟩
  obtain⟨ρ5,h5,ae5,w5,re5,p5⟩:=k4 σ4 re4
  exact p5 ρ5 _ Le.refl w5
theorem xv {t:TE}{i:Nat} (ht:∀ σ H Q,rdE K mg ES F σ H Q->t σ H Q) (De:Ends) (σ:St) (H:Hp) (q:rdS K mg ES (jH F (gN i)) De σ H):vn t (pY i) De σ H:=by
 obtain⟨ρ,h,ae,w,re,p⟩:=q
 exact ht σ H _ ⟨ρ,h,ae,w,re,cU p re λd h1 ρ1 H1 l1 w1 re1 p1 v rv=>jh p1 w1 (re1.set i rv)⟩
theorem KS {scope:Scope}{px spos:Pos}{iT:Nat}{xT:Str} (M:List Str) (kn:List (Str×NameKind)) (N:List Str) (sub:List (Option Nat))
 (hc:X.calm=true) (hN:X.N.Nodup) (hix:X.N[iT]?=some xT) (hxl:Loc X.env.scope xT) (hi:DI K mg X ES tg al I)
 (hg:∀ cl C s₂ H fp,DG K mg (aS X N scope cl C s₂ H fp) (λ_=>E0) tg g) (he:∀ cl C s₂ H fp,DE K mg (aS X N scope cl C s₂ H fp) (λ_=>E0) lv F)
 (hsw:swapsWith (.ListComp lv [⟨tg,al,[],0⟩] scope pos) (some (.Name xT px)) spos.line X.env=pure true:=by rfl)
 (hM:X.N=M:=by rfl) (hkn:X.env.scope.names=kn:=by rfl) (io:ft M scope.names sub N=true:=by decide)
 (hk:scope.kind=.function:=by rfl) (hnc:∀ x ∈ scope.names,x.2 ≠ .cell:=by decide) (bi:∀ x ∈ scope.names,x.2=.local->scope.names.lookup x.1=some .local:=by decide)
 (tt:iB kn scope.names=true:=by decide)
 (hsl:sub.length=N.length:=by rfl) (hs:∀ x,foldedSetIterable al X.env x=pure x:=by intro _;rfl) (hf:X.fn xT=true\/X.env.scope.names.lookup xT=some .local:=by first | exact .inl rfl | exact .inr rfl | assumption):
 DS K mg X ES (.Assign [.Name xT px] (.ListComp lv [⟨tg,al,[],0⟩] scope pos) spos) (jH (eLC I sub g tY F) (gN iT)):=
 PS.imp (Kh M kn N sub hc hN hix hxl hi hg he hsw hM hkn io hk hnc bi tt hsl hs hf) (xv Ij)
theorem Fq {scope:Scope}{px spos:Pos}{iT:Nat}{xT:Str} (M:List Str) (kn:List (Str×NameKind)) (N:List Str) (sub:List (Option Nat))
 (hc:X.calm=true) (hN:X.N.Nodup) (hix:X.N[iT]?=some xT) (hxl:Loc X.env.scope xT) (hi:DI K mg X ES tg al I)
 (hg:∀ cl C s₂ H fp,DG K mg (aS X N scope cl C s₂ H fp) (λ_=>E0) tg g) (ht:∀ cl C s₂ H fp,DT K mg (aS X N scope cl C s₂ H fp) (λ_=>E0) c cf) (he:∀ cl C s₂ H fp,DE K mg (aS X N scope cl C s₂ H fp) (λ_=>E0) lv F)
 (hsw:swapsWith (.ListComp lv [⟨tg,al,[c],0⟩] scope pos) (some (.Name xT px)) spos.line X.env=pure true:=by rfl)
 (hM:X.N=M:=by rfl) (hkn:X.env.scope.names=kn:=by rfl) (io:ft M scope.names sub N=true:=by decide)
 (hk:scope.kind=.function:=by rfl) (hnc:∀ x ∈ scope.names,x.2 ≠ .cell:=by decide) (bi:∀ x ∈ scope.names,x.2=.local->scope.names.lookup x.1=some .local:=by decide)
 (tt:iB kn scope.names=true:=by decide)
 (hsl:sub.length=N.length:=by rfl) (hs:∀ x,foldedSetIterable al X.env x=pure x:=by intro _;rfl) (hf:X.fn xT=true\/X.env.scope.names.lookup xT=some .local:=by first | exact .inl rfl | exact .inr rfl | assumption):
 DS K mg X ES (.Assign [.Name xT px] (.ListComp lv [⟨tg,al,[c],0⟩] scope pos) spos) (jH (eLC I sub g cf F) (gN iT)):=
 PS.imp (AB hc hN hix hxl hi hk hnc bi (by subst hkn;exact nA tt) hsl (by subst hM;exact mj io) hg (λcl C s₂ H fp=>xK (ht cl C s₂ H fp)) he hsw hs hf) (xv tL)
end
def whN (c:MT) (B:MS):Nat->MS
 | 0,_,_=>.stuck
 | k + 1,ae,h=>(c ae h).toS ae λb h1=>if b=true then (B ae h1).loop (whN c B k) else .nx ae h1
open Classical in
def sWh (c:MT) (B:MS):MS:=λae h=>if q:∃ k,whN c B k ae h ≠ .stuck then whN c B q.choose ae h else .stuck
theorem oh {c:MT}{B:MS}:∀ {k:Nat}{ae:AE}{h:AH},whN c B k ae h ≠ .stuck->whN c B (k + 1) ae h=whN c B k ae h
 | 0,_,_,q=>absurd rfl q
 |
  k + 1,ae,h,q=>by
  have e1:whN c B (k + 2) ae h=(c ae h).toS ae λb h1=>if b=true then (B ae h1).loop (whN c B (k + 1)) else .nx ae h1:=rfl
  have e2:whN c B (k + 1) ae h=(c ae h).toS ae λb h1=>if b=true then (B ae h1).loop (whN c B k) else .nx ae h1:=rfl
  rw[e2] at q
  rw[e1,e2]
  cases r:c ae h with
  | exc _ _=>rfl
  | stuck=>rfl
  |
   ok b h1=>
   rw[r] at q
   cases b with
   | false=>rfl
   |
    true=>
    have q':(B ae h1).loop (whN c B k) ≠ .stuck:=q
    show (B ae h1).loop (whN c B (k + 1))=(B ae h1).loop (whN c B k)
    cases s:B ae h1 with
    | nx a2 h2=>rw[s] at q';exact oh q'
    | ct a2 h2=>rw[s] at q';exact oh q'
    | _=>rfl
theorem zS {c:MT}{B:MS}{k j:Nat}{ae:AE}{h:AH} (q:whN c B k ae h ≠ .stuck) (hj:k<=j):whN c B j ae h=whN c B k ae h:=by
 induction hj with
 | refl=>rfl
 | step _ ih=>rw[oh (by rw[ih];exact q),ih]
theorem Ac {c:MT}{B:MS}{k:Nat}{ae:AE}{h:AH} (q:whN c B k ae h ≠ .stuck):sWh c B ae h=whN c B k ae h:=by
 have hq:∃ k,whN c B k ae h ≠ .stuck:=⟨k,q⟩
 unfold sWh
 rw[dif_pos hq]
 rcases Nat.le_total hq.choose k with z | z
 ·exact (zS hq.choose_spec z).symm
 ·exact zS q z
section
variable {K:W.Frag}{mg:Str->Option Value}{X:Cx}{ES:St->XK}{c:Expr}{cf:MT}{U:MS}{sts:List Stmt}{pos:Pos}
theorem By (hp:PassesOwn (model X.prog X.w) X.A X.env X.xe) (hc:DT K mg X ES c cf) (hb:DSs K mg X ES sts U):DS K mg X ES (.While c sts [] pos) (sWh cf U):=by
 refine PS.imp (Dy hp hc hb) λDe σ H q_=>q_.el λρ h ae w re p=>?_
 have hx:∃ k,whN cf U k ae h ≠ .stuck:=Classical.byContradiction λz=>by
  unfold sWh at p
  rw[dif_neg z] at p
  exact p.elim
 obtain⟨k,hk⟩:=hx
 rw[Ac hk] at p
 refine⟨λm σ2 H2=>∃ ρ2 h2 ae2,Wd K mg ρ2 h2 H2/\RelE K mg ρ2 H2 ae2 σ2/\PostS K mg ρ2 H2 De ES (whN cf U m ae2 h2),⟨k,ρ,h,ae,w,re,p⟩,?_⟩
 rintro m σ2 H2 ⟨ρ2,h2,ae2,w2,re2,p2⟩
 cases m with
 | zero=>exact p2.elim
 |
  succ m=>
  refine⟨ρ2,h2,ae2,w2,re2,cU p2 re2 λb h3 ρ3 H3 l3 w3 re3 p3=>?_⟩
  cases b with
  | true=>exact⟨λσ' H'=>∃ ρ4 h4 ae4,Wd K mg ρ4 h4 H'/\RelE K mg ρ4 H' ae4 σ'/\PostS K mg ρ4 H' De ES (whN cf U m ae4 h4),λσ' H' q=>⟨m,Nat.lt_succ_self _,q⟩,ρ3,h3,ae2,w3,re3,ub p3 λae4 h4 ρ4 H4 σ4 l4 w4 re4 p4=>⟨ρ4,h4,ae4,w4,re4,p4⟩⟩
  | false=>exact jh p3 w3 re3
end
end L2
namespace L2
open PySem PySem.Spec PyProof.Rows
def uw:Fn:=λds h=>match ds with
 | [d]=>match jt h d with
  | some xs=>.ok (.int xs.length) h
  | none=>match d with
   | .str z=>if z.length<=16777216 then .ok (.int z.length) h else .stuck
   | _=>.stuck
 | _=>.stuck
def ya:Fn:=λds h=>match ds with
 | [.int i]=>.ok (.int (if i < 0 then -i else i)) h
 | _=>.stuck
def iG:List D->Option (List Bool)
 | []=>some []
 | .bl b :: r=>(iG r).map (b :: ·)
 | _=>none
def iM:List D->Option (List Int)
 | []=>some []
 | .int b :: r=>(iM r).map (b :: ·)
 | _=>none
theorem n6:∀ {ds:List D}{bs:List Bool},iG ds=some bs->ds=bs.map D.bl
 | [],bs,e=>by cases e;rfl
 |
  .bl b :: r,bs,e=>by
  have e':(iG r).map (b :: ·)=some bs:=e
  cases q:iG r with
  | none=>rw[q] at e';cases e'
  | some z=>rw[q] at e';cases e';rw[n6 q];rfl
theorem rZ:∀ {ds:List D}{bs:List Int},iM ds=some bs->ds=bs.map D.int
 | [],bs,e=>by cases e;rfl
 |
  .int b :: r,bs,e=>by
  have e':(iM r).map (b :: ·)=some bs:=e
  cases q:iM r with
  | none=>rw[q] at e';cases e'
  | some z=>rw[q] at e';cases e';rw[rZ q];rfl
def ue:Fn:=λds h=>match ds with
 | [.ref n]=>match (bC h n).bind iG with
  | some bs=>.ok (.bl (bs.all id)) h
  | none=>.stuck
 | _=>.stuck
def vV:Fn:=λds h=>match ds with
 | [.ref n]=>match (bC h n).bind iM with
  | some ns=>.ok (.int ns.sum) h
  | none=>.stuck
 | _=>.stuck
def p7:Fn:=λds h=>match ds with
 | [d]=>match jt h d with
  | some xs=>.ok (.ref h.length) (h++[.lst xs])
  | none=>.stuck
 | _=>.stuck
section
variable {K:W.Frag}{mg:Str->Option Value}{X:Cx}
theorem IF:cW K mg (λxs H Q=>(∃ p ys,xs=[.ref p]/\(SqL K H p ys\/SqT K H p ys)/\Q (.int ys.length) H)\/(∃ z,xs=[.str z]/\z.length<=sizeLine/\Q (.int z.length) H)) uw:=λρ h H ds vs Q E w rs p=>by
 unfold uw at p
 split at p
 ·cases
   rs with
  |
   cons r rs=>
   cases rs
   split at p
   ·rename_i xs e
    obtain⟨pa,vs,rfl,hq,rs⟩:=iC w r e
    exact .inl ⟨_,_,rfl,hq,by rw[<- rs.len];exact aP w (.int _) p⟩
   ·split at p
    ·cases r
     split at p
     ·rename_i hl;exact .inr ⟨_,rfl,hl,aP w (.int _) p⟩
     ·exact p.elim
    ·exact p.elim
 ·exact p.elim
theorem dg (h:X.K=K):CallR X (.builtin "len") (λxs H Q=>(∃ p ys,xs=[.ref p]/\(SqL K H p ys\/SqT K H p ys)/\Q (.int ys.length) H)\/(∃ z,xs=[.str z]/\z.length<=sizeLine/\Q (.int z.length) H)):=by subst h;exact v9.or uk
theorem Ii:cW K mg (λxs H Q=>∃ i,xs=[.int i]/\Q (.int (if i < 0 then -i else i)) H) ya:=λρ h H ds vs Q E w rs p=>by
 unfold ya at p
 split at p
 ·cases rs with
  | cons r rs=>cases r;cases rs;exact⟨_,rfl,aP w (.int _) p⟩
 ·exact p.elim
theorem J7:cW K mg (λxs H Q=>∃ (a:Addr) (bs:List Bool),xs=[.ref a]/\SqL K H a (bs.map V.bl)/\Q (.bl (bs.all id)) H) ue:=λρ h H ds vs Q E w rs p=>by
 unfold ue at p
 split at p
 ·cases
   rs with
  |
   cons r rs=>
   cases r with
   |
    ref ea=>
    cases rs
    split at p
    ·rename_i bs e
     obtain⟨xs,q,e2⟩:=Option.bind_eq_some_iff.mp e
     ·obtain⟨vs,h1,h2⟩:=cE w ea q
      rw[n6 e2] at h2
      rw[h2.bls] at h1
      exact⟨_,bs,rfl,h1,aP w (.bl _) p⟩
    ·exact p.elim
 ·exact p.elim
theorem Kd:cW K mg (λxs H Q=>∃ (a:Addr) (ns:List Int),xs=[.ref a]/\SqL K H a (ns.map V.int)/\Q (.int ns.sum) H) vV:=λρ h H ds vs Q E w rs p=>by
 unfold vV at p
 split at p
 ·cases
   rs with
  |
   cons r rs=>
   cases r with
   |
    ref ea=>
    cases rs
    split at p
    ·rename_i bs e
     obtain⟨xs,q,e2⟩:=Option.bind_eq_some_iff.mp e
     ·obtain⟨vs,h1,h2⟩:=cE w ea q
      rw[rZ e2] at h2
      rw[h2.ints] at h1
      exact⟨_,bs,rfl,h1,aP w (.int _) p⟩
    ·exact p.elim
 ·exact p.elim
theorem Er:cW K mg (λxs H Q=>∃ p ys,xs=[.ref p]/\(SqL K H p ys\/SqT K H p ys)/\∀ l,H l=none->Q (.ref l) (upd H l (.lst ys))) p7:=λρ h H ds vs Q E w rs p=>by
 unfold p7 at p
 split at p
 ·cases rs with
  |
   cons r rs=>
   cases rs
   split at p
   ·rename_i xs e
    obtain⟨pa,vs,rfl,hq,rs⟩:=iC w r e
    exact⟨_,_,rfl,hq,λl hl=>f9 w rs hl p⟩
   ·exact p.elim
 ·exact p.elim
theorem vj (h:X.K=K):CallR X (.type "list") (λxs H Q=>∃ p ys,xs=[.ref p]/\(SqL K H p ys\/SqT K H p ys)/\∀ l,H l=none->Q (.ref l) (upd H l (.lst ys))):=by subst h;exact uO
end
inductive Cl where
 | b (n:String) | o (x:Str)
 deriving DecidableEq
def tyD (h:AH):D->Option Cl
 | .non=>some (.b "NoneType")
 | .bl _=>some (.b "bool")
 | .int _=>some (.b "int")
 | .str _=>some (.b "str")
 | .tup _=>some (.b "tuple")
 | .exc x=>some (.o x)
 | .ref n=>match h[n]? with
  | some (.lst _)=>some (.b "list")
  | some (.fz _)=>some (.b "list")
  | some (.dct _)=>some (.b "dict")
  | _=>none
 | _=>none
def clD:D->Option Cl
 | .ty n=>some (.b n)
 | .glb x=>some (.o x)
 | _=>none
def ClV (mg:Str->Option Value):Cl->Value->Prop
 | .b n,v=>v=.type n
 | .o x,v=>∃ a,v=.ref a/\mg x=some (.ref a)
abbrev gx:=List (Cl×Cl×Bool)
structure KitsOk (K:W.Frag) (mg:Str->Option Value) (kt:gx):Prop where
 one:∀ p ∈ kt,∀ t v,ClV mg p.1 t->ClV mg p.2.1 v->W.kitOne K t v=some p.2.2
 xc:∀ p ∈ kt,∀ x C,p.1=.o x->mg x=some (.ref C)->XCls K C
def kit (kt:gx) (t c:Cl):Option Bool:=(kt.find? λp=>decide (p.1=t) && decide (p.2.1=c)).map (·.2.2)
def ip (kt:gx) (t:Cl):List Cl->Option Bool
 | []=>some false
 | c :: r=>match kit kt t c with
  | some true=>some true
  | some false=>ip kt t r
  | none=>none
def vY (kt:gx):Fn:=λds h=>match ds with
 | [d,c]=>match tyD h d with
  | some t=>match c with
   | .tup cs=>match cs.mapM clD with
    | some (c0 :: cr)=>match ip kt t (c0 :: cr),kit kt t c0 with
     | some b,some _=>.ok (.bl b) h
     | _,_=>.stuck
    | _=>.stuck
   | c=>match clD c with
    | some cl=>match kit kt t cl with
     | some b=>.ok (.bl b) h
     | none=>.stuck
    | none=>.stuck
  | none=>.stuck
 | _=>.stuck
theorem qp {kt:gx}{t c:Cl}{b:Bool} (e:kit kt t c=some b):(t,c,b) ∈ kt:=by
 unfold kit at e
 cases q:kt.find? (λp=>decide (p.1=t) && decide (p.2.1=c)) with
 | none=>rw[q] at e;cases e
 |
  some p=>
  rw[q] at e
  have h1:=List.find?_some q
  have h2:=List.mem_of_find?_eq_some q
  simp only[Bool.and_eq_true,decide_eq_true_eq] at h1
  obtain⟨p1,p2,p3⟩:=p
  have e3:p3=b:=Option.some.inj e
  obtain⟨rfl,rfl⟩:=h1
  subst e3
  exact h2
section
variable {K:W.Frag}{mg:Str->Option Value}{X:Cx}{ρ:List Addr}{H:Hp}{h:AH}
theorem xV {kt:gx} (ok:KitsOk K mg kt) (w:Wd K mg ρ h H) {d:D}{v:V}{t c:Cl}{b:Bool} (r:RelD K mg ρ H d v) (e:tyD h d=some t) (k:kit kt t c=some b):∃ tv,TyX K H v tv/\ClV mg t tv:=by
 cases r with
 | non=>cases e;exact⟨_,.of .non,rfl⟩
 | bl=>cases e;exact⟨_,.of (.bl _),rfl⟩
 | int=>cases e;exact⟨_,.of (.int _),rfl⟩
 | str=>cases e;exact⟨_,.of (.str _),rfl⟩
 | tup q rs=>cases e;exact⟨_,.sqT q,rfl⟩
 |
  exc m ex=>
  cases e
  exact⟨_,.exc ex (ok.xc _ (qp k) _ _ rfl m),_,rfl,m⟩
 |
  ref ea=>
  unfold tyD at e
  dsimp only at e
  split at e
  ·rename_i e1;cases e;obtain⟨vs,h1,h2⟩:=w.ob _ _ _ ea e1;exact⟨_,.of (.lst h1),rfl⟩
  ·rename_i e1;cases e;obtain⟨o,vs,h1,h2⟩:=w.ob _ _ _ ea e1;exact⟨_,.of (.frz h1),rfl⟩
  ·rename_i e1;cases e;obtain⟨ws,h1,_⟩:=w.ob _ _ _ ea e1;exact⟨_,.of (.dK h1),rfl⟩
  ·cases e
 | _=>cases e
theorem xx {d:D}{v:V}{c:Cl} (r:RelD K mg ρ H d v) (e:clD d=some c):∃ cv,gQ v=some cv/\ClV mg c cv:=by
 cases r with
 | ty n=>cases e;exact⟨_,rfl,rfl⟩
 | glb m=>cases e;exact⟨_,rfl,_,rfl,m⟩
 | _=>cases e
theorem CM:∀ {ds:List D}{vs:List V}{cs:List Cl},RelDs K mg ρ H ds vs->ds.mapM clD=some cs->∃ cvs,vs.mapM gQ=some cvs/\Paired (ClV mg) cs cvs:=by
 intro ds
 induction ds with
 |
  nil=>
  intro vs cs r e
  cases r
  have e':some ([]:List Cl)=some cs:=e
  cases e';exact⟨[],rfl,.nil⟩
 |
  cons d ds ih=>
  intro vs cs r e
  cases r with
  |
   cons r rr=>
   rw[List.mapM_cons] at e
   cases q:clD d with
   | none=>rw[q] at e;cases e
   |
    some c=>
    rw[q] at e
    cases q2:ds.mapM clD with
    | none=>rw[q2] at e;cases e
    |
     some cs'=>
     rw[q2] at e
     have e':some (c :: cs')=some cs:=e
     cases e'
     obtain⟨cv,h1,h2⟩:=xx r q
     obtain⟨cvs,h3,h4⟩:=ih rr q2
     refine⟨cv :: cvs,?_,.cons h2 h4⟩
     rw[List.mapM_cons,h1,h3];rfl
theorem A7 {kt:gx} (ok:KitsOk K mg kt) {t:Cl}{tv:Value} (ht:ClV mg t tv):∀ {cs:List Cl}{cvs:List Value}{b:Bool},Paired (ClV mg) cs cvs->ip kt t cs=some b->W.kitAny K tv cvs=some b:=by
 intro cs
 induction cs with
 |
  nil=>
  intro cvs b r e
  cases r
  cases e;rfl
 |
  cons c cs ih=>
  intro cvs b r e
  cases r with
  |
   cons r rr=>
   unfold ip at e
   unfold W.kitAny
   cases q:kit kt t c with
   | none=>rw[q] at e;cases e
   |
    some z=>
    rw[q] at e
    rw[ok.one _ (qp q) _ _ ht r]
    cases z with
    | true=>exact e
    | false=>exact ih rr e
theorem AL:CallR X (.builtin "isinstance") (λxs H Q=>∃ x tp cs t vs b,xs=[x,.ref tp]/\SqT X.K H tp cs/\TyX X.K H x t/\cs.mapM gQ=some vs/\W.kitAny X.K t vs=some b/\Q (.bl b) H):=by
 intro pins s σ H xs us Q I r h
 obtain⟨x,tp,cs,t,vs,b,rfl,ht,ty,hc,hk,q⟩:=h
 obtain⟨u,w',rfl,rx,rc⟩:=DQ r
 cases rc
 obtain⟨its,rv,⟨o,e,c,n,d⟩,_⟩:=I.tuple ht
 obtain rfl:=sj hc rv
 obtain⟨Hh,Z,p,hne⟩:=xw I rx ty
 obtain⟨oc,od,odt,osl⟩:=o
 have c':oc=.type "tuple" := c
 have d':odt=.seq its.toArray n:=d
 subst c' d'
 exact W.kia_tup Z I.kIn p e hk hne λtk=>⟨.bl b,H,I.tok _,rfl,q⟩
theorem dZ (hK:X.K=K):CallR X (.builtin "isinstance") (λxs H Q=>(∃ x c t v b,xs=[x,c]/\TyX K H x t/\gQ c=some v/\W.kitOne K t v=some b/\Q (.bl b) H)\/
 (∃ x tp cs t vs b,xs=[x,.ref tp]/\SqT K H tp cs/\TyX K H x t/\cs.mapM gQ=some vs/\W.kitAny K t vs=some b/\Q (.bl b) H)):=by subst hK;exact Cc.or AL
theorem J5 {kt:gx} (ok:KitsOk K mg kt):cW K mg (λxs H Q=>(∃ x c t v b,xs=[x,c]/\TyX K H x t/\gQ c=some v/\W.kitOne K t v=some b/\Q (.bl b) H)\/
 (∃ x tp cs t vs b,xs=[x,.ref tp]/\SqT K H tp cs/\TyX K H x t/\cs.mapM gQ=some vs/\W.kitAny K t vs=some b/\Q (.bl b) H)) (vY kt):=λρ h H ds vs Q E w rs p=>by
 unfold vY at p
 split at p
 ·cases
   rs with
  |
   cons r rs=>
   cases rs with
   |
    cons r2 rs=>
    cases rs
    split at p
    ·rename_i t e1
     split at p
     ·split
       at p
      ·rename_i cs c0 cr e2
       split at p
       ·rename_i b b' e3 e4
        cases r2 with
        |
         tup q rs2=>
         obtain⟨tv,h1,h2⟩:=xV ok w r e1 e4
         obtain⟨cvs,h3,h4⟩:=CM rs2 e2
         exact .inr ⟨_,_,_,tv,cvs,b,rfl,q,h1,h3,A7 ok h2 h4 e3,aP w (.bl _) p⟩
       ·exact p.elim
      ·exact p.elim
     ·split at p
      ·rename_i cl e2
       split at p
       ·rename_i b e3
        obtain⟨tv,h1,h2⟩:=xV ok w r e1 e3
        obtain⟨cv,h3,h4⟩:=xx r2 e2
        exact .inl ⟨_,_,tv,cv,b,rfl,h1,h3,ok.one _ (qp e3) _ _ h2 h4,aP w (.bl _) p⟩
       ·exact p.elim
      ·exact p.elim
    ·exact p.elim
 ·exact p.elim
end
end L2
namespace L2
open PySem PySem.Spec PyProof.Rows
def MtD (K:W.Frag) (mg:Str->Option Value) (r:V->List V->Hp->VK->Prop) (g:D->List D->AH->R D):Prop:=∀ ρ h H dx ds x vs Q E,Wd K mg ρ h H->RelD K mg ρ H dx x->RelDs K mg ρ H ds vs->eT K mg ρ H Q E (g dx ds h)->r x vs H Q
def ny (h:AH):D->Bool
 | .ref n=>(bC h n).isSome
 | _=>false
def eM (g:D->List D->AH->R D) (F:ME) (A:MA):ME:=λae h=>(F ae h).bind λx h1=>if ny h1 x=true then (A ae h1).bind λds h2=>g x ds h2 else .stuck
def eM0 (g:D->List D->AH->R D) (F:ME):ME:=λae h=>(F ae h).bind λx h1=>if ny h1 x=true then g x [] h1 else .stuck
section
variable {K:W.Frag}{mg:Str->Option Value}{X:Cx}{ES:St->XK}{o e:Expr}{es:List Expr}{F G:ME}{A:MA}{pos:Pos}
theorem sA {ρ:List Addr}{H:Hp}{h:AH}{d:D}{v:V} (w:Wd K mg ρ h H) (r:RelD K mg ρ H d v) (q:ny h d=true):tyV K "list" v H:=by
 cases r with
 |
  ref ea=>
  obtain⟨xs,e⟩:=Option.isSome_iff_exists.mp q
  obtain⟨vs,h1,_⟩:=cE w ea e
  exact .inl ⟨rfl,vs,h1⟩
 | _=>cases q
theorem de_m {name:Str}{id:String}{apos cpos:Pos}{r:V->List V->Hp->VK->Prop}{g:D->List D->AH->R D} (hK:X.K=K) (slot:Slot "list" name id) (hty:typeOf (.builtin id)=pure (.type "method_descriptor")) (hm:MtM X id r) (hd:MtD K mg r g) (ho:DE K mg X ES o F) (ha:DA K mg X ES (e :: es) A)
 (r_:attributeBase o name X.env (eval o X.env)=eval o X.env:=by rfl)
 (hfew:((backTo cpos (starEach (e :: es) X.env)).all (λx=>!x.1) && (backToKw cpos (keywordEach [] X.env)).all (λx=>x.1.isSome)
  && decide ((e :: es).length + ([]:List Keyword).length + (if ([]:List Keyword).isEmpty then 0 else 1) < 30))=true:=by rfl)
 (p_:(apos.endLine == cpos.line)=true:=by rfl) (hs:starEach (e :: es) X.env=(false,eval e X.env) :: starEach es X.env:=by rfl) (kw:(backTo cpos (starEach es X.env)).any (·.1)=false:=by rfl):
 DE K mg X ES (.Call (.Attribute o name apos) (e :: es) [] cpos) (eM g F A):=by
 subst hK
 refine PE.imp (Ld PySem.F.plainAttrs_list slot hty hm ho ha r_ hfew p_ hs kw) λσ H Q q_=>q_.el λρ h ae w re p=>⟨ρ,h,ae,w,re,p.bind.imp λdx h1 ρ1 H1 l1 w1 p1 x rx=>?_⟩
 split at p1
 ·rename_i hl
  exact⟨sA w1 rx hl,ρ1,h1,ae,w1,re.mono l1,p1.bind.imp λds h2 ρ2 H2 l2 w2 p2 vs rs=>hd ρ2 h2 H2 dx ds x vs Q _ w2 (rx.mono l2) rs p2⟩
 ·exact p1.elim
theorem Lb {name:Str}{id:String}{apos cpos:Pos}{r:V->List V->Hp->VK->Prop}{g:D->List D->AH->R D} (hK:X.K=K) (slot:Slot "list" name id) (hty:typeOf (.builtin id)=pure (.type "method_descriptor")) (hm:MtM X id r) (hd:MtD K mg r g) (ho:DE K mg X ES o F)
 (r_:attributeBase o name X.env (eval o X.env)=eval o X.env:=by rfl) (p_:(apos.endLine == cpos.line)=true:=by rfl):DE K mg X ES (.Call (.Attribute o name apos) [] [] cpos) (eM0 g F):=by
 subst hK
 refine PE.imp (Hw PySem.F.plainAttrs_list slot hty hm ho r_ p_) λσ H Q q_=>q_.el λρ h ae w re p=>⟨ρ,h,ae,w,re,p.bind.imp λdx h1 ρ1 H1 l1 w1 p1 x rx=>?_⟩
 split at p1
 ·rename_i hl
  exact⟨sA w1 rx hl,hd ρ1 h1 H1 dx [] x [] Q _ w1 rx .nil p1⟩
 ·exact p1.elim
end
def nu (h:AH) (d:D) (f:Nat->List D->R D):R D:=match d with
 | .ref n=>match h[n]? with
  | some (.lst xs)=>f n xs
  | _=>.stuck
 | _=>.stuck
def nt:D->List D->AH->R D:=λx ds h=>nu h x λn xs=>match ds with
 | [d]=>if xs.length < 16777216 then .ok .non (h.set n (.lst (xs++[d]))) else .stuck
 | _=>.stuck
def lQ:D->List D->AH->R D:=λx ds h=>nu h x λn xs=>match ds with
 | []=>.ok .non (h.set n (.lst xs.reverse))
 | _=>.stuck
section
variable {K:W.Frag}{mg:Str->Option Value}{X:Cx}{ρ:List Addr}{H:Hp}{h:AH}
theorem sG {Q:VK}{E:XK}{d:D}{v:V}{f:Nat->List D->R D} (w:Wd K mg ρ h H) (r:RelD K mg ρ H d v) (p:eT K mg ρ H Q E (nu h d f)):
 ∃ n xs a vs,d=.ref n/\h[n]?=some (.lst xs)/\ρ[n]?=some a/\v=.ref a/\H a=some (.lst vs)/\RelDs K mg ρ H xs vs/\eT K mg ρ H Q E (f n xs):=by
 unfold nu at p
 split at p
 ·cases r with
  |
   ref ea=>
   split at p
   ·rename_i n xs e
    obtain⟨vs,h1,h2⟩:=w.ob _ _ _ ea e
    exact⟨_,_,_,vs,rfl,e,ea,rfl,h1,h2,p⟩
   ·exact p.elim
 ·exact p.elim
theorem uF {Q:VK}{E:XK}{n:Nat}{a:Addr}{vs ws:List V}{ys:List D}{d:D}{v:V} (w:Wd K mg ρ h H) (ea:ρ[n]?=some a) (e:H a=some (.lst vs)) (rs:RelDs K mg ρ H ys ws) (rd:RelD K mg ρ H d v) (p:eT K mg ρ H Q E (.ok d (h.set n (.lst ys)))):Q v (upd H a (.lst ws)):=by
 have l:Le ρ H ρ (upd H a (.lst ws)):=tD e DM
 exact p ρ _ l (w.write ea e DM ⟨ws,dB,rs.mono l⟩) v (rd.mono l)
theorem Ap:MtD K mg qw nt:=λρ h H dx ds x vs Q E w rx rs p=>by
 obtain⟨n,xs,a,us,rfl,e,ea,rfl,h1,h2,p⟩:=sG w rx p
 split at p
 ·cases rs with
  |
   cons r rs=>
   cases rs
   split at p
   ·rename_i hl
    exact⟨a,us,_,rfl,rfl,h1,by rw[<- h2.len];exact hl,uF w ea h1 (h2.append (.cons r .nil)) .non p⟩
   ·exact p.elim
 ·exact p.elim
theorem xX:MtD K mg oH lQ:=λρ h H dx ds x vs Q E w rx rs p=>by
 obtain⟨n,xs,a,us,rfl,e,ea,rfl,h1,h2,p⟩:=sG w rx p
 split at p
 ·cases rs
  exact⟨a,us,rfl,rfl,h1,uF w ea h1 h2.reverse .non p⟩
 ·exact p.elim
inductive EqsR (K:W.Frag) (H:Hp) (y:V) (pd:PyData):List V->List Bool->Prop where
 | nil:EqsR K H y pd [] []
 | cons {x:V}{px:PyData}{xs:List V}{bs:List Bool} (rx:Rep K H x px) (hx:SeqAt.shaped px=true) (r:EqsR K H y pd xs bs):EqsR K H y pd (x :: xs) (PyData.eqv px pd :: bs)
theorem Room.u100 {k:Nat}{A:Around} (r:Room k A):A.units + 100 < cLine:=by have:=r.un;omega
end
section
variable {K:W.Frag}{mg:Str->Option Value}{X:Cx}{ES:St->XK}{o i:Expr}{F G:ME}{pos:Pos}
theorem JG {t:oT}{f:D->D->D->AH->R Unit} (ho:DE K mg X ES o F) (hi:DE K mg X ES i G) (hs:yq X t) (hd:BX K mg t f)
 (ha:∀ v,assign (.Subscript o i pos) X.env v=(do
  let ov <- holding [v] (eval o X.env)
  let iv <- holding [v,ov] (eval i X.env)
  standAt pos
  holding [v,ov,iv] (setItem ov iv v)
  release [v,ov,iv] []):=by intro _;rfl):DG K mg X ES (.Subscript o i pos) (gS F G f):=
 PG.imp (Jv ho hi hs ha) λv σ H Q q_=>q_.el λρ h ae d w re rd p=>
  ⟨ρ,h,ae,w,re,p.bind.imp λdo_ h1 ρ1 H1 l1 w1 p1 o' ro=>⟨ρ1,h1,ae,w1,re.mono l1,p1.bind.imp λdi h2 ρ2 H2 l2 w2 p2 i' ri=>
   hd ρ2 h2 H2 do_ di d o' i' v _ _ w2 (ro.mono l2) ri ((rd.mono l1).mono l2) (p2.bind.imp λ_ h3 ρ3 H3 l3 w3 p3=>p3 ρ3 H3 Le.refl w3 σ (((re.mono l1).mono l2).mono l3))⟩⟩
end
def cutD (xs:List D) (lo hi:Option Int):List D:=(xs.drop (HT.sIx xs.length 0 lo)).take (HT.sIx xs.length xs.length hi - HT.sIx xs.length 0 lo)
abbrev MO:=AE->AH->R (Option Int)
def yP:MO:=λ_ h=>.ok none h
def yr (F:ME):MO:=λae h=>(F ae h).bind λd h1=>match d with
 | .int i=>.ok (some i) h1
 | _=>.stuck
def gSl (x:D) (lo hi:Option Int) (h:AH):R D:=match x with
 | .tup xs=>if HT.sIx xs.length 0 lo=0/\HT.sIx xs.length xs.length hi=xs.length then .stuck else .ok (.tup (cutD xs lo hi)) h
 | .ref n=>match bC h n with
  | some xs=>.ok (.ref h.length) (h++[.lst (cutD xs lo hi)])
  | none=>.stuck
 | .kl xs=>.ok (.ref h.length) (h++[.lst (cutD xs lo hi)])
 | _=>.stuck
def eSl (F:ME) (L U:MO):ME:=λae h=>(F ae h).bind λx h1=>(L ae h1).bind λlo h2=>(U ae h2).bind λhi h3=>gSl x lo hi h3
section
variable {K:W.Frag}{mg:Str->Option Value}{X:Cx}{ES:St->XK}{e:Expr}{F:ME}{L U:MO}{lo hi:Option Expr}{pos p2:Pos}
def rdO (K:W.Frag) (mg:Str->Option Value) (ES:St->XK) (F:MO):TO:=λσ H Q=>∃ ρ h ae,Wd K mg ρ h H/\RelE K mg ρ H ae σ/\PostG K mg ρ H (ES σ) (λo _ ρ' H'=>Q o H') (F ae h)
def DO (K:W.Frag) (mg:Str->Option Value) (X:Cx) (ES:St->XK) (e:Option Expr) (F:MO):Prop:=PO X e (rdO K mg ES F)
theorem E6:DO K mg X ES none yP:=PO.imp FY λσ H Q ⟨ρ,h,ae,w,re,p⟩=>p ρ H Le.refl w
theorem E9 (he:DE K mg X ES e F):DO K mg X ES (some e) (yr F):=PO.imp (EZ he) λσ H Q ⟨ρ,h,ae,w,re,p⟩=>⟨ρ,h,ae,w,re,p.bind.imp λd h1 ρ1 H1 l1 w1 p1 v rv=>by
 split at p1
 ·cases rv;exact⟨_,rfl,p1 ρ1 H1 Le.refl w1⟩
 ·exact p1.elim⟩
theorem qV {ρ:List Addr}{H:Hp}{xs:List D}{vs:List V} (r:RelDs K mg ρ H xs vs) (lo hi:Option Int):RelDs K mg ρ H (cutD xs lo hi) (mK vs lo hi):=by
 unfold cutD mK
 rw[<- r.len]
 exact (r.drop _).take _
theorem slK (h:X.K=K):SlR X (λx lo hi H Q=>rSlL K x lo hi H Q\/rSlT K x lo hi H Q):=by subst h;exact Gb.or JM
theorem BA (hK:X.K=K) (he:DE K mg X ES e F) (hl:DO K mg X ES lo L) (hu:DO K mg X ES hi U):DE K mg X ES (.Subscript e (.Slice lo hi none p2) pos) (eSl F L U):=
 PE.imp (
  CK (slK hK) he hl hu) λσ H Q q_=>q_.el λρ h ae w re p=>⟨ρ,h,ae,w,re,p.bind.imp λd h1 ρ1 H1 l1 w1 p1 x rx=>⟨ρ1,h1,ae,w1,re.mono l1,p1.bind.imp λlo h2 ρ2 H2 l2 w2 p2=>⟨ρ2,h2,ae,w2,(re.mono l1).mono l2,p2.bind.imp λhi h3 ρ3 H3 l3 w3 p3=>by
  have rx3:=(rx.mono l2).mono l3
  unfold gSl at p3
  split at p3
  ·split at p3
   ·exact p3.elim
   ·rename_i hn
    cases rx3 with
    | tup q rs=>exact .inr ⟨_,_,rfl,q,by rw[<- rs.len];exact hn,λl hl=>oO w3 (qV rs lo hi) hl p3⟩
  ·split at p3
   ·rename_i xs e1
    cases rx3 with
    |
     ref ea=>
     obtain⟨vs,q,rs⟩:=cE w3 ea e1
     exact .inl ⟨_,_,rfl,q,λl hl=>f9 w3 (qV rs lo hi) hl p3⟩
   ·exact p3.elim
  ·cases rx3 with
   | kl q rs=>exact .inl ⟨_,_,rfl,.inr q,λl hl=>f9 w3 (qV rs lo hi) hl p3⟩
  ·exact p3.elim⟩⟩⟩
end
section
variable {K:W.Frag}{mg:Str->Option Value}{X:Cx}{ES:St->XK}{a:Expr}{F:ME}
end
end L2
namespace L2
open PySem PySem.Spec PyProof.Rows
section
variable {X:Cx}{pins pins2 pn:List (Addr×Obj)}{σ:St}{H:Hp}{s:Shared}{xe:Value->Shared->Prop}
end
section
variable {K:W.Frag}{mg:Str->Option Value}{X:Cx}{ES:St->XK}{x n:Str}{C:Addr}{i:Nat}{body suite:List Stmt}{b₀:Stmt}{B U:MS}{np hpos pos:Pos}{mro:List Str}
end
structure Script (h:AH) (d:D) (ns:List Int):Prop where
 form:(∃ n,d=.ref n/\h[n]?=some (.fz (ns.map D.int)))\/d=.kl (ns.map D.int)
theorem lg {K:W.Frag}{mg:Str->Option Value}{ρ:List Addr}{H:Hp}:∀ (ns:List Int),RelDs K mg ρ H (ns.map D.int) (ns.map V.int)
 | []=>.nil
 | _ :: r=>.cons (.int _) (lg r)
theorem CD {P:Program}{w:World}{K:W.Frag}{mg:Str->Option Value}{base:Heap}{x y:Str}{k:Nat}{S:Fn} (C:Callee P w K mg base x k [y] (spD K mg 1 S))
 (hS:∀ (d:D) (h:AH) (ns:List Int),ns.length<=63->Script h d ns->∃ h',S [d] h=.ok (.bl true) h'):Callee P w K mg base x k [y] (λvs H Q _=>∃ (a:Addr) (ns:List Int),vs=[.ref a]/\qz H/\SqL K H a (ns.map V.int)/\ns.length<=63/\∀ H',Q (.bl true) H'):=by
 refine C.imp λvs H Q E ⟨a,ns,e,hO,hq,hl,q⟩=>?_
 subst e
 rcases hq with (hq | ⟨o,hq⟩) | hq
 ·rcases hO a with z | ⟨o,xs,z⟩ <;> rw[hq] at z <;> cases z
 ·obtain⟨h',e⟩:=hS (.ref 0) [.fz (ns.map D.int)] ns hl ⟨.inl ⟨0,rfl,rfl⟩⟩
  refine⟨[a],[.fz (ns.map D.int)],[.ref 0],⟨rfl,by simp,λn b ob e1 e2=>?_⟩,.cons (.ref rfl) .nil,rfl,?_⟩
  ·cases n with
   | zero=>cases e1;cases e2;exact⟨o,_,hq,lg ns⟩
   | succ n=>simp at e1
  ·rw[e]
   exact λρ' H' l' w' v rv=>by cases rv;exact q H'
 ·obtain⟨h',e⟩:=hS (.kl (ns.map D.int)) [] ns hl ⟨.inr rfl⟩
  refine⟨[],[],[.kl (ns.map D.int)],⟨rfl,by simp,λn b ob e1 e2=>by simp at e1⟩,.cons (.kl hq (lg ns)) .nil,rfl,?_⟩
  rw[e]
  exact λρ' H' l' w' v rv=>by cases rv;exact q H'
theorem walk_lawD {l:W.OpenLaw}{q:Program}{loose:List Str}{XP:(Str->Option Value)->Heap->Prop}{YP:World->Heap->Prop}{d:DefRec}{K:Params->W.Frag}{x:Str}{k:Nat} (hn:l.most=some 63) (hdf:d.params.defaults=[]) (hr:Room k callerA)
 (hY:∀ (w:World) (h:Heap),YP w h->(K w.params).In h)
 (F:∀ (w:World) (mg:Str->Option Value) (h:Heap),(K w.params).In h->h.Ns mainGlobals mg->∀ base:Heap,(K w.params).In base->base.Ns mainGlobals mg->Callee l.prog w (K w.params) mg base d.name k [x] (λvs H Q _=>∃ (a:Addr) (ns:List Int),vs=[.ref a]/\qz H/\SqL (K w.params) H a (ns.map V.int)/\ns.length<=63/\∀ H',Q (.bl true) H'))
 (D:∀ (w:World) (mg:Str->Option Value) (h:Heap),(K w.params).In h->h.Ns mainGlobals mg->∃ st,Def (K w.params) mg d.name st/\∀ (kV doc pm:Value) (an:Option Addr) (cdv ct:Value) (us:List Value),us.length=1->bindArgs (W.fnOf d.name d.name (eg st) (cA st) (aw st) .none kV doc pm an cdv ct) ⟨us,[]⟩=pure ([x].zip us)):
 W.WalkO q loose XP YP l.row.toRowW d [] (λf vs=>PySem.call f vs):=by
 refine L2.walk_of (n:=63) (k:=k) (x:=x) (CX:=λw=>CX1 l.prog w) (sp:=λw=>λvs H Q _=>∃ (a:Addr) (ns:List Int),vs=[.ref a]/\qz H/\SqL (K w.params) H a (ns.map V.int)/\ns.length<=63/\∀ H',Q (.bl true) H') hn (by decide) hdf hr hY (λw mg fa h KX G hmg=>?_) (λ_ _ a ns hl hO hS=>⟨a,ns,rfl,hO,hS,hl,λ_=>rfl⟩) λ_ _ _ _ _ ⟨_,_,_,_,_,_,_,_,_,z⟩=>z
 obtain⟨st,Dd,hbind⟩:=D w mg h KX G
 obtain⟨f,fd,Ff,m⟩:=Dd.ex
 have e:=hmg.symm.trans m
 cases e
 obtain⟨oc,od,kV,doc,pm,an,cdv,ct,osl,rfl,lk,hcd⟩:=Ff.ex
 refine⟨_,λs u=>.of_eq (hbind kV doc pm an cdv ct [u] rfl),λbase kb nb=>?_⟩
 obtain⟨f',fd',F',m',kp',b',oc',od',osl',lk'⟩:=(F w mg h KX G base kb nb).ex
 rw[m] at m'
 cases m'
 rw[lk] at lk'
 cases lk'
 exact F'
end L2
namespace L2
open PySem PySem.Spec PyProof.Rows
mutual
inductive Bel (N:Nat):D->Prop where
 | non:Bel N .non
 | bl (b:Bool):Bel N (.bl b)
 | int (i:Int):Bel N (.int i)
 | str (x:Str):Bel N (.str x)
 | ty (n:String):Bel N (.ty n)
 | glb (x:Str):Bel N (.glb x)
 | exc (x:Str):Bel N (.exc x)
 | tup {ds:List D} (r:Bels N ds):Bel N (.tup ds)
 | ref {n:Nat} (h:n < N):Bel N (.ref n)
 | kl {ds:List D} (r:Bels N ds):Bel N (.kl ds)
inductive Bels (N:Nat):List D->Prop where
 | nil:Bels N []
 | cons {d:D}{ds:List D} (r:Bel N d) (rr:Bels N ds):Bels N (d :: ds)
end
def CB (N:Nat):Ob->Prop
 | .lst xs=>Bels N xs
 | .fz xs=>Bels N xs
 | .dct kvs=>Bels N (kvs.map (·.2))
 | _=>True
section
variable {K:W.Frag}{mg:Str->Option Value}{ρ ρ1 ρ2:List Addr}{H H1:Hp}{h:AH}
end
inductive Rf (h:AH):R D->R D->Prop where
 | stuck (r:R D):Rf h r .stuck
 | eq (r:R D):Rf h r r
 | val {d:D}{h2 g:AH} (hl:h2.length=h.length) (ho:∀ (n:Nat) (o:Ob),h2[n]?=some o->h[n]?=some o\/CB h.length o) (hd:Bel h.length d):Rf h (.ok d (h2++g)) (.ok d h2)
 | exc {c:Str}{h2 g:AH} (hl:h2.length=h.length) (ho:∀ (n:Nat) (o:Ob),h2[n]?=some o->h[n]?=some o\/CB h.length o):Rf h (.exc c (h2++g)) (.exc c h2)
 | lst {m:Nat}{h1 h2:AH}{ys:List D} (hl:h2.length=h.length) (ho:∀ (n:Nat) (o:Ob),h2[n]?=some o->h[n]?=some o\/CB h.length o) (hs:∀ (n:Nat) (o:Ob),h2[n]?=some o->h1[n]?=some o) (em:h1[m]?=some (.lst ys)) (hm:h.length<=m) (hy:Bels h.length ys):Rf h (.ok (.ref m) h1) (.ok (.ref h.length) (h2++[.lst ys]))
section
variable {K:W.Frag}{mg:Str->Option Value}{ρ:List Addr}{H:Hp}{h:AH}
end
end L2
namespace L2
open PySem PySem.Spec PyProof.Rows
def yI:D->D->AH->R D:=gOr (gI λi j=>.int (i + j)) oD
def C9:D->D->AH->R D:=gI λi j=>.int (i - j)
def CMulA (i j:Int):Prop:=D6 i j\/CMul i j
def Dr:D->D->AH->R D:=gIc CMulA λi j=>.int (i * j)
def Dq:D->D->AH->R D:=gIc CDivB λi j=>.int (i.fdiv j)
def Cr:D->D->AH->R D:=gIc (λ_ j=>j ≠ 0) λi j=>.int (i.fmod j)
def B1:D->D->AH->R D:=gIc iU λi j=>.int (i ^ j.toNat)
def B4:D->D->AH->R D:=gIc iU λi j=>.int (i * 2 ^ j.toNat)
def gLt:D->D->AH->R D:=gI λi j=>.bl (decide (i < j))
def gGt:D->D->AH->R D:=gI λi j=>.bl (decide (j < i))
def gGe:D->D->AH->R D:=gI λi j=>.bl (decide (j<=i))
def yY:D->AH->R D:=λx h=>match x with
 | .int i=>.ok (.int (-i)) h
 | _=>.stuck
def xY (n:Nat) (S:Fn) (A:MA):ME:=eFn (λds h=>if ds.length=n then S ds h else .stuck) A
section
variable {K:W.Frag}{mg:Str->Option Value}{X:Cx}
theorem bj (h:X.K=K):OpR X (binaryOp .Add) (λx y H Q=>rI0 (λi j=>.int (i + j)) x y H Q\/(rq x y H Q\/(nE K x y H Q\/nI K x y H Q))):=HC.or (catK h)
theorem J1:OpD K mg (λx y H Q=>rI0 (λi j=>.int (i + j)) x y H Q\/(rq x y H Q\/(nE K x y H Q\/nI K x y H Q))) yI:=(m8 λ_ _ _ _=>.int _).or EU
theorem Jw:OpD K mg (rI0 λi j=>.int (i - j)) C9:=m8 λ_ _ _ _=>.int _
theorem bp:OpR X (binaryOp .Mult) (rI CMulA λi j=>.int (i * j)):=by
 intro pins s σ H x y v u Q I rx ry h
 obtain⟨i,j,e1,e2,hc,q⟩:=h
 rcases hc with hc | hc
 ·exact Ez pins s σ H x y v u Q I rx ry ⟨i,j,e1,e2,hc,q⟩
 ·exact Ka pins s σ H x y v u Q I rx ry ⟨i,j,e1,e2,hc,q⟩
theorem IA:OpD K mg (rI CMulA λi j=>.int (i * j)) Dr:=p8 λ_ _ _ _=>.int _
theorem Hq:OpD K mg (rI CDivB λi j=>.int (i.fdiv j)) Dq:=p8 λ_ _ _ _=>.int _
theorem IP:OpD K mg (rI (λ_ j=>j ≠ 0) λi j=>.int (i.fmod j)) Cr:=p8 λ_ _ _ _=>.int _
theorem Jm:OpD K mg (rI iU λi j=>.int (i ^ j.toNat)) B1:=p8 λ_ _ _ _=>.int _
theorem Jh:OpD K mg (rI iU λi j=>.int (i * 2 ^ j.toNat)) B4:=p8 λ_ _ _ _=>.int _
theorem K2:OpD K mg (rI0 λi j=>.bl (decide (i < j))) gLt:=m8 λ_ _ _ _=>.bl _
theorem K6:OpD K mg (rI0 λi j=>.bl (decide (j < i))) gGt:=m8 λ_ _ _ _=>.bl _
theorem MQ:OpD K mg (rI0 λi j=>.bl (decide (j<=i))) gGe:=m8 λ_ _ _ _=>.bl _
theorem HJ:UnD K mg (rU λi=>.int (-i)) yY:=λρ h H dx x Q E w rx p=>by
 unfold yY at p
 split at p
 ·cases rx;exact⟨_,rfl,aP w (.int _) p⟩
 ·exact p.elim
theorem E7:IpD K mg (ipI λi j=>i + j) (gI λi j=>.int (i + j)):=λρ h H dx dy x y Q E w rx ry p=>by
 unfold gI at p
 split at p
 ·cases rx;cases ry;exact⟨_,_,rfl,rfl,aP w (.int _) p⟩
 ·exact p.elim
variable {ES:St->XK}{e:Expr}{es:List Expr}{A:MA}{pos:Pos}
theorem Cj {x:Str}{p:Pos}{k n:Nat}{ps:List Str}{S:Fn} (C:Callee X.prog X.w X.K X.mg X.base x k ps (spD K mg n S)) (hr:Room k X.A) (hg:Gl X x) (hx:pk X ES) (ha:DA K mg X ES (e :: es) A)
 (hdb:(x == ("__debug__" : Str))=false:=by decide) (he:starEach (e :: es) X.env=(false,eval e X.env) :: starEach es X.env:=by rfl) (hpl:(backTo pos (starEach es X.env)).any (·.1)=false:=by rfl):
 DE K mg X ES (.Call (.Name x p) (e :: es) [] pos) (xY n S A):=FT C hr hg hx ha hdb he hpl
end
section
variable {ae:AE}{h:AH}
@[simp] theorem js {α β:Type} (a:α) (h:AH) (f:α->AH->R β):(R.ok a h).bind f=f a h:=rfl
end
end L2
namespace L2
open PySem PySem.Spec PyProof.Rows
theorem gi {pd:PyData} (h1:pd.canLay0=true) (h2:pd.depth<=64):SeqAt.shaped pd=true:=by
 unfold SeqAt.shaped
 rw[h1,decide_eq_true h2];rfl
def Sm (n:Nat) (x:Int):Prop:=x.natAbs < 2 ^ n
theorem Sm.mono {n m:Nat}{x:Int} (h:Sm n x) (l:n<=m):Sm m x:=Nat.lt_of_lt_of_le h (Nat.pow_le_pow_right (by omega) l)
theorem Sm.mul {n m:Nat}{x y:Int} (h:Sm n x) (k:Sm m y):Sm (n + m) (x * y):=by
 unfold Sm at *
 rw[Int.natAbs_mul,Nat.pow_add]
 exact Nat.mul_lt_mul'' h k
theorem Sm.add' {n:Nat}{x y:Int} (h:Sm n x) (k:Sm n y):Sm (n + 1) (x + y):=by
 unfold Sm at *
 have h3:2 ^ (n + 1)=2 ^ n + 2 ^ n:=by rw[Nat.pow_succ];omega
 have h4:(x + y).natAbs<=x.natAbs + y.natAbs:=Int.natAbs_add_le x y
 omega
theorem Sm.bits {n:Nat}{x:Int} (h:Sm n x):Builtin.Int.intBits x<=n:=intBits_le_iff.mpr h
theorem Sm.of_le {n:Nat}{x y:Int} (h:Sm n y) (l:x.natAbs<=y.natAbs):Sm n x:=Nat.lt_of_le_of_lt l h
theorem CMulA.of {n m:Nat}{x y:Int} (h:Sm n x) (k:Sm m y) (hn:n<=100000) (hm:m<=100000):CMulA x y:=.inl ⟨Nat.le_trans h.bits hn,Nat.le_trans k.bits hm⟩
theorem CMulA.left {x y:Int} (h:-(2 ^ 64) < x) (k:x < 2 ^ 64):CMulA x y:=.inr (.inl ⟨h,k⟩)
theorem CMulA.right {x y:Int} (h:-(2 ^ 64) < y) (k:y < 2 ^ 64):CMulA x y:=.inr (.inr ⟨h,k⟩)
theorem CDivB.of {x y:Int} (h0:y ≠ 0) (h:Sm 8000 y):CDivB x y:=⟨h0,h.bits⟩
structure Sz (n:Nat) (q:Rat):Prop where
 top:Sm n q.num
 bot:Sm n (q.den:Int)
theorem Sz.mono {n m:Nat}{q:Rat} (h:Sz n q) (l:n<=m):Sz m q:=⟨h.top.mono l,h.bot.mono l⟩
theorem An {a b:Int} (hb:b ≠ 0):((a:Rat) / (b:Rat)).num * b=a * ((a:Rat) / (b:Rat)).den:=by
 have h2:=Rat.num_divInt_den ((a:Rat) / (b:Rat))
 have h3:Rat.divInt ((a:Rat) / (b:Rat)).num (((a:Rat) / (b:Rat)).den:Int)=Rat.divInt a b:=by rw[h2,Rat.divInt_eq_div]
 exact (Rat.divInt_eq_divInt_iff (by have:=((a:Rat) / (b:Rat)).den_nz;omega) hb).mp h3
theorem xp (q:Rat):Int.gcd q.num q.den=1:=by
 have:=q.reduced
 exact this
theorem pZ {a b:Int} (hb:b ≠ 0):Fr.T a b=((a:Rat) / (b:Rat)).num/\Fr.B a b=(((a:Rat) / (b:Rat)).den:Int):=by
 refine Fr.uniq (Fr.B_pos hb) (by have:=((a:Rat) / (b:Rat)).den_pos;omega) (Fr.low hb) (xp _) ?_
 have h1:=Fr.cross (a:=a) hb
 have h2:=An (a:=a) hb
 generalize ((a:Rat) / (b:Rat)).num=n at *
 generalize (((a:Rat) / (b:Rat)).den:Int)=d at *
 generalize Fr.T a b=x at *
 generalize Fr.B a b=y at *
 have h3:(x * d) * b=(n * y) * b:=by
  calc x * d * b=(x * b) * d:=by rw[Int.mul_right_comm]
   _=a * y * d:=by rw[h1]
   _=(a * d) * y:=by rw[Int.mul_right_comm]
   _=n * b * y:=by rw[h2]
   _=n * y * b:=by rw[Int.mul_right_comm]
 exact Int.eq_of_mul_eq_mul_right hb h3
theorem yf {a b:Int} (hb:b ≠ 0):((a:Rat) / (b:Rat)).num.natAbs<=a.natAbs:=by
 have h:=(pZ (a:=a) hb).1
 rw[<- h]
 have h1:=Fr.T_mul (a:=a) hb
 have h2:=Fr.dv_ne (a:=a) hb
 have h3:(Fr.T a b).natAbs * (Fr.dv a b).natAbs=a.natAbs:=by rw[<- Int.natAbs_mul,h1]
 have h4:1<=(Fr.dv a b).natAbs:=by omega
 calc (Fr.T a b).natAbs=(Fr.T a b).natAbs * 1:=by omega
  _<=(Fr.T a b).natAbs * (Fr.dv a b).natAbs:=Nat.mul_le_mul_left _ h4
  _=a.natAbs:=h3
theorem zd {a b:Int} (hb:b ≠ 0):((((a:Rat) / (b:Rat)).den:Int)).natAbs<=b.natAbs:=by
 have h:=(pZ (a:=a) hb).2
 rw[<- h]
 have h1:=Fr.B_mul (a:=a) hb
 have h2:=Fr.dv_ne (a:=a) hb
 have h3:(Fr.B a b).natAbs * (Fr.dv a b).natAbs=b.natAbs:=by rw[<- Int.natAbs_mul,h1]
 have h4:1<=(Fr.dv a b).natAbs:=by omega
 calc (Fr.B a b).natAbs=(Fr.B a b).natAbs * 1:=by omega
  _<=(Fr.B a b).natAbs * (Fr.dv a b).natAbs:=Nat.mul_le_mul_left _ h4
  _=b.natAbs:=h3
theorem Sz.div {n m:Nat}{a b:Int} (hb:b ≠ 0) (ha:Sm n a) (hb':Sm m b) (k:Nat) (h1:n<=k) (h2:m<=k):Sz k ((a:Rat) / (b:Rat)):=
 ⟨(ha.of_le (yf hb)).mono h1,(hb'.of_le (zd hb)).mono h2⟩
theorem de (q:Rat):(q.den:Int) ≠ 0:=by have:=q.den_nz;omega
theorem jr (q:Rat):q=(q.num:Rat) / ((q.den:Int):Rat):=by
 have:=Rat.num_divInt_den q
 rw[Rat.divInt_eq_div] at this
 exact this.symm
theorem jL {b:Int} (h:b ≠ 0):(b:Rat) ≠ 0:=by
 intro z
 exact h (by exact_mod_cast z)
theorem qh (p q:Rat):p + q=((p.num * q.den + q.num * p.den:Int):Rat) / ((p.den * q.den:Int):Rat):=by
 have h1:=jL (de p)
 have h2:=jL (de q)
 conv=>lhs;rw[jr p,jr q]
 simp only[Rat.intCast_add,Rat.intCast_mul]
 grind
theorem rH (p q:Rat):p * q=((p.num * q.num:Int):Rat) / ((p.den * q.den:Int):Rat):=by
 have h1:=jL (de p)
 have h2:=jL (de q)
 conv=>lhs;rw[jr p,jr q]
 simp only[Rat.intCast_mul]
 grind
theorem Sz.add {n m:Nat}{p q:Rat} (hp:Sz n p) (hq:Sz m q):Sz (n + m + 1) (p + q):=by
 rw[qh]
 have h1:=(hp.top.mul hq.bot)
 have h2:=(hq.top.mul hp.bot)
 exact Sz.div (by have:=de p;have:=de q;exact Int.mul_ne_zero ‹_› ‹_›) (h1.add' (by rw[Nat.add_comm n m];exact h2)) (hp.bot.mul hq.bot) _ (by omega) (by omega)
theorem Sz.mul {n m:Nat}{p q:Rat} (hp:Sz n p) (hq:Sz m q):Sz (n + m) (p * q):=by
 rw[rH]
 exact Sz.div (by have:=de p;have:=de q;exact Int.mul_ne_zero ‹_› ‹_›) (hp.top.mul hq.top) (hp.bot.mul hq.bot) _ (by omega) (by omega)
theorem xj {q:Rat}:0 < q.num ↔ 0 < q:=by
 have h1:=Rat.num_nonneg (q:=q)
 have h2:=Rat.num_eq_zero (q:=q)
 constructor
 ·intro h
  refine Rat.lt_of_le_of_ne (h1.mp (by omega)) λz=>?_
  have:=h2.mpr z.symm
  omega
 ·intro h
  have h3:=h1.mpr (Rat.le_of_lt h)
  have h4:q.num ≠ 0:=λz=>(Rat.ne_of_lt h) (h2.mp z).symm
  omega
theorem Az (p q:Rat):p < q ↔ p.num * q.den < q.num * p.den:=Rat.lt_iff p q
section
variable {α β:Type} (ae:AE) (h:AH)
end
theorem jM:∀ {ws:List Int},(∀ w ∈ ws,0<=w)->0<=ws.sum
 | [],_=>Int.le_refl _
 |
  w :: ws,h=>by
  have:=h w (List.mem_cons_self ..)
  have:=jM (ws:=ws) λv hv=>h v (List.mem_cons_of_mem _ hv)
  rw[List.sum_cons];omega
def Vl (mg:Str->Option Value) (c:Cl) (u:Value):Prop:=match c with
 | .b n=>u=.type n
 | .o x=>mg x=some u
theorem L4 {K:W.Frag}{mg:Str->Option Value}{c d:Cl}{tu cu t v:Value}{b:Bool} (e:W.kitOne K tu cu=some b) (hc:Vl mg c tu) (hd:Vl mg d cu) (h1:ClV mg c t) (h2:ClV mg d v):W.kitOne K t v=some b:=by
 have f:∀ {c:Cl}{u t:Value},Vl mg c u->ClV mg c t->u=t:=by
  intro c u t h1 h2
  cases c with
  | b n=>exact (show u=_ from h1).trans (show t=_ from h2).symm
  |
   o x=>
   obtain⟨a,rfl,m⟩:=h2
   have h1':mg x=some u:=h1
   rw[m] at h1'
   exact (Option.some.inj h1').symm
 rw[<- f hc h1,<- f hd h2]
 exact e
theorem BP {K:W.Frag}{mg:Str->Option Value}:KitsOk K mg []:=⟨λp hp=>(nomatch hp),λp hp=>(nomatch hp)⟩
theorem aG {K:W.Frag}{mg:Str->Option Value}{c d:Cl}{tu cu:Value}{b:Bool}{kt:gx} (e:W.kitOne K tu cu=some b) (hc:Vl mg c tu) (hd:Vl mg d cu) (hx:∀ x C,c=.o x->mg x=some (.ref C)->XCls K C) (r:KitsOk K mg kt):KitsOk K mg ((c,d,b) :: kt):=
 ⟨λp hp t v h1 h2=>by
  rcases List.mem_cons.mp hp with rfl | hp
  ·exact L4 e hc hd h1 h2
  ·exact r.one p hp t v h1 h2,λp hp x C e' m=>by
  rcases List.mem_cons.mp hp with rfl | hp
  ·exact hx x C e' m
  ·exact r.xc p hp x C e' m⟩
theorem a8 {K:W.Frag}{mg:Str->Option Value}{n:String}:∀ x C,Cl.b n=.o x->mg x=some (.ref C)->XCls K C:=λ_ _ e=>nomatch e
theorem J4 {K:W.Frag}{h:Heap}{mg:Str->Option Value}{x:Str}{i:Int}{t:Tok} (X:K.In h) (G:h.Ns mainGlobals mg) (e:W.nsIn K mainGlobals x=some (some (.int i t))):GC K mg x (.int i):=
 ⟨_,.int i,W.mg_of X G e,⟨t,rfl⟩,λ_ _=>.int i⟩
theorem Gu {K:W.Frag}{h:Heap}{mg:Str->Option Value}{x:Str}{a:Addr}{dd:Option Addr}{its:Array Value}{n:Nat}{sl:Array (Option Value)}{vs:List V}{ds:List D} (X:K.In h) (G:h.Ns mainGlobals mg) (e:W.nsIn K mainGlobals x=some (some (.ref a)))
 (l:K.lookup a=some ⟨.type "tuple",dd,.seq its n,sl⟩) (hs:its.size<=sizeLine) (hv:Vals vs its.toList) (hr:∀ ρ H,RelDs K mg ρ H ds vs):GC K mg x (.tup ds):=
 ⟨_,.ref a,W.mg_of X G e,rfl,λρ H=>.tup (.inr ⟨_,its,n,l,rfl,rfl,hs,hv⟩) (hr ρ H)⟩
end L2
namespace L2
open PySem PySem.Spec PyProof.Rows
theorem BZ {P:Program}{w:World}{H:Hp} (h:Heap) (hb:sysModules < h.objs.size):ObjOk P w H (h.push { cls:=.type "dict",data:=.dict #[] }) h.objs.size (.dK []):=
 ⟨Nat.zero_le _,beq_eq_false_iff_ne.mpr (Ne.symm (Nat.ne_of_lt hb)),[],.nil,Heap.DictOf.new h⟩
theorem Inv.big {X:Cx}{pins:List (Addr×Obj)}{σ:St}{H:Hp}{s:Shared} (I:Inv X pins σ H s):sysModules < s.heap.objs.size:=by
 have h:mainGlobals < s.heap.objs.size:=(I.mod.glob.keeps I.bk).lt
 exact Nat.lt_trans (by decide) h
section
variable {K:W.Frag}{mg:Str->Option Value}{X:Cx}{ES:St->XK}{pos:Pos}
end
end L2
namespace L2
open PySem PySem.Spec PyProof.Rows
variable {K:W.Frag}{mg:Str->Option Value}
end L2
namespace L2
open PySem PySem.Spec PyProof.Rows
section
variable {K:W.Frag}{mg:Str->Option Value}{X:Cx}{ES:St->XK}{e:Expr}{es:List Expr}{A:MA}{pos:Pos}
end
end L2
namespace L2
open PySem PySem.Spec PyProof.Rows
section
variable {K:W.Frag}{mg:Str->Option Value}{X:Cx}{ES:St->XK}{e a b c o lo hi:Expr}{F G L U:ME}{pos p2:Pos}{ρ:List Addr}{H:Hp}{h:AH}{ae:AE}
end
end L2
namespace L2
open PySem PySem.Spec PyProof.Rows
section
variable {κ:Type} [DecidableEq κ]
def fF (kvs:List (κ×V)) (k:κ):Option V:=(kvs.find? λkv=>decide (kv.1=k)).map (·.2)
def dJ (kvs:List (κ×V)) (k:κ) (v:V):List (κ×V):=
 if (kvs.any λkv=>decide (kv.1=k))=true then kvs.map (λkv=>if kv.1=k then (kv.1,v) else kv) else kvs++[(k,v)]
theorem oF {p:κ×V}{r:List (κ×V)}{k:κ} (e:p.1=k):fF (p :: r) k=some p.2:=by simp [fF,List.find?_cons,e]
theorem oa {p:κ×V}{r:List (κ×V)}{k:κ} (e:¬ p.1=k):fF (p :: r) k=fF r k:=by simp [fF,List.find?_cons,e]
theorem oq (k:κ):∀ kvs:List (κ×V),(kvs.any λkv=>decide (kv.1=k))=(fF kvs k).isSome
 | []=>rfl
 |
  p :: r=>by
  rw[List.any_cons]
  by_cases e:p.1=k
  ·simp only[oF e,decide_eq_true e,Bool.true_or,Option.isSome_some]
  ·rw[oa e,decide_eq_false e,Bool.false_or];exact oq k r
theorem j9 (kvs:List (κ×V)) (k:κ) (v:V):(dJ kvs k v).length<=kvs.length + 1:=by
 unfold dJ
 split
 ·rw[List.length_map];omega
 ·rw[List.length_append,List.length_cons,List.length_nil];omega
theorem Dv {kvs:List (κ×V)}{k:κ} (v:V) (h:fF kvs k=none):dJ kvs k v=kvs++[(k,v)]:=by
 unfold dJ
 rw[oq,h]
 exact if_neg (by decide)
theorem RelO.isSome_eq {o:Option V}{u:Option Value} (r:RelO o u):o.isSome=u.isSome:=by
 cases o with
 | none=>cases u with
  | none=>rfl
  | some _=>exact (show False from r).elim
 | some _=>cases u with
  | none=>exact (show False from r).elim
  | some _=>rfl
theorem KV.val {kvs:List (κ×V)}{vs:List (κ×Value)} (r:KV kvs vs) (k:κ):RelO (fF kvs k) (valueAt vs k):=by
 unfold KV at r
 induction r with
 | nil=>exact True.intro
 |
  @cons p q ps qs h t ih=>
  obtain⟨h1,h2⟩:=h
  by_cases e:p.1=k
  ·have e':q.1=k:=h1.symm.trans e
   have b:valueAt (q :: qs) k=some q.2:=by simp [valueAt,List.find?_cons,e']
   rw[oF e,b];exact h2
  ·have e':¬ q.1=k:=λz=>e (h1.trans z)
   have b:valueAt (q :: qs) k=valueAt qs k:=by simp [valueAt,List.find?_cons,e']
   rw[oa e,b];exact ih
theorem KV.any {kvs:List (κ×V)}{vs:List (κ×Value)} (r:KV kvs vs) (k:κ):(kvs.any λkv=>decide (kv.1=k))=vs.any λkv=>decide (kv.1=k):=by
 unfold KV at r
 induction r with
 | nil=>rfl
 | cons h t ih=>rw[List.any_cons,List.any_cons,ih,h.1]
theorem KV.repl {kvs:List (κ×V)}{vs:List (κ×Value)} (r:KV kvs vs) (k:κ) {y:V}{u:Value} (ry:RelV y u):
 KV (kvs.map λkv=>if kv.1=k then (kv.1,y) else kv) (vs.map λkv=>if kv.1=k then (kv.1,u) else kv):=by
 unfold KV at r ⊢
 induction r with
 | nil=>exact .nil
 |
  @cons p q ps qs h t ih=>
  rw[List.map_cons,List.map_cons]
  refine .cons ?_ ih
  obtain⟨h1,h2⟩:=h
  by_cases e:p.1=k
  ·rw[if_pos e,if_pos (h1.symm.trans e)];exact⟨h1,ry⟩
  ·rw[if_neg e,if_neg (λz=>e (h1.trans z))];exact⟨h1,h2⟩
theorem KV.put {kvs:List (κ×V)}{vs:List (κ×Value)} (r:KV kvs vs) (k:κ) {y:V}{u:Value} (ry:RelV y u):KV (dJ kvs k y) (stored vs k u):=by
 unfold dJ stored
 rw[r.any k]
 by_cases e:(vs.any λkv=>decide (kv.1=k))=true
 ·rw[if_pos e,if_pos e];exact r.repl k ry
 ·rw[if_neg e,if_neg e];exact Paired.snoc r ⟨rfl,ry⟩
theorem KV.length {kvs:List (κ×V)}{vs:List (κ×Value)} (r:KV kvs vs):kvs.length=vs.length:=Paired.length r
end
theorem nG {P:Program}{w:World}{k:Key}{u:Value} (r:RelV (kV k) u):(bF P w).is k u=true:=by
 cases k with
 | inl i=>obtain⟨t,e⟩:=(show ∃ t,u=Value.int i t from r);subst e;exact wj P w i t
 | inr x=>obtain⟨t,e⟩:=(show ∃ t,u=Value.str x t from r);subst e;exact nS P w x t
theorem sH {P:Program}{w:World}:∀ {ks:List Key}{us:List Value},Vals (ks.map kV) us->ItemsAre (bF P w) ks us
 | [],_,r=>by rw[List.map_nil] at r;cases r;exact .nil
 |
  k :: ks,_,r=>by
  rw[List.map_cons] at r
  cases r with
  | cons h t=>exact .cons (nG h) (sH t)
abbrev KT (H:Hp):List (List Key×V)->List (List Key×Addr×Value)->Prop:=Paired λp q=>p.1=q.1/\H q.2.1=some (.tup (p.1.map kV))/\RelV p.2 q.2.2
theorem KT.val {H:Hp}{kvs:List (List Key×V)}{xs:List (List Key×Addr×Value)} (r:KT H kvs xs) (k:List Key):RelO (fF kvs k) ((atKey xs k).map (·.2)):=by
 induction r with
 | nil=>exact True.intro
 |
  @cons p q ps qs h t ih=>
  obtain⟨h1,_,h2⟩:=h
  by_cases e:p.1=k
  ·have e':q.1=k:=h1.symm.trans e
   have b:atKey (q :: qs) k=some q.2:=by simp [atKey,List.find?_cons,e']
   rw[oF e,b];exact h2
  ·have e':¬ q.1=k:=λz=>e (h1.trans z)
   have b:atKey (q :: qs) k=atKey qs k:=by simp [atKey,List.find?_cons,e']
   rw[oa e,b];exact ih
theorem KT.repl {H:Hp}{kvs:List (List Key×V)}{xs:List (List Key×Addr×Value)} (r:KT H kvs xs) (k:List Key) {y:V}{u:Value} (ry:RelV y u):
 KT H (kvs.map λkv=>if kv.1=k then (kv.1,y) else kv) (xs.map (putAt k u)):=by
 induction r with
 | nil=>exact .nil
 |
  @cons p q ps qs h t ih=>
  rw[List.map_cons,List.map_cons]
  refine .cons ?_ ih
  obtain⟨h1,h2,h3⟩:=h
  unfold putAt
  by_cases e:p.1=k
  ·rw[if_pos e,if_pos (h1.symm.trans e)];exact⟨h1,h2,ry⟩
  ·rw[if_neg e,if_neg (λz=>e (h1.trans z))];exact⟨h1,h2,h3⟩
theorem KT.put {H:Hp}{kvs:List (List Key×V)}{xs:List (List Key×Addr×Value)} (r:KT H kvs xs) (k:List Key) {b:Addr}{y:V}{u:Value} (hb:H b=some (.tup (k.map kV))) (ry:RelV y u):
 KT H (dJ kvs k y) (storedH xs k b u):=by
 have e:(kvs.any λkv=>decide (kv.1=k))=(atKey xs k).isSome:=by
  rw[oq,(r.val k).isSome_eq,Option.isSome_map]
 unfold dJ storedH
 rw[e]
 by_cases q:(atKey xs k).isSome=true
 ·rw[if_pos q,if_pos q];exact r.repl k ry
 ·rw[if_neg q,if_neg q];exact Paired.snoc r ⟨rfl,hb,ry⟩
theorem KT.keeps {H H':Hp}{kvs:List (List Key×V)}{xs:List (List Key×Addr×Value)} (r:KT H kvs xs) (ht:∀ b ys,H b=some (.tup ys)->H' b=some (.tup ys)):KT H' kvs xs:=
 Paired.mapP r λ_ _ z=>⟨z.1,ht _ _ z.2.1,z.2.2⟩
section
variable {P:Program}{w:World}{H:Hp}{h:Heap}{a:Addr}
theorem DH {u:HO} (ok:HOk P w H h) (e:Rd H a u):ObjOk P w H h a u:=e.ok ok
theorem zr {kvs:List (Key×V)} (ok:HOk P w H h) (e:Rd H a (.dK kvs)):kvs.length<=sizeLine/\(a == sysModules)=false/\∃ vs,KV kvs vs/\h.DictOf (bF P w) a vs:=
 show ObjOk P w H h a (.dK kvs) from DH ok e
theorem D5 {kvs:List (Key×V)} (ok:HOk P w H h) (e:H a=some (.dK kvs)):kvs.length<=sizeLine/\(a == sysModules)=false/\∃ vs,KV kvs vs/\h.DictOf (bF P w) a vs:=zr ok (.inl e)
theorem uL {ks:List Key} (ok:HOk P w H h) (e:H a=some (.tup (ks.map kV))):(tupleKind (bF P w)).is h ks a:=by
 obtain⟨_,its,r,o,h1,h2,n,h3⟩:=(show ObjOk P w H h a (.tup (ks.map kV)) from ok a _ e)
 exact⟨o,its.toArray,n,h1,h2,h3,by simpa using sH r⟩
theorem zA {kvs:List (List Key×V)} (ok:HOk P w H h) (e:Rd H a (.dT kvs)):kvs.length<=sizeLine/\(a == sysModules)=false/\
 ∃ xs,KT H kvs xs/\h.DictOfH (tupleKind (bF P w)) a xs:=by
 obtain⟨z,y,xs,r,o,es,ep,h1,h2,h3,h4,h5⟩:=(show ObjOk P w H h a (.dT kvs) from DH ok e)
 refine⟨z,y,xs,r,o,es,ep,h1,h2,h3,h4,λx hx=>?_,h5⟩
 have all:∀ {l:List (List Key×V)}{m:List (List Key×Addr×Value)},KT H l m->∀ x ∈ m,(tupleKind (bF P w)).is h x.1 x.2.1:=by
  intro l m q
  induction q with
  | nil=>intro x hx;exact nomatch hx
  |
   @cons p q ps qs hq t ih=>
   intro x hx
   rcases List.mem_cons.mp hx with e | hx
   ·subst e
    exact uL ok (by rw[<- hq.1];exact hq.2.1)
   ·exact ih x hx
 exact all r x hx
theorem LJ {kvs:List (List Key×V)} (ok:HOk P w H h) (e:H a=some (.dT kvs)):kvs.length<=sizeLine/\(a == sysModules)=false/\
 ∃ xs,KT H kvs xs/\h.DictOfH (tupleKind (bF P w)) a xs:=zA ok (.inl e)
end
def DGet (H:Hp) (a:Addr) (y:V) (r:Option V):Prop:=
 (∃ kvs k,Rd H a (.dK kvs)/\y=kV k/\r=fF kvs k)\/∃ kvs k b,Rd H a (.dT kvs)/\y=.ref b/\H b=some (.tup (k.map kV))/\r=fF kvs k
def DPut (H:Hp) (a:Addr) (y v:V) (H':Hp):Prop:=
 (∃ kvs k,H a=some (.dK kvs)/\y=kV k/\kvs.length < sizeLine/\H'=upd H a (.dK (dJ kvs k v)))\/
 ∃ kvs k b,H a=some (.dT kvs)/\y=.ref b/\H b=some (.tup (k.map kV))/\kvs.length < sizeLine/\H'=upd H a (.dT (dJ kvs k v))
theorem DGet.k {H:Hp}{a:Addr}{kvs:List (Key×V)}{k:Key} (e:H a=some (.dK kvs)):DGet H a (kV k) (fF kvs k):=.inl ⟨kvs,k,.inl e,rfl,rfl⟩
theorem DPut.k {H:Hp}{a:Addr}{kvs:List (Key×V)}{k:Key}{v:V} (e:H a=some (.dK kvs)) (hl:kvs.length < sizeLine):DPut H a (kV k) v (upd H a (.dK (dJ kvs k v))):=.inl ⟨kvs,k,e,rfl,hl,rfl⟩
section
variable {X:Cx}{pins:List (Addr×Obj)}{σ:St}{H:Hp}{s:Shared}{a:Addr}{y v:V}{u r:Value}{o:Option V}{A:Around}{E:Value->Shared->Prop}
theorem AW {Q:Value->Shared->Prop} (hu:A.units + 1 < cLine) (I:Inv X pins σ H s) (g:DGet H a y (some v)) (ry:RelV y u) (h:∀ w' s',Inv X pins σ H s'->RelV v w'->Q w' s'):
 wpAny (model X.prog X.w) A (getItem (.ref a) u) Q E s:=by
 rcases g with ⟨kvs,k,e,ey,l⟩ | ⟨kvs,k,b,e,ey,eb,l⟩
 ·subst ey
  obtain⟨z,hd,vs,rel,dd⟩:=zr I.hok e
  obtain⟨w',hw,rw'⟩:=RelO.some_of (v:=v) (o:=valueAt vs k) (by rw[l];exact rel.val k)
  exact wpAny_getItem_of (nG ry) dd.mapOf hw (h w' _ (I.tok _) rw')
 ·subst ey
  cases (show u=Value.ref b from ry)
  obtain⟨z,hd,xs,rel,dd⟩:=zA I.hok e
  obtain⟨w',hw,rw'⟩:=RelO.some_of (v:=v) (o:=(atKey xs k).map (·.2)) (by rw[l];exact rel.val k)
  obtain⟨p,hp,hp2⟩:=Option.map_eq_some_iff.mp hw
  refine wpAny_getItem_heap (tupleKind_room_in1 hu) (uL I.hok eb) dd hp ?_
  rw[hp2]
  exact h w' _ (I.tok _) rw'
theorem rb {h':Heap}{t':Nat}{ob:HO} (I:Inv X pins σ H s) (mu:Mut (H a)) (hs:Heap.SameBut a s.heap h') (he:∃ q,h'.get? a=some q) (new:ObjOk X.prog X.w (upd H a ob) h' a ob):
 Inv X pins σ (upd H a ob) { s with heap:=h',toks:=t' }:=
 I.write (x:=a) (e:=a) mu (.inl rfl) (λb q hb z=>(hs.2 b hb).trans z) he new
theorem A5 {P:Program}{w:World}{H':Hp}{h':Heap}{kvs:List (Key×V)}{vs:List (Key×Value)} (z:kvs.length<=sizeLine) (hd:(a == sysModules)=false) (rel:KV kvs vs) (dd:h'.DictOf (bF P w) a vs):
 ObjOk P w H' h' a (.dK kvs):=⟨z,hd,vs,rel,dd⟩
theorem Ag {H':Hp}{Q:Unit->Shared->Prop} (hu:A.units + 1 < cLine) (I:Inv X pins σ H s) (g:DPut H a y v H') (ry:RelV y u) (rv:RelV v r) (h:∀ s',Inv X pins σ H' s'->Q () s'):
 wpAny (model X.prog X.w) A (setItem (.ref a) u r) Q E s:=by
 rcases g with ⟨kvs,k,e,ey,l,eH⟩ | ⟨kvs,k,b,e,ey,eb,l,eH⟩
 ·subst ey eH
  obtain⟨z,hd,vs,rel,dd⟩:=D5 I.hok e
  have hz:vs.length<=sizeLine:=by rw[<- rel.length];exact z
  have hl:(dJ kvs k v).length<=sizeLine:=by have:=j9 kvs k v;omega
  refine wpAny_setItem_pairs (hsz:=hz) (nG ry) dd λh' dd' hs=>h _ ?_
  have he:∃ q,h'.get? a=some q:=let ⟨q,_,_,hq,_⟩:=dd';⟨q,hq⟩
  exact rb I (by rw[e];exact True.intro) hs he (A5 hl hd (rel.put k rv) dd')
 ·subst ey eH
  cases (show u=Value.ref b from ry)
  obtain⟨z,hd,xs,rel,dd⟩:=LJ I.hok e
  have hz:xs.length<=sizeLine:=by rw[<- Paired.length rel];exact z
  have hl:(dJ kvs k v).length<=sizeLine:=by have:=j9 kvs k v;omega
  refine wpAny_setItem_heap (hsz:=hz) (tupleKind_room_in1 hu) (uL I.hok eb) dd λh' dd' hs=>h _ ?_
  obtain⟨q,es,ep,hq,h2,h3,h4,_,h5⟩:=dd'
  refine rb I (by rw[e];exact True.intro) hs ⟨q,hq⟩ ⟨hl,hd,_,(rel.put k eb rv).keeps λc ys ec=>?_,q,es,ep,hq,h2,h3,h4,h5⟩
  rw[aV (Mx ec e (λz=>nomatch z))]
  exact ec
end
section
variable {X:Cx}{pins:List (Addr×Obj)}{σ:St}{H:Hp}{s:Shared}{a:Addr}{kvs:List (Key×V)}{k:Key}{u:Value}{A:Around}{E:Value->Shared->Prop}
end
def yW (i:Expr):Prop:=∀ ov iv,subscripted i false ov iv=operate [ov,iv] (getItem ov iv)
theorem FD {prog:Program}{w:World}{A:Around}{E:Value->Shared->Prop}{s:Shared}{env:Env}{value na:Expr}{pos:Pos}{T id:String}{Q:Value->Shared->Prop}
 (hl:typeLookup (.type T) "__getitem__" = pure (some (.builtin id))) (hs:yW na)
 (h:wpAny (model prog w) A (eval value env) (λo s₁=>wpAny (model prog w) A (eval na env) (λi s₂=>s₂.TypeIs o T/\wpAny (model prog w) A (getItem o i) Q E s₂) E s₁) E s):
 wpAny (model prog w) A (eval (.Subscript value na pos) env) Q E s:=by
 refine Subscript_ (wpAny_mono h (λo s₁ h₁=>wpAny_mono h₁ (λi s₂ h₂=>?_) λ_ _ x=>x) λ_ _ x=>x)
 obtain⟨hT,h₂⟩:=h₂
 unfold subscriptTail
 refine wpAny_bind ?_
 rw[getitemInPython_of_ne hT.not_modules]
 refine wpAny_bind (wpAny_specialOf hT hl ?_)
 have fin:wpAny (model prog w) A (subscripted na false o i) (λr s₃=>wpAny (model prog w) A (letTemporaryGo value o r >>= λ_=>pure r) Q E s₃) E s₂:=by
  rw[hs o i]
  exact wpAny_operating (wpAny_mono h₂ (λr s₃ h₃=>wpAny_bind (wpAny_letTemporaryGo (wpAny_pure h₃))) λ_ _ x=>x)
 first
  | exact wpAny_pure (wpAny_bind fin)
  | exact wpAny_bind (wpAny_pure (wpAny_bind fin))
  | exact wpAny_bind fin
theorem wo {X:Cx}{pins:List (Addr×Obj)}{σ:St}{H:Hp}{s:Shared}{a:Addr}{y:V}{o:Option V} (I:Inv X pins σ H s) (g:DGet H a y o):s.TypeIs (.ref a) "dict" := by
 rcases g with ⟨kvs,k,e,_,_⟩ | ⟨kvs,k,b,e,_,_,_⟩
 ·obtain⟨_,_,vs,_,dd⟩:=zr I.hok e
  exact dd.typeIs
 ·obtain⟨_,_,xs,_,dd⟩:=zA I.hok e
  exact dd.typeIs
def MJ (td ty:TE):TE:=λσ H Q=>td σ H λx H1=>ty σ H1 λy H2=>∃ a v,x=.ref a/\DGet H2 a y (some v)/\Q v H2
section
variable {X:Cx}{o i e value:Expr}{pos s_ tpos:Pos}{td ty tv:TE}
theorem EN (hu:X.A.units + 1 < cLine) (ho:PE X o td) (hi:PE X i ty) (hs:yW i):PE X (.Subscript o i pos) (MJ td ty):=by
 intro pins s σ H Q I h
 refine FD PySem.F.slot_dict_getitem.lookup hs (thn (ho pins s σ H _ I h) λu s1 ⟨x,H1,I1,rx,q1⟩=>thn (hi pins s1 σ H1 _ I1 q1) λiv s2 ⟨y,H2,I2,ry,a,v,ex,g,q2⟩=>?_)
 subst ex
 obtain rfl:u=Value.ref a:=rx
 exact⟨wo I2 g,AW hu I2 g ry λw' s3 I3 rw'=>⟨v,H2,I3,rw',q2⟩⟩
end
section
variable {X:Cx}{pos:Pos}
end
def pH:List (TE×TE)->St->Hp->(List (V×V)->Hp->Prop)->Prop
 | [],_,H,Q=>Q [] H
 | (tk,tv) :: r,σ,H,Q=>tk σ H λx H1=>tv σ H1 λy H2=>pH r σ H2 λps H3=>Q ((x,y) :: ps) H3
abbrev VV:List (V×V)->List (Value×Value)->Prop:=Paired λp q=>RelV p.1 q.1/\RelV p.2 q.2
def PPs (X:Cx) (pos:Pos) (keys:List (Option Expr)) (values:List Expr) (trs:List (TE×TE)):Prop:=
 ∀
  (pins:List (Addr×Obj)) (s:Shared) (σ:St) (H:Hp) (Q:List (V×V)->Hp->Prop),Inv X pins σ H s->pH trs σ H Q->
  wpAny (model X.prog X.w) X.A (evalPairs (pairTrees keys values X.env pos)) (λvs s'=>∃ ps H',Inv X pins σ H' s'/\VV ps vs/\Q ps H') X.xe s
theorem Fw {X:Cx}{pos:Pos}:PPs X pos [] [] []:=λpins s σ H Q I h=>pairTrees_nil_walk ⟨[],H,I,.nil,h⟩
theorem Dj {X:Cx}{pos:Pos}{k v:Expr}{ks:List (Option Expr)}{vs:List Expr}{tk tv:TE}{trs:List (TE×TE)} (hk:PE X k tk) (hv:PE X v tv) (hr:PPs X pos ks vs trs):
 PPs X pos (some k :: ks) (v :: vs) ((tk,tv) :: trs):=λpins s σ H Q I h=>
 pairTrees_cons_walk (thn (hk pins s σ H _ I h) λu s1 ⟨x,H1,I1,rx,q1⟩=>thn (hv pins s1 σ H1 _ I1 q1) λw2 s2 ⟨y,H2,I2,ry,q2⟩=>
  thn (hr pins s2 σ H2 _ I2 q2) λws s3 ⟨ps,H3,I3,rel,q3⟩=>⟨(x,y) :: ps,H3,I3,.cons ⟨rx,ry⟩ rel,q3⟩)
def jx (kvs more:List (Key×V)):List (Key×V):=more.foldl (λacc kv=>dJ acc kv.1 kv.2) kvs
theorem KV.merge:∀ {more:List (Key×V)}{rs:List (Key×Value)}{kvs:List (Key×V)}{vs:List (Key×Value)},KV more rs->KV kvs vs->KV (jx kvs more) (merged vs rs):=by
 intro more rs kvs vs r
 unfold KV at r
 induction r generalizing kvs vs with
 | nil=>intro q;exact q
 |
  @cons p q ps qs h t ih=>
  intro r0
  have e:KV (dJ kvs p.1 p.2) (stored vs q.1 q.2):=by
   have:=r0.put p.1 h.2
   rw[<- h.1];exact this
  exact ih e
theorem mz:∀ (more kvs:List (Key×V)),(jx kvs more).length<=kvs.length + more.length
 | [],kvs=>by show kvs.length<=kvs.length + 0;omega
 |
  p :: r,kvs=>by
  have h1:=mz r (dJ kvs p.1 p.2)
  have h2:=j9 kvs p.1 p.2
  show (jx (dJ kvs p.1 p.2) r).length<=_
  rw[List.length_cons];omega
theorem pO {P:Program}{w:World}:∀ {kvs:List (Key×V)}{ws:List (Value×Value)},VV (kvs.map λkv=>(kV kv.1,kv.2)) ws->∃ rs,Carries (bF P w) ws rs/\KV kvs rs
 | [],_,r=>by rw[List.map_nil] at r;cases r;exact⟨[],True.intro,.nil⟩
 |
  p :: kvs,_,r=>by
  rw[List.map_cons] at r
  cases r with
  |
   @cons a b as bs h t=>
   obtain⟨rs,c,q⟩:=pO (P:=P) (w:=w) t
   obtain⟨b1,b2⟩:=b
   exact⟨(p.1,b2) :: rs,⟨nG h.1,rfl,c⟩,.cons ⟨rfl,h.2⟩ q⟩
def Mn (trs:List (TE×TE)):TE:=λσ H Q=>∀ p,H p=none->pH trs σ (upd H p (.dK [])) λps H2=>H2 p=some (.dK [])/\∃ kvs:List (Key×V),ps=kvs.map (λkv=>(kV kv.1,kv.2))/\kvs.length<=15/\Q (.ref p) (upd H2 p (.dK (jx [] kvs)))
theorem EL {X:Cx}{pos:Pos}{keys:List (Option Expr)}{values:List Expr}{trs:List (TE×TE)} (h:PPs X pos keys values trs) (hall:keys.all (·.isSome)=true) (hl:keys.length=values.length) (h0:keys ≠ [])
 (h15:keys.length<=15):PE X (.Dict keys values pos) (Mn trs):=by
 intro pins s σ H Q I q
 have hn:=I.hok.fresh (Nat.le_refl s.heap.objs.size)
 have I1:=I.laid (a:=s.heap.objs.size) (o:=.dK []) (h':=s.heap.push { cls:=.type "dict",data:=.dict #[] }) (t':=s.toks) (λ_ _ q=>Heap.get?_push_of_some _ q) (Nat.le_refl _) (BZ s.heap I.big)
 refine wpAny_Dict_walk (knd:=bF X.prog X.w) hall hl h0 h15 (thn (h pins _ σ _ _ I1 (q _ hn)) λws s2 ⟨ps,H2,I2,rel,e,kvs,ep,lk,q2⟩=>?_)
 subst ep
 obtain⟨rs,c,rk⟩:=pO (P:=X.prog) (w:=X.w) rel
 obtain⟨z,hd,vs0,r0,dd⟩:=D5 I2.hok e
 cases r0
 refine⟨rs,c,dd,λh' dd' hs=>⟨.ref s.heap.objs.size,_,?_,rfl,q2⟩⟩
 have hz:(jx [] kvs).length<=sizeLine:=by
  have h1:=mz kvs []
  rw[List.length_nil] at h1
  rw[sizeLine_eq];omega
 have he:∃ q,h'.get? s.heap.objs.size=some q:=let ⟨q,_,_,hq,_⟩:=dd';⟨q,hq⟩
 exact rb I2 (by rw[e];exact True.intro) hs he (A5 hz hd (rk.merge .nil) dd')
structure M1 (X:Cx) (o:Expr) (m:Str) (apos:Pos) (e:Expr) (cpos:Pos):Prop where
 base:attributeBase o m X.env (eval o X.env)=eval o X.env
 few:((backTo cpos (starEach [e] X.env)).all (λx=>!x.1) && (backToKw cpos (keywordEach [] X.env)).all (λx=>x.1.isSome)
  && decide (([e]:List Expr).length + ([]:List Keyword).length + (if ([]:List Keyword).isEmpty then 0 else 1) < 30))=true
 line:(apos.endLine == cpos.line)=true
 trees:backTo cpos (starEach [e] X.env)=[(false,eval e X.env)]
structure M2 (X:Cx) (o:Expr) (m:Str) (apos:Pos) (e f:Expr) (cpos:Pos):Prop where
 base:attributeBase o m X.env (eval o X.env)=eval o X.env
 few:((backTo cpos (starEach [e,f] X.env)).all (λx=>!x.1) && (backToKw cpos (keywordEach [] X.env)).all (λx=>x.1.isSome)
  && decide (([e,f]:List Expr).length + ([]:List Keyword).length + (if ([]:List Keyword).isEmpty then 0 else 1) < 30))=true
 line:(apos.endLine == cpos.line)=true
 trees:backTo cpos (starEach [e,f] X.env)=[(false,eval e X.env),(false,eval f X.env)]
section
variable {X:Cx}{pins:List (Addr×Obj)}{σ:St}{H:Hp}{s:Shared}{a:Addr}{y d:V}{u r:Value}{o:Option V}{A:Around}{E:Value->Shared->Prop}
end
section
variable {X:Cx}{o e f:Expr}{apos cpos:Pos}{td ty tx:TE}
end
section
variable {X:Cx}{pins:List (Addr×Obj)}{σ:St}{H:Hp}{s:Shared}{a:Addr}{kvs:List (Key×V)}{A:Around}{E:Value->Shared->Prop}
end
section
variable {X:Cx}{pins:List (Addr×Obj)}{σ:St}{H:Hp}{s:Shared}{a:Addr}{y:V}{u:Value}{A:Around}{E:Value->Shared->Prop}
end
end L2
namespace L2
open PySem PySem.Spec PyProof.Rows
section
variable {prog:Program}{w:World}{A:Around}{E:Value->Shared->Prop}{s:Shared}
end
end L2
namespace L2
open PySem PySem.Spec PyProof.Rows
section
variable {κ α:Type} [DecidableEq κ]
def lkD (kvs:List (κ×α)) (k:κ):Option α:=(kvs.find? λkv=>decide (kv.1=k)).map (·.2)
def mi (kvs:List (κ×α)) (k:κ) (v:α):List (κ×α):=if (kvs.any λkv=>decide (kv.1=k))=true then kvs.map λkv=>if kv.1=k then (kv.1,v) else kv else kvs++[(k,v)]
end
section
variable {K:W.Frag}{mg:Str->Option Value}{ρ:List Addr}{H:Hp}
theorem Ei {k:Key}{d:D}:∀ {kvs:List (Key×D)}{ws:List (Key×V)},ws.map (·.1)=kvs.map (·.1)->RelDs K mg ρ H (kvs.map (·.2)) (ws.map (·.2))->lkD kvs k=some d->∃ v,fF ws k=some v/\RelD K mg ρ H d v:=by
 intro kvs
 induction kvs with
 | nil=>intro ws e r q;cases q
 |
  cons p kvs ih=>
  intro ws e r q
  cases ws with
  | nil=>cases e
  |
   cons w ws=>
   obtain⟨k1,d1⟩:=p
   obtain⟨k2,v2⟩:=w
   rw[List.map_cons,List.map_cons] at e
   injection e with e1 e2
   dsimp only at e1
   subst e1
   cases r with
   |
    cons r rr=>
    unfold lkD at q
    unfold fF
    rw[List.find?_cons] at q ⊢
    dsimp only at q ⊢
    by_cases hk:k2=k
    ·rw[decide_eq_true hk] at q ⊢
     cases q
     exact⟨v2,rfl,r⟩
    ·rw[decide_eq_false hk] at q ⊢
     exact ih e2 rr q
theorem tN {α β κ:Type} [DecidableEq κ] {k:κ}:∀ {kvs:List (κ×α)}{ws:List (κ×β)},ws.map (·.1)=kvs.map (·.1)->(ws.any λkv=>decide (kv.1=k))=kvs.any λkv=>decide (kv.1=k):=by
 intro kvs
 induction kvs with
 |
  nil=>
  intro ws e
  cases ws with
  | nil=>rfl
  | cons _ _=>cases e
 |
  cons p kvs ih=>
  intro ws e
  cases ws with
  | nil=>cases e
  |
   cons w ws=>
   rw[List.map_cons,List.map_cons] at e
   injection e with e1 e2
   rw[List.any_cons,List.any_cons,ih e2,e1]
theorem BK {k:Key}{d:D}{v:V} (rd:RelD K mg ρ H d v) {kvs:List (Key×D)}{ws:List (Key×V)} (e:ws.map (·.1)=kvs.map (·.1)) (r:RelDs K mg ρ H (kvs.map (·.2)) (ws.map (·.2))):(dJ ws k v).map (·.1)=(mi kvs k d).map (·.1)/\RelDs K mg ρ H ((mi kvs k d).map (·.2)) ((dJ ws k v).map (·.2)):=by
 unfold dJ mi
 rw[tN e]
 by_cases hc:(kvs.any λkv=>decide (kv.1=k))=true
 ·rw[if_pos hc,if_pos hc]
  clear hc
  induction kvs generalizing ws with
  |
   nil=>
   cases ws with
   | nil=>exact⟨rfl,.nil⟩
   | cons _ _=>cases e
  |
   cons p kvs ih=>
   cases ws with
   | nil=>cases e
   |
    cons w ws=>
    obtain⟨k1,d1⟩:=p
    obtain⟨k2,v2⟩:=w
    rw[List.map_cons,List.map_cons] at e
    injection e with e1 e2
    dsimp only at e1
    subst e1
    cases r with
    |
     cons r rr=>
     obtain⟨h1,h2⟩:=ih e2 rr
     simp only[List.map_cons]
     by_cases hk:k2=k
     ·rw[if_pos hk,if_pos hk]
      exact⟨by rw[h1],.cons rd h2⟩
     ·rw[if_neg hk,if_neg hk]
      exact⟨by rw[h1],.cons r h2⟩
 ·rw[if_neg hc,if_neg hc,List.map_append,List.map_append,List.map_append,List.map_append,e]
  exact⟨rfl,r.append (.cons rd .nil)⟩
def ua:D->D->AH->R D:=λx y h=>match x with
 | .ref n=>(match y with
  | .str k=>(match h[n]? with
   | some (.dct kvs)=>(match lkD kvs (.inr k) with
    | some d=>.ok d h
    | none=>.stuck)
   | _=>.stuck)
  | _=>.stuck)
 | _=>.stuck
def wD (o i v:D) (h:AH):R Unit:=match o with
 | .ref n=>(match i with
  | .str k=>(match h[n]? with
   | some (.dct kvs)=>if kvs.length < 16777216 then .ok () (h.set n (.dct (mi kvs (.inr k) v))) else .stuck
   | _=>.stuck)
  | _=>.stuck)
 | _=>.stuck
def DC:oT:=λo i v H Q=>∃ a H4,o=.ref a/\DPut H a i v H4/\Q H4
variable {X:Cx}{ES:St->XK}{a b:Expr}{F G:ME}{pos:Pos}
theorem og (hu:X.A.units + 1 < cLine):yq X DC:=λpins s σ H o i v ov iv u Q I ro ri rv ⟨a,H4,eo,g,q⟩=>by
 subst eo
 obtain rfl:ov=Value.ref a:=ro
 exact Ag hu I g ri rv λs4 I4=>⟨H4,I4,q⟩
theorem rm:BX K mg DC wD:=λρ h H do_ di dv o i v Q E w ro ri rv p=>by
 unfold wD at p
 split at p
 ·split
   at p
  ·split
    at p
   ·rename_i n k _ kvs e
    split at p
    ·rename_i hl
     cases ro with
     |
      ref ea=>
      cases ri
      obtain⟨ws,h1,h2,h3⟩:=w.ob _ _ _ ea e
      have db:ws.length=kvs.length:=by have:=congrArg List.length h2;simpa using this
      have l:Le ρ H ρ (upd H _ (.dK (dJ ws (.inr k) v))):=tD h1 yk
      obtain⟨k1,k2⟩:=BK (k:=.inr k) rv h2 h3
      exact⟨_,_,rfl,DPut.k (k:=.inr k) h1 (by rw[db];exact hl),p ρ _ l (w.write ea h1 yk ⟨_,dB,k1,k2.mono l⟩)⟩
    ·exact p.elim
   ·exact p.elim
  ·exact p.elim
 ·exact p.elim
theorem Fc (hu:X.A.units + 1 < cLine) (ha:DE K mg X ES a F) (hb:DE K mg X ES b G) (hs:yW b):DE K mg X ES (.Subscript a b pos) (eOp ua F G):=PE.imp (EN hu ha hb hs) λσ H Q q_=>q_.el λρ h ae w re p=>⟨ρ,h,ae,w,re,p.bind.imp λdx h1 ρ1 H1 l1 w1 p1 x rx=>⟨ρ1,h1,ae,w1,re.mono l1,p1.bind.imp λdy h2 ρ2 H2 l2 w2 p2 y ry=>by
 have rx2:=rx.mono l2
 unfold ua at p2
 split at p2
 ·split
   at p2
  ·split
    at p2
   ·rename_i n k _ kvs e
    split at p2
    ·rename_i d q
     cases rx2 with
     |
      ref ea=>
      cases ry
      obtain⟨ws,k1,k2,k3⟩:=w2.ob _ _ _ ea e
      obtain⟨v,q1,rv⟩:=Ei k2 k3 q
      refine⟨_,v,rfl,?_,aP w2 rv p2⟩
      rw[<- q1]
      exact DGet.k (k:=.inr k) k1
    ·exact p2.elim
   ·exact p2.elim
  ·exact p2.elim
 ·exact p2.elim⟩⟩
def pB (ks:List Str) (A:MA):ME:=λae h=>(A ae (h++[.dct []])).bind λds h2=>match h2[h.length]? with
 | some (.dct [])=>if ks.length=ds.length then .ok (.ref h.length) (h2.set h.length (.dct ((ks.map Sum.inr).zip ds))) else .stuck
 | _=>.stuck
def aL:List (Str×ME)->MA
 | []=>qE
 | p :: r=>tw p.2 (aL r)
def tps (K:W.Frag) (mg:Str->Option Value) (ES:St->XK) (prs:List (Str×ME)):List (TE×TE):=prs.map λp=>(tC (.str p.1),rdE K mg ES p.2)
theorem tV {σ:St}:∀ (prs:List (Str×ME)) {ρ:List Addr}{h:AH}{ae:AE}{H:Hp}{Q:List (V×V)->Hp->Prop},Wd K mg ρ h H->RelE K mg ρ H ae σ->PostG K mg ρ H (ES σ) (λds _ ρ' H'=>∀ vs,RelDs K mg ρ' H' ds vs->Q ((prs.map λp=>V.str p.1).zip vs) H') (aL prs ae h)->pH (tps K mg ES prs) σ H Q
 | [],ρ,h,ae,H,Q,w,re,p=>p ρ H Le.refl w [] .nil
 | pr :: r,ρ,h,ae,H,Q,w,re,p=>⟨ρ,h,ae,w,re,(PostG.bind p).imp λd h1 ρ1 H1 l1 w1 p1 y ry=>tV r w1 (re.mono l1) ((PostG.bind p1).imp λds h2 ρ2 H2 l2 w2 p2 vs rs=>p2 ρ2 H2 Le.refl w2 (y :: vs) (.cons (ry.mono l2) rs))⟩
theorem uo:∀ (more acc:List (Key×V)),((acc++more).map (·.1)).Nodup->jx acc more=acc++more
 | [],acc,_=>(List.append_nil _).symm
 |
  (k,v) :: more,acc,h=>by
  show jx (dJ acc k v) more=_
  have hk:fF acc k=none:=by
   unfold fF
   rw[Option.map_eq_none_iff,List.find?_eq_none]
   intro p hp z
   have z:=of_decide_eq_true z
   rw[List.map_append,List.nodup_append] at h
   exact h.2.2 p.1 (List.mem_map_of_mem hp) k (List.mem_cons_self ..) z
  rw[Dv v hk,uo more (acc++[(k,v)]) (by rw[List.append_assoc];exact h),List.append_assoc]
  rfl
theorem EC:PPs X pos [] [] (tps K mg ES []):=Fw
theorem oy {k:Str}{j:Nat}{kp:Pos}{v:Expr}{ks:List (Option Expr)}{vs:List Expr}{prs:List (Str×ME)} (hv:DE K mg X ES v F) (hr:PPs X pos ks vs (tps K mg ES prs)):PPs X pos (some (.Constant (.str k) j kp) :: ks) (v :: vs) (tps K mg ES ((k,F) :: prs)):=Dj Bk hv hr
theorem vp:∀ (ks:List Str) (vs:List V),(ks.map V.str).zip vs=((ks.map Sum.inr).zip vs).map λkv:Key×V=>(kV kv.1,kv.2)
 | [],_=>rfl
 | _ :: _,[]=>rfl
 |
  k :: ks,v :: vs=>by
  show (V.str k,v) :: (ks.map V.str).zip vs=_
  rw[vp ks vs]
  rfl
theorem F1 {keys:List (Option Expr)}{values:List Expr}{prs:List (Str×ME)} (hp:PPs X pos keys values (tps K mg ES prs)) (hall:keys.all (·.isSome)=true) (hl:keys.length=values.length) (h0:keys ≠ []) (h15:keys.length<=15) (hn:(prs.map (·.1)).Nodup) (hp15:prs.length<=15):DE K mg X ES (.Dict keys values pos) (pB (prs.map (·.1)) (aL prs)):=PE.imp (EL hp hall hl h0 h15) λσ H Q q_=>q_.el λρ h ae w re p=>λpp hpp=>by
 have l:Le ρ H (ρ++[pp]) (upd H pp (.dK [])):=(ff hpp).trans rG
 have w1:=w.alloc hpp (o:=.dct []) (u:=.dK []) ⟨[],dB,rfl,.nil⟩
 refine tV prs w1 (re.mono l) ((PostG.mono l (PostG.bind p)).imp λds h2 ρ2 H2 l2 w2 p2 vs rs=>?_)
 split at p2
 ·rename_i e
  split at p2
  ·rename_i db
   have ea:ρ2[h.length]?=some pp:=l2.pre _ _ (by rw[<- w.len,List.getElem?_append_right (Nat.le_refl _),Nat.sub_self];rfl)
   obtain⟨ws,k1,k2,_⟩:=w2.ob _ _ _ ea e
   have:ws=[]:=by cases ws with | nil=>rfl | cons _ _=>cases k2
   subst this
   have hlv:vs.length=prs.length:=by rw[<- rs.len,<- db,List.length_map]
   refine⟨k1,((prs.map (·.1)).map Sum.inr).zip vs,?_,?_,?_⟩
   ·rw[<- vp,List.map_map]
    rfl
   ·rw[List.length_zip,List.length_map,List.length_map]
    omega
   ·have hz:(((prs.map (·.1)).map Sum.inr).zip vs:List (Key×V)).map (·.1)=(prs.map (·.1)).map Sum.inr:=List.map_fst_zip (by rw[List.length_map,List.length_map];omega)
    rw[uo _ [] (by
     rw[List.nil_append,hz]
     exact List.Pairwise.map _ (λa b hab z=>hab (Sum.inr.inj z)) hn),List.nil_append]
    have l3:Le ρ2 H2 ρ2 (upd H2 pp (.dK (((prs.map (·.1)).map Sum.inr).zip vs))):=tD k1 yk
    refine p2 ρ2 _ l3 (w2.write ea k1 yk ⟨_,dB,?_,?_⟩) _ (.ref ea)
    ·rw[hz,List.map_fst_zip (by rw[List.length_map];omega)]
    ·rw[List.map_snd_zip (by rw[List.length_map];omega),List.map_snd_zip (by rw[List.length_map,List.length_map];omega)]
     exact rs.mono l3
  ·exact p2.elim
 ·exact p2.elim
end
theorem Be (bs:List Bool):((List.range bs.length).any λi=>bs.getD i false)=bs.any id:=by
 rw[Bool.eq_iff_iff,List.any_eq_true,List.any_eq_true]
 constructor
 ·rintro⟨i,hi,h⟩
  have hi':=List.mem_range.mp hi
  exact⟨bs[i],List.getElem_mem hi',by simpa [List.getD_eq_getElem?_getD,hi'] using h⟩
 ·rintro⟨x,hx,h⟩
  obtain⟨i,hi,rfl⟩:=List.mem_iff_getElem.mp hx
  exact⟨i,List.mem_range.mpr hi,by simpa [List.getD_eq_getElem?_getD,hi] using h⟩
section
variable {X:Cx}
theorem BH (hc:X.calm=true):CallR X (.builtin "any") (λxs H Q=>∃ (a:Addr) (bs:List Bool),xs=[.ref a]/\SqL X.K H a (bs.map V.bl)/\Q (.bl (bs.any id)) H):=by
 intro pins s σ H xs us Q I r h
 obtain⟨a,bs,rfl,hq,q⟩:=h
 obtain⟨u,rfl,ru⟩:=lU r
 cases ru
 obtain⟨its,rv,p,hz⟩:=I.list hq
 have hl:=rv.length
 rw[List.length_map] at hl
 have hlt:a < s.heap.objs.size:=by obtain⟨o,n,e,_⟩:=p;exact Heap.lt_size e
 refine call_any_walk (wpAny_pyIter_list p.isList ?_)
 refine⟨s.heap.objs.size,_,_,_,_,_,λi=>bs.getD i false,rfl,Walks.list (A:=X.A.in1) (I.ok.hd hc) s.heap.objs.size a (Nat.ne_of_lt hlt) its.toArray,⟨⟨_,Heap.get?_push_size _ rfl,rfl,rfl⟩,(p.keeps λb o e=>Heap.get?_push_of_some _ e).isList⟩,λi v s' Q' E' hP hQ=>?_,λh' tk hk=>?_⟩
 ·have hP':its[i]?=some v:=by simpa using hP
  have hi:i < bs.length:=by rw[hl];exact (List.getElem?_eq_some_iff.mp hP').1
  have hb:(bs.map V.bl)[i]?=some (V.bl bs[i]):=by simp [hi]
  obtain⟨u,hu,ru⟩:=rv.get hb
  rw[hP'] at hu
  cases hu
  cases ru
  refine wpAny_truthy_bool ?_
  have e:bs.getD i false=bs[i]:=by simp [List.getD_eq_getElem?_getD,hi]
  show Q' bs[i] s'
  rw[<- e]
  exact hQ
 ·have e1:its.toArray.size=bs.length:=by rw[List.size_toArray,hl]
  rw[e1,Be]
  have hn:H s.heap.objs.size=none:=I.fresh
  have I1:Inv X pins σ H { s with heap:=s.heap.push { cls:=.type "list_iterator",dict:=none,data:=.fields #[.ref a,rawInt 0] } }:=I.kept (t':=s.toks) λb o e=>Heap.get?_push_of_some _ e
  refine⟨.bl _,H,?_,rfl,q⟩
  refine I.kept (t':=tk) λb o e=>?_
  have hne:b ≠ s.heap.objs.size:=Nat.ne_of_lt (Heap.lt_size e)
  exact hk b o (by simpa using hne) (Heap.get?_push_of_some _ e)
theorem anyK {K:W.Frag} (h:X.K=K) (hc:X.calm=true):CallR X (.builtin "any") (λxs H Q=>∃ (a:Addr) (bs:List Bool),xs=[.ref a]/\SqL K H a (bs.map V.bl)/\Q (.bl (bs.any id)) H):=by subst h;exact BH hc
end
def tR:Fn:=λds h=>match ds with
 | [.ref n]=>match (bC h n).bind iG with
  | some bs=>.ok (.bl (bs.any id)) h
  | none=>.stuck
 | _=>.stuck
section
variable {K:W.Frag}{mg:Str->Option Value}
theorem Ja:cW K mg (λxs H Q=>∃ (a:Addr) (bs:List Bool),xs=[.ref a]/\SqL K H a (bs.map V.bl)/\Q (.bl (bs.any id)) H) tR:=λρ h H ds vs Q E w rs p=>by
 unfold tR at p
 split at p
 ·cases
   rs with
  |
   cons r rs=>
   cases r with
   |
    ref ea=>
    cases rs
    split at p
    ·rename_i bs e
     obtain⟨xs,q,e2⟩:=Option.bind_eq_some_iff.mp e
     ·obtain⟨vs,h1,h2⟩:=cE w ea q
      rw[n6 e2] at h2
      rw[h2.bls] at h1
      exact⟨_,bs,rfl,h1,aP w (.bl _) p⟩
    ·exact p.elim
 ·exact p.elim
end
section
variable {K:W.Frag}{mg:Str->Option Value}{X:Cx}{ES:St->XK}{o:Expr}{F:ME}{pos p2:Pos}
end
end L2
namespace L2
open PySem PySem.Spec PySem.Calls PyProof.Rows
section
variable {X:Cx}{K:W.Frag}{mg:Str->Option Value}{ES:St->XK}{es:List Expr}{gs:MGs}{pos:Pos}
def gUnp (K:W.Frag) (n:Nat) (t:TGs):TG:=λv σ H Q=>∃ a xs,v=.ref a/\(SqT K H a xs\/SqL K H a xs)/\xs.length=n/\t xs σ H Q
theorem Jo {k:Nat}{t:TGs}{n:Nat} (hc:X.calm=true) (h:PGs X es t)
 (hn:(assignEach es X.env).length=n:=by rfl) (hst:(assignEach es X.env).findIdx? (·.1)=none:=by rfl):PG X (.Tuple es k pos) (gUnp X.K n t):=by
 intro pins s σ H v u Q I r hw
 obtain⟨a,xs,e1,hq,hl,hw⟩:=hw
 rcases hq with hq | hq
 ·exact zN hc h hn hst pins s σ H v u Q I r ⟨a,xs,e1,hq,hl,hw⟩
 ·subst e1
  cases r
  obtain⟨its,rv,⟨o,m,ho,oc,od,os⟩,hz⟩:=I.list hq
  have ht:s.heap.IsList a its.toArray:=⟨o,ho,oc,m,os⟩
  rw[assign_Tuple]
  refine wpAny_bind (wpAny_standAt ?_)
  unfold unpack
  rw[hst,hn,show n=its.toArray.size by simp [<- hl,rv.length]]
  refine wpAny_bind (wpAny_holding (W.kun_itemsOf (I.ok.hd hc) ht λh' hx=>?_))
  have I1:Inv X pins σ H { s with heap:=h' }:=I.kept (t':=s.toks) λb o e=>hx b o (Nat.ne_of_lt (Heap.lt_size e)) e
  exact h pins _ σ H xs _ Q I1 (by simpa using rv) hw
def gU (u:MGs):MG:=λd ae h=>match d with
 | .tup ds=>u ds ae h
 | .ref p=>match bC h p with
  | some ds=>u ds ae h
  | none=>.stuck
 | _=>.stuck
theorem GN {k n:Nat} (hK:X.K=K) (hc:X.calm=true) (h:DGs K mg X (λ_=>E0) es gs)
 (hn:(assignEach es X.env).length=n:=by rfl) (hst:(assignEach es X.env).findIdx? (·.1)=none:=by rfl):DG K mg X (λ_=>E0) (.Tuple es k pos) (gU λds ae h=>if ds.length=n then gs ds ae h else .stuck):=by
 subst hK
 refine PG.imp (Jo hc h hn hst) λv σ H Q q_=>q_.el λρ h ae d w re rd p=>?_
 unfold gU at p
 cases rd with
 |
  tup q rs=>
  dsimp only at p
  split at p
  ·rename_i hl
   exact⟨_,_,rfl,.inl q,by rw[<- rs.len];exact hl,ρ,h,ae,_,w,re,rs,p⟩
  ·exact p.elim
 |
  ref ea=>
  dsimp only at p
  split at p
  ·rename_i ds q
   obtain⟨vs,h1,h2⟩:=cE w ea q
   split at p
   ·rename_i hl
    exact⟨_,_,rfl,.inr h1,by rw[<- h2.len];exact hl,ρ,h,ae,_,w,re,h2,p⟩
   ·exact p.elim
  ·exact p.elim
 | _=>exact p.elim
end
end L2
namespace L2
open PySem PySem.Spec PySem.Calls PyProof.Rows
section
variable {X:Cx}{K:W.Frag}{mg:Str->Option Value}{ES:St->XK}{a:Expr}{A:MA}{pos q2 p1 p2:Pos}
def vc (j:Int):List V:=(List.range j.toNat).map λi=>V.int ((i:Nat):Int)
def rLrg:List V->Hp->VK->Prop:=λxs H Q=>∃ j:Int,xs=[.int j]/\-(2 ^ 62)<=j/\j<=16777216/\∀ l,H l=none->Q (.ref l) (upd H l (.lst (vc j)))
theorem xF:∀ (n:Nat) (f:Nat->Int) (is:List Nat) (ys:List Value),CarriedAll ys (is.map λi=>PyData.int (f i))->Vals (is.map λi=>V.int (f i)) ys
 | n,f,[],ys,h=>by cases h;exact .nil
 |
  n,f,i :: is,ys,h=>by
  cases h with
  |
   cons c r=>
   cases c
   exact .cons ⟨_,rfl⟩ (xF n f is _ r)
theorem GX {ta:TA} (hc:X.calm=true) (hl:Gl X "list") (hml:X.mg "list" = none) (hg:Gl X "range") (hm:X.mg "range" = none) (ha:PA X [a] ta) (hs:starEach [a] X.env=[(false,eval a X.env)]:=by rfl)
 (hs1:starEach [.Call (.Name "range" p2) [a] [] q2] X.env=[(false,eval (.Call (.Name "range" p2) [a] [] q2) X.env)]:=by rfl):
 PE X (.Call (.Name "list" p1) [.Call (.Name "range" p2) [a] [] q2] [] pos) (tCB rLrg ta):=by
 intro pins s σ H Q I h
 refine wpAny_Call_Name_kw (iS I hl hml (show bootBuiltins "list" = some (.type "list") from rfl) ?_ (by decide) (by decide))
 refine PyProof.Rows.callWith_type1 ?_ hs1 rfl
 rw[hs1]
 show wpAny _ _ (spliced ((false,eval (.Call (.Name "range" p2) [a] [] q2) X.env) :: [])) _ _ s
 refine Calls.spliced_cons ?_
 refine wpAny_Call_Name_kw (iS I hg hm (show bootBuiltins "range" = some (.type "range") from rfl) ?_ (by decide) (by decide))
 refine PyProof.Rows.callWith_type1 (thn (ha q2 pins s σ H _ I h) λus s1 ⟨vs,H1,I1,r1,q1⟩=>?_) hs rfl
 obtain⟨j,e,h1,h2,q⟩:=q1
 subst e
 cases r1 with
 |
  cons r rr=>
  cases rr
  obtain⟨t,rfl⟩:=r
  refine call_range_1 (Calls.spliced_nil ?_)
  have I2:Inv X pins σ H1 { s1 with heap:=s1.heap.push { cls:=.type "range",data:=.fields #[.int 0 s1.toks,.int j t,.int 1 (s1.toks + 1)] },toks:=s1.toks + 1 + 1 }:=I1.kept λb o e=>Heap.get?_push_of_some _ e
  obtain⟨m,hns,_⟩:=I2.loc
  refine list_rangeD (I.ok.hd hc) (Att.fr_all hns) (news:=[]) (λp hp=>nomatch hp) (IsRange.new ..) (small_one (by omega) (by omega) (by omega) (by omega)) (n:=j.toNat) (by rw[rangeSize_one];split <;> omega) (by omega) ?_
  intro h' tk ys hf hn hk _ _ ⟨⟨c,hpl⟩,_⟩ hcar
  have rv:Vals (vc j) ys:=xF 0 (λi=>((i:Nat):Int)) (List.range j.toNat) ys (by
   unfold rangeInts at hcar
   rw[List.map_map] at hcar
   have e:((λi=>PyData.int i) ∘ λ(i:Nat)=>(0:Int) + (i:Int) * 1)=λi:Nat=>PyData.int (i:Int):=by
    funext i
    simp
   rw[show (PyData.int ∘ λ(i:Nat)=>(0:Int) + (i:Int) * 1)=λi:Nat=>PyData.int (i:Int) from e] at hcar
   exact hcar)
  have hz:(vc j).length<=sizeLine:=by
   unfold vc
   rw[List.length_map,List.length_range]
   have:sizeLine=16777216:=rfl
   omega
  exact⟨.ref _,_,I2.laid (t':=tk) hk (Nat.le_refl _) (show ObjOk X.prog X.w _ h' _ (.lst (vc j)) from ⟨hz,ys,c,rv,hpl⟩),rfl,q _ (I2.hok.fresh (Nat.le_refl _))⟩
def BL (j:Int):List D:=(List.range j.toNat).map λi=>D.int ((i:Nat):Int)
def rE:Fn:=λds h=>match ds with
 | [.int j]=>if -(2 ^ 62)<=j/\j<=16777216 then .ok (.ref h.length) (h++[.lst (BL j)]) else .stuck
 | _=>.stuck
theorem A4 (ρ:List Addr) (H:Hp):∀ is:List Nat,RelDs K mg ρ H (is.map λi=>D.int ((i:Nat):Int)) (is.map λi=>V.int ((i:Nat):Int))
 | []=>.nil
 | i :: is=>.cons (.int _) (A4 ρ H is)
theorem Jd:cW K mg rLrg rE:=λρ h H ds vs Q E w rs p=>by
 unfold rE at p
 split at p
 ·split at p
  ·rename_i hb
   cases rs with
   |
    cons r rs=>
    cases r
    cases rs
    exact⟨_,rfl,hb.1,hb.2,λl hl=>f9 w (A4 ρ H _) hl p⟩
  ·exact p.elim
 ·exact p.elim
theorem IV (hc:X.calm=true) (hl:Gl X "list") (hml:mg "list" = none) (hg:Gl X "range") (hm:mg "range" = none) (ha:DA K mg X ES [a] A) (hk:X.mg=mg:=by rfl) (hs:starEach [a] X.env=[(false,eval a X.env)]:=by rfl)
 (hs1:starEach [.Call (.Name "range" p2) [a] [] q2] X.env=[(false,eval (.Call (.Name "range" p2) [a] [] q2) X.env)]:=by rfl):
 DE K mg X ES (.Call (.Name "list" p1) [.Call (.Name "range" p2) [a] [] q2] [] pos) (eFn rE A):=by
 subst hk
 exact PE.imp (GX hc hl hml hg hm ha hs hs1) (yB Jd)
end
end L2
namespace L2
open PySem PySem.Spec PySem.Calls PyProof.Rows
inductive EntOk (w:World):List DictEntry->List (Str×Int)->Prop
 | nil:EntOk w [] []
 | cons {e:DictEntry}{es:List DictEntry}{k:Str}{i:Int}{t t':Tok}{kvs:List (Str×Int)} (h:e.hash=hashStr w k) (hk:e.key=.str k t) (hv:e.val=.int i t') (r:EntOk w es kvs):EntOk w (e :: es) ((k,i) :: kvs)
def lkS (kvs:List (Str×Int)) (k:Str):Option Int:=(kvs.find? λp=>decide (p.1=k)).map (·.2)
def KDict (w:World) (K:W.Frag) (mg:Str->Option Value) (n:Str) (kvs:List (Str×Int)):Prop:=
 ∃ a o es ep,mg n=some (.ref a)/\(a == sysModules)=false/\List.lookup a K=some o/\o.ExactDict/\o.data=.dict es ep/\EntOk w es.toList kvs/\(kvs.map (·.1)).Nodup
theorem rV {P:Program}{w:World}:∀ {es:List DictEntry}{kvs:List (Str×Int)},EntOk w es kvs->(∀ e ∈ es,∃ k,(bF P w).is k e.key=true/\e.hash=(bF P w).hash k)/\∃ vs:List (Key×Value),Pairs (bF P w) es vs/\vs.map (·.1)=kvs.map (λp=>.inr p.1)/\∀ k:Str,(lkS kvs k=none/\valueAt vs (.inr k)=none)\/∃ i t,lkS kvs k=some i/\valueAt vs (.inr k)=some (.int i t)
 | _,_,.nil=>⟨(λe h=>nomatch h),[],.nil,rfl,λk=>.inl ⟨rfl,rfl⟩⟩
 |
  _,_,.cons (e:=e) (es:=es) (k:=k) (i:=i) (t:=t) (t':=t') (kvs:=kvs) h hk hv r=>by
  obtain⟨h1,vs,h2,h3,h4⟩:=rV (P:=P) r
  have is:(bF P w).is (.inr k) e.key=true:=by rw[hk];exact nS P w k t
  refine⟨λe' he=>?_,(.inr k,.int i t') :: vs,.cons is hv h2,by simp [h3],λk'=>?_⟩
  ·rcases List.mem_cons.mp he with rfl | he
   ·exact⟨.inr k,is,h⟩
   ·exact h1 e' he
  ·by_cases e:k=k'
   ·subst e
    exact .inr ⟨i,t',by simp [lkS],by simp [valueAt]⟩
   ·have n1:¬ (Sum.inr k:Key)=.inr k':=λz=>e (Sum.inr.inj z)
    have a1:lkS ((k,i) :: kvs) k'=lkS kvs k':=by simp [lkS,e]
    have a2:valueAt ((Sum.inr k,Value.int i t') :: vs) (.inr k':Key)=valueAt vs (.inr k'):=by simp [valueAt,n1]
    rw[a1,a2]
    exact h4 k'
theorem sF:∀ {l:List (Str×Int)},(l.map (·.1)).Nodup->(l.map (λp=>(Sum.inr p.1:Key))).Nodup
 | [],_=>.nil
 |
  p :: l,h=>by
  rw[List.map_cons,List.nodup_cons] at h
  rw[List.map_cons,List.nodup_cons]
  refine⟨λz=>h.1 ?_,sF h.2⟩
  obtain⟨q,hq,e⟩:=List.mem_map.mp z
  exact List.mem_map.mpr ⟨q,hq,Sum.inr.inj e⟩
section
variable {X:Cx}{K:W.Frag}{mg:Str->Option Value}{w:World}{n:Str}{kvs:List (Str×Int)}
theorem Ea {pins:List (Addr×Obj)}{σ:St}{H:Hp}{s:Shared} (I:Inv X pins σ H s) (g:KDict X.w X.K X.mg n kvs):∃ a vs,X.mg n=some (.ref a)/\(a == sysModules)=false/\s.heap.DictOf (bF X.prog X.w) a vs/\∀ k:Str,(lkS kvs k=none/\valueAt vs (.inr k)=none)\/∃ i t,lkS kvs k=some i/\valueAt vs (.inr k)=some (.int i t):=by
 obtain⟨a,o,es,ep,h1,h2,h3,h4,h5,h6,h7⟩:=g
 obtain⟨q1,vs,q2,q3,q4⟩:=rV (P:=X.prog) h6
 refine⟨a,vs,h1,h2,⟨o,es,ep,I.kIn a o h3,h4,h5,λe he=>q1 e (by simpa using he),q2,?_⟩,q4⟩
 rw[q3]
 exact sF h7
def Dk (jp:Bool) (mg:Str->Option Value) (n:Str) (kvs:List (Str×Int)):R2:=λx y H Q=>∃ k a,x=.str k/\y=.ref a/\mg n=some (.ref a)/\Q (.bl (jp ^^ (lkS kvs k).isSome)) H
def yz (mg:Str->Option Value) (n:Str) (kvs:List (Str×Int)):R2:=λx y H Q=>∃ k a i,y=.str k/\x=.ref a/\mg n=some (.ref a)/\lkS kvs k=some i/\Q (.int i) H
theorem Gg (hw:X.w=w) (hK:X.K=K) (hm:X.mg=mg) (g:KDict w K mg n kvs):OpR X (compareOp .NotIn) (Dk true mg n kvs):=by
 subst hw hK hm
 intro pins s σ H x y v u Q I rx ry ⟨k,a,ex,ey,e1,q⟩
 subst ex ey
 cases ry
 obtain⟨a',vs,h1,h2,dd,h4⟩:=Ea I g
 have:a'=a:=by rw[h1] at e1;cases e1;rfl
 subst this
 refine wpAny_notIn_of (nG (k:=.inr k) rx) h2 dd.mapOf ⟨.bl (!(valueAt vs (.inr k)).isSome),H,I.tok _,rfl,?_⟩
 rcases h4 k with ⟨z1,z2⟩ | ⟨i,t,z1,z2⟩
 ·rw[z2];rw[z1] at q;exact q
 ·rw[z2];rw[z1] at q;exact q
theorem EE (hw:X.w=w) (hK:X.K=K) (hm:X.mg=mg) (g:KDict w K mg n kvs):IxR X (yz mg n kvs):=by
 subst hw hK hm
 intro value na pins s σ H x y v u Q I rx ry ⟨k,a,i,ey,ex,e1,e2,q⟩ hs
 subst ex ey
 cases rx
 obtain⟨a',vs,h1,h2,dd,h4⟩:=Ea I g
 have:a'=a:=by rw[h1] at e1;cases e1;rfl
 subst this
 rcases h4 k with ⟨z1,z2⟩ | ⟨i',t,z1,z2⟩
 ·rw[e2] at z1;cases z1
 ·rw[e2] at z1
  cases z1
  exact subscriptTail_builtinR (x:=.int i t) dd.typeIs PySem.F.slot_dict_getitem.lookup (wpAny_getItem_of (nG (k:=.inr k) ry) dd.mapOf z2 ⟨rfl,.int i,H,I.tok _,⟨t,rfl⟩,q⟩) hs
def vw (jp:Bool) (n:Str) (kvs:List (Str×Int)):D->D->AH->R D:=λx y h=>match x,y with
 | .str k,.glb m=>if m=n then .ok (.bl (jp ^^ (lkS kvs k).isSome)) h else .stuck
 | _,_=>.stuck
def o9 (n:Str) (kvs:List (Str×Int)):D->D->AH->R D:=λx y h=>match x,y with
 | .glb m,.str k=>(match lkS kvs k with
  | some i=>if m=n then .ok (.int i) h else .stuck
  | none=>.stuck)
 | _,_=>.stuck
theorem F2 (jp:Bool):OpD K mg (Dk jp mg n kvs) (vw jp n kvs):=λρ h H dx dy x y Q E w rx ry p=>by
 unfold vw at p
 split at p
 ·split at p
  ·rename_i hm
   subst hm
   cases rx
   cases ry with
   | glb m=>exact⟨_,_,rfl,rfl,m,aP w (.bl _) p⟩
  ·exact p.elim
 ·exact p.elim
theorem Dz:OpD K mg (yz mg n kvs) (o9 n kvs):=λρ h H dx dy x y Q E w rx ry p=>by
 unfold o9 at p
 split at p
 ·split at p
  ·rename_i i e
   split at p
   ·rename_i hm
    subst hm
    cases ry
    cases rx with
    | glb m=>exact⟨_,_,_,rfl,rfl,m,e,aP w (.int _) p⟩
   ·exact p.elim
  ·exact p.elim
 ·exact p.elim
end
theorem Ce {K:W.Frag}{h:Heap}{mg:Str->Option Value}{w:World}{n:Str}{kvs:List (Str×Int)}{a:Addr}{es:Array DictEntry}{ep:Nat} (X:K.In h) (G:h.Ns mainGlobals mg) (e1:W.nsIn K mainGlobals n=some (some (.ref a))) (e2:List.lookup a K=some { cls:=.type "dict",data:=.dict es ep }) (hs:(a == sysModules)=false) (he:EntOk w es.toList kvs) (hn:(kvs.map (·.1)).Nodup):KDict w K mg n kvs:=
 ⟨a,_,es,ep,W.mg_of X G e1,hs,e2,⟨rfl,rfl,rfl⟩,rfl,he,hn⟩
end L2
namespace L2
open PySem
theorem KDict.ex {w:World}{K:W.Frag}{mg:Str->Option Value}{n:Str}{kvs:List (Str×Int)} (g:KDict w K mg n kvs):∃ a,mg n=some (.ref a):=let ⟨a,_,_,_,e,_⟩:=g;⟨a,e⟩
end L2
namespace L2
open PySem PySem.Spec PySem.Calls PyProof.Rows
section
variable {X:Cx}{K:W.Frag}{mg:Str->Option Value}
def C0 (jp:Bool) (K:W.Frag):R2:=λx y H Q=>∃ d ds,Rep K H x d/\Rep K H y (.list ds)/\SeqAt.shaped d=true/\SeqAt.shaped (.list ds)=true/\(ds.all λe=>SeqAt.noMix e d)=true/\Q (.bl (jp ^^ decide (Spec.countIn d ds ≠ 0))) H
theorem Ln (h:X.K=K) (hu:X.A.units + 100 < cLine):OpR X (compareOp .NotIn) (C0 true K):=by
 subst h
 intro pins s σ H x y v u Q I rx ry h
 obtain⟨d,ds,r1,r2,h1,h2,h3,q⟩:=h
 obtain⟨as,q1⟩:=r1.reads I rx
 obtain⟨bs,q2⟩:=r2.reads I ry
 rw[List.all_eq_true] at h3
 rw[Bool.true_xor] at q
 exact notIn_list_dataH q2 q1 h2 h1 (by omega) h3 (mH I q rfl)
def tq (h:AH) (x y:D):Option Bool:=match eR 64 h x,eR 64 h y with
 | some d,some (.list ds)=>if SeqAt.shaped d=true/\SeqAt.shaped (.list ds)=true/\(ds.all λe=>SeqAt.noMix e d)=true then some (decide (Spec.countIn d ds ≠ 0)) else none
 | _,_=>none
def uI (jp:Bool):D->D->AH->R D:=λx y h=>match tq h x y with
 | some b=>.ok (.bl (jp ^^ b)) h
 | none=>.stuck
theorem Eo (jp:Bool):OpD K mg (C0 jp K) (uI jp):=λρ h H dx dy x y Q E w rx ry p=>by
 unfold uI at p
 split at p
 ·rename_i b e
  unfold tq at e
  split at e
  ·rename_i d ds e1 e2
   split at e
   ·rename_i hs
    cases e
    exact⟨d,ds,hZ w 64 rx e1,hZ w 64 ry e2,hs.1,hs.2.1,hs.2.2,aP w (.bl _) p⟩
   ·cases e
  ·cases e
 ·exact p.elim
end
end L2
namespace L3
open PySem PySem.Spec PyProof.Rows L2
set_option genInjectivity true in
inductive Val where
 | non | bl (b:Bool) | int (i:Int) | str (x:Str) | ty (n:String) | glb (x:Str) | exc (x:Str)
 | tup (xs:List Val) | lst (xs:List Val) | kl (xs:List Val) | dct (kvs:List (Key×Val)) | set (xs:List Int)
 deriving Inhabited
mutual
inductive Rd (P:Nat->Prop) (h:AH):D->Val->Prop where
 | non:Rd P h .non .non
 | bl (b:Bool):Rd P h (.bl b) (.bl b)
 | int (i:Int):Rd P h (.int i) (.int i)
 | str (x:Str):Rd P h (.str x) (.str x)
 | ty (n:String):Rd P h (.ty n) (.ty n)
 | glb (x:Str):Rd P h (.glb x) (.glb x)
 | exc (x:Str):Rd P h (.exc x) (.exc x)
 | tup {ds:List D}{vs:List Val} (r:Rds P h ds vs):Rd P h (.tup ds) (.tup vs)
 | kl {ds:List D}{vs:List Val} (r:Rds P h ds vs):Rd P h (.kl ds) (.kl vs)
 | cell {n:Nat}{o:Ob}{v:Val} (p:P n) (e:h[n]?=some o) (r:Rc P h o v):Rd P h (.ref n) v
inductive Rc (P:Nat->Prop) (h:AH):Ob->Val->Prop where
 | lst {ds:List D}{vs:List Val} (r:Rds P h ds vs):Rc P h (.lst ds) (.lst vs)
 | fz {ds:List D}{vs:List Val} (r:Rds P h ds vs):Rc P h (.fz ds) (.kl vs)
 | dct {ws:List (Key×D)}{us:List (Key×Val)} (r:Rk P h ws us):Rc P h (.dct ws) (.dct us)
 | set (xs:List Int):Rc P h (.set xs) (.set xs)
inductive Rds (P:Nat->Prop) (h:AH):List D->List Val->Prop where
 | nil:Rds P h [] []
 | cons {d:D}{v:Val}{ds:List D}{vs:List Val} (r:Rd P h d v) (rr:Rds P h ds vs):Rds P h (d :: ds) (v :: vs)
inductive Rk (P:Nat->Prop) (h:AH):List (Key×D)->List (Key×Val)->Prop where
 | nil:Rk P h [] []
 | cons {k:Key}{d:D}{v:Val}{ds:List (Key×D)}{vs:List (Key×Val)} (r:Rd P h d v) (rr:Rk P h ds vs):Rk P h ((k,d) :: ds) ((k,v) :: vs)
end
section
variable {P P':Nat->Prop}{h h':AH}
abbrev Mov (P P':Nat->Prop) (h h':AH):Prop:=∀ n o,P n->h[n]?=some o->P' n/\h'[n]?=some o
theorem Rd.mono (m:Mov P P' h h') {d:D}{v:Val} (r:Rd P h d v):Rd P' h' d v:=@Rd.rec P h (λd v _=>Rd P' h' d v) (λo v _=>Rc P' h' o v) (λds vs _=>Rds P' h' ds vs) (λws us _=>Rk P' h' ws us) .non (λb=>.bl b) (λi=>.int i) (λx=>.str x) (λn=>.ty n) (λx=>.glb x) (λx=>.exc x) (λ_ ih=>.tup ih) (λ_ ih=>.kl ih) (λp e _ ih=>.cell (m _ _ p e).1 (m _ _ p e).2 ih) (λ_ ih=>.lst ih) (λ_ ih=>.fz ih) (λ_ ih=>.dct ih) (λxs=>.set xs) .nil (λ_ _ a b=>.cons a b) .nil (λ_ _ a b=>.cons a b) d v r
theorem Rds.ind {M:List D->List Val->Prop} (h0:M [] []) (h1:∀ {d v ds vs},Rd P h d v->Rds P h ds vs->M ds vs->M (d :: ds) (v :: vs)) {ds:List D}{vs:List Val} (r:Rds P h ds vs):M ds vs:=by
 induction ds generalizing vs with
 | nil=>cases r;exact h0
 |
  cons d ds ih=>
  cases r with
  | cons r rr=>exact h1 r rr (ih rr)
theorem Rk.ind {M:List (Key×D)->List (Key×Val)->Prop} (h0:M [] []) (h1:∀ {k d v ds vs},Rd P h d v->Rk P h ds vs->M ds vs->M ((k,d) :: ds) ((k,v) :: vs)) {ds:List (Key×D)}{vs:List (Key×Val)} (r:Rk P h ds vs):M ds vs:=by
 induction ds generalizing vs with
 | nil=>cases r;exact h0
 |
  cons d ds ih=>
  cases r with
  | cons r rr=>exact h1 r rr (ih rr)
theorem Rds.mono (m:Mov P P' h h') {d:List D}{v:List Val} (r:Rds P h d v):Rds P' h' d v:=r.ind .nil λr _ ih=>.cons (r.mono m) ih
theorem Rk.mono (m:Mov P P' h h') {d:List (Key×D)}{v:List (Key×Val)} (r:Rk P h d v):Rk P' h' d v:=r.ind .nil λr _ ih=>.cons (r.mono m) ih
theorem Rc.mono (m:Mov P P' h h') {d:Ob}{v:Val} (r:Rc P h d v):Rc P' h' d v:=by
 cases r with
 | lst r=>exact .lst (r.mono m)
 | fz r=>exact .fz (r.mono m)
 | dct r=>exact .dct (r.mono m)
 | set xs=>exact .set xs
theorem Rds.len {ds:List D}{vs:List Val} (r:Rds P h ds vs):ds.length=vs.length:=r.ind (M:=λds vs=>ds.length=vs.length) rfl λ_ _ ih=>congrArg (· + 1) ih
theorem Rds.get {ds:List D}{vs:List Val}{i:Nat}{v:Val} (r:Rds P h ds vs) (e:vs[i]?=some v):∃ d,ds[i]?=some d/\Rd P h d v:=
 r.ind (M:=λds vs=>∀ i,vs[i]?=some v->∃ d,ds[i]?=some d/\Rd P h d v) (λ_ e=>by rw[List.getElem?_nil] at e;cases e) (λr _ ih i e=>match i,e with
  | 0,e=>by cases e;exact⟨_,rfl,r⟩
  | i + 1,e=>ih i e) i e
theorem Rds.append {ds es:List D}{vs ws:List Val} (r:Rds P h ds vs) (q:Rds P h es ws):Rds P h (ds++es) (vs++ws):=r.ind (M:=λds vs=>Rds P h (ds++es) (vs++ws)) q λr _ ih=>.cons r ih
theorem Rds.take {ds:List D}{vs:List Val} (n:Nat) (r:Rds P h ds vs):Rds P h (ds.take n) (vs.take n):=
 r.ind (M:=λds vs=>∀ n:Nat,Rds P h (ds.take n) (vs.take n)) (λn=>by rw[List.take_nil,List.take_nil];exact .nil) (λr _ ih n=>by cases n with | zero=>exact .nil | succ n=>exact .cons r (ih n)) n
theorem Rds.drop {ds:List D}{vs:List Val} (n:Nat) (r:Rds P h ds vs):Rds P h (ds.drop n) (vs.drop n):=
 r.ind (M:=λds vs=>∀ n:Nat,Rds P h (ds.drop n) (vs.drop n)) (λn=>by rw[List.drop_nil,List.drop_nil];exact .nil) (λr rr ih n=>by cases n with | zero=>exact .cons r rr | succ n=>exact ih n) n
theorem Rds.reverse {ds:List D}{vs:List Val} (r:Rds P h ds vs):Rds P h ds.reverse vs.reverse:=by
 induction ds generalizing vs with
 | nil=>cases r;exact .nil
 |
  cons d ds ih=>
  cases r with
  | cons q rr=>rw[List.reverse_cons,List.reverse_cons];exact (ih rr).append (.cons q .nil)
def ShR (P:Nat->Prop) (h:AH) (d:D) (v:Val):Prop:=Rd P h d v\/∃ n o,d=.ref n/\h[n]?=some o/\Rc P h o v
inductive ShRs (P:Nat->Prop) (h:AH):List D->List Val->Prop where
 | nil:ShRs P h [] []
 | cons {d:D}{v:Val}{ds:List D}{vs:List Val} (r:ShR P h d v) (rr:ShRs P h ds vs):ShRs P h (d :: ds) (v :: vs)
def Val.items:Val->Option (List Val)
 | .tup xs=>some xs
 | .lst xs=>some xs
 | .kl xs=>some xs
 | _=>none
theorem ShR.int {d:D}{i:Int} (r:ShR P h d (.int i)):d=.int i:=by
 rcases r with r | ⟨n,o,rfl,e,r⟩
 ·cases r with
  | int=>rfl
  | cell p e r=>cases r
 ·cases r
theorem ShR.str {d:D}{i:Str} (r:ShR P h d (.str i)):d=.str i:=by
 rcases r with r | ⟨n,o,rfl,e,r⟩
 ·cases r with
  | str=>rfl
  | cell p e r=>cases r
 ·cases r
theorem ShR.bl {d:D}{i:Bool} (r:ShR P h d (.bl i)):d=.bl i:=by
 rcases r with r | ⟨n,o,rfl,e,r⟩
 ·cases r with
  | bl=>rfl
  | cell p e r=>cases r
 ·cases r
theorem ShR.non {d:D} (r:ShR P h d .non):d=.non:=by
 rcases r with r | ⟨n,o,rfl,e,r⟩
 ·cases r with
  | non=>rfl
  | cell p e r=>cases r
 ·cases r
theorem ShR.exc {d:D}{x:Str} (r:ShR P h d (.exc x)):d=.exc x:=by
 rcases r with r | ⟨n,o,rfl,e,r⟩
 ·cases r with
  | exc=>rfl
  | cell p e r=>cases r
 ·cases r
theorem ShR.ty {d:D}{x:String} (r:ShR P h d (.ty x)):d=.ty x:=by
 rcases r with r | ⟨n,o,rfl,e,r⟩
 ·cases r with
  | ty=>rfl
  | cell p e r=>cases r
 ·cases r
theorem ShR.glb {d:D}{x:Str} (r:ShR P h d (.glb x)):d=.glb x:=by
 rcases r with r | ⟨n,o,rfl,e,r⟩
 ·cases r with
  | glb=>rfl
  | cell p e r=>cases r
 ·cases r
theorem ShR.tup {d:D}{vs:List Val} (r:ShR P h d (.tup vs)):∃ ds,d=.tup ds/\Rds P h ds vs:=by
 rcases r with r | ⟨n,o,rfl,e,r⟩
 ·cases r with
  | tup r=>exact⟨_,rfl,r⟩
  | cell p e r=>cases r
 ·cases r
theorem Rc.seq {n:Nat}{o:Ob}{vs:List Val} (e:h[n]?=some o) (r:Rc P h o (.lst vs)):∃ ds,h[n]?=some (.lst ds)/\bC h n=some ds/\Rds P h ds vs:=by
 cases r with
 | lst r=>exact⟨_,e,by unfold bC;rw[e],r⟩
theorem ShR.lst {d:D}{vs:List Val} (r:ShR P h d (.lst vs)):∃ n ds,d=.ref n/\h[n]?=some (.lst ds)/\bC h n=some ds/\Rds P h ds vs:=by
 rcases r with r | ⟨n,o,rfl,e,r⟩
 ·cases r with
  |
   cell p e r=>
   obtain⟨ds,q,r⟩:=Rc.seq e r
   exact⟨_,ds,rfl,q,r⟩
 ·obtain⟨ds,q,r⟩:=Rc.seq e r
  exact⟨_,ds,rfl,q,r⟩
theorem ShR.kl {d:D}{vs:List Val} (r:ShR P h d (.kl vs)):∃ ds,Rds P h ds vs/\(d=.kl ds\/∃ n,d=.ref n/\bC h n=some ds):=by
 rcases r with r | ⟨n,o,rfl,e,r⟩
 ·cases r with
  | kl r=>exact⟨_,r,.inl rfl⟩
  | cell p e r=>cases r with | fz r=>exact⟨_,r,.inr ⟨_,rfl,by unfold bC;rw[e]⟩⟩
 ·cases r with | fz r=>exact⟨_,r,.inr ⟨_,rfl,by unfold bC;rw[e]⟩⟩
theorem ShR.dct {d:D}{us:List (Key×Val)} (r:ShR P h d (.dct us)):∃ n ws,d=.ref n/\h[n]?=some (.dct ws)/\Rk P h ws us:=by
 rcases r with r | ⟨n,o,rfl,e,r⟩
 ·cases r with
  | cell p e r=>cases r with | dct r=>exact⟨_,_,rfl,e,r⟩
 ·cases r with | dct r=>exact⟨_,_,rfl,e,r⟩
theorem ShR.items {d:D}{v:Val}{vs:List Val} (r:ShR P h d v) (e:v.items=some vs):∃ ds,jt h d=some ds/\Rds P h ds vs:=by
 cases v with
 | tup xs=>cases e;obtain⟨ds,rfl,q⟩:=r.tup;exact⟨ds,rfl,q⟩
 | lst xs=>cases e;obtain⟨n,ds,rfl,_,e,q⟩:=r.lst;exact⟨ds,e,q⟩
 |
  kl xs=>
  cases e
  obtain⟨ds,q,rfl | ⟨n,rfl,e⟩⟩:=r.kl
  ·exact⟨ds,rfl,q⟩
  ·exact⟨ds,e,q⟩
 | _=>cases e
end
inductive Sl where
 | no | sh (v:Val) | ow (v:Val) | mu (v:Val) | lo (v:Val) | lm (v:Val)
 deriving Inhabited
abbrev E3:=List Sl
def Sl.val:Sl->Option Val
 | .no=>none
 | .sh v=>some v
 | .ow v=>some v
 | .mu v=>some v
 | .lo v=>some v
 | .lm v=>some v
def Sl.mt:Sl->Bool
 | .ow _=>true
 | .mu _=>true
 | _=>false
def Sl.lk:Sl->Bool
 | .lo _=>true
 | .lm _=>true
 | _=>false
abbrev Ns:=List (Option Nat)
def Oc (X:Nat->Prop) (ns:Ns) (n:Nat):Prop:=¬ X n/\some n ∉ ns
def cV:Ob->Prop
 | .fz _=>False
 | .any=>False
 | _=>True
def SlR (P:Nat->Prop) (h0:Nat) (n:Option (Option Nat)) (d:Option (Option D)) (h:AH):Sl->Prop
 | .no=>n=some none
 | .sh v=>n=some none/\∃ x,d=some (some x)/\Rd P h x v
 | .ow v=>∃ m o,n=some (some m)/\d=some (some (.ref m))/\h0<=m/\h[m]?=some o/\cV o/\Rc P h o v
 | .lo v=>∃ m o,n=some (some m)/\d=some (some (.ref m))/\h0<=m/\h[m]?=some o/\cV o/\Rc P h o v
 | .mu v=>∃ m o,n=some (some m)/\d=some (some (.ref m))/\h[m]?=some o/\cV o/\Rc P h o v
 | .lm v=>∃ m o,n=some (some m)/\d=some (some (.ref m))/\h[m]?=some o/\cV o/\Rc P h o v
structure Sat (X:Nat->Prop) (h0:Nat) (ns:Ns) (e:E3) (ae:AE) (h:AH):Prop where
 l1:ae.length=e.length
 l2:ns.length=e.length
 lh:h0<=h.length
 xl:∀ (n:Nat),X n->n < h.length
 inj:∀ (i j n:Nat),ns[i]?=some (some n)->ns[j]?=some (some n)->i=j
 nx:∀ (i n:Nat),ns[i]?=some (some n)->¬ X n
 sl:∀ (i:Nat) (s:Sl),e[i]?=some s->SlR (Oc X ns) h0 (ns[i]?) (ae[i]?) h s
def Mt (ns:Ns) (e:E3) (n:Nat):Prop:=∃ (i:Nat) (s:Sl),ns[i]?=some (some n)/\e[i]?=some s/\s.mt=true
structure Stp (ns:Ns) (e:E3) (h:AH) (ns':Ns) (e':E3) (h':AH):Prop where
 len:h.length<=h'.length
 keep:∀ (m:Nat) (o:Ob),h[m]?=some o->¬ Mt ns e m->h'[m]?=some o
 nw:∀ (i n:Nat),ns'[i]?=some (some n)->ns[i]?=some (some n)\/h.length<=n
 lk:∀ (i:Nat) (s:Sl),e[i]?=some s->s.lk=true->e'[i]?=some s/\ns'[i]?=ns[i]?
 lk':∀ (i:Nat) (s:Sl),e'[i]?=some s->s.lk=true->e[i]?=some s/\ns'[i]?=ns[i]?
 mu:∀ (i:Nat) (v:Val),e'[i]?=some (.mu v)->∃ u,e[i]?=some (.mu u)/\ns'[i]?=ns[i]?
 mu':∀ (i:Nat) (u:Val),e[i]?=some (.mu u)->∃ v,e'[i]?=some (.mu v)/\ns'[i]?=ns[i]?
section
variable {X:Nat->Prop}{h0:Nat}{ns ns' ns1 j_:Ns}{e e' e1 e2:E3}{ae:AE}{h h' h1 h2:AH}
theorem bH {n:Nat}:some n ∈ ns ↔ ∃ i:Nat,ns[i]?=some (some n):=by
 constructor
 ·intro m;exact List.getElem?_of_mem m
 ·rintro⟨i,e⟩;exact List.mem_of_getElem? e
theorem Sat.own (S:Sat X h0 ns e ae h) {i n:Nat} (q:ns[i]?=some (some n)):∃ s v o,e[i]?=some s/\(s.mt=true\/s.lk=true)/\s.val=some v/\ae[i]?=some (some (.ref n))/\h[n]?=some o/\cV o/\Rc (Oc X ns) h o v:=by
 have hi:i < e.length:=by rw[<- S.l2];exact (List.getElem?_eq_some_iff.mp q).1
 have hs:=S.sl i e[i] (List.getElem?_eq_getElem hi)
 refine⟨e[i],?_⟩
 have he:=List.getElem?_eq_getElem hi
 generalize e[i]=s at *
 rw[q] at hs
 cases s with
 | no=>cases hs
 | sh v=>cases hs.1
 | ow v=>obtain⟨m,o,e1,e2,_,e3,e4,e5⟩:=hs;cases e1;exact⟨v,o,he,.inl rfl,rfl,e2,e3,e4,e5⟩
 | lo v=>obtain⟨m,o,e1,e2,_,e3,e4,e5⟩:=hs;cases e1;exact⟨v,o,he,.inr rfl,rfl,e2,e3,e4,e5⟩
 | mu v=>obtain⟨m,o,e1,e2,e3,e4,e5⟩:=hs;cases e1;exact⟨v,o,he,.inl rfl,rfl,e2,e3,e4,e5⟩
 | lm v=>obtain⟨m,o,e1,e2,e3,e4,e5⟩:=hs;cases e1;exact⟨v,o,he,.inr rfl,rfl,e2,e3,e4,e5⟩
theorem Stp.refl:Stp ns e h ns e h:=⟨Nat.le_refl _,λ_ _ q _=>q,λ_ _ q=>.inl q,λ_ _ q _=>⟨q,rfl⟩,λ_ _ q _=>⟨q,rfl⟩,λ_ _ q=>⟨_,q,rfl⟩,λ_ _ q=>⟨_,q,rfl⟩⟩
theorem Stp.trans (S:Sat X h0 ns e ae h) (a:Stp ns e h ns1 e1 h1) (b:Stp ns1 e1 h1 j_ e2 h2):Stp ns e h j_ e2 h2:=by
 refine⟨Nat.le_trans a.len b.len,λm o q hm=>?_,λi n q=>?_,λi s q hl=>?_,λi s q hl=>?_,λi v q=>?_,λi v q=>?_⟩
 ·refine b.keep m o (a.keep m o q hm) λ⟨i,s,z1,z2,z3⟩=>hm ?_
  have hlt:=(List.getElem?_eq_some_iff.mp q).1
  rcases a.nw i m z1 with z | z
  ·obtain⟨s0,v,o',q1,q2,_⟩:=S.own z
   rcases q2 with q2 | q2
   ·exact⟨i,s0,z,q1,q2⟩
   ·have:=(a.lk i s0 q1 q2).1
    rw[z2] at this
    cases this
    exfalso
    cases s <;> first | cases z3;done | cases q2;done
  ·omega
 ·rcases b.nw i n q with z | z
  ·exact a.nw i n z
  ·exact .inr (Nat.le_trans a.len z)
 ·obtain⟨q1,q2⟩:=a.lk i s q hl
  obtain⟨q3,q4⟩:=b.lk i s q1 hl
  exact⟨q3,q4.trans q2⟩
 ·obtain⟨q1,q2⟩:=b.lk' i s q hl
  obtain⟨q3,q4⟩:=a.lk' i s q1 hl
  exact⟨q3,q2.trans q4⟩
 ·obtain⟨u,q1,q2⟩:=b.mu i v q
  obtain⟨u',q3,q4⟩:=a.mu i u q1
  exact⟨u',q3,q2.trans q4⟩
 ·obtain⟨u,q1,q2⟩:=a.mu' i v q
  obtain⟨u',q3,q4⟩:=b.mu' i u q1
  exact⟨u',q3,q4.trans q2⟩
theorem Stp.mov (S:Sat X h0 ns e ae h) (a:Stp ns e h ns1 e1 h1):Mov (Oc X ns) (Oc X ns1) h h1:=λn o p q=>by
 have hlt:=(List.getElem?_eq_some_iff.mp q).1
 have hm:¬ Mt ns e n:=λ⟨i,s,z,_⟩=>p.2 (bH.mpr ⟨i,z⟩)
 refine⟨⟨p.1,λz=>?_⟩,a.keep n o q hm⟩
 obtain⟨i,z⟩:=bH.mp z
 rcases a.nw i n z with z | z
 ·exact p.2 (bH.mpr ⟨i,z⟩)
 ·omega
theorem dA {n:Nat}{o:Ob} (q:h[n]?=some o):n < h.length:=(List.getElem?_eq_some_iff.mp q).1
theorem nM {n:Nat}{o:Ob}{g:AH} (q:h[n]?=some o):(h++g)[n]?=some o:=by rw[List.getElem?_append_left (dA q)];exact q
theorem xS {o:Ob}:(h++[o])[h.length]?=some o:=by rw[List.getElem?_append_right (Nat.le_refl _),Nat.sub_self];rfl
theorem SlR.mono {P P':Nat->Prop}{n:Option (Option Nat)}{d:Option (Option D)}{s:Sl} (m:Mov P P' h h') (k:∀ j o,n=some (some j)->h[j]?=some o->h'[j]?=some o) (r:SlR P h0 n d h s):SlR P' h0 n d h' s:=by
 cases s with
 | no=>exact r
 | sh v=>obtain⟨q,x,q1,q2⟩:=r;exact⟨q,x,q1,q2.mono m⟩
 | ow v=>obtain⟨j,o,q1,q2,q3,q4,q5,q6⟩:=r;exact⟨j,o,q1,q2,q3,k j o q1 q4,q5,q6.mono m⟩
 | lo v=>obtain⟨j,o,q1,q2,q3,q4,q5,q6⟩:=r;exact⟨j,o,q1,q2,q3,k j o q1 q4,q5,q6.mono m⟩
 | mu v=>obtain⟨j,o,q1,q2,q4,q5,q6⟩:=r;exact⟨j,o,q1,q2,k j o q1 q4,q5,q6.mono m⟩
 | lm v=>obtain⟨j,o,q1,q2,q4,q5,q6⟩:=r;exact⟨j,o,q1,q2,k j o q1 q4,q5,q6.mono m⟩
def Xn (X:Nat->Prop) (n:Nat):Nat->Prop:=λm=>X m\/m=n
theorem Sat.grow (S:Sat X h0 ns e ae h) (o:Ob):Sat (Xn X h.length) h0 ns e ae (h++[o]):=by
 have mv:Mov (Oc X ns) (Oc (Xn X h.length) ns) h (h++[o]):=λn o' p q=>⟨⟨λz=>by
  rcases z with z | z
  ·exact p.1 z
  ·have:=dA q;omega,p.2⟩,nM q⟩
 refine⟨S.l1,S.l2,by rw[List.length_append];have:=S.lh;omega,λn z=>?_,S.inj,λi n q z=>?_,λi s q=>(S.sl i s q).mono mv λj o' _ q'=>nM q'⟩
 ·rw[List.length_append]
  rcases z with z | z
  ·have:=S.xl n z;omega
  ·subst z;show h.length < h.length + 1;omega
 ·rcases z with z | z
  ·exact S.nx i n q z
  ·obtain⟨_,_,_,_,_,_,_,q',_⟩:=S.own q
   have:=dA q';omega
theorem Sat.weak {Y:Nat->Prop} (S:Sat Y h0 ns e ae h) (hx:∀ n,X n->Y n):Sat X h0 ns e ae h:=
 ⟨S.l1,S.l2,S.lh,λn z=>S.xl n (hx n z),S.inj,λi n q z=>S.nx i n q (hx n z),λi s q=>(S.sl i s q).mono (λn o p q=>⟨⟨λz=>p.1 (hx n z),p.2⟩,q⟩) λ_ _ _ q=>q⟩
theorem Stp.grow (o:Ob):Stp ns e h ns e (h++[o]):=⟨by rw[List.length_append];omega,λ_ _ q _=>nM q,λ_ _ q=>.inl q,λ_ _ q _=>⟨q,rfl⟩,λ_ _ q _=>⟨q,rfl⟩,λ_ _ q=>⟨_,q,rfl⟩,λ_ _ q=>⟨_,q,rfl⟩⟩
end
end L3
namespace L3
open PySem PySem.Spec PyProof.Rows L2
section
variable {X:Nat->Prop}{h0:Nat}{ns ns':Ns}{e e':E3}{ae:AE}{h h' hs:AH}
theorem cx {α:Type}{l:List α}{i j:Nat}{a b:α} (hi:i < l.length) (q:(l.set i a)[j]?=some b):(j=i/\b=a)\/(j ≠ i/\l[j]?=some b):=by
 rw[List.getElem?_set] at q
 by_cases z:i=j
 ·subst z
  rw[if_pos rfl,if_pos hi] at q
  exact .inl ⟨rfl,(Option.some.inj q).symm⟩
 ·rw[if_neg z] at q
  exact .inr ⟨λy=>z y.symm,q⟩
theorem cI {α:Type}{l:List α}{i:Nat}{a:α} (hi:i < l.length):(l.set i a)[i]?=some a:=by rw[List.getElem?_set,if_pos rfl,if_pos hi]
theorem bZ {α:Type}{l:List α}{i j:Nat}{a:α} (hi:j ≠ i):(l.set i a)[j]?=l[j]?:=by rw[List.getElem?_set_ne (λy=>hi y.symm)]
theorem ia {i n:Nat} (p:Oc X ns n):Oc X (ns.set i none) n:=⟨p.1,λz=>by
 rcases List.mem_or_eq_of_mem_set z with z | z
 ·exact p.2 z
 ·cases z⟩
theorem Sat.putN (S:Sat X h0 ns e ae h) {i:Nat} (hi:i < e.length) {s:Sl}{d:Option D} (q:SlR (Oc X (ns.set i none)) h0 (some none) (some d) h s):Sat X h0 (ns.set i none) (e.set i s) (ae.set i d) h:=by
 have hn:i < ns.length:=by rw[S.l2];exact hi
 have ha:i < ae.length:=by rw[S.l1];exact hi
 refine⟨by rw[List.length_set,List.length_set];exact S.l1,by rw[List.length_set,List.length_set];exact S.l2,S.lh,S.xl,λj k n q1 q2=>?_,λj n q1=>?_,λj s' q1=>?_⟩
 ·rcases cx hn q1 with ⟨_,z⟩ | ⟨_,z⟩
  ·cases z
  rcases cx hn q2 with ⟨_,y⟩ | ⟨_,y⟩
  ·cases y
  exact S.inj j k n z y
 ·rcases cx hn q1 with ⟨_,z⟩ | ⟨_,z⟩
  ·cases z
  exact S.nx j n z
 ·rcases cx hi q1 with ⟨rfl,rfl⟩ | ⟨z,q2⟩
  ·rw[cI hn,cI ha];exact q
  ·rw[bZ z,bZ z]
   exact (S.sl j s' q2).mono (λn o p q=>⟨ia p,q⟩) λ_ _ _ q=>q
theorem Sat.putN' (S:Sat X h0 ns e ae h) {i:Nat} (hi:i < e.length) {s:Sl} (q:SlR (Oc X (ns.set i none)) h0 (some none) (ae[i]?) h s):Sat X h0 (ns.set i none) (e.set i s) ae h:=by
 have ha:i < ae.length:=by rw[S.l1];exact hi
 have:=S.putN hi (s:=s) (d:=ae[i]) (by rw[List.getElem?_eq_getElem ha] at q;exact q)
 rw[List.set_getElem_self] at this
 exact this
theorem Sat.putO {n:Nat}{o:Ob}{v:Val} (S:Sat (Xn X n) h0 ns e ae h) (hx:¬ X n) {i:Nat} (hi:i < e.length) (hn0:h0<=n) (eo:h[n]?=some o) (hf:cV o) (r:Rc (Oc (Xn X n) ns) h o v):Sat X h0 (ns.set i (some n)) (e.set i (.ow v)) (ae.set i (some (.ref n))) h:=by
 have hn:i < ns.length:=by rw[S.l2];exact hi
 have ha:i < ae.length:=by rw[S.l1];exact hi
 have nn:∀ j:Nat,ns[j]? ≠ some (some n):=λj q=>S.nx j n q (.inr rfl)
 have mv:Mov (Oc (Xn X n) ns) (Oc X (ns.set i (some n))) h h:=λm o' p q=>⟨⟨λz=>p.1 (.inl z),λz=>by
  rcases List.mem_or_eq_of_mem_set z with z | z
  ·exact p.2 z
  ·cases z;exact p.1 (.inr rfl)⟩,q⟩
 refine⟨by rw[List.length_set,List.length_set];exact S.l1,by rw[List.length_set,List.length_set];exact S.l2,S.lh,λm z=>S.xl m (.inl z),λj k m q1 q2=>?_,λj m q1 z=>?_,λj s' q1=>?_⟩
 ·rcases cx hn q1 with ⟨z1,z⟩ | ⟨z1,z⟩ <;> rcases cx hn q2 with ⟨y1,y⟩ | ⟨y1,y⟩
  ·rw[z1,y1]
  ·cases z;exact absurd y (nn k)
  ·cases y;exact absurd z (nn j)
  ·exact S.inj j k m z y
 ·rcases cx hn q1 with ⟨_,y⟩ | ⟨_,y⟩
  ·cases y;exact hx z
  ·exact S.nx j m y (.inl z)
 ·rcases cx hi q1 with ⟨rfl,rfl⟩ | ⟨z,q2⟩
  ·rw[cI hn,cI ha];exact⟨n,o,rfl,rfl,hn0,eo,hf,r.mono mv⟩
  ·rw[bZ z,bZ z]
   exact (S.sl j s' q2).mono mv λ_ _ _ q=>q
def Sl.pl:Sl->Bool
 | .no=>true
 | .sh _=>true
 | .ow _=>true
 | _=>false
theorem Stp.put {ns0:Ns}{e0:E3} (A:Stp ns0 e0 hs ns e h) {i:Nat} (hi:i < e.length) {x:Option Nat} (hx:∀ n,x=some n->hs.length<=n) {s s0:Sl} (q0:e[i]?=some s0) (p0:s0.pl=true) (p:s.pl=true) (l2:ns.length=e.length):Stp ns0 e0 hs (ns.set i x) (e.set i s) h:=by
 have hn:i < ns.length:=by rw[l2];exact hi
 refine⟨A.len,A.keep,λj n q=>?_,λj s' q hl=>?_,λj s' q hl=>?_,λj v q=>?_,λj v q=>?_⟩
 ·rcases cx hn q with ⟨_,z⟩ | ⟨_,z⟩
  ·exact .inr (hx n z.symm)
  ·exact A.nw j n z
 ·obtain⟨q1,q2⟩:=A.lk j s' q hl
  have z:j ≠ i:=λz=>by
   subst z
   rw[q0] at q1;cases q1
   cases s0 <;> first | cases p0;done | cases hl;done
  rw[bZ z,bZ z];exact⟨q1,q2⟩
 ·rcases cx hi q with ⟨_,z⟩ | ⟨z,q1⟩
  ·subst z;cases s' <;> first | cases p;done | cases hl;done
  ·rw[bZ z];exact A.lk' j s' q1 hl
 ·rcases cx hi q with ⟨_,z⟩ | ⟨z,q1⟩
  ·subst z;cases p
  ·rw[bZ z];exact A.mu j v q1
 ·obtain⟨u,q1,q2⟩:=A.mu' j v q
  have z:j ≠ i:=λz=>by
   subst z
   rw[q0] at q1;cases q1;cases p0
  exact⟨u,by rw[bZ z];exact q1,by rw[bZ z];exact q2⟩
end
inductive Tm where
 | val (v:Val) | new (v:Val) | bor (i:Nat)
inductive R3 (α:Type) where
 | ok (a:α) (e:E3) | exc (c:Str) (e:E3) | stuck
def R3.bind {α β:Type} (r:R3 α) (f:α->E3->R3 β):R3 β:=match r with
 | .ok a e=>f a e
 | .exc c e=>.exc c e
 | .stuck=>.stuck
abbrev ME3:=E3->R3 Tm
abbrev MT3:=E3->R3 Bool
abbrev MA3:=E3->R3 (List Tm)
def Po {δ α:Type} (X:Nat->Prop) (h0:Nat) (ns:Ns) (e:E3) (ae:AE) (h:AH) (rel:Ns->E3->AH->δ->α->Prop) (r2:R δ):R3 α->Prop
 | .stuck=>True
 | .ok t e'=>∃ d h' ns',r2=.ok d h'/\Stp ns e h ns' e' h'/\Sat X h0 ns' e' ae h'/\rel ns' e' h' d t
 | .exc c e'=>∃ h' ns',r2=.exc c h'/\Stp ns e h ns' e' h'/\Sat X h0 ns' e' ae h'
def relE (X:Nat->Prop) (h0 L:Nat) (ae:AE) (ns:Ns) (e:E3) (h:AH) (d:D):Tm->Prop
 | .val v=>Rd (Oc X ns) h d v
 | .new v=>∃ n o,d=.ref n/\L<=n/\¬ X n/\h[n]?=some o/\cV o/\Sat (Xn X n) h0 ns e ae h/\Rc (Oc (Xn X n) ns) h o v
 | .bor i=>ae[i]?=some (some d)
def relT (_:Ns) (_:E3) (_:AH) (b c:Bool):Prop:=b=c
inductive TsR (X:Nat->Prop) (ns:Ns) (ae:AE) (h:AH):List D->List Tm->Prop where
 | nil:TsR X ns ae h [] []
 | val {d:D}{v:Val}{ds:List D}{ts:List Tm} (r:Rd (Oc X ns) h d v) (rr:TsR X ns ae h ds ts):TsR X ns ae h (d :: ds) (.val v :: ts)
 | bor {d:D}{i:Nat}{ds:List D}{ts:List Tm} (q:ae[i]?=some (some d)) (rr:TsR X ns ae h ds ts):TsR X ns ae h (d :: ds) (.bor i :: ts)
def relA (X:Nat->Prop) (ae:AE) (ns:Ns) (_:E3) (h:AH) (ds:List D) (ts:List Tm):Prop:=TsR X ns ae h ds ts
def RE (F:ME) (G:ME3):Prop:=∀ X h0 L ns e ae h,Sat X h0 ns e ae h->L<=h.length->Po X h0 ns e ae h (relE X h0 L ae) (F ae h) (G e)
def RT (F:MT) (G:MT3):Prop:=∀ X h0 ns e ae h,Sat X h0 ns e ae h->Po X h0 ns e ae h relT (F ae h) (G e)
def RA (F:MA) (G:MA3):Prop:=∀ X h0 ns e ae h,Sat X h0 ns e ae h->Po X h0 ns e ae h (relA X ae) (F ae h) (G e)
section
variable {X:Nat->Prop}{h0 L:Nat}{ns ns':Ns}{e e':E3}{ae:AE}{h h':AH}
theorem Po.bind {δ δ' α α':Type}{rel:Ns->E3->AH->δ->α->Prop}{rel':Ns->E3->AH->δ'->α'->Prop}{r2:R δ}{r3:R3 α}{f2:δ->AH->R δ'}{f3:α->E3->R3 α'} (S:Sat X h0 ns e ae h) (p:Po X h0 ns e ae h rel r2 r3)
 (k:∀ d t h' ns' e',Stp ns e h ns' e' h'->Sat X h0 ns' e' ae h'->rel ns' e' h' d t->Po X h0 ns' e' ae h' rel' (f2 d h') (f3 t e')):Po X h0 ns e ae h rel' (r2.bind f2) (r3.bind f3):=by
 cases r3 with
 | stuck=>trivial
 | exc c e'=>obtain⟨h',ns',q,q1,q2⟩:=p;subst q;exact⟨h',ns',rfl,q1,q2⟩
 |
  ok t e'=>
  obtain⟨d,h',ns',q,q1,q2,q3⟩:=p
  subst q
  have:=k d t h' ns' e' q1 q2 q3
  show Po X h0 ns e ae h rel' (f2 d h') (f3 t e')
  generalize f3 t e'=r at *
  cases r with
  | stuck=>trivial
  | exc c e2=>obtain⟨h2,j_,y,y1,y2⟩:=this;exact⟨h2,j_,y,q1.trans S y1,y2⟩
  | ok t2 e2=>obtain⟨d2,h2,j_,y,y1,y2,y3⟩:=this;exact⟨d2,h2,j_,y,q1.trans S y1,y2,y3⟩
theorem Po.ret {δ α:Type}{rel:Ns->E3->AH->δ->α->Prop}{d:δ}{t:α} (S:Sat X h0 ns e ae h) (q:rel ns e h d t):Po X h0 ns e ae h rel (.ok d h) (.ok t e):=⟨d,h,ns,rfl,.refl,S,q⟩
theorem TsR.stp {ds:List D}{ts:List Tm} (S:Sat X h0 ns e ae h) (a:Stp ns e h ns' e' h') (r:TsR X ns ae h ds ts):TsR X ns' ae h' ds ts:=by
 induction r with
 | nil=>exact .nil
 | val r _ ih=>exact .val (r.mono (a.mov S)) ih
 | bor q _ ih=>exact .bor q ih
def rs (e:E3):Tm->Option Val
 | .val v=>some v
 | .new v=>some v
 | .bor i=>(e[i]?).bind Sl.val
theorem Sat.bor (S:Sat X h0 ns e ae h) {i:Nat}{d:D}{v:Val} (q:ae[i]?=some (some d)) (r:(e[i]?).bind Sl.val=some v):ShR (Oc X ns) h d v:=by
 cases z:e[i]? with
 | none=>rw[z] at r;cases r
 |
  some s=>
  rw[z] at r
  have y:=S.sl i s z
  rw[q] at y
  have r':s.val=some v:=r
  cases s with
  | no=>cases r'
  | sh u=>cases r';obtain⟨_,x,e1,e2⟩:=y;cases e1;exact .inl e2
  | ow u=>cases r';obtain⟨m,o,_,e2,_,e3,_,e4⟩:=y;cases e2;exact .inr ⟨m,o,rfl,e3,e4⟩
  | lo u=>cases r';obtain⟨m,o,_,e2,_,e3,_,e4⟩:=y;cases e2;exact .inr ⟨m,o,rfl,e3,e4⟩
  | mu u=>cases r';obtain⟨m,o,_,e2,e3,_,e4⟩:=y;cases e2;exact .inr ⟨m,o,rfl,e3,e4⟩
  | lm u=>cases r';obtain⟨m,o,_,e2,e3,_,e4⟩:=y;cases e2;exact .inr ⟨m,o,rfl,e3,e4⟩
theorem relE.new {d:D}{v:Val} (r:relE X h0 L ae ns e h d (.new v)):Rd (Oc X ns) h d v:=by
 obtain⟨n,o,rfl,_,hx,eo,_,S,rc⟩:=r
 exact .cell ⟨hx,λz=>by obtain⟨i,z⟩:=bH.mp z;exact S.nx i n z (.inr rfl)⟩ eo (rc.mono λm o p q=>⟨⟨λz=>p.1 (.inl z),p.2⟩,q⟩)
theorem relE.sh {d:D}{t:Tm}{v:Val} (S:Sat X h0 ns e ae h) (r:relE X h0 L ae ns e h d t) (q:rs e t=some v):ShR (Oc X ns) h d v:=by
 cases t with
 | val u=>cases q;exact .inl r
 | new u=>cases q;exact .inl r.new
 | bor i=>exact S.bor r q
theorem relE.stp {d:D}{t:Tm} (S:Sat X h0 ns e ae h) (a:Stp ns e h ns' e' h') (r:relE X h0 L ae ns e h d t) (hn:∀ v,t ≠ .new v):relE X h0 L ae ns' e' h' d t:=by
 cases t with
 | val u=>exact Rd.mono (a.mov S) r
 | new u=>exact absurd rfl (hn u)
 | bor i=>exact r
def Tm.drop:Tm->Tm
 | .new v=>.val v
 | t=>t
theorem relE.drop {d:D}{t:Tm} (r:relE X h0 L ae ns e h d t):relE X h0 L ae ns e h d t.drop/\∀ v,t.drop ≠ .new v:=by
 cases t with
 | val u=>exact⟨r,λ_ z=>nomatch z⟩
 | new u=>exact⟨r.new,λ_ z=>nomatch z⟩
 | bor i=>exact⟨r,λ_ z=>nomatch z⟩
def rss (e:E3):List Tm->Option (List Val)
 | []=>some []
 | t :: ts=>match rs e t,rss e ts with
  | some v,some vs=>some (v :: vs)
  | _,_=>none
theorem TsR.sh {ds:List D}{ts:List Tm}{vs:List Val} (S:Sat X h0 ns e ae h) (r:TsR X ns ae h ds ts) (q:rss e ts=some vs):ShRs (Oc X ns) h ds vs:=by
 induction r generalizing vs with
 | nil=>cases q;exact .nil
 |
  val r _ ih=>
  unfold rss at q
  split at q
  ·rename_i e1 e2;cases q;cases e1;exact .cons (.inl r) (ih e2)
  ·cases q
 |
  bor q' _ ih=>
  unfold rss at q
  split at q
  ·rename_i e1 e2;cases q;exact .cons (S.bor q' e1) (ih e2)
  ·cases q
end
inductive Bv where
 | val (v:Val) | new (v:Val) | stuck
def BvR (P:Nat->Prop) (h:AH) (r:R D):Bv->Prop
 | .val v=>∃ d,r=.ok d h/\Rd P h d v
 | .new v=>∃ o,r=.ok (.ref h.length) (h++[o])/\cV o/\Rc P h o v
 | .stuck=>True
def Bv.at (b:Bv) (e:E3):R3 Tm:=match b with
 | .val v=>.ok (.val v) e
 | .new v=>.ok (.new v) e
 | .stuck=>.stuck
theorem BvR.po {X:Nat->Prop}{h0 L:Nat}{ns:Ns}{e:E3}{ae:AE}{h:AH}{r:R D}{b:Bv} (S:Sat X h0 ns e ae h) (hl:L<=h.length) (q:BvR (Oc X ns) h r b):Po X h0 ns e ae h (relE X h0 L ae) r (b.at e):=by
 cases b with
 | stuck=>trivial
 | val v=>obtain⟨d,rfl,r⟩:=q;exact Po.ret S r
 |
  new v=>
  obtain⟨o,rfl,hf,r⟩:=q
  have S':=S.grow o
  refine⟨_,_,ns,rfl,.grow o,S'.weak λn z=>.inl z,h.length,o,rfl,hl,λz=>?_,xS,hf,S',r.mono λn o' p q=>⟨⟨λz=>?_,p.2⟩,nM q⟩⟩
  ·have:=S.xl _ z;omega
  ·rcases z with z | z
   ·exact p.1 z
   ·have:=dA q;omega
def RU (g2:D->AH->R D) (g3:Val->Bv):Prop:=∀ P h d v,ShR P h d v->BvR P h (g2 d h) (g3 v)
def RO (g2:D->D->AH->R D) (g3:Val->Val->Bv):Prop:=∀ P h d1 d2 v1 v2,ShR P h d1 v1->ShR P h d2 v2->BvR P h (g2 d1 d2 h) (g3 v1 v2)
def RFn (g2:Fn) (g3:List Val->Bv):Prop:=∀ P h ds vs,ShRs P h ds vs->BvR P h (g2 ds h) (g3 vs)
def BB (i:Nat):ME3:=λe=>match e[i]? with
 | some (.sh v)=>.ok (.val v) e
 | some .no=>.stuck
 | some _=>.ok (.bor i) e
 | none=>.stuck
def vC (v:Val):ME3:=λe=>.ok (.val v) e
def vUn (g:Val->Bv) (F:ME3):ME3:=λe=>(F e).bind λt e1=>match rs e1 t with
 | some v=>(g v).at e1
 | none=>.stuck
def vOp (g:Val->Val->Bv) (F G:ME3):ME3:=λe=>(F e).bind λt1 e1=>(G e1).bind λt2 e2=>match rs e2 t1.drop,rs e2 t2 with
 | some v1,some v2=>(g v1 v2).at e2
 | _,_=>.stuck
def rf:MA3:=λe=>.ok [] e
def DZ (F:ME3) (A:MA3):MA3:=λe=>(F e).bind λt e1=>(A e1).bind λts e2=>.ok (t.drop :: ts) e2
def vFn (g:List Val->Bv) (A:MA3):ME3:=λe=>(A e).bind λts e1=>match rss e1 ts with
 | some vs=>(g vs).at e1
 | none=>.stuck
def df (e:E3):Tm->Option (E3×Val)
 | .val v=>some (e,v)
 | .new v=>some (e,v)
 | .bor i=>match e[i]? with
  | some (.sh v)=>some (e,v)
  | some (.ow v)=>some (e.set i (.sh v),v)
  | _=>none
def dem (e:E3):List Tm->Option (E3×List Val)
 | []=>some (e,[])
 | t :: ts=>match df e t with
  | some (e1,v)=>match dem e1 ts with
   | some (e2,vs)=>some (e2,v :: vs)
   | none=>none
  | none=>none
def vTup (A:MA3):ME3:=λe=>(A e).bind λts e1=>match dem e1 ts with
 | some (e2,vs)=>if vs.length<=16777216 then .ok (.val (.tup vs)) e2 else .stuck
 | none=>.stuck
def vLst (A:MA3):ME3:=λe=>(A e).bind λts e1=>match dem e1 ts with
 | some (e2,vs)=>if vs.length<=16777216 then .ok (.new (.lst vs)) e2 else .stuck
 | none=>.stuck
def bOf:Option Val->Option Bool
 | some (.bl b)=>some b
 | _=>none
def vAnd (F G:ME3):ME3:=λe=>(F e).bind λt e1=>match bOf (rs e1 t) with
 | some true=>G e1
 | some false=>.ok (.val (.bl false)) e1
 | none=>.stuck
def vOr (F G:ME3):ME3:=λe=>(F e).bind λt e1=>match bOf (rs e1 t) with
 | some true=>.ok (.val (.bl true)) e1
 | some false=>G e1
 | none=>.stuck
def vNot (F:ME3):ME3:=λe=>(F e).bind λt e1=>match bOf (rs e1 t) with
 | some b=>.ok (.val (.bl (!b))) e1
 | none=>.stuck
def cOf (F:ME3):MT3:=λe=>(F e).bind λt e1=>match bOf (rs e1 t) with
 | some b=>.ok b e1
 | none=>.stuck
def cAn (c d:MT3):MT3:=λe=>(c e).bind λb e1=>if b=true then d e1 else .ok false e1
def cO (c d:MT3):MT3:=λe=>(c e).bind λb e1=>if b=true then .ok true e1 else d e1
def cNo (c:MT3):MT3:=λe=>(c e).bind λb e1=>.ok (!b) e1
def cY:MT3:=λe=>.ok true e
section
variable {F G:ME}{F3 G3:ME3}{A:MA}{A3:MA3}{c d:MT}{c3 d3:MT3}
theorem HY (i:Nat):RE (dR i) (BB i):=λX h0 L ns e ae h S hl=>by
 unfold BB
 cases q:e[i]? with
 | none=>trivial
 |
  some s=>
  have y:=S.sl i s q
  cases s with
  | no=>trivial
  | sh v=>obtain⟨_,x,e1,e2⟩:=y;unfold dR;rw[e1];exact Po.ret S e2
  | ow v=>obtain⟨m,o,_,e2,_⟩:=y;unfold dR;rw[e2];exact Po.ret S e2
  | lo v=>obtain⟨m,o,_,e2,_⟩:=y;unfold dR;rw[e2];exact Po.ret S e2
  | mu v=>obtain⟨m,o,_,e2,_⟩:=y;unfold dR;rw[e2];exact Po.ret S e2
  | lm v=>obtain⟨m,o,_,e2,_⟩:=y;unfold dR;rw[e2];exact Po.ret S e2
theorem oE {d:D}{v:Val} (r:∀ P h,Rd P h d v):RE (eC d) (vC v):=λX h0 L ns e ae h S hl=>Po.ret S (r _ _)
theorem Mw {g:D->AH->R D}{g3:Val->Bv} (hg:RU g g3) (hF:RE F F3):RE (eUn g F) (vUn g3 F3):=λX h0 L ns e ae h S hl=>
 Po.bind S (hF X h0 L ns e ae h S hl) λd t h1 ns1 e1 a1 S1 r1=>by
  try dsimp only
  split
  ·rename_i v q
   exact BvR.po S1 (Nat.le_trans hl a1.len) (hg _ _ _ _ (r1.sh S1 q))
  ·trivial
theorem MH {g:D->D->AH->R D}{g3:Val->Val->Bv} (hg:RO g g3) (hF:RE F F3) (hG:RE G G3):RE (eOp g F G) (vOp g3 F3 G3):=λX h0 L ns e ae h S hl=>
 Po.bind S (hF X h0 L ns e ae h S hl) λd1 t1 h1 ns1 e1 a1 S1 r1=>Po.bind S1 (hG X h0 L ns1 e1 ae h1 S1 (Nat.le_trans hl a1.len)) λd2 t2 h2 j_ e2 a2 S2 r2=>by
  try dsimp only
  split
  ·rename_i v1 v2 q1 q2
   obtain⟨r1',hn⟩:=r1.drop
   exact BvR.po S2 (Nat.le_trans hl (Nat.le_trans a1.len a2.len)) (hg _ _ _ _ _ _ ((r1'.stp S1 a2 hn).sh S2 q1) (r2.sh S2 q2))
  ·trivial
theorem Ab:RA qE rf:=λX h0 ns e ae h S=>Po.ret S .nil
theorem Fp (hF:RE F F3) (hA:RA A A3):RA (tw F A) (DZ F3 A3):=λX h0 ns e ae h S=>
 Po.bind S (hF X h0 0 ns e ae h S (Nat.zero_le _)) λd1 t1 h1 ns1 e1 a1 S1 r1=>Po.bind S1 (hA X h0 ns1 e1 ae h1 S1) λds ts h2 j_ e2 a2 S2 r2=>by
  obtain⟨r1',hn⟩:=r1.drop
  have r3:=r1'.stp S1 a2 hn
  refine Po.ret S2 ?_
  show TsR X j_ ae h2 (d1 :: ds) (t1.drop :: ts)
  generalize t1.drop=t at *
  cases t with
  | val v=>exact .val r3 r2
  | new v=>exact absurd rfl (hn v)
  | bor i=>exact .bor r3 r2
theorem Ku {g:Fn}{g3:List Val->Bv} (hg:RFn g g3) (hA:RA A A3):RE (eFn g A) (vFn g3 A3):=λX h0 L ns e ae h S hl=>
 Po.bind S (hA X h0 ns e ae h S) λds ts h1 ns1 e1 a1 S1 r1=>by
  try dsimp only
  split
  ·rename_i vs q
   exact BvR.po S1 (Nat.le_trans hl a1.len) (hg _ _ _ _ (TsR.sh S1 r1 q))
  ·trivial
theorem Jt {X:Nat->Prop}{h0:Nat}{ns:Ns}{e:E3}{ae:AE}{h:AH}{i:Nat}{v:Val} (S:Sat X h0 ns e ae h) (q:e[i]?=some (.ow v)):∃ n,ae[i]?=some (some (.ref n))/\Sat X h0 (ns.set i none) (e.set i (.sh v)) ae h/\Stp ns e h (ns.set i none) (e.set i (.sh v)) h/\Rd (Oc X (ns.set i none)) h (.ref n) v:=by
 obtain⟨n,o,q1,q2,_,q3,_,q4⟩:=S.sl i _ q
 have hi:=(List.getElem?_eq_some_iff.mp q).1
 have hn:i < ns.length:=by rw[S.l2];exact hi
 have r:Rd (Oc X (ns.set i none)) h (.ref n) v:=.cell ⟨S.nx i n q1,λz=>by
  obtain⟨j,z⟩:=bH.mp z
  rcases cx hn z with ⟨_,y⟩ | ⟨y,z⟩
  ·cases y
  ·exact y (S.inj j i n z q1)⟩ q3 (q4.mono λm o p q=>⟨ia p,q⟩)
 exact⟨n,q2,S.putN' hi ⟨rfl,_,q2,r⟩,Stp.refl.put (x:=none) hi (λ_ z=>by cases z) q rfl rfl S.l2,r⟩
theorem iq {X:Nat->Prop}{h0 L:Nat}{ns:Ns}{e e':E3}{ae:AE}{h:AH}{d:D}{t:Tm}{v:Val} (S:Sat X h0 ns e ae h) (r:relE X h0 L ae ns e h d t) (q:df e t=some (e',v)):∃ ns',Sat X h0 ns' e' ae h/\Stp ns e h ns' e' h/\Rd (Oc X ns') h d v:=by
 cases t with
 | val u=>cases q;exact⟨ns,S,.refl,r⟩
 | new u=>cases q;exact⟨ns,S,.refl,r.new⟩
 |
  bor i=>
  unfold df at q
  dsimp only at q
  have r':ae[i]?=some (some d):=r
  split at q
  ·rename_i u q1;cases q
   obtain⟨_,x,e1,e2⟩:=S.sl i _ q1
   rw[r'] at e1;cases e1
   exact⟨ns,S,.refl,e2⟩
  ·rename_i u q1;cases q
   obtain⟨n,e1,S',a',e2⟩:=Jt S q1
   rw[r'] at e1;cases e1
   exact⟨_,S',a',e2⟩
  ·cases q
theorem kK {X:Nat->Prop}{h0:Nat}{ae:AE}{h:AH}{ts:List Tm}:∀ {ds:List D}{vs:List Val}{ns:Ns}{e e':E3},Sat X h0 ns e ae h->TsR X ns ae h ds ts->dem e ts=some (e',vs)->∃ ns',Sat X h0 ns' e' ae h/\Stp ns e h ns' e' h/\Rds (Oc X ns') h ds vs:=by
 induction ts with
 | nil=>intro ds vs ns e e' S r q;cases r;cases q;exact⟨ns,S,.refl,.nil⟩
 |
  cons t ts ih=>
  intro ds vs ns e e' S r q
  unfold dem at q
  split at q
  ·rename_i e1 v q1
   split at q
   ·rename_i e2 vs' q2
    cases q
    have hr:∃ d ds',ds=d :: ds'/\relE X h0 0 ae ns e h d t/\TsR X ns ae h ds' ts:=by
     cases r with
     | val r rr=>exact⟨_,_,rfl,r,rr⟩
     | bor r rr=>exact⟨_,_,rfl,r,rr⟩
    obtain⟨d,ds',rfl,hr⟩:=hr
    obtain⟨ns1,S1,a1,r1⟩:=iq S hr.1 q1
    obtain⟨j_,S2,a2,r2⟩:=ih S1 (hr.2.stp S a1) q2
    exact⟨j_,S2,a1.trans S a2,.cons (r1.mono (a2.mov S1)) r2⟩
   ·cases q
  ·cases q
theorem Ju (hA:RA A A3):RE (eFn pE A) (vTup A3):=λX h0 L ns e ae h S hl=>
 Po.bind S (hA X h0 ns e ae h S) λds ts h1 ns1 e1 a1 S1 r1=>by
  try dsimp only
  split
  ·rename_i e2 vs q
   split
   ·rename_i hv
    obtain⟨j_,S2,a2,r2⟩:=kK S1 r1 q
    exact⟨.tup ds,h1,j_,by unfold pE;rw[if_pos (by rw[r2.len];exact hv)],a2,S2,.tup r2⟩
   ·trivial
  ·trivial
theorem Jb (hA:RA A A3):RE (eFn eV A) (vLst A3):=λX h0 L ns e ae h S hl=>
 Po.bind S (hA X h0 ns e ae h S) λds ts h1 ns1 e1 a1 S1 r1=>by
  try dsimp only
  split
  ·rename_i e2 vs q
   split
   ·rename_i hv
    obtain⟨j_,S2,a2,r2⟩:=kK S1 r1 q
    have p:=BvR.po (r:=eV ds h1) (b:=.new (.lst vs)) S2 (Nat.le_trans hl a1.len) ⟨.lst ds,by unfold eV;rw[if_pos (by rw[r2.len];exact hv)],trivial,.lst r2⟩
    obtain⟨d,h',ns',y,y1,y2,y3⟩:=p
    exact⟨d,h',ns',y,a2.trans S1 y1,y2,y3⟩
   ·trivial
  ·trivial
theorem kI {X:Nat->Prop}{h0 L:Nat}{ae:AE}{ns1:Ns}{e1:E3}{h1:AH}{d1:D}{t1:Tm}{b:Bool} (S1:Sat X h0 ns1 e1 ae h1) (r1:relE X h0 L ae ns1 e1 h1 d1 t1) (q:bOf (rs e1 t1)=some b):d1=.bl b:=by
 unfold bOf at q
 split at q
 ·rename_i b' q';cases q;exact (r1.sh S1 q').bl
 ·cases q
theorem Gy (hF:RE F F3) (hG:RE G G3):RE (C8 F G) (vAnd F3 G3):=λX h0 L ns e ae h S hl=>
 Po.bind S (hF X h0 L ns e ae h S hl) λd1 t1 h1 ns1 e1 a1 S1 r1=>by
  try dsimp only
  split
  ·rename_i q;rw[kI S1 r1 q];exact hG X h0 L ns1 e1 ae h1 S1 (Nat.le_trans hl a1.len)
  ·rename_i q;rw[kI S1 r1 q];exact Po.ret S1 (.bl false)
  ·trivial
theorem KH (hF:RE F F3) (hG:RE G G3):RE (eOr F G) (vOr F3 G3):=λX h0 L ns e ae h S hl=>
 Po.bind S (hF X h0 L ns e ae h S hl) λd1 t1 h1 ns1 e1 a1 S1 r1=>by
  try dsimp only
  split
  ·rename_i q;rw[kI S1 r1 q];exact Po.ret S1 (.bl true)
  ·rename_i q;rw[kI S1 r1 q];exact hG X h0 L ns1 e1 ae h1 S1 (Nat.le_trans hl a1.len)
  ·trivial
theorem HI (hF:RE F F3):RE (CT F) (vNot F3):=λX h0 L ns e ae h S hl=>
 Po.bind S (hF X h0 L ns e ae h S hl) λd1 t1 h1 ns1 e1 a1 S1 r1=>by
  try dsimp only
  split
  ·rename_i q;rw[kI S1 r1 q];exact Po.ret S1 (.bl _)
  ·trivial
theorem Lv (hF:RE F F3):RT (tOf F) (cOf F3):=λX h0 ns e ae h S=>
 Po.bind S (hF X h0 0 ns e ae h S (Nat.zero_le _)) λd1 t1 h1 ns1 e1 a1 S1 r1=>by
  try dsimp only
  split
  ·rename_i q;rw[kI S1 r1 q];exact Po.ret S1 rfl
  ·trivial
theorem Lz (hc:RT c c3) (hd:RT d d3):RT (tAn c d) (cAn c3 d3):=λX h0 ns e ae h S=>
 Po.bind S (hc X h0 ns e ae h S) λb b' h1 ns1 e1 a1 S1 r1=>by
  cases r1
  try dsimp only
  split
  ·exact hd X h0 ns1 e1 ae h1 S1
  ·exact Po.ret S1 rfl
theorem rt_o (hc:RT c c3) (hd:RT d d3):RT (tO c d) (cO c3 d3):=λX h0 ns e ae h S=>
 Po.bind S (hc X h0 ns e ae h S) λb b' h1 ns1 e1 a1 S1 r1=>by
  cases r1
  try dsimp only
  split
  ·exact Po.ret S1 rfl
  ·exact hd X h0 ns1 e1 ae h1 S1
theorem KQ (hc:RT c c3):RT (tNo c) (cNo c3):=λX h0 ns e ae h S=>
 Po.bind S (hc X h0 ns e ae h S) λb b' h1 ns1 e1 a1 S1 r1=>by
  cases r1
  exact Po.ret S1 rfl
theorem rt_y:RT tY cY:=λX h0 ns e ae h S=>Po.ret S rfl
end
end L3
namespace L3
open PySem PySem.Spec PyProof.Rows L2
inductive Rt where
 | val (v:Val) | new (v:Val)
inductive SR3 where
 | nx (e:E3) | rt (r:Rt) (e:E3) | bk (e:E3) | ct (e:E3) | exc (c:Str) (e:E3) | stuck
abbrev MS3:=E3->SR3
def RtR (X:Nat->Prop) (h0:Nat) (ns:Ns) (e:E3) (ae:AE) (h:AH) (d:D):Rt->Prop
 | .val v=>Sat X h0 ns e ae h/\Rd (Oc X ns) h d v
 | .new v=>∃ n o,d=.ref n/\h0<=n/\¬ X n/\h[n]?=some o/\cV o/\Sat (Xn X n) h0 ns e ae h/\Rc (Oc (Xn X n) ns) h o v
def PoS (X:Nat->Prop) (h0:Nat) (ns:Ns) (e:E3) (h:AH) (r2:SR):SR3->Prop
 | .stuck=>True
 | .nx e'=>∃ b_ h' ns',r2=.nx b_ h'/\Stp ns e h ns' e' h'/\Sat X h0 ns' e' b_ h'
 | .bk e'=>∃ b_ h' ns',r2=.bk b_ h'/\Stp ns e h ns' e' h'/\Sat X h0 ns' e' b_ h'
 | .ct e'=>∃ b_ h' ns',r2=.ct b_ h'/\Stp ns e h ns' e' h'/\Sat X h0 ns' e' b_ h'
 | .exc c e'=>∃ b_ h' ns',r2=.exc c b_ h'/\Stp ns e h ns' e' h'/\Sat X h0 ns' e' b_ h'
 | .rt r e'=>∃ d b_ h' ns',r2=.rt d h'/\Stp ns e h ns' e' h'/\RtR X h0 ns' e' b_ h' d r
def RS (F:MS) (G:MS3):Prop:=∀ X h0 ns e ae h,Sat X h0 ns e ae h->PoS X h0 ns e h (F ae h) (G e)
def R3.toS {α:Type} (r:R3 α) (f:α->E3->SR3):SR3:=match r with
 | .ok a e=>f a e
 | .exc c e=>.exc c e
 | .stuck=>.stuck
def SR3.then (r:SR3) (f:E3->SR3):SR3:=match r with
 | .nx e=>f e
 | r=>r
section
variable {X:Nat->Prop}{h0 L:Nat}{ns ns1 ns':Ns}{e e1 e':E3}{ae:AE}{h h1 h':AH}
theorem PoS.after {r2:SR}{r3:SR3} (S:Sat X h0 ns e ae h) (a:Stp ns e h ns1 e1 h1) (p:PoS X h0 ns1 e1 h1 r2 r3):PoS X h0 ns e h r2 r3:=by
 cases r3 with
 | stuck=>trivial
 | nx e'=>obtain⟨b_,h',ns',q,q1,q2⟩:=p;exact⟨b_,h',ns',q,a.trans S q1,q2⟩
 | bk e'=>obtain⟨b_,h',ns',q,q1,q2⟩:=p;exact⟨b_,h',ns',q,a.trans S q1,q2⟩
 | ct e'=>obtain⟨b_,h',ns',q,q1,q2⟩:=p;exact⟨b_,h',ns',q,a.trans S q1,q2⟩
 | exc c e'=>obtain⟨b_,h',ns',q,q1,q2⟩:=p;exact⟨b_,h',ns',q,a.trans S q1,q2⟩
 | rt r e'=>obtain⟨d,b_,h',ns',q,q1,q2⟩:=p;exact⟨d,b_,h',ns',q,a.trans S q1,q2⟩
theorem PoS.toS {δ α:Type}{rel:Ns->E3->AH->δ->α->Prop}{r2:R δ}{r3:R3 α}{f2:δ->AH->SR}{f3:α->E3->SR3} (p:Po X h0 ns e ae h rel r2 r3)
 (k:∀ d t h' ns' e',Stp ns e h ns' e' h'->Sat X h0 ns' e' ae h'->rel ns' e' h' d t->PoS X h0 ns e h (f2 d h') (f3 t e')):PoS X h0 ns e h (r2.toS ae f2) (r3.toS f3):=by
 cases r3 with
 | stuck=>trivial
 | exc c e'=>obtain⟨h',ns',rfl,q1,q2⟩:=p;exact⟨ae,h',ns',rfl,q1,q2⟩
 | ok t e'=>obtain⟨d,h',ns',rfl,q1,q2,q3⟩:=p;exact k d t h' ns' e' q1 q2 q3
theorem PoS.nx {b_:AE} (a:Stp ns e h ns' e' h') (S:Sat X h0 ns' e' b_ h'):PoS X h0 ns e h (.nx b_ h') (.nx e'):=⟨b_,h',ns',rfl,a,S⟩
end
def wNx:MS3:=λe=>.nx e
def wCt:MS3:=λe=>.ct e
def wSeq (F G:MS3):MS3:=λe=>(F e).then G
def Ef (F:ME3):MS3:=λe=>(F e).toS λ_ e1=>.nx e1
def wIf (c:MT3) (F G:MS3):MS3:=λe=>(c e).toS λb e1=>if b=true then F e1 else G e1
def rK (t:Tm) (e:E3):SR3:=match t with
 | .val v=>.rt (.val v) e
 | .new v=>.rt (.new v) e
 | .bor i=>match e[i]? with
  | some (.sh v)=>.rt (.val v) e
  | some (.ow v)=>.rt (.new v) (e.set i .no)
  | _=>.stuck
def wRet (F:ME3):MS3:=λe=>(F e).toS rK
def j6 (o:Bool) (i:Nat) (t:Tm) (e:E3):SR3:=match e[i]? with
 | some s0=>if s0.pl=true then (match t with
  | .val v=>.nx (e.set i (.sh v))
  | .new v=>.nx (e.set i (if o=true then .ow v else .sh v))
  | .bor j=>match df e (.bor j) with
   | some (e2,v)=>.nx (e2.set i (.sh v))
   | none=>.stuck) else .stuck
 | none=>.stuck
def wAsg (o:Bool) (i:Nat) (F:ME3):MS3:=λe=>(F e).toS (j6 o i)
abbrev MG3:=Val->E3->Option E3
abbrev kX:=List Val->E3->Option E3
def pN (i:Nat):MG3:=λv e=>match e[i]? with
 | some s=>if s.pl=true then some (e.set i (.sh v)) else none
 | none=>none
def psN:kX:=λvs e=>match vs with
 | []=>some e
 | _=>none
def psC (g:MG3) (u:kX):kX:=λvs e=>match vs with
 | v :: r=>(g v e).bind λe1=>u r e1
 | []=>none
def pT (n:Nat) (u:kX):MG3:=λv e=>match v with
 | .tup vs=>if vs.length=n then u vs e else none
 | _=>none
def DK (F:ME3) (g:MG3):MS3:=λe=>(F e).toS λt e1=>match df e1 t with
 | some (e2,v)=>match g v e2 with
  | some e3=>.nx e3
  | none=>.stuck
 | none=>.stuck
def wPar (i j:Nat) (A:MA3):MS3:=λe=>(A e).toS λts e1=>match dem e1 ts with
 | some (e2,[v,u])=>match (pN i v e2).bind (pN j u) with
  | some e3=>.nx e3
  | none=>.stuck
 | _=>.stuck
def C3 (i:Nat) (g:Val->Val->Bv) (F:ME3):MS3:=λe=>match e[i]? with
 | some (.sh x)=>(F e).toS λt e1=>match rs e1 t with
  | some y=>match g x y with
   | .val z=>match pN i z e1 with
    | some e2=>.nx e2
    | none=>.stuck
   | _=>.stuck
  | none=>.stuck
 | _=>.stuck
def zO (c:Str) (A:MA3):MS3:=λe=>(A e).toS λts e1=>if ts.length<=16777216 then .exc c e1 else .stuck
def RG (g2:MG) (g3:MG3):Prop:=∀ X h0 ns e ae h d v e',Sat X h0 ns e ae h->Rd (Oc X ns) h d v->g3 v e=some e'->∃ b_ ns',g2 d ae h=.ok b_ h/\Sat X h0 ns' e' b_ h/\Stp ns e h ns' e' h
def RGs (g2:MGs) (g3:kX):Prop:=∀ X h0 ns e ae h ds vs e',Sat X h0 ns e ae h->Rds (Oc X ns) h ds vs->g3 vs e=some e'->∃ b_ ns',g2 ds ae h=.ok b_ h/\Sat X h0 ns' e' b_ h/\Stp ns e h ns' e' h
section
variable {F G:ME}{F3 G3:ME3}{A:MA}{A3:MA3}{c d:MT}{c3 d3:MT3}{U V:MS}{U3 V3:MS3}{g:MG}{g3:MG3}{gs:MGs}{gs3:kX}
theorem KJ:RS sNx wNx:=λX h0 ns e ae h S=>.nx .refl S
theorem LQ:RS sCt wCt:=λX h0 ns e ae h S=>⟨ae,h,ns,rfl,.refl,S⟩
theorem IJ (hU:RS U U3) (hV:RS V V3):RS (Ca U V) (wSeq U3 V3):=λX h0 ns e ae h S=>by
 have p:=hU X h0 ns e ae h S
 show PoS X h0 ns e h ((U ae h).then V) ((U3 e).then V3)
 generalize U3 e=r at *
 cases r with
 | stuck=>trivial
 | nx e'=>obtain⟨b_,h',ns',q,q1,q2⟩:=p;rw[q];exact PoS.after S q1 (hV X h0 ns' e' b_ h' q2)
 | bk e'=>obtain⟨b_,h',ns',q,q1,q2⟩:=p;rw[q];exact⟨b_,h',ns',rfl,q1,q2⟩
 | ct e'=>obtain⟨b_,h',ns',q,q1,q2⟩:=p;rw[q];exact⟨b_,h',ns',rfl,q1,q2⟩
 | exc c e'=>obtain⟨b_,h',ns',q,q1,q2⟩:=p;rw[q];exact⟨b_,h',ns',rfl,q1,q2⟩
 | rt r e'=>obtain⟨d,b_,h',ns',q,q1,q2⟩:=p;rw[q];exact⟨d,b_,h',ns',rfl,q1,q2⟩
theorem Gf (hF:RE F F3):RS (zw F) (Ef F3):=λX h0 ns e ae h S=>PoS.toS (hF X h0 0 ns e ae h S (Nat.zero_le _)) λd t h1 ns1 e1 a1 S1 r1=>.nx a1 S1
theorem Lp (hc:RT c c3) (hU:RS U U3) (hV:RS V V3):RS (sIf c U V) (wIf c3 U3 V3):=λX h0 ns e ae h S=>PoS.toS (hc X h0 ns e ae h S) λb b' h1 ns1 e1 a1 S1 r1=>by
 cases r1
 try dsimp only
 split
 ·exact PoS.after S a1 (hU X h0 ns1 e1 ae h1 S1)
 ·exact PoS.after S a1 (hV X h0 ns1 e1 ae h1 S1)
theorem Jc (hF:RE F F3):RS (Df F) (wRet F3):=λX h0 ns e ae h S=>PoS.toS (hF X h0 h0 ns e ae h S S.lh) λd t h1 ns1 e1 a1 S1 r1=>by
 cases t with
 | val v=>exact⟨d,ae,h1,ns1,rfl,a1,S1,r1⟩
 | new v=>obtain⟨n,o,q⟩:=r1;exact⟨d,ae,h1,ns1,rfl,a1,n,o,q⟩
 |
  bor i=>
  unfold rK
  dsimp only
  have r':ae[i]?=some (some d):=r1
  split
  ·rename_i v q
   obtain⟨_,x,e1',e2⟩:=S1.sl i _ q
   rw[r'] at e1';cases e1'
   exact⟨d,ae,h1,ns1,rfl,a1,S1,e2⟩
  ·rename_i v q
   obtain⟨n,o,q1,q2,q3,q4,q5,q6⟩:=S1.sl i _ q
   rw[r'] at q2;cases q2
   have hi:=(List.getElem?_eq_some_iff.mp q).1
   have hn:i < ns1.length:=by rw[S1.l2];exact hi
   have mv:Mov (Oc X ns1) (Oc (Xn X n) (ns1.set i none)) h1 h1:=λm o' p q'=>⟨⟨λz=>by
    rcases z with z | rfl
    ·exact p.1 z
    ·exact p.2 (bH.mpr ⟨i,q1⟩),(ia p).2⟩,q'⟩
   have S2:=S1.putN' hi (s:=.no) rfl
   refine⟨.ref n,ae,h1,ns1.set i none,rfl,a1.put (x:=none) hi (λ_ z=>by cases z) q rfl rfl S1.l2,n,o,rfl,q3,S1.nx i n q1,q4,q5,⟨S2.l1,S2.l2,S2.lh,λm z=>?_,S2.inj,λj m qj z=>?_,λj s qj=>?_⟩,q6.mono mv⟩
   ·rcases z with z | rfl
    ·exact S2.xl m z
    ·exact dA q4
   ·rcases z with z | rfl
    ·exact S2.nx j m qj z
    ·rcases cx hn qj with ⟨_,y⟩ | ⟨y,z⟩
     ·cases y
     ·exact y (S1.inj j i _ z q1)
   ·rcases cx hi qj with ⟨rfl,rfl⟩ | ⟨z,qj'⟩
    ·rw[cI hn];rfl
    ·rw[bZ z]
     exact (S1.sl j s qj').mono mv λ_ _ _ q=>q
  ·trivial
theorem Ip (o:Bool) (i:Nat) (hF:RE F F3):RS (jH F (gN i)) (wAsg o i F3):=λX h0 ns e ae h S=>PoS.toS (hF X h0 h.length ns e ae h S (Nat.le_refl _)) λd t h1 ns1 e1 a1 S1 r1=>by
 show PoS X h0 ns e h (.nx (ae.set i (some d)) h1) (j6 o i t e1)
 unfold j6
 split
 ·rename_i s0 q0
  split
  ·rename_i p0
   have hi:=(List.getElem?_eq_some_iff.mp q0).1
   cases t with
   | val v=>exact .nx (a1.put (x:=none) (s:=.sh v) hi (λ_ z=>by cases z) q0 p0 rfl S1.l2) (S1.putN hi ⟨rfl,d,rfl,Rd.mono (λm o p q=>⟨ia p,q⟩) r1⟩)
   |
    new v=>
    try dsimp only
    split
    ·obtain⟨n,ob,rfl,q1,q2,q3,q4,q5,q6⟩:=r1
     exact .nx (a1.put (x:=some n) (s:=.ow v) hi (λm z=>by cases z;exact q1) q0 p0 rfl S1.l2) (Sat.putO q5 q2 hi (Nat.le_trans S.lh q1) q3 q4 q6)
    ·exact .nx (a1.put (x:=none) (s:=.sh v) hi (λ_ z=>by cases z) q0 p0 rfl S1.l2) (S1.putN hi ⟨rfl,d,rfl,Rd.mono (λm o p q=>⟨ia p,q⟩) r1.new⟩)
   |
    bor j=>
    try dsimp only
    split
    ·rename_i e2 v q2
     obtain⟨j_,S2,a2,r2⟩:=iq S1 r1 q2
     have hq:∃ s2,e2[i]?=some s2/\s2.pl=true:=by
      unfold df at q2
      dsimp only at q2
      split at q2
      ·cases q2;exact⟨s0,q0,p0⟩
      ·rename_i u q3
       cases q2
       by_cases z:i=j
       ·subst z;exact⟨_,cI hi,rfl⟩
       ·exact⟨s0,by rw[bZ z];exact q0,p0⟩
      ·cases q2
     obtain⟨s2,hq1,hq2⟩:=hq
     have hi2:=(List.getElem?_eq_some_iff.mp hq1).1
     exact .nx ((a1.trans S a2).put (x:=none) (s:=.sh v) hi2 (λ_ z=>by cases z) hq1 hq2 rfl S2.l2) (S2.putN hi2 ⟨rfl,d,rfl,Rd.mono (λm o p q=>⟨ia p,q⟩) r2⟩)
    ·trivial
  ·trivial
 ·trivial
theorem yD (i:Nat):RG (gN i) (pN i):=λX h0 ns e ae h d v e' S r q=>by
 unfold pN at q
 split at q
 ·rename_i s q0
  split at q
  ·rename_i p0
   cases q
   have hi:=(List.getElem?_eq_some_iff.mp q0).1
   exact⟨_,ns.set i none,rfl,S.putN hi ⟨rfl,d,rfl,Rd.mono (λm o p q=>⟨ia p,q⟩) r⟩,Stp.refl.put (x:=none) (s:=.sh v) hi (λ_ z=>by cases z) q0 p0 rfl S.l2⟩
  ·cases q
 ·cases q
theorem Ll:RGs gsN psN:=λX h0 ns e ae h ds vs e' S r q=>by
 cases r with
 | nil=>cases q;exact⟨ae,ns,rfl,S,.refl⟩
 | cons _ _=>cases q
theorem LD (hg:RG g g3) (hs:RGs gs gs3):RGs (gsC g gs) (psC g3 gs3):=λX h0 ns e ae h ds vs e' S r q=>by
 cases r with
 | nil=>cases q
 |
  cons r rr=>
  obtain⟨e1,q1,q2⟩:=Option.bind_eq_some_iff.mp q
  obtain⟨k_,ns1,p1,S1,a1⟩:=hg _ _ _ _ _ _ _ _ _ S r q1
  obtain⟨ae2,j_,p2,S2,a2⟩:=hs _ _ _ _ _ _ _ _ _ S1 (rr.mono (a1.mov S)) q2
  refine⟨ae2,j_,?_,S2,a1.trans S a2⟩
  unfold gsC;dsimp only;rw[p1];exact p2
theorem rg_t (n:Nat) (hs:RGs gs gs3):RG (gT λds ae h=>if ds.length=n then gs ds ae h else .stuck) (pT n gs3):=λX h0 ns e ae h d v e' S r q=>by
 unfold pT at q
 split at q
 ·split at q
  ·rename_i hn
   obtain⟨ds,rfl,r2⟩:=ShR.tup (.inl r)
   obtain⟨k_,ns1,p1,S1,a1⟩:=hs _ _ _ _ _ _ _ _ _ S r2 q
   refine⟨k_,ns1,?_,S1,a1⟩
   unfold gT;dsimp only;rw[if_pos (by rw[r2.len];exact hn)];exact p1
  ·cases q
 ·cases q
theorem He (hg:RG g g3):RG (λd ae h=>noX (g d ae h)) g3:=λX h0 ns e ae h d v e' S r q=>by
 obtain⟨k_,ns1,p1,S1,a1⟩:=hg _ _ _ _ _ _ _ _ _ S r q
 exact⟨k_,ns1,by dsimp only;rw[p1];rfl,S1,a1⟩
theorem E5 (hF:RE F F3) (hg:RG g g3):RS (jH F g) (DK F3 g3):=λX h0 ns e ae h S=>PoS.toS (hF X h0 0 ns e ae h S (Nat.zero_le _)) λd t h1 ns1 e1 a1 S1 r1=>by
 try dsimp only
 split
 ·rename_i e2 v q
  obtain⟨j_,S2,a2,r2⟩:=iq S1 r1 q
  split
  ·rename_i e3 q3
   obtain⟨ae3,ns3,p3,S3,a3⟩:=hg _ _ _ _ _ _ _ _ _ S2 r2 q3
   rw[p3]
   exact .nx ((a1.trans S a2).trans S a3) S3
  ·trivial
 ·trivial
theorem Ke (i j:Nat) (hA:RA A A3):RS (B5 i j A) (wPar i j A3):=λX h0 ns e ae h S=>PoS.toS (hA X h0 ns e ae h S) λds ts h1 ns1 e1 a1 S1 r1=>by
 try dsimp only
 cases q:dem e1 ts with
 | none=>trivial
 |
  some w=>
  obtain⟨e2,vs⟩:=w
  obtain⟨j_,S2,a2,r2⟩:=kK S1 r1 q
  match vs,ds,r2 with
  | [],_,_=>trivial
  | [_],_,_=>trivial
  | _ :: _ :: _ :: _,_,_=>trivial
  |
   [v,u],[d,d'],r2=>
   dsimp only
   split
   ·rename_i e3 q3
    obtain⟨e4,q4,q5⟩:=Option.bind_eq_some_iff.mp q3
    cases r2 with
    |
     cons r rr=>
     cases rr with
     |
      cons r' rr=>
      obtain⟨ae3,ns3,p3,S3,a3⟩:=yD i _ _ _ _ _ _ _ _ _ S2 r q4
      obtain⟨ae4,ns4,p4,S4,a4⟩:=yD j _ _ _ _ _ _ _ _ _ S3 (r'.mono (a3.mov S2)) q5
      have z3:ae3=ae.set i (some d):=by have:=p3;unfold gN at this;cases this;rfl
      have z4:ae4=ae3.set j (some d'):=by have:=p4;unfold gN at this;cases this;rfl
      subst z4 z3
      exact .nx (((a1.trans S a2).trans S a3).trans S a4) S4
   ·trivial
theorem GU {gg:D->D->AH->R D}{gg3:Val->Val->Bv} (i:Nat) (hg:RO gg gg3) (hF:RE F F3):RS (tP i gg F) (C3 i gg3 F3):=λX h0 ns e ae h S=>by
 unfold C3
 split
 ·rename_i x q0
  obtain⟨_,dx,e1,r0⟩:=S.sl i _ q0
  unfold tP
  rw[e1]
  refine PoS.toS (hF X h0 0 ns e ae h S (Nat.zero_le _)) λd t h1 ns1 e1 a1 S1 r1=>?_
  try dsimp only
  split
  ·rename_i y q1
   have b:=hg _ _ _ _ _ _ (.inl (r0.mono (a1.mov S))) (r1.sh S1 q1)
   split
   ·rename_i z q2
    rw[q2] at b
    obtain⟨dz,p1,r2⟩:=b
    split
    ·rename_i e2 q3
     rw[p1]
     obtain⟨ae3,ns3,p3,S3,a3⟩:=yD i _ _ _ _ _ _ _ _ _ S1 r2 q3
     have z3:ae3=ae.set i (some dz):=by have:=p3;unfold gN at this;cases this;rfl
     subst z3
     exact .nx (a1.trans S a3) S3
    ·trivial
   ·trivial
  ·trivial
 ·trivial
theorem TsR.len {X:Nat->Prop}{ns:Ns}{ae:AE}{h:AH}{ds:List D}{ts:List Tm} (r:TsR X ns ae h ds ts):ds.length=ts.length:=by
 induction r with
 | nil=>rfl
 | val _ _ ih=>rw[List.length_cons,List.length_cons,ih]
 | bor _ _ ih=>rw[List.length_cons,List.length_cons,ih]
theorem CZ (x:Str) (hA:RA A A3):RS (ur x A) (zO x A3):=λX h0 ns e ae h S=>PoS.toS (hA X h0 ns e ae h S) λds ts h1 ns1 e1 a1 S1 r1=>by
 try dsimp only
 by_cases hl:ts.length<=16777216
 ·rw[if_pos hl,if_pos (by rw[TsR.len r1];exact hl)]
  exact⟨ae,h1,ns1,rfl,a1,S1⟩
 ·rw[if_neg hl];trivial
end
def Sl.re (s:Sl) (u:Val):Sl:=match s with
 | .ow _=>.ow u
 | .mu _=>.mu u
 | s=>s
def Sl.mv:Sl->Option Val
 | .ow v=>some v
 | .mu v=>some v
 | _=>none
section
variable {X:Nat->Prop}{h0 L:Nat}{ns ns1 ns':Ns}{e e1 e':E3}{ae:AE}{h h1 h':AH}
theorem Sat.write (S:Sat X h0 ns e ae h) {i:Nat}{s:Sl}{u:Val} (q:e[i]?=some s) (hm:s.mv=some u):∃ n o,ae[i]?=some (some (.ref n))/\h[n]?=some o/\cV o/\Rc (Oc X ns) h o u/\
 ∀ o' u',cV o'->Rc (Oc X ns) h o' u'->Mov (Oc X ns) (Oc X ns) h (h.set n o')/\Sat X h0 ns (e.set i (s.re u')) ae (h.set n o')/\Stp ns e h ns (e.set i (s.re u')) (h.set n o'):=by
 have hi:=(List.getElem?_eq_some_iff.mp q).1
 have key:∃ n o,ns[i]?=some (some n)/\ae[i]?=some (some (.ref n))/\h[n]?=some o/\cV o/\Rc (Oc X ns) h o u/\s.mt=true/\(∀ o' u',cV o'->Rc (Oc X ns) (h.set n o') o' u'->SlR (Oc X ns) h0 (some (some n)) (some (some (.ref n))) (h.set n o') (s.re u')):=by
  have y:=S.sl i s q
  cases s with
  | ow v=>cases hm;obtain⟨n,o,q1,q2,q3,q4,q5,q6⟩:=y;exact⟨n,o,q1,q2,q4,q5,q6,rfl,λo' u' hf r=>⟨n,o',rfl,rfl,q3,cI (dA q4),hf,r⟩⟩
  | mu v=>cases hm;obtain⟨n,o,q1,q2,q4,q5,q6⟩:=y;exact⟨n,o,q1,q2,q4,q5,q6,rfl,λo' u' hf r=>⟨n,o',rfl,rfl,cI (dA q4),hf,r⟩⟩
  | _=>cases hm
 obtain⟨n,o,k1,k2,k3,k4,k5,k6,k7⟩:=key
 refine⟨n,o,k2,k3,k4,k5,λo' u' hf r=>?_⟩
 have mv:Mov (Oc X ns) (Oc X ns) h (h.set n o'):=λm ob p q'=>⟨p,by
  have:m ≠ n:=λz=>p.2 (bH.mpr ⟨i,by rw[z];exact k1⟩)
  rw[bZ this];exact q'⟩
 refine⟨mv,⟨by rw[List.length_set];exact S.l1,by rw[List.length_set];exact S.l2,by rw[List.length_set];exact S.lh,λm z=>by rw[List.length_set];exact S.xl m z,S.inj,S.nx,λj s' qj=>?_⟩,?_⟩
 ·rcases cx hi qj with ⟨rfl,rfl⟩ | ⟨z,qj'⟩
  ·rw[k1,k2];exact k7 o' u' hf (r.mono mv)
  ·refine (S.sl j s' qj').mono mv λm ob qm qo=>?_
   have:m ≠ n:=λy=>by subst y;exact z (S.inj j i m qm k1)
   rw[bZ this];exact qo
 ·refine⟨by rw[List.length_set];exact Nat.le_refl _,λm ob qm hM=>?_,λ_ _ q=>.inl q,λj s' qj hl=>?_,λj s' qj hl=>?_,λj v qj=>?_,λj v qj=>?_⟩
  ·have:m ≠ n:=λy=>by subst y;exact hM ⟨i,s,k1,q,k6⟩
   rw[bZ this];exact qm
  ·have z:j ≠ i:=λz=>by subst z;rw[q] at qj;cases qj;cases s <;> first | cases hl;done | cases k6;done
   rw[bZ z];exact⟨qj,rfl⟩
  ·rcases cx hi qj with ⟨_,y⟩ | ⟨z,qj'⟩
   ·subst y;cases s <;> first | cases hl;done | cases k6;done
   ·exact⟨qj',rfl⟩
  ·rcases cx hi qj with ⟨rfl,y⟩ | ⟨z,qj'⟩
   ·cases s with
    | mu w=>exact⟨w,q,rfl⟩
    | ow w=>cases y
    | _=>cases k6
   ·exact⟨v,qj',rfl⟩
  ·by_cases z:j=i
   ·subst z;rw[q] at qj;cases qj;exact⟨u',cI hi,rfl⟩
   ·exact⟨v,by rw[bZ z];exact qj,rfl⟩
end
def BC (w2:D->D->D->AH->R Unit) (w3:Val->Val->Val->Option Val):Prop:=∀ P h n o u di vi d v u',¬ P n->h[n]?=some o->cV o->Rc P h o u->ShR P h di vi->Rd P h d v->w3 u vi v=some u'->∃ o',w2 (.ref n) di d h=.ok () (h.set n o')/\cV o'/\Rc P h o' u'
def wSet (i:Nat) (G:ME3) (F:ME3) (w:Val->Val->Val->Option Val):MS3:=λe=>(F e).toS λt e1=>match (e1[i]?).bind Sl.mv with
 | none=>.stuck
 | some _=>(G e1).toS λt2 e2=>match rs e2 t2 with
  | none=>.stuck
  | some vi=>match df e2 t.drop with
   | none=>.stuck
   | some (e3,v)=>match e3[i]? with
    | none=>.stuck
    | some s=>match s.mv with
     | none=>.stuck
     | some u=>match w u vi v with
      | some u'=>.nx (e3.set i (s.re u'))
      | none=>.stuck
def RM (m2:D->List D->AH->R D) (m3:Val->List Val->Option (Val×Val)):Prop:=∀ P h n o u ds vs u' v,h[n]?=some o->cV o->Rc P h o u->Rds P h ds vs->m3 u vs=some (u',v)->ny h (.ref n)=true/\∃ o' d,m2 (.ref n) ds h=.ok d (h.set n o')/\cV o'/\Rc P h o' u'/\Rd P h d v
def lI:Val->Bool
 | .lst _=>true
 | _=>false
def nX (i:Nat) (m:Val->List Val->Option (Val×Val)) (A:MA3):ME3:=λe=>match e[i]? with
 | some s=>if (s.mv.map lI)=some true then (A e).bind λts e1=>match dem e1 ts with
  | some (e2,vs)=>match e2[i]? with
   | some s2=>match s2.mv with
    | some u=>match m u vs with
     | some (u',v)=>.ok (.val v) (e2.set i (s2.re u'))
     | none=>.stuck
    | none=>.stuck
   | none=>.stuck
  | none=>.stuck else .stuck
 | none=>.stuck
section
variable {F G:ME}{F3 G3:ME3}{A:MA}{A3:MA3}
theorem F5 {X:Nat->Prop}{h0:Nat}{ns:Ns}{e:E3}{ae:AE}{h:AH} (S:Sat X h0 ns e ae h) {i:Nat}{u:Val} (q:(e[i]?).bind Sl.mv=some u):∃ n o,ae[i]?=some (some (.ref n))/\h[n]?=some o/\cV o/\Rc (Oc X ns) h o u:=by
 obtain⟨s,q1,q2⟩:=Option.bind_eq_some_iff.mp q
 obtain⟨n,o,k1,k2,k3,k4,_⟩:=S.write q1 q2
 exact⟨n,o,k1,k2,k3,k4⟩
theorem HR {w2:D->D->D->AH->R Unit}{w3:Val->Val->Val->Option Val} (i:Nat) (hw:BC w2 w3) (hG:RE G G3) (hF:RE F F3):RS (jH F (gS (dR i) G w2)) (wSet i G3 F3 w3):=λX h0 ns e ae h S=>PoS.toS (hF X h0 0 ns e ae h S (Nat.zero_le _)) λd t h1 ns1 e1 a1 S1 r1=>by
 try dsimp only
 cases qm:(e1[i]?).bind Sl.mv with
 | none=>trivial
 |
  some u0=>
  obtain⟨n0,o0,b1,b2,b3,b4⟩:=F5 S1 qm
  have L2e:∀ h',(gS (dR i) G w2 d ae h').toS ae (λb_ h2=>SR.nx b_ h2)=(G ae h').toS ae λdi h2=>(w2 (.ref n0) di d h2).toS ae λ_ h3=>.nx ae h3:=λh'=>by
   unfold gS dR
   rw[b1]
   simp only[js]
   cases G ae h' with
   |
    ok di h2=>
    simp only[js]
    show _=(w2 (.ref n0) di d h2).toS ae λ_ h3=>.nx ae h3
    cases w2 (.ref n0) di d h2 <;> rfl
   | exc c h2=>rfl
   | stuck=>rfl
  rw[L2e]
  refine PoS.after S a1 (PoS.toS (hG X h0 0 ns1 e1 ae h1 S1 (Nat.zero_le _)) λdi t2 h2 j_ e2 a2 S2 r2=>?_)
  try dsimp only
  cases qi:rs e2 t2 with
  | none=>trivial
  |
   some vi=>
   try dsimp only
   cases qd:df e2 t.drop with
   | none=>trivial
   |
    some w=>
    obtain⟨e3,v⟩:=w
    try dsimp only
    obtain⟨r1',hn⟩:=r1.drop
    have r3:=r1'.stp S1 a2 hn
    have si:=r2.sh S2 qi
    obtain⟨ns3,S3,a3,r4⟩:=iq S2 r3 qd
    have si3:ShR (Oc X ns3) h2 di vi:=by
     rcases si with z | ⟨n,o,z1,z2,z3⟩
     ·exact .inl (z.mono (a3.mov S2))
     ·exact .inr ⟨n,o,z1,z2,z3.mono (a3.mov S2)⟩
    cases q3:e3[i]? with
    | none=>trivial
    |
     some s=>
     try dsimp only
     cases q4:s.mv with
     | none=>trivial
     |
      some u=>
      try dsimp only
      cases q5:w3 u vi v with
      | none=>trivial
      |
       some u'=>
       obtain⟨n,o,k1,k2,k3,k4,k5⟩:=S3.write q3 q4
       rw[b1] at k1;cases k1
       have nP:¬ Oc X ns3 n0:=λp=>by
        have z1:=((k5 (.lst []) (.lst []) trivial (.lst .nil)).1 _ _ p k2).2
        have z2:=((k5 (.lst [.non]) (.lst [.non]) trivial (.lst (.cons .non .nil))).1 _ _ p k2).2
        rw[cI (dA k2)] at z1 z2
        rw[<- z2] at z1
        cases z1
       obtain⟨o',p1,p2,p3⟩:=hw _ _ _ _ _ _ _ _ _ _ nP k2 k3 k4 si3 r4 q5
       obtain⟨mv,S4,a4⟩:=k5 o' u' p2 p3
       rw[p1]
       exact .nx ((a2.trans S1 a3).trans S1 a4) S4
theorem Ba {m2:D->List D->AH->R D}{m3:Val->List Val->Option (Val×Val)} (i:Nat) (hm:RM m2 m3) (hA:RA A A3):RE (eM m2 (dR i) A) (nX i m3 A3):=λX h0 L ns e ae h S hl=>by
 unfold nX
 cases q0:e[i]? with
 | none=>trivial
 |
  some s0=>
  dsimp only
  split
  ·rename_i hz
   obtain⟨u0,z1,z2⟩:=Option.map_eq_some_iff.mp hz
   obtain⟨n0,o0,b1,b2,b3,b4,_⟩:=S.write q0 z1
   have hL:ny h (.ref n0)=true:=by
    cases u0 with
    | lst xs=>obtain⟨ds,_,e1,_⟩:=Rc.seq b2 b4;show (bC h n0).isSome=true;rw[e1];rfl
    | _=>cases z2
   have L2e:eM m2 (dR i) A ae h=(A ae h).bind λds h2=>m2 (.ref n0) ds h2:=by
    unfold eM dR
    rw[b1]
    simp only[js,hL,if_true]
   rw[L2e]
   refine Po.bind S (hA X h0 ns e ae h S) λds ts h1 ns1 e1 a1 S1 r1=>?_
   try dsimp only
   cases q1:dem e1 ts with
   | none=>trivial
   |
    some w=>
    obtain⟨e2,vs⟩:=w
    try dsimp only
    obtain⟨j_,S2,a2,r2⟩:=kK S1 r1 q1
    cases q2:e2[i]? with
    | none=>trivial
    |
     some s2=>
     try dsimp only
     cases q3:s2.mv with
     | none=>trivial
     |
      some u=>
      try dsimp only
      cases q4:m3 u vs with
      | none=>trivial
      |
       some w=>
       obtain⟨u',v⟩:=w
       obtain⟨n,o,k1,k2,k3,k4,k5⟩:=S2.write q2 q3
       rw[b1] at k1;cases k1
       obtain⟨_,o',d,p1,p2,p3,p4⟩:=hm _ _ _ _ _ _ _ _ _ k2 k3 k4 r2 q4
       obtain⟨mv,S4,a4⟩:=k5 o' u' p2 p3
       exact⟨d,_,j_,p1,a2.trans S1 a4,S4,p4.mono mv⟩
  ·trivial
theorem Fi {m2:D->List D->AH->R D}{m3:Val->List Val->Option (Val×Val)} (i:Nat) (hm:RM m2 m3):RE (eM0 m2 (dR i)) (nX i m3 rf):=by
 have:=Ba i hm Ab
 intro X h0 L ns e ae h S hl
 have p:=this X h0 L ns e ae h S hl
 have e1:eM m2 (dR i) qE ae h=eM0 m2 (dR i) ae h:=by
  unfold eM eM0 qE
  rfl
 rw[e1] at p
 exact p
end
end L3
namespace L3
open PySem PySem.Spec PyProof.Rows L2
def md:Sl->Sl
 | .ow v=>.lo v
 | .mu v=>.lm v
 | s=>s
def nH:Sl->Sl
 | .lo v=>.ow v
 | .lm v=>.mu v
 | s=>s
def lock (e:E3) (k:Nat):E3:=match e[k]? with
 | some s=>e.set k (md s)
 | none=>e
def unlock (e:E3) (k:Nat):E3:=match e[k]? with
 | some s=>e.set k (nH s)
 | none=>e
def lockO (e:E3):Option Nat->E3
 | some k=>lock e k
 | none=>e
def gn (e:E3):Option Nat->E3
 | some k=>unlock e k
 | none=>e
section
variable {X:Nat->Prop}{h0 L:Nat}{ns ns1 ns':Ns}{e e1 e':E3}{ae b_:AE}{h h1 h':AH}
theorem SlR.lock {P:Nat->Prop}{n:Option (Option Nat)}{d:Option (Option D)}{s:Sl} (r:SlR P h0 n d h s):SlR P h0 n d h (md s):=by cases s <;> exact r
theorem SlR.unlock {P:Nat->Prop}{n:Option (Option Nat)}{d:Option (Option D)}{s:Sl} (r:SlR P h0 n d h s):SlR P h0 n d h (nH s):=by cases s <;> exact r
theorem Sat.lock (S:Sat X h0 ns e ae h) (k:Nat):Sat X h0 ns (lock e k) ae h:=by
 unfold L3.lock
 split
 ·rename_i s q
  have hi:=(List.getElem?_eq_some_iff.mp q).1
  refine⟨by rw[List.length_set];exact S.l1,by rw[List.length_set];exact S.l2,S.lh,S.xl,S.inj,S.nx,λj s' qj=>?_⟩
  rcases cx hi qj with ⟨rfl,rfl⟩ | ⟨z,qj'⟩
  ·exact (S.sl j s q).lock
  ·exact S.sl j s' qj'
 ·exact S
theorem Sat.unlock (S:Sat X h0 ns e ae h) (k:Nat):Sat X h0 ns (unlock e k) ae h:=by
 unfold L3.unlock
 split
 ·rename_i s q
  have hi:=(List.getElem?_eq_some_iff.mp q).1
  refine⟨by rw[List.length_set];exact S.l1,by rw[List.length_set];exact S.l2,S.lh,S.xl,S.inj,S.nx,λj s' qj=>?_⟩
  rcases cx hi qj with ⟨rfl,rfl⟩ | ⟨z,qj'⟩
  ·exact (S.sl j s q).unlock
  ·exact S.sl j s' qj'
 ·exact S
theorem kN {k j:Nat} (z:j ≠ k):(lock e k)[j]?=e[j]?:=by
 unfold lock;split
 ·rw[bZ z]
 ·rfl
theorem jV {k j:Nat} (z:j ≠ k):(unlock e k)[j]?=e[j]?:=by
 unfold unlock;split
 ·rw[bZ z]
 ·rfl
theorem qM {k:Nat}{s:Sl} (q:e[k]?=some s):(lock e k)[k]?=some (md s):=by
 unfold lock;rw[q];exact cI (List.getElem?_eq_some_iff.mp q).1
theorem mE {k:Nat}{s:Sl} (q:e[k]?=some s):(unlock e k)[k]?=some (nH s):=by
 unfold unlock;rw[q];exact cI (List.getElem?_eq_some_iff.mp q).1
theorem Stp.unlock {k:Nat}{s:Sl} (q:e[k]?=some s) (hs:s.mt=true) (a:Stp ns (L3.lock e k) h ns' e' h'):Stp ns e h ns' (L3.unlock e' k) h':=by
 have hl:(md s).lk=true:=by cases s <;> first | rfl | cases hs
 have hu:nH (md s)=s:=by cases s <;> first | rfl | cases hs
 obtain⟨qk,nk⟩:=a.lk k _ (qM q) hl
 refine⟨a.len,λm o qm hM=>a.keep m o qm λ⟨j,s',z1,z2,z3⟩=>hM ?_,a.nw,λj s' qj hj=>?_,λj s' qj hj=>?_,λj v qj=>?_,λj v qj=>?_⟩
 ·by_cases z:j=k
  ·subst z;exact⟨j,s,z1,q,hs⟩
  ·rw[kN z] at z2;exact⟨j,s',z1,z2,z3⟩
 ·have z:j ≠ k:=λz=>by subst z;rw[q] at qj;cases qj;cases s <;> first | cases hs;done | cases hj;done
  rw[jV z]
  exact a.lk j s' (by rw[kN z];exact qj) hj
 ·have z:j ≠ k:=λz=>by
   subst z
   rw[mE qk,hu] at qj;cases qj;cases s <;> first | cases hs;done | cases hj;done
  rw[jV z] at qj
  obtain⟨y1,y2⟩:=a.lk' j s' qj hj
  rw[kN z] at y1
  exact⟨y1,y2⟩
 ·by_cases z:j=k
  ·subst z;rw[mE qk,hu] at qj;cases qj;exact⟨v,q,nk⟩
  ·rw[jV z] at qj
   obtain⟨u,y1,y2⟩:=a.mu j v qj
   rw[kN z] at y1
   exact⟨u,y1,y2⟩
 ·by_cases z:j=k
  ·subst z;rw[q] at qj;cases qj;exact⟨v,by rw[mE qk,hu],nk⟩
  ·obtain⟨u,y1,y2⟩:=a.mu' j v (by rw[kN z];exact qj)
   exact⟨u,by rw[jV z];exact y1,y2⟩
end
abbrev MI3:=E3->R3 (List Val×Option Nat)
def Stay (X:Nat->Prop) (ns:Ns) (k:Option Nat) (h h':AH):Prop:=∀ (m:Nat) (o:Ob),h[m]?=some o->(Oc X ns m\/∃ j:Nat,k=some j/\ns[j]?=some (some m))->h'[m]?=some o
def vt (X:Nat->Prop) (ns:Ns) (e:E3) (h:AH) (it:AIt) (p:List Val×Option Nat):Prop:=
 Rds (Oc X ns) h it.items p.1/\(∀ h',Stay X ns p.2 h h'->it.guard h')/\∀ k:Nat,p.2=some k->∃ s,e[k]?=some s/\s.mt=true
def RI (I:MI) (J:MI3):Prop:=∀ X h0 ns e ae h,Sat X h0 ns e ae h->Po X h0 ns e ae h (vt X) (I ae h) (J e)
def jP:Val->Option (List Val)
 | .tup xs=>some xs
 | .lst xs=>some xs
 | _=>none
def fO (t:Tm) (e:E3):Option (List Val×Option Nat):=match t with
 | .val v=>(jP v).map λxs=>(xs,none)
 | .new v=>(jP v).map λxs=>(xs,none)
 | .bor k=>match e[k]? with
  | some (.sh v)=>(jP v).map λxs=>(xs,none)
  | some (.ow (.lst xs))=>some (xs,some k)
  | some (.mu (.lst xs))=>some (xs,some k)
  | _=>none
def D1 (F:ME3):MI3:=λe=>(F e).bind λt e1=>match fO t e1 with
 | some p=>.ok p e1
 | none=>.stuck
def DY (A:MA3):MI3:=λe=>(A e).bind λts e1=>match ts with
 | [t,u]=>(match fO t e1,fO u e1 with
  | some (xs,k),some (ys,none)=>.ok (List.zipWith (λx y=>.tup [x,y]) xs ys,k) e1
  | _,_=>.stuck)
 | _=>.stuck
def qI (lo:Int) (k:Nat):List Val:=(List.range k).map λi=>Val.int (lo + (i:Nat))
structure RgB (j:Int):Prop where
 lo:-(2 ^ 62)<=j
 hi:j < 2 ^ 62
def kr:List Val->Option (List Val)
 | [.int j]=>@ite _ (RgB j) (Classical.propDecidable _) (some (qI 0 j.toNat)) none
 | _=>none
def qT:List Val->Option (List Val)
 | [.int i,.int j]=>@ite _ (RgB i/\RgB j) (Classical.propDecidable _) (some (qI i (j - i).toNat)) none
 | _=>none
def tX (f:List Val->Option (List Val)) (A:MA3):MI3:=λe=>(A e).bind λts e1=>match (rss e1 ts).bind f with
 | some xs=>.ok (xs,none) e1
 | none=>.stuck
section
variable {F:ME}{F3:ME3}{A:MA}{A3:MA3}
theorem zb {X:Nat->Prop}{h0:Nat}{ns:Ns}{e:E3}{ae:AE}{h:AH}{d:D}{v:Val}{xs:List Val} (S:Sat X h0 ns e ae h) (r:Rd (Oc X ns) h d v) (q:jP v=some xs):∃ it,jm d h=some it/\vt X ns e h it (xs,none):=by
 cases v with
 |
  tup ys=>
  cases q
  obtain⟨ds,rfl,r2⟩:=ShR.tup (.inl r)
  exact⟨_,rfl,r2,λ_ _=>trivial,λ_ z=>nomatch z⟩
 |
  lst ys=>
  cases q
  cases r with
  |
   cell p eo rc=>
   rename_i n o
   obtain⟨ds,_,e1,r1⟩:=Rc.seq eo rc
   refine⟨.lst n ds,by unfold jm;dsimp only;rw[e1];rfl,r1,λh' st=>?_,λ_ z=>nomatch z⟩
   show bC h' n=some ds
   have:=st n o eo (.inl p)
   unfold bC at e1 ⊢
   rw[eo] at e1
   rw[this];exact e1
 | _=>cases q
theorem vN {X:Nat->Prop}{h0 L:Nat}{ns:Ns}{e:E3}{ae:AE}{h:AH}{d:D}{t:Tm}{p:List Val×Option Nat} (S:Sat X h0 ns e ae h) (r:relE X h0 L ae ns e h d t) (q:fO t e=some p):∃ it,jm d h=some it/\vt X ns e h it p:=by
 cases t with
 | val v=>obtain⟨xs,q1,rfl⟩:=Option.map_eq_some_iff.mp q;exact zb S r q1
 | new v=>obtain⟨xs,q1,rfl⟩:=Option.map_eq_some_iff.mp q;exact zb S r.new q1
 |
  bor k=>
  have r':ae[k]?=some (some d):=r
  have own:∀ {s xs},e[k]?=some s->s.mv=some (.lst xs)->∃ it,jm d h=some it/\vt X ns e h it (xs,some k):=λ{s xs} q qm=>by
   have hns:∃ n,ns[k]?=some (some n)/\ae[k]?=some (some (.ref n)):=by
    have y:=S.sl k s q
    cases s with
    | ow v=>obtain⟨n,o,y1,y2,_⟩:=y;exact⟨n,y1,y2⟩
    | mu v=>obtain⟨n,o,y1,y2,_⟩:=y;exact⟨n,y1,y2⟩
    | _=>cases qm
   obtain⟨n,y1,y2⟩:=hns
   obtain⟨n',o,k1,k2,k3,k4,_⟩:=S.write q qm
   rw[y2] at k1;cases k1
   rw[r'] at y2;cases y2
   obtain⟨ds,_,e2,r2⟩:=Rc.seq k2 k4
   refine⟨.lst n ds,by unfold jm;dsimp only;rw[e2];rfl,r2,λh' st=>?_,λj z=>?_⟩
   ·show bC h' n=some ds
    have:=st n o k2 (.inr ⟨k,rfl,y1⟩)
    unfold bC at e2 ⊢
    rw[k2] at e2
    rw[this];exact e2
   ·cases z;exact⟨s,q,by cases s <;> first | rfl | cases qm⟩
  unfold fO at q
  dsimp only at q
  split at q
  ·rename_i v qs
   obtain⟨_,x,e2,r2⟩:=S.sl k _ qs
   rw[r'] at e2;cases e2
   obtain⟨xs,q1,rfl⟩:=Option.map_eq_some_iff.mp q
   exact zb S r2 q1
  ·rename_i xs qs;cases q;exact own qs rfl
  ·rename_i xs qs;cases q;exact own qs rfl
  ·cases q
def Dc (d:D) (h:AH):R AIt:=match d with
 | .tup xs=>.ok (.tup xs) h
 | .ref n=>match bC h n with
  | some xs=>.ok (.lst n xs) h
  | none=>.stuck
 | _=>.stuck
theorem Fv {d:D}{h:AH}{it:AIt} (q:jm d h=some it):Dc d h=.ok it h:=by
 cases d with
 | tup xs=>cases q;rfl
 |
  ref n=>
  obtain⟨xs,y1,rfl⟩:=Option.map_eq_some_iff.mp (show (bC h n).map (AIt.lst n)=some it from q)
  unfold Dc;dsimp only;rw[y1]
 | _=>cases q
theorem JR (hF:RE F F3):RI (Dn F) (D1 F3):=λX h0 ns e ae h S=>
 Po.bind S (hF X h0 0 ns e ae h S (Nat.zero_le _)) λd t h1 ns1 e1 a1 S1 r1=>by
  show Po X h0 ns1 e1 ae h1 (vt X) (Dc d h1) _
  cases q:fO t e1 with
  | none=>trivial
  |
   some p=>
   dsimp only
   obtain⟨it,q1,q2⟩:=vN S1 r1 q
   exact⟨it,h1,ns1,Fv q1,.refl,S1,q2⟩
theorem FO {P:Nat->Prop}{h:AH}{ds es:List D}{vs us:List Val} (r:Rds P h ds vs) (q:Rds P h es us):Rds P h (List.zipWith (λx y=>D.tup [x,y]) ds es) (List.zipWith (λx y=>Val.tup [x,y]) vs us):=
 r.ind (M:=λds vs=>∀ {es:List D}{us:List Val},Rds P h es us->Rds P h (List.zipWith (λx y=>D.tup [x,y]) ds es) (List.zipWith (λx y=>Val.tup [x,y]) vs us)) (λ_=>.nil) (λr _ ih _ _ q=>by
  cases q with
  | nil=>exact .nil
  | cons q qq=>exact .cons (.tup (.cons r (.cons q .nil))) (ih qq)) q
theorem tsr1 {X:Nat->Prop}{h0:Nat}{ns:Ns}{e:E3}{ae:AE}{h:AH}{ds:List D}{t:Tm} (r:TsR X ns ae h ds [t]):∃ d,ds=[d]/\relE X h0 0 ae ns e h d t:=by
 cases r with
 | val r rr=>cases rr;exact⟨_,rfl,r⟩
 | bor r rr=>cases rr;exact⟨_,rfl,r⟩
theorem tsr2 {X:Nat->Prop}{h0:Nat}{ns:Ns}{e:E3}{ae:AE}{h:AH}{ds:List D}{t u:Tm} (r:TsR X ns ae h ds [t,u]):∃ d d',ds=[d,d']/\relE X h0 0 ae ns e h d t/\relE X h0 0 ae ns e h d' u:=by
 cases r with
 | val r rr=>obtain⟨d',rfl,r'⟩:=tsr1 (h0:=h0) (e:=e) rr;exact⟨_,_,rfl,r,r'⟩
 | bor r rr=>obtain⟨d',rfl,r'⟩:=tsr1 (h0:=h0) (e:=e) rr;exact⟨_,_,rfl,r,r'⟩
theorem HB (hA:RA A A3):RI (BD A) (DY A3):=λX h0 ns e ae h S=>
 Po.bind
  S (hA X h0 ns e ae h S) λds ts h1 ns1 e1 a1 S1 r1=>by
  match ts,r1 with
  | [],_=>trivial
  | [_],_=>trivial
  | _ :: _ :: _ :: _,_=>trivial
  |
   [t,u],r1=>
   obtain⟨d,d',rfl,r2,r3⟩:=tsr2 (h0:=h0) (e:=e1) r1
   dsimp only
   cases q:fO t e1 with
   | none=>trivial
   |
    some p=>
    obtain⟨xs,k⟩:=p
    cases q':fO u e1 with
    | none=>trivial
    |
     some p'=>
     obtain⟨ys,k'⟩:=p'
     cases k' with
     | some _=>trivial
     |
      none=>
      obtain⟨it,q1,q2,q3,q4⟩:=vN S1 r2 q
      obtain⟨it',q1',q2',q3',q4'⟩:=vN S1 r3 q'
      rw[q1,q1']
      exact⟨.zip it it',h1,ns1,rfl,.refl,S1,FO q2 q2',λh' st=>⟨q3 h' st,q3' h' λm o hm hc=>st m o hm (hc.elim .inl λ⟨_,z,_⟩=>nomatch z)⟩,q4⟩
theorem FU {P:Nat->Prop}{h:AH} (lo:Int) (k:Nat):Rds P h (AIt.rng lo k).items (qI lo k):=by
 show Rds P h ((List.range k).map λi=>D.int (lo + (i:Nat))) ((List.range k).map λi=>Val.int (lo + (i:Nat)))
 generalize List.range k=l
 induction l with
 | nil=>exact .nil
 | cons i l ih=>exact .cons (.int _) ih
theorem jR {P:Nat->Prop}{h:AH}{ds:List D}{v:Val} (r:ShRs P h ds [v]):∃ d,ds=[d]/\ShR P h d v:=by
 cases r with | cons r rr=>cases rr;exact⟨_,rfl,r⟩
theorem D2 {P:Nat->Prop}{h:AH}{ds:List D}{v u:Val} (r:ShRs P h ds [v,u]):∃ d d',ds=[d,d']/\ShR P h d v/\ShR P h d' u:=by
 cases r with | cons r rr=>cases rr with | cons r' rr=>cases rr;exact⟨_,_,rfl,r,r'⟩
theorem DP {f2:List D->AH->R AIt}{f3:List Val->Option (List Val)} (hf:∀ P h ds vs xs,ShRs P h ds vs->f3 vs=some xs->∃ lo k,f2 ds h=.ok (.rng lo k) h/\xs=qI lo k) (hA:RA A A3):RI (λae h=>(A ae h).bind f2) (tX f3 A3):=λX h0 ns e ae h S=>
 Po.bind S (hA X h0 ns e ae h S) λds ts h1 ns1 e1 a1 S1 r1=>by
  try dsimp only
  split
  ·rename_i xs q
   obtain⟨vs,q1,q2⟩:=Option.bind_eq_some_iff.mp q
   obtain⟨lo,k,p1,rfl⟩:=hf _ _ _ _ _ (TsR.sh S1 r1 q1) q2
   rw[p1]
   exact Po.ret S1 ⟨FU _ _,λ_ _=>trivial,λ_ z=>nomatch z⟩
  ·trivial
theorem JW (hA:RA A A3):RI (B7 A) (tX kr A3):=DP (f2:=λds h1=>match ds with
 | [.int j]=>if -(2 ^ 62)<=j/\j < 2 ^ 62 then .ok (.rng 0 j.toNat) h1 else .stuck
 |
  _=>.stuck) (λP h ds vs xs r q=>by
  unfold kr at q
  split at q
  ·split at q
   ·rename_i hb
    cases q
    obtain⟨d,rfl,r2⟩:=jR r
    obtain rfl:=r2.int
    exact⟨_,_,by dsimp only;rw[if_pos ⟨hb.lo,hb.hi⟩],rfl⟩
   ·cases q
  ·cases q) hA
theorem Hn (hA:RA A A3):RI (Bs A) (tX qT A3):=DP (f2:=λds h1=>match ds with
 | [.int i,.int j]=>if -(2 ^ 62)<=i/\i < 2 ^ 62/\-(2 ^ 62)<=j/\j < 2 ^ 62 then .ok (.rng i (j - i).toNat) h1 else .stuck
 |
  _=>.stuck) (λP h ds vs xs r q=>by
  unfold qT at q
  split at q
  ·split at q
   ·rename_i hb
    cases q
    obtain⟨d,d',rfl,r2,r3⟩:=D2 r
    obtain rfl:=r2.int
    obtain rfl:=r3.int
    exact⟨_,_,by dsimp only;rw[if_pos ⟨hb.1.lo,hb.1.hi,hb.2.lo,hb.2.hi⟩],rfl⟩
   ·cases q
  ·cases q) hA
end
def SR3.loop (r:SR3) (f:E3->SR3):SR3:=match r with
 | .nx e=>f e
 | .ct e=>f e
 | .bk e=>.nx e
 | .rt d e=>.rt d e
 | .exc c e=>.exc c e
 | .stuck=>.stuck
def fE (g:MG3) (B:MS3):List Val->MS3
 | [],e=>.nx e
 | v :: vs,e=>match g v e with
  | some e1=>(B e1).loop (fE g B vs)
  | none=>.stuck
def SR3.unl (k:Option Nat) (r:SR3):SR3:=match r with
 | .nx e=>.nx (gn e k)
 | .ct e=>.ct (gn e k)
 | .bk e=>.bk (gn e k)
 | .rt d e=>.rt d (gn e k)
 | .exc c e=>.exc c (gn e k)
 | .stuck=>.stuck
def wFor (I:MI3) (g:MG3) (B:MS3):MS3:=λe=>(I e).toS λp e1=>(fE g B p.1 (lockO e1 p.2)).unl p.2
section
variable {I:MI}{I3:MI3}{g:MG}{g3:MG3}{B:MS}{B3:MS3}{c:MT}{c3:MT3}{F:ME}{F3:ME3}
theorem PoS.loop {X:Nat->Prop}{h0:Nat}{ns:Ns}{e:E3}{ae:AE}{h:AH}{r2:SR}{r3:SR3}{f2:AE->AH->SR}{f3:E3->SR3} (p:PoS X h0 ns e h r2 r3)
 (k:∀ b_ h' ns' e',Stp ns e h ns' e' h'->Sat X h0 ns' e' b_ h'->PoS X h0 ns e h (f2 b_ h') (f3 e')):PoS X h0 ns e h (r2.loop f2) (r3.loop f3):=by
 cases r3 with
 | stuck=>trivial
 | nx e'=>obtain⟨b_,h',ns',q,q1,q2⟩:=p;rw[q];exact k b_ h' ns' e' q1 q2
 | ct e'=>obtain⟨b_,h',ns',q,q1,q2⟩:=p;rw[q];exact k b_ h' ns' e' q1 q2
 | bk e'=>obtain⟨b_,h',ns',q,q1,q2⟩:=p;rw[q];exact⟨b_,h',ns',rfl,q1,q2⟩
 | exc c e'=>obtain⟨b_,h',ns',q,q1,q2⟩:=p;rw[q];exact⟨b_,h',ns',rfl,q1,q2⟩
 | rt r e'=>obtain⟨d,b_,h',ns',q,q1,q2⟩:=p;rw[q];exact⟨d,b_,h',ns',rfl,q1,q2⟩
theorem Ge {X:Nat->Prop}{h0:Nat}{ns ns':Ns}{e e':E3}{ae:AE}{h h':AH}{k:Option Nat} (S:Sat X h0 ns e ae h) (hk:∀ j:Nat,k=some j->∃ s,e[j]?=some s/\s.mt=true) (a:Stp ns (lockO e k) h ns' e' h'):Stay X ns k h h':=λm o q hm=>by
 refine a.keep m o q λ⟨i,s,z1,z2,z3⟩=>?_
 rcases hm with hm | ⟨j,rfl,hj⟩
 ·exact hm.2 (bH.mpr ⟨i,z1⟩)
 ·have:i=j:=S.inj i j m z1 hj
  subst this
  obtain⟨s',y1,y2⟩:=hk i rfl
  have:(lockO e (some i))[i]?=some (md s'):=qM y1
  rw[this] at z2;cases z2
  cases s' <;> first | cases y2;done | cases z3;done
theorem PoS.unl {X:Nat->Prop}{h0:Nat}{ns:Ns}{e:E3}{h:AH}{k:Option Nat}{r2:SR}{r3:SR3} (hk:∀ j:Nat,k=some j->∃ s,e[j]?=some s/\s.mt=true) (p:PoS X h0 ns (lockO e k) h r2 r3):PoS X h0 ns e h r2 (r3.unl k):=by
 cases k with
 | none=>cases r3 <;> exact p
 |
  some j=>
  obtain⟨s,y1,y2⟩:=hk j rfl
  cases r3 with
  | stuck=>trivial
  | nx e'=>obtain⟨b_,h',ns',q,q1,q2⟩:=p;exact⟨b_,h',ns',q,q1.unlock y1 y2,q2.unlock j⟩
  | ct e'=>obtain⟨b_,h',ns',q,q1,q2⟩:=p;exact⟨b_,h',ns',q,q1.unlock y1 y2,q2.unlock j⟩
  | bk e'=>obtain⟨b_,h',ns',q,q1,q2⟩:=p;exact⟨b_,h',ns',q,q1.unlock y1 y2,q2.unlock j⟩
  | exc c e'=>obtain⟨b_,h',ns',q,q1,q2⟩:=p;exact⟨b_,h',ns',q,q1.unlock y1 y2,q2.unlock j⟩
  |
   rt r e'=>
   obtain⟨d,b_,h',ns',q,q1,q2⟩:=p
   refine⟨d,b_,h',ns',q,q1.unlock y1 y2,?_⟩
   cases r with
   | val v=>exact⟨q2.1.unlock j,q2.2⟩
   | new v=>obtain⟨n,o,z1,z2,z3,z4,z5,z6,z7⟩:=q2;exact⟨n,o,z1,z2,z3,z4,z5,z6.unlock j,z7⟩
theorem Sat.lockO {X:Nat->Prop}{h0:Nat}{ns:Ns}{e:E3}{ae:AE}{h:AH} (S:Sat X h0 ns e ae h) (k:Option Nat):Sat X h0 ns (lockO e k) ae h:=by
 cases k with
 | none=>exact S
 | some k=>exact S.lock k
theorem Ej {X:Nat->Prop}{h0:Nat}{ns:Ns}{e:E3}{ae:AE}{h:AH}{G:AH->Prop} (S:Sat X h0 ns e ae h) (hg:RG g g3) (hB:RS B B3) (hG:∀ ns' e' h',Stp ns e h ns' e' h'->G h'):
 ∀ {ds:List D}{vs:List Val},Rds (Oc X ns) h ds vs->∀ {ns1:Ns}{e1:E3}{k_:AE}{h1:AH},Stp ns e h ns1 e1 h1->Sat X h0 ns1 e1 k_ h1->PoS X h0 ns e h (lO G g B ds k_ h1) (fE g3 B3 vs e1):=by
 intro ds
 induction ds with
 |
  nil=>
  intro vs r ns1 e1 k_ h1 a1 S1
  cases r
  unfold lO
  rw[if_pos (hG _ _ _ a1)]
  exact .nx a1 S1
 |
  cons d0 ds ih=>
  intro vs r ns1 e1 k_ h1 a1 S1
  cases r with
  |
   cons r rr=>
   unfold lO fE
   rw[if_pos (hG _ _ _ a1)]
   split
   ·rename_i e2 q
    obtain⟨ae2,j_,p2,S2,a2⟩:=hg _ _ _ _ _ _ _ _ _ S1 (r.mono (a1.mov S)) q
    rw[p2]
    have a12:=a1.trans S a2
    show PoS X h0 ns e h ((B ae2 h1).loop _) _
    refine PoS.loop (ae:=ae) (PoS.after S a12 (hB X h0 j_ e2 ae2 h1 S2)) λae3 h3 ns3 e3 a3 S3=>ih rr a3 S3
   ·trivial
theorem Ha (hI:RI I I3) (hg:RG g g3) (hB:RS B B3):RS (Cg I g B) (wFor I3 g3 B3):=λX h0 ns e ae h S=>PoS.toS (hI X h0 ns e ae h S) λit p h1 ns1 e1 a1 S1 r1=>by
 obtain⟨r2,gd,hk⟩:=r1
 refine PoS.after S a1 (PoS.unl hk ?_)
 have S2:=S1.lockO p.2
 exact Ej S2 hg hB (λns' e' h' a=>gd h' (Ge S1 hk a)) r2 .refl S2
def whV (c:MT3) (B:MS3):Nat->MS3
 | 0,_=>.stuck
 | k + 1,e=>(c e).toS λb e1=>if b=true then (B e1).loop (whV c B k) else .nx e1
open Classical in
def wWh (c:MT3) (B:MS3):MS3:=λe=>if q:∃ k,whV c B k e ≠ .stuck then whV c B q.choose e else .stuck
theorem n9 {c:MT3}{B:MS3}:∀ {k:Nat}{e:E3},whV c B k e ≠ .stuck->whV c B (k + 1) e=whV c B k e
 | 0,_,q=>absurd rfl q
 |
  k + 1,e,q=>by
  have e1:whV c B (k + 2) e=(c e).toS λb e1=>if b=true then (B e1).loop (whV c B (k + 1)) else .nx e1:=rfl
  have e2:whV c B (k + 1) e=(c e).toS λb e1=>if b=true then (B e1).loop (whV c B k) else .nx e1:=rfl
  rw[e2] at q
  rw[e1,e2]
  cases r:c e with
  | exc _ _=>rfl
  | stuck=>rfl
  |
   ok b h1=>
   rw[r] at q
   cases b with
   | false=>rfl
   |
    true=>
    have q':(B h1).loop (whV c B k) ≠ .stuck:=q
    show (B h1).loop (whV c B (k + 1))=(B h1).loop (whV c B k)
    cases s:B h1 with
    | nx a2=>rw[s] at q';exact n9 q'
    | ct a2=>rw[s] at q';exact n9 q'
    | _=>rfl
theorem zC {c:MT3}{B:MS3}{k j:Nat}{e:E3} (q:whV c B k e ≠ .stuck) (hj:k<=j):whV c B j e=whV c B k e:=by
 induction hj with
 | refl=>rfl
 | step _ ih=>rw[n9 (by rw[ih];exact q),ih]
theorem pS {c:MT3}{B:MS3}{k:Nat}{e:E3} (q:whV c B k e ≠ .stuck):wWh c B e=whV c B k e:=by
 have hq:∃ k,whV c B k e ≠ .stuck:=⟨k,q⟩
 unfold wWh
 rw[dif_pos hq]
 rcases Nat.le_total hq.choose k with z | z
 ·exact (zC hq.choose_spec z).symm
 ·exact zC q z
theorem Cu (c:MT3) (B:MS3) (e:E3):wWh c B e=(c e).toS λb e1=>if b=true then (B e1).loop (wWh c B) else .nx e1:=by
 by_cases q:∃ k,whV c B k e ≠ .stuck
 ·obtain⟨k,q⟩:=q
  rw[pS q]
  cases k with
  | zero=>exact absurd rfl q
  |
   succ k=>
   have e2:whV c B (k + 1) e=(c e).toS λb e1=>if b=true then (B e1).loop (whV c B k) else .nx e1:=rfl
   rw[e2] at q ⊢
   cases r:c e with
   | exc _ _=>rfl
   | stuck=>rfl
   |
    ok b h1=>
    rw[r] at q
    cases b with
    | false=>rfl
    |
     true=>
     have q':(B h1).loop (whV c B k) ≠ .stuck:=q
     show (B h1).loop (whV c B k)=(B h1).loop (wWh c B)
     cases s:B h1 with
     | nx a2=>rw[s] at q';exact (pS q').symm
     | ct a2=>rw[s] at q';exact (pS q').symm
     | _=>rfl
 ·have e0:wWh c B e=.stuck:=by unfold wWh;rw[dif_neg q]
  rw[e0]
  have hs:∀ k,whV c B (k + 1) e=.stuck:=λk=>Classical.byContradiction λz=>q ⟨_,z⟩
  cases r:c e with
  | stuck=>rfl
  |
   exc c' h'=>
   have:=hs 0
   unfold whV at this
   rw[r] at this
   cases this
  |
   ok b h1=>
   cases b with
   |
    false=>
    have:=hs 0
    unfold whV at this
    rw[r] at this
    cases this
   |
    true=>
    have h2:∀ k,(B h1).loop (whV c B k)=.stuck:=λk=>by
     have:=hs k
     unfold whV at this
     rw[r] at this
     exact this
    show SR3.stuck=(B h1).loop (wWh c B)
    have lim:∀ a2,(∀ k,whV c B k a2=.stuck)->wWh c B a2=.stuck:=λa2 z=>by
     unfold wWh
     rw[dif_neg (λ⟨k,y⟩=>y (z k))]
    cases s:B h1 with
    | nx a2=>rw[s] at h2;exact (lim a2 h2).symm
    | ct a2=>rw[s] at h2;exact (lim a2 h2).symm
    | stuck=>rfl
    | _=>have:=h2 0;rw[s] at this;cases this
theorem IM {X:Nat->Prop}{h0:Nat}{ns:Ns}{e:E3}{h:AH}{r2:SR}{r3:SR3} (p:PoS X h0 ns e h r2 r3) (q:r3 ≠ .stuck):r2 ≠ .stuck:=by
 cases r3 with
 | stuck=>exact absurd rfl q
 | nx e'=>obtain⟨b_,h',ns',z,_⟩:=p;rw[z];intro y;cases y
 | ct e'=>obtain⟨b_,h',ns',z,_⟩:=p;rw[z];intro y;cases y
 | bk e'=>obtain⟨b_,h',ns',z,_⟩:=p;rw[z];intro y;cases y
 | exc c e'=>obtain⟨b_,h',ns',z,_⟩:=p;rw[z];intro y;cases y
 | rt r e'=>obtain⟨d,b_,h',ns',z,_⟩:=p;rw[z];intro y;cases y
theorem z8 (hc:RT c c3) (hB:RS B B3):∀ (k:Nat) (X:Nat->Prop) (h0:Nat) (ns:Ns) (e:E3) (ae:AE) (h:AH),Sat X h0 ns e ae h->PoS X h0 ns e h (whN c B k ae h) (whV c3 B3 k e)
 | 0,_,_,_,_,_,_,_=>trivial
 |
  k + 1,X,h0,ns,e,ae,h,S=>by
  refine PoS.toS (hc X h0 ns e ae h S) λb b' h1 ns1 e1 a1 S1 r1=>?_
  cases r1
  try dsimp only
  split
  ·exact PoS.after S a1 (PoS.loop (ae:=ae) (hB X h0 ns1 e1 ae h1 S1) λae2 h2 j_ e2 a2 S2=>PoS.after S1 a2 (z8 hc hB k X h0 j_ e2 ae2 h2 S2))
  ·exact .nx a1 S1
theorem KD (hc:RT c c3) (hB:RS B B3):RS (sWh c B) (wWh c3 B3):=λX h0 ns e ae h S=>by
 by_cases q:∃ k,whV c3 B3 k e ≠ .stuck
 ·obtain⟨k,q⟩:=q
  rw[pS q]
  have p:=z8 hc hB k X h0 ns e ae h S
  rw[Ac (IM p q)]
  exact p
 ·unfold wWh;rw[dif_neg q];trivial
end
end L3
namespace L3
open PySem PySem.Spec PyProof.Rows L2
def iA (o:Option Nat) (s:Sl) (e:E3):E3:=match o,s with
 | some i,.mu v=>(match e[i]? with
  | some t=>e.set i (t.re v)
  | none=>e)
 | _,_=>e
def bW:List (Option Nat)->E3->E3->E3
 | o :: sub,s :: inner,e=>bW sub inner (iA o s e)
 | _,_,e=>e
theorem xm {o:Option Nat}{s:Sl}{e:E3}{i:Nat} (hn:∀ v,o=some i->s=.mu v->False):(iA o s e)[i]?=e[i]?:=by
 unfold iA
 split
 ·rename_i i' v
  split
  ·rename_i t q
   by_cases z:i=i'
   ·subst z;exact (hn v rfl rfl).elim
   ·rw[bZ z]
  ·rfl
 ·rfl
theorem qB:∀ {sub:List (Option Nat)}{e2 e:E3}{i:Nat},(∀ (j:Nat) v,sub[j]?=some (some i)->e2[j]?=some (.mu v)->False)->(bW sub e2 e)[i]?=e[i]?
 | [],_,_,_,_=>rfl
 | _ :: _,[],_,_,_=>rfl
 |
  o :: sub,s :: e2,e,i,hn=>by
  show (bW sub e2 (iA o s e))[i]?=_
  rw[qB (λj v q1 q2=>hn (j + 1) v (by simpa using q1) (by simpa using q2))]
  exact xm λv z1 z2=>hn 0 v (by rw[z1];rfl) (by rw[z2];rfl)
theorem xg:∀ {sub:List (Option Nat)}{e2 e:E3}{i j:Nat}{v:Val},(∀ (j k:Nat) i,sub[j]?=some (some i)->sub[k]?=some (some i)->j=k)->sub[j]?=some (some i)->e2[j]?=some (.mu v)->(bW sub e2 e)[i]?=(e[i]?).map (Sl.re · v)
 | [],_,_,_,j,_,_,q,_=>by simp at q
 | _ :: _,[],_,_,j,_,_,_,q=>by simp at q
 |
  o :: sub,s :: e2,e,i,0,v,hj,q1,q2=>by
  have z1:o=some i:=by simpa using q1
  have z2:s=.mu v:=by simpa using q2
  subst z1 z2
  show (bW sub e2 (iA (some i) (.mu v) e))[i]?=_
  rw[qB (λk u y1 _=>by have:=hj 0 (k + 1) i rfl (by simpa using y1);omega)]
  unfold iA
  dsimp only
  split
  ·rename_i t q;rw[cI (List.getElem?_eq_some_iff.mp q).1,q];rfl
  ·rename_i q;rw[q];rfl
 |
  o :: sub,s :: e2,e,i,j + 1,v,hj,q1,q2=>by
  show (bW sub e2 (iA o s e))[i]?=_
  have q1':sub[j]?=some (some i):=by simpa using q1
  rw[xg (λa b c y1 y2=>by have:=hj (a + 1) (b + 1) c (by simpa using y1) (by simpa using y2);omega) q1' (by simpa using q2)]
  rw[xm λv z1 _=>by have:=hj 0 (j + 1) i (by rw[z1];rfl) q1;omega]
def c5 (sub:List (Option Nat)) (ns:Ns):Ns:=sub.map λo=>o.bind λi=>(ns[i]?).bind id
theorem dw {sub:List (Option Nat)}{ns:Ns}{j n:Nat} (q:(c5 sub ns)[j]?=some (some n)):∃ i,sub[j]?=some (some i)/\ns[i]?=some (some n):=by
 unfold c5 at q
 rw[List.getElem?_map] at q
 cases z:sub[j]? with
 | none=>rw[z] at q;cases q
 |
  some o=>
  rw[z] at q
  cases o with
  | none=>cases q
  |
   some i=>
   refine⟨i,rfl,?_⟩
   have q':(ns[i]?).bind id=some n:=Option.some.inj q
   cases y:ns[i]? with
   | none=>rw[y] at q';cases q'
   | some w=>rw[y] at q';have:w=some n:=q';rw[this]
theorem FH {sub:List (Option Nat)}{ns:Ns}{j i:Nat}{w:Option Nat} (q:sub[j]?=some (some i)) (q2:ns[i]?=some w):(c5 sub ns)[j]?=some w:=by
 unfold c5
 rw[List.getElem?_map,q]
 show some ((ns[i]?).bind id)=some w
 rw[q2];rfl
structure Lnk (sub:List (Option Nat)) (e ei:E3):Prop where
 inj:∀ (j k:Nat) (i:Nat),sub[j]?=some (some i)->sub[k]?=some (some i)->j=k
 mu:∀ (j:Nat) (v:Val),ei[j]?=some (.mu v)->∃ (i:Nat) (s:Sl),sub[j]?=some (some i)/\e[i]?=some s/\s.mt=true
 mt:∀ (j:Nat) (s:Sl),ei[j]?=some s->s.mt=true->∃ v,s=.mu v
theorem Sat.back {X Y:Nat->Prop}{h0:Nat}{ns j_:Ns}{e ei e2:E3}{ae:AE}{h h2:AH}{sub:List (Option Nat)} (S:Sat X h0 ns e ae h) (K:Lnk sub e ei) (a:Stp (c5 sub ns) ei h j_ e2 h2)
 (hY:∀ n,Y n->n < h2.length/\(X n\/h.length<=n)) (hXY:∀ n,X n->Y n)
 (hc:∀ (j:Nat) v n,e2[j]?=some (.mu v)->j_[j]?=some (some n)->∃ o,h2[n]?=some o/\cV o/\Rc (Oc Y ns) h2 o v):Sat Y h0 ns (bW sub e2 e) ae h2/\Stp ns e h ns (bW sub e2 e) h2:=by
 have hM:∀ n,Mt (c5 sub ns) ei n->Mt ns e n:=λn ⟨j,s,z1,z2,z3⟩=>by
  obtain⟨v,rfl⟩:=K.mt j s z2 z3
  obtain⟨i,s',y1,y2,y3⟩:=K.mu j v z2
  obtain⟨i',y4,y5⟩:=dw z1
  rw[y1] at y4;cases y4
  exact⟨i,s',y5,y2,y3⟩
 have mv:Mov (Oc X ns) (Oc Y ns) h h2:=λn o p q=>⟨⟨λz=>by
  rcases (hY n z).2 with z | z
  ·exact p.1 z
  ·have:=dA q;omega,p.2⟩,a.keep n o q λz=>by
   obtain⟨j,s,z1,_⟩:=z
   obtain⟨i,_,y⟩:=dw z1
   exact p.2 (bH.mpr ⟨i,y⟩)⟩
 have key:∀ i:Nat,(∃ (j:Nat) (v:Val) (s:Sl),sub[j]?=some (some i)/\e2[j]?=some (.mu v)/\e[i]?=some s/\s.mt=true/\(bW sub e2 e)[i]?=some (s.re v)/\j_[j]?=ns[i]?)\/((∀ n,ns[i]?=some (some n)->¬ Mt (c5 sub ns) ei n)/\(bW sub e2 e)[i]?=e[i]?):=λi=>by
  by_cases hx:∃ (j:Nat) (v:Val),sub[j]?=some (some i)/\e2[j]?=some (.mu v)
  ·obtain⟨j,v,q1,q2⟩:=hx
   obtain⟨u,q3,q4⟩:=a.mu j v q2
   obtain⟨i',s,y1,y2,y3⟩:=K.mu j u q3
   rw[q1] at y1;cases y1
   refine .inl ⟨j,v,s,q1,q2,y2,y3,by rw[xg K.inj q1 q2,y2];rfl,?_⟩
   rw[q4]
   have hl:i < ns.length:=by rw[S.l2];exact (List.getElem?_eq_some_iff.mp y2).1
   rw[List.getElem?_eq_getElem hl]
   exact FH q1 (List.getElem?_eq_getElem hl)
  ·refine .inr ⟨λn q ⟨j,s,z1,z2,z3⟩=>hx ?_,qB λj v y1 y2=>hx ⟨j,v,y1,y2⟩⟩
   obtain⟨v,rfl⟩:=K.mt j s z2 z3
   obtain⟨i',y4,y5⟩:=dw z1
   have:i'=i:=S.inj i' i n y5 q
   subst this
   obtain⟨v',y6,_⟩:=a.mu' j v z2
   exact⟨j,v',y4,y6⟩
 have lenB:(bW sub e2 e).length=e.length:=by
  clear key hc a K S hY hXY hM mv
  induction sub generalizing e2 e with
  | nil=>rfl
  |
   cons o sub ih=>
   cases e2 with
   | nil=>rfl
   |
    cons s e2=>
    show (bW sub e2 (iA o s e)).length=_
    rw[ih]
    unfold iA
    split
    ·split
     ·rw[List.length_set]
     ·rfl
    ·rfl
 refine⟨⟨by rw[lenB];exact S.l1,by rw[lenB];exact S.l2,Nat.le_trans S.lh a.len,λn z=>(hY n z).1,S.inj,λi n q z=>?_,λi s q=>?_⟩,⟨a.len,λm o q hm=>a.keep m o q λz=>hm (hM m z),λ_ _ q=>.inl q,λi s q hl=>?_,λi s q hl=>?_,λi v q=>?_,λi v q=>?_⟩⟩
 ·rcases (hY n z).2 with z | z
  ·exact S.nx i n q z
  ·obtain⟨_,_,_,_,_,_,_,q',_⟩:=S.own q
   have:=dA q';omega
 ·rcases key i with ⟨j,v,s0,k1,k2,k3,k4,k5,k6⟩ | ⟨k1,k2⟩
  ·rw[k5] at q;cases q
   have y:=S.sl i s0 k3
   cases s0 with
   |
    ow u=>
    obtain⟨n,o,y1,y2,y3,_⟩:=y
    obtain⟨o',z1,z2,z3⟩:=hc j v n k2 (by rw[k6];exact y1)
    exact⟨n,o',y1,y2,y3,z1,z2,z3⟩
   |
    mu u=>
    obtain⟨n,o,y1,y2,_⟩:=y
    obtain⟨o',z1,z2,z3⟩:=hc j v n k2 (by rw[k6];exact y1)
    exact⟨n,o',y1,y2,z1,z2,z3⟩
   | _=>cases k4
  ·rw[k2] at q
   exact (S.sl i s q).mono mv λn o q1 q2=>a.keep n o q2 (k1 n q1)
 ·rcases key i with ⟨j,v,s0,k1,k2,k3,k4,k5,k6⟩ | ⟨k1,k2⟩
  ·rw[k3] at q;cases q;cases s <;> first | cases hl;done | cases k4;done
  ·rw[k2];exact⟨q,rfl⟩
 ·rcases key i with ⟨j,v,s0,k1,k2,k3,k4,k5,k6⟩ | ⟨k1,k2⟩
  ·rw[k5] at q;cases q;cases s0 <;> first | cases hl;done | cases k4;done
  ·rw[k2] at q;exact⟨q,rfl⟩
 ·rcases key i with ⟨j,u,s0,k1,k2,k3,k4,k5,k6⟩ | ⟨k1,k2⟩
  ·rw[k5] at q
   cases s0 with
   | mu w=>exact⟨w,k3,rfl⟩
   | ow w=>cases q
   | _=>cases k4
  ·rw[k2] at q;exact⟨v,q,rfl⟩
 ·rcases key i with ⟨j,u,s0,k1,k2,k3,k4,k5,k6⟩ | ⟨k1,k2⟩
  ·rw[k3] at q;cases q;exact⟨u,k5,rfl⟩
  ·exact⟨v,by rw[k2];exact q,rfl⟩
def inS:Sl->Sl
 | .ow v=>.mu v
 | .lo v=>.lm v
 | s=>s
def bT (sub:List (Option Nat)) (e:E3):E3:=sub.map λo=>match o with
 | none=>.no
 | some i=>match e[i]? with
  | some s=>inS s
  | none=>.no
def lcV (g:MG3) (c:MT3) (F:ME3):List Val->List Val->E3->R3 (List Val)
 | [],acc,e=>.ok acc e
 | v :: vs,acc,e=>if acc.length < 16777216 then (match g v e with
  | none=>.stuck
  | some e1=>(c e1).bind λb e2=>if b=true then (F e2).bind λt e3=>(match df e3 t with
   | some (e4,y)=>lcV g c F vs (acc++[y]) e4
   | none=>.stuck) else lcV g c F vs acc e2) else .stuck
def vLC (I:MI3) (sub:List (Option Nat)) (g:MG3) (c:MT3) (F:ME3):ME3:=λe=>(I e).bind λp e1=>match lcV g c F p.1 [] (bT sub (lockO e1 p.2)) with
 | .ok ys e2=>if ys.length<=16777216 then .ok (.new (.lst ys)) (gn (bW sub e2 (lockO e1 p.2)) p.2) else .stuck
 | _=>.stuck
def pR (sub:List (Option Nat)):Prop:=∀ (j k:Nat) (i:Nat),sub[j]?=some (some i)->sub[k]?=some (some i)->j=k
theorem AD {sub:List (Option Nat)} (h:(sub.filterMap id).Nodup):pR sub:=by
 induction sub with
 | nil=>intro j k i q;simp at q
 |
  cons o sub ih=>
  have io:(sub.filterMap id).Nodup:=by
   cases o with
   | none=>simpa using h
   | some i=>rw[List.filterMap_cons] at h;simp at h;exact h.2
  have hno:∀ (i k:Nat),o=some i->sub[k]?=some (some i)->False:=λi k z q=>by
   subst z
   rw[List.filterMap_cons] at h
   simp at h
   exact h.1 (List.mem_of_getElem? q)
  intro j k i q1 q2
  cases j with
  |
   zero=>
   cases k with
   | zero=>rfl
   | succ k=>exact (hno i k (by simpa using q1) (by simpa using q2)).elim
  |
   succ j=>
   cases k with
   | zero=>exact (hno i j (by simpa using q2) (by simpa using q1)).elim
   | succ k=>exact congrArg (· + 1) (ih io j k i (by simpa using q1) (by simpa using q2))
def Xin (X:Nat->Prop) (ns:Ns) (sub:List (Option Nat)) (n:Nat):Prop:=X n\/(some n ∈ ns/\some n ∉ c5 sub ns)
theorem oY {sub:List (Option Nat)}{ns:Ns}{n:Nat} (q:some n ∈ c5 sub ns):some n ∈ ns:=by
 obtain⟨j,q⟩:=bH.mp q
 obtain⟨i,_,q2⟩:=dw q
 exact bH.mpr ⟨i,q2⟩
theorem lL {sub:List (Option Nat)}{e:E3}{j:Nat}{s:Sl} (q:(bT sub e)[j]?=some s):(sub[j]?=some none/\s=.no)\/(∃ i,sub[j]?=some (some i)/\((e[i]?=none/\s=.no)\/∃ t,e[i]?=some t/\s=inS t)):=by
 unfold bT at q
 rw[List.getElem?_map] at q
 cases z:sub[j]? with
 | none=>rw[z] at q;cases q
 |
  some o=>
  rw[z] at q
  cases o with
  | none=>cases q;exact .inl ⟨rfl,rfl⟩
  |
   some i=>
   refine .inr ⟨i,rfl,?_⟩
   have q':=Option.some.inj q
   dsimp only at q'
   cases y:e[i]? with
   | none=>rw[y] at q';exact .inl ⟨rfl,q'.symm⟩
   | some t=>rw[y] at q';exact .inr ⟨t,rfl,q'.symm⟩
theorem Sat.inner {X:Nat->Prop}{h0:Nat}{ns:Ns}{e:E3}{ae:AE}{h:AH}{sub:List (Option Nat)} (S:Sat X h0 ns e ae h) (hs:pR sub):Sat (Xin X ns sub) h0 (c5 sub ns) (bT sub e) (lV sub ae) h:=by
 refine⟨by unfold lV bT;rw[List.length_map,List.length_map],by unfold c5 bT;rw[List.length_map,List.length_map],S.lh,λn z=>?_,λj k n q1 q2=>?_,λj n q z=>?_,λj s q=>?_⟩
 ·rcases z with z | ⟨z,_⟩
  ·exact S.xl n z
  ·obtain⟨i,z⟩:=bH.mp z
   obtain⟨_,_,_,_,_,_,_,q',_⟩:=S.own z
   exact dA q'
 ·obtain⟨i,y1,y2⟩:=dw q1
  obtain⟨i',y3,y4⟩:=dw q2
  have:=S.inj i i' n y2 y4
  subst this
  exact hs j k i y1 y3
 ·rcases z with z | ⟨_,z⟩
  ·obtain⟨i,y1,y2⟩:=dw q
   exact S.nx i n y2 z
  ·exact z (bH.mpr ⟨j,q⟩)
 ·have mv:Mov (Oc X ns) (Oc (Xin X ns sub) (c5 sub ns)) h h:=λn o p q=>⟨⟨λz=>by
   rcases z with z | ⟨z,_⟩
   ·exact p.1 z
   ·exact p.2 z,λz=>p.2 (oY z)⟩,q⟩
  have hj:∀ {o},sub[j]?=some o->(c5 sub ns)[j]?=some (o.bind λi=>(ns[i]?).bind id)/\(lV sub ae)[j]?=some (o.bind λi=>(ae[i]?).bind id):=λ{o} z=>by
   unfold c5 lV
   rw[List.getElem?_map,List.getElem?_map,z]
   exact⟨rfl,rfl⟩
  rcases lL q with ⟨z,rfl⟩ | ⟨i,z,⟨y,rfl⟩ | ⟨t,y,rfl⟩⟩
  ·rw[(hj z).1];rfl
  ·rw[(hj z).1]
   show some ((ns[i]?).bind id)=some none
   have:ns[i]?=none:=by
    rw[List.getElem?_eq_none_iff] at y ⊢
    rw[S.l2];exact y
   rw[this];rfl
  ·have k:=(S.sl i t y).mono mv λ_ _ _ q=>q
   rw[(hj z).1,(hj z).2]
   show SlR _ h0 (some ((ns[i]?).bind id)) (some ((ae[i]?).bind id)) h (inS t)
   have w1:∀ x,ns[i]?=some x->some ((ns[i]?).bind id)=some x:=λx q=>by rw[q];rfl
   have w2:∀ x,ae[i]?=some x->some ((ae[i]?).bind id)=some x:=λx q=>by rw[q];rfl
   cases t with
   | no=>rw[w1 _ k];rfl
   | sh v=>obtain⟨k1,x,k2,k3⟩:=k;rw[w1 _ k1,w2 _ k2];exact⟨rfl,x,rfl,k3⟩
   | ow v=>obtain⟨m,o,k1,k2,_,k3⟩:=k;rw[w1 _ k1,w2 _ k2];exact⟨m,o,rfl,rfl,k3⟩
   | lo v=>obtain⟨m,o,k1,k2,_,k3⟩:=k;rw[w1 _ k1,w2 _ k2];exact⟨m,o,rfl,rfl,k3⟩
   | mu v=>obtain⟨m,o,k1,k2,k3⟩:=k;rw[w1 _ k1,w2 _ k2];exact⟨m,o,rfl,rfl,k3⟩
   | lm v=>obtain⟨m,o,k1,k2,k3⟩:=k;rw[w1 _ k1,w2 _ k2];exact⟨m,o,rfl,rfl,k3⟩
theorem xa {sub:List (Option Nat)}{e:E3} (hs:pR sub):Lnk sub e (bT sub e):=by
 refine⟨hs,λj v q=>?_,λj s q hm=>?_⟩
 ·rcases lL q with ⟨_,z⟩ | ⟨i,z,⟨_,y⟩ | ⟨t,y,y2⟩⟩
  ·cases z
  ·cases y
  ·refine⟨i,t,z,y,?_⟩
   cases t <;> first | rfl | cases y2
 ·rcases lL q with ⟨_,z⟩ | ⟨i,z,⟨_,y⟩ | ⟨t,y,y2⟩⟩
  ·subst z;cases hm
  ·subst y;cases hm
  ·subst y2
   cases t with
   | ow v=>exact⟨v,rfl⟩
   | mu v=>exact⟨v,rfl⟩
   | _=>cases hm
section
variable {I:MI}{I3:MI3}{g:MG}{g3:MG3}{c:MT}{c3:MT3}{F:ME}{F3:ME3}
theorem II {X:Nat->Prop}{h0:Nat}{ns:Ns}{e:E3}{ae:AE}{h:AH}{G:AH->Prop} (S:Sat X h0 ns e ae h) (hg:RG g g3) (hc:RT c c3) (hF:RE F F3) (hG:∀ ns' e' h',Stp ns e h ns' e' h'->G h') {ys:List Val}{e2:E3}:
 ∀
  {ds:List D}{vs:List Val},Rds (Oc X ns) h ds vs->∀ {acc:List D}{accv:List Val}{ns1:Ns}{e1:E3}{k_:AE}{h1:AH},Stp ns e h ns1 e1 h1->Sat X h0 ns1 e1 k_ h1->Rds (Oc X ns1) h1 acc accv->lcV g3 c3 F3 vs accv e1=.ok ys e2->
  ∃ dy h2 j_ ae2,lcL G g c F ds acc k_ h1=.ok dy h2/\Stp ns e h j_ e2 h2/\Sat X h0 j_ e2 ae2 h2/\Rds (Oc X j_) h2 dy ys:=by
 intro ds
 induction ds with
 |
  nil=>
  intro vs r acc accv ns1 e1 k_ h1 a1 S1 ra q
  cases r
  unfold lcL
  rw[if_pos (hG _ _ _ a1)]
  cases q
  exact⟨acc,h1,ns1,k_,rfl,a1,S1,ra⟩
 |
  cons d0 ds ih=>
  intro vs r acc accv ns1 e1 k_ h1 a1 S1 ra q
  cases r with
  |
   cons r rr=>
   rename_i v vs
   unfold lcV at q
   unfold lcL
   by_cases hl:accv.length < 16777216
   ·rw[if_pos hl] at q
    rw[if_pos ⟨hG _ _ _ a1,by rw[ra.len];exact hl⟩]
    cases q1:g3 v e1 with
    | none=>rw[q1] at q;cases q
    |
     some e3=>
     rw[q1] at q
     dsimp only at q
     obtain⟨ae3,ns3,p3,S3,a3⟩:=hg _ _ _ _ _ _ _ _ _ S1 (r.mono (a1.mov S)) q1
     rw[p3,js]
     have a13:=a1.trans S a3
     have pc:=hc X h0 ns3 e3 ae3 h1 S3
     cases q4:c3 e3 with
     | stuck=>rw[q4] at q;cases q
     | exc _ _=>rw[q4] at q;cases q
     |
      ok b e4=>
      rw[q4] at q pc
      obtain⟨b',h4,ns4,p4,a4,S4,rfl⟩:=pc
      rw[p4,js]
      have a14:=a13.trans S a4
      have ra4:=(ra.mono (a3.mov S1)).mono (a4.mov S3)
      have q':(if b'=true then (F3 e4).bind λt e3=>(match df e3 t with
       | some (e4,y)=>lcV g3 c3 F3 _ (accv++[y]) e4
       | none=>.stuck) else lcV g3 c3 F3 _ accv e4)=.ok ys e2:=q
      by_cases hb:b'=true
      ·rw[if_pos hb] at q' ⊢
       have pF:=hF X h0 0 ns4 e4 ae3 h4 S4 (Nat.zero_le _)
       cases q5:F3 e4 with
       | stuck=>rw[q5] at q';cases q'
       | exc _ _=>rw[q5] at q';cases q'
       |
        ok t e5=>
        rw[q5] at q' pF
        obtain⟨d5,h5,ns5,p5,a5,S5,r5⟩:=pF
        rw[p5,js]
        have q'':(match df e5 t with
         | some (e4,y)=>lcV g3 c3 F3 _ (accv++[y]) e4
         | none=>.stuck)=.ok ys e2:=q'
        cases q6:df e5 t with
        | none=>rw[q6] at q'';cases q''
        |
         some w=>
         obtain⟨e6,y⟩:=w
         rw[q6] at q''
         obtain⟨ns6,S6,a6,r6⟩:=iq S5 r5 q6
         exact ih rr ((a14.trans S a5).trans S a6) S6 (((ra4.mono (a5.mov S4)).mono (a6.mov S5)).append (.cons r6 .nil)) q''
      ·rw[if_neg hb] at q' ⊢
       exact ih rr a14 S4 ra4 q'
   ·rw[if_neg hl] at q;cases q
theorem LV {sub:List (Option Nat)} (hs:(sub.filterMap id).Nodup) (hI:RI I I3) (hg:RG g g3) (hc:RT c c3) (hF:RE F F3):RE (eLC I sub g c F) (vLC I3 sub g3 c3 F3):=λX h0 L ns e ae h S hl=>
 Po.bind
  S (hI X h0 ns e ae h S) λit p h1 ns1 e1 a1 S1 r1=>by
  try dsimp only
  obtain⟨r2,gd,hk⟩:=r1
  have hs':=AD hs
  have S2:=S1.lockO p.2
  have S3:=S2.inner hs'
  cases q:lcV g3 c3 F3 p.1 [] (bT sub (lockO e1 p.2)) with
  | stuck=>trivial
  | exc _ _=>trivial
  |
   ok ys e2=>
   dsimp only
   split
   ·rename_i hy
    have gd':∀ ns' e' h',Stp (c5 sub ns1) (bT sub (lockO e1 p.2)) h1 ns' e' h'->it.guard h':=λns' e' h' a=>gd h' λm o qm hm=>a.keep m o qm λ⟨j,s,z1,z2,z3⟩=>by
     obtain⟨i,y1,y2⟩:=dw z1
     rcases hm with hm | ⟨k,hk1,hk2⟩
     ·exact hm.2 (bH.mpr ⟨i,y2⟩)
     ·have:i=k:=S1.inj i k m y2 hk2
      subst this
      obtain⟨s',w1,w2⟩:=hk i hk1
      rcases lL z2 with ⟨z,_⟩ | ⟨i',z,y⟩
      ·rw[y1] at z;cases z
      ·rw[y1] at z;cases z
       have hl:(lockO e1 p.2)[i]?=some (md s'):=by rw[hk1];exact qM w1
       rcases y with ⟨y,_⟩ | ⟨t,y,rfl⟩
       ·rw[hl] at y;cases y
       ·rw[hl] at y;cases y
        cases s' <;> first | cases w2;done | cases z3;done
    have mvi:Mov (Oc X ns1) (Oc (Xin X ns1 sub) (c5 sub ns1)) h1 h1:=λn o p q=>⟨⟨λz=>by
     rcases z with z | ⟨z,_⟩
     ·exact p.1 z
     ·exact p.2 z,λz=>p.2 (oY z)⟩,q⟩
    obtain⟨dy,h2,j_,ae2,p2,a2,S4,r4⟩:=II (G:=it.guard) S3 hg hc hF gd' (r2.mono mvi) .refl S3 .nil q
    have k3:∀ n,Oc (Xin X ns1 sub) j_ n->Oc X ns1 n:=λn z=>⟨λy=>z.1 (.inl y),λy=>by
     by_cases w:some n ∈ c5 sub ns1
     ·obtain⟨j,w⟩:=bH.mp w
      obtain⟨s,v,o,b1,b2,_⟩:=S3.own w
      rcases b2 with b2 | b2
      ·obtain⟨v',rfl⟩:=(xa (e:=lockO e1 p.2) hs').mt j s b1 b2
       obtain⟨u,c1,c2⟩:=a2.mu' j v' b1
       exact z.2 (bH.mpr ⟨j,by rw[c2];exact w⟩)
      ·obtain⟨c1,c2⟩:=a2.lk j s b1 b2
       exact z.2 (bH.mpr ⟨j,by rw[c2];exact w⟩)
     ·exact z.1 (.inr ⟨y,w⟩)⟩
    have bk:=S2.back (Y:=X) (xa hs') a2 (λn z=>⟨Nat.lt_of_lt_of_le (S2.xl n z) a2.len,.inl z⟩) (λ_ z=>z) λj v n q1 q2=>by
     obtain⟨s,u,o,b1,b2,b3,b4,b5,b6,b7⟩:=S4.own q2
     rw[q1] at b1;cases b1
     cases b3
     exact⟨o,b5,b6,b7.mono λm o' z y=>⟨k3 m z,y⟩⟩
    obtain⟨S5,a5⟩:=bk
    have r5:Rds (Oc X ns1) h2 dy ys:=r4.mono λm o' z y=>⟨k3 m z,y⟩
    have fin:∀ (e':E3),Sat X h0 ns1 e' ae h2->Stp ns1 e1 h1 ns1 e' h2->Po X h0 ns1 e1 ae h1 (relE X h0 L ae) ((noX (lcL it.guard g c F it.items [] (lV sub ae) h1)).bind eV) (.ok (.new (.lst ys)) e'):=λe' S6 a6=>by
     rw[p2]
     have pp:=BvR.po (L:=L) (r:=eV dy h2) (b:=.new (.lst ys)) S6 (Nat.le_trans hl (Nat.le_trans a1.len a6.len)) ⟨.lst dy,by unfold eV;rw[if_pos (by rw[r5.len];exact hy)],trivial,.lst r5⟩
     obtain⟨d,h',ns',y,y1,y2,y3⟩:=pp
     exact⟨d,h',ns',y,a6.trans S1 y1,y2,y3⟩
    cases hp:p.2 with
    |
     none=>
     rw[hp] at S5 a5
     exact fin _ S5 a5
    |
     some k=>
     rw[hp] at S5 a5
     obtain⟨s,w1,w2⟩:=hk k hp
     exact fin _ (S5.unlock k) (a5.unlock w1 w2)
   ·trivial
end
end L3
namespace L3
open PySem PySem.Spec PyProof.Rows L2
inductive R3F where
 | ok (r:Rt) (mv:List Val) | exc (c:Str) (mv:List Val) | stuck
abbrev Fn3:=List Val->R3F
def sl1 (b:Bool) (v:Val):Sl:=if b=true then .mu v else .sh v
def sls (ms:List Bool) (vs:List Val):E3:=List.zipWith sl1 ms vs
def ba:List Bool->List Val->E3
 | true :: ms,v :: vs=>.mu v :: ba ms vs
 | true :: ms,[]=>.no :: ba ms []
 | false :: ms,vs=>.no :: ba ms vs
 | [],_=>[]
def muV:List Bool->E3->Option (List Val)
 | true :: ms,.mu v :: e=>(muV ms e).map (v :: ·)
 | true :: _,_=>none
 | false :: ms,_ :: e=>muV ms e
 | false :: _,[]=>none
 | [],_=>some []
def RFp (X:Nat->Prop) (ps:Ns) (ms:List Bool) (vs:List Val) (ds:List D) (h:AH) (r2:R D):R3F->Prop
 | .stuck=>True
 | .ok r mv=>∃ d h',r2=.ok d h'/\Stp ps (sls ms vs) h ps (ba ms mv) h'/\RtR X h.length ps (ba ms mv) (ds.map some) h' d r
 | .exc c mv=>∃ h',r2=.exc c h'/\Stp ps (sls ms vs) h ps (ba ms mv) h'/\Sat X h.length ps (ba ms mv) (ds.map some) h'
def RF (ms:List Bool) (G2:Fn) (G3:Fn3):Prop:=∀ X ps ds vs h,vs.length=ms.length->Sat X h.length ps (sls ms vs) (ds.map some) h->RFp X ps ms vs ds h (G2 ds h) (G3 vs)
def fnV (ms:List Bool) (N:Nat) (F:MS3):Fn3:=λvs=>if vs.length=ms.length then (match F (sls ms vs++List.replicate (N - vs.length) .no) with
 | .nx e=>(match muV ms e with | some mv=>.ok (.val .non) mv | none=>.stuck)
 | .rt r e=>(match muV ms e with | some mv=>.ok r mv | none=>.stuck)
 | .exc c e=>(match muV ms e with | some mv=>.exc c mv | none=>.stuck)
 | _=>.stuck) else .stuck
theorem ij {ms:List Bool}{vs:List Val}{i:Nat}{s:Sl} (q:(sls ms vs)[i]?=some s):∃ b v,ms[i]?=some b/\vs[i]?=some v/\s=sl1 b v:=by
 unfold sls at q
 rw[List.getElem?_zipWith] at q
 cases h1:ms[i]? with
 | none=>rw[h1] at q;cases q
 |
  some b=>
  cases h2:vs[i]? with
  | none=>rw[h1,h2] at q;cases q
  | some v=>rw[h1,h2] at q;cases q;exact⟨b,v,rfl,rfl,rfl⟩
theorem jw:∀ {ms:List Bool}{e:E3}{mv:List Val}{i:Nat}{s:Sl},muV ms e=some mv->(ba ms mv)[i]?=some s->(ms[i]?=some false/\s=.no)\/(ms[i]?=some true/\∃ v,e[i]?=some (.mu v)/\s=.mu v)
 | [],_,_,_,_,_,q=>by unfold ba at q;simp at q
 |
  true :: ms,.mu v :: e,mv,i,s,q,q2=>by
  obtain⟨mv',z1,z2⟩:=Option.map_eq_some_iff.mp (show (muV ms e).map (v :: ·)=some mv from q)
  subst z2
  cases i with
  | zero=>
   right;have:Sl.mu v=s:=by simpa [ba] using q2
   subst this;exact⟨rfl,v,rfl,rfl⟩
  |
   succ i=>
   have:=jw (i:=i) (s:=s) z1 (by simpa [ba] using q2)
   simpa using this
 | true :: ms,[],mv,i,s,q,q2=>by cases q
 | true :: ms,.no :: e,mv,i,s,q,q2=>by cases q
 | true :: ms,.sh v :: e,mv,i,s,q,q2=>by cases q
 | true :: ms,.ow v :: e,mv,i,s,q,q2=>by cases q
 | true :: ms,.lo v :: e,mv,i,s,q,q2=>by cases q
 | true :: ms,.lm v :: e,mv,i,s,q,q2=>by cases q
 | false :: ms,[],mv,i,s,q,q2=>by cases q
 |
  false :: ms,t :: e,mv,i,s,q,q2=>by
  cases i with
  | zero=>
   left;have:Sl.no=s:=by simpa [ba] using q2
   exact⟨rfl,this.symm⟩
  |
   succ i=>
   have:=jw (i:=i) (s:=s) (show muV ms e=some mv from q) (by simpa [ba] using q2)
   simpa using this
theorem qZ:∀ {ms:List Bool}{e:E3}{mv:List Val}{i:Nat},muV ms e=some mv->ms[i]?=some true->∃ v,e[i]?=some (.mu v)/\(ba ms mv)[i]?=some (.mu v)
 | [],_,_,i,_,q=>by simp at q
 |
  true :: ms,.mu v :: e,mv,i,q,q2=>by
  obtain⟨mv',z1,z2⟩:=Option.map_eq_some_iff.mp (show (muV ms e).map (v :: ·)=some mv from q)
  subst z2
  cases i with
  | zero=>exact⟨v,rfl,rfl⟩
  |
   succ i=>
   obtain⟨u,y1,y2⟩:=qZ (i:=i) z1 (by simpa using q2)
   exact⟨u,by simpa using y1,by simpa [ba] using y2⟩
 | true :: ms,[],mv,i,q,q2=>by cases q
 | true :: ms,.no :: e,mv,i,q,q2=>by cases q
 | true :: ms,.sh v :: e,mv,i,q,q2=>by cases q
 | true :: ms,.ow v :: e,mv,i,q,q2=>by cases q
 | true :: ms,.lo v :: e,mv,i,q,q2=>by cases q
 | true :: ms,.lm v :: e,mv,i,q,q2=>by cases q
 | false :: ms,[],mv,i,q,q2=>by cases q
 |
  false :: ms,t :: e,mv,i,q,q2=>by
  cases i with
  | zero=>simp at q2
  |
   succ i=>
   obtain⟨u,y1,y2⟩:=qZ (i:=i) (show muV ms e=some mv from q) (by simpa using q2)
   exact⟨u,by simpa using y1,by simpa [ba] using y2⟩
theorem jF:∀ {ms:List Bool}{mv:List Val},(ba ms mv).length=ms.length
 | [],_=>rfl
 | true :: ms,v :: mv=>by show (ba ms mv).length + 1=ms.length + 1;rw[jF]
 | true :: ms,[]=>by show (ba ms []).length + 1=ms.length + 1;rw[jF]
 | false :: ms,mv=>by show (ba ms mv).length + 1=ms.length + 1;rw[jF]
theorem DU {ms:List Bool}{N:Nat}{F:MS}{F3:MS3} (hF:RS F F3):RF ms (fnD N F) (fnV ms N F3):=λX ps ds vs h hl S=>by
 unfold fnV
 rw[if_pos hl]
 have lS:(sls ms vs).length=vs.length:=by unfold sls;rw[List.length_zipWith];omega
 have lD:ds.length=vs.length:=by have:=S.l1;rw[List.length_map] at this;omega
 have lP:ps.length=vs.length:=by have:=S.l2;omega
 have S1
  : Sat X h.length (ps++List.replicate (N - vs.length) none) (sls ms vs++List.replicate (N - vs.length) .no) (ds.map some++List.replicate (N - vs.length) none) h:=by
  have mns:∀ n,some n ∈ ps++List.replicate (N - vs.length) (none:Option Nat) ↔ some n ∈ ps:=λn=>by
   rw[List.mem_append]
   constructor
   ·rintro (z | z)
    ·exact z
    ·have:=List.eq_of_mem_replicate z;cases this
   ·exact .inl
  have gns:∀ {i n:Nat},(ps++List.replicate (N - vs.length) (none:Option Nat))[i]?=some (some n)->ps[i]?=some (some n):=λ{i n} q=>by
   rw[List.getElem?_append] at q
   split at q
   ·exact q
   ·rw[List.getElem?_replicate] at q;split at q <;> cases q
  refine⟨?_,?_,S.lh,S.xl,λi j n q1 q2=>S.inj i j n (gns q1) (gns q2),λi n q=>S.nx i n (gns q),λi s q=>?_⟩
  ·rw[List.length_append,List.length_append,List.length_replicate,List.length_replicate,S.l1]
  ·rw[List.length_append,List.length_append,List.length_replicate,List.length_replicate,S.l2]
  ·rw[List.getElem?_append] at q
   split at q
   ·rename_i hi
    have k:=S.sl i s q
    rw[List.getElem?_append_left (by omega),List.getElem?_append_left (by rw[List.length_map];omega)]
    exact k.mono (λn o p q=>⟨⟨p.1,λz=>p.2 ((mns n).mp z)⟩,q⟩) λ_ _ _ q=>q
   ·rename_i hi
    rw[List.getElem?_replicate] at q
    split at q
    ·cases q
     rw[List.getElem?_append_right (by omega),List.getElem?_replicate,if_pos (by omega)]
     rfl
    ·cases q
 have p:=hF _ _ _ _ _ _ S1
 have e2:fnD N F ds h=match F (ds.map some++List.replicate (N - vs.length) none) h with
  | .nx _ h'=>.ok .non h'
  | .rt d h'=>.ok d h'
  | .exc c _ h'=>.exc c h'
  | _=>.stuck:=by rw[<- lD];rfl
 rw[e2]
 have fin:∀ (Y:Nat->Prop) (ns':Ns) (e':E3) (b_:AE) (h':AH) (mv:List Val),(∀ n,X n->Y n)->Stp (ps++List.replicate (N - vs.length) none) (sls ms vs++List.replicate (N - vs.length) .no) h ns' e' h'->Sat Y h.length ns' e' b_ h'->muV ms e'=some mv->
  Stp ps (sls ms vs) h ps (ba ms mv) h'/\Sat Y h.length ps (ba ms mv) (ds.map some) h'/\∀ n,Oc Y ns' n->Oc Y ps n:=by
  intro Y ns' e' b_ h' mv hXY a S2 qm
  have kmu:∀ {i:Nat},ms[i]?=some true->∃ v u n o,e'[i]?=some (.mu v)/\(ba ms mv)[i]?=some (.mu v)/\(sls ms vs)[i]?=some (.mu u)/\ns'[i]?=ps[i]?/\ps[i]?=some (some n)/\(ds.map some)[i]?=some (some (.ref n))/\h'[n]?=some o/\cV o/\Rc (Oc Y ns') h' o v:=by
   intro i hi
   obtain⟨v,y1,y2⟩:=qZ qm hi
   have hil:i < ms.length:=(List.getElem?_eq_some_iff.mp hi).1
   obtain⟨u,y3,y4⟩:=a.mu i v y1
   rw[List.getElem?_append_left (by omega)] at y3 y4
   obtain⟨n,o,z1,z2,_⟩:=S.sl i _ y3
   obtain⟨n',o',w1,w2,w3,w4,w5⟩:=S2.sl i _ y1
   rw[y4,z1] at w1;cases w1
   exact⟨v,u,n,o',y1,y2,y3,y4,z1,z2,w3,w4,w5⟩
  have kown:∀ {i n:Nat},ps[i]?=some (some n)->ms[i]?=some true:=λ{i n} q=>by
   obtain⟨s,v,o,z1,z2,_⟩:=S.own q
   obtain⟨b,u,y1,_,y2⟩:=ij z1
   cases b with
   | true=>exact y1
   | false=>subst y2;rcases z2 with z2 | z2 <;> cases z2
  have koc:∀ n,Oc Y ns' n->Oc Y ps n:=λn z=>⟨z.1,λy=>by
   obtain⟨i,y⟩:=bH.mp y
   obtain⟨v,u,n',o,_,_,_,k1,k2,_⟩:=kmu (kown y)
   exact z.2 (bH.mpr ⟨i,by rw[k1];exact y⟩)⟩
  refine⟨⟨a.len,λm o q hm=>a.keep m o q λ⟨i,s,z1,z2,z3⟩=>hm ?_,λ_ _ q=>.inl q,λi s q hl'=>?_,λi s q hl'=>?_,λi v q=>?_,λi v q=>?_⟩,⟨?_,?_,Nat.le_trans (Nat.le_refl _) a.len,S2.xl,S.inj,λi n q z=>?_,λi s q=>?_⟩,koc⟩
  ·rw[List.getElem?_append] at z1
   split at z1
   ·rename_i hi
    rw[List.getElem?_append_left (by omega)] at z2
    exact⟨i,s,z1,z2,z3⟩
   ·rw[List.getElem?_replicate] at z1;split at z1 <;> cases z1
  ·obtain⟨b,u,_,_,y⟩:=ij q
   subst y
   cases b <;> cases hl'
  ·rcases jw qm q with ⟨_,z⟩ | ⟨_,v,_,z⟩ <;> subst z <;> cases hl'
  ·rcases jw qm q with ⟨_,z⟩ | ⟨z,_⟩
   ·cases z
   ·obtain⟨v',u,n,o,_,_,k1,_⟩:=kmu z
    exact⟨u,k1,rfl⟩
  ·obtain⟨b,u,y1,_,y2⟩:=ij q
   cases b with
   | false=>cases y2
   |
    true=>
    obtain⟨v',u,n,o,_,k0,k1,_⟩:=kmu y1
    exact⟨v',k0,rfl⟩
  ·rw[List.length_map,jF];omega
  ·rw[jF];omega
  ·obtain⟨v,u,n',o,_,_,_,k1,k2,_⟩:=kmu (kown q)
   exact S2.nx i n (by rw[k1];exact q) z
  ·rcases jw qm q with ⟨z,rfl⟩ | ⟨z,v,z2,rfl⟩
   ·have hil:i < ms.length:=(List.getElem?_eq_some_iff.mp z).1
    have hi:i < (sls ms vs).length:=by omega
    obtain⟨b,u,y1,_,y2⟩:=ij (List.getElem?_eq_getElem hi)
    rw[z] at y1;cases y1
    have k:=S.sl i _ (List.getElem?_eq_getElem hi)
    rw[y2] at k
    exact k.1
   ·obtain⟨v',u,n,o,k0,_,_,k1,k2,k3,k4,k5,k6⟩:=kmu z
    rw[z2] at k0;cases k0
    exact⟨n,o,k2,k3,k4,k5,k6.mono λm o' y q=>⟨koc m y,q⟩⟩
 generalize F3 (sls ms vs++List.replicate (N - vs.length) .no)=r3 at *
 cases r3 with
 | stuck=>trivial
 | bk _=>trivial
 | ct _=>trivial
 |
  nx e'=>
  obtain⟨b_,h',ns',q,a,S2⟩:=p
  rw[q]
  dsimp only
  cases qm:muV ms e' with
  | none=>trivial
  |
   some mv=>
   obtain⟨a3,S3,koc⟩:=fin X ns' e' b_ h' mv (λ_ z=>z) a S2 qm
   exact⟨.non,h',rfl,a3,S3,.non⟩
 |
  exc c e'=>
  obtain⟨b_,h',ns',q,a,S2⟩:=p
  rw[q]
  dsimp only
  cases qm:muV ms e' with
  | none=>trivial
  |
   some mv=>
   obtain⟨a3,S3,koc⟩:=fin X ns' e' b_ h' mv (λ_ z=>z) a S2 qm
   exact⟨h',rfl,a3,S3⟩
 |
  rt r e'=>
  obtain⟨d,b_,h',ns',q,a,rr⟩:=p
  rw[q]
  dsimp only
  cases qm:muV ms e' with
  | none=>trivial
  |
   some mv=>
   cases r with
   |
    val v=>
    obtain⟨a3,S3,koc⟩:=fin X ns' e' b_ h' mv (λ_ z=>z) a rr.1 qm
    exact⟨d,h',rfl,a3,S3,rr.2.mono λm o y q=>⟨koc m y,q⟩⟩
   |
    new v=>
    obtain⟨n,o,z1,z2,z3,z4,z5,z6,z7⟩:=rr
    obtain⟨a3,S3,koc⟩:=fin (Xn X n) ns' e' b_ h' mv (λ_ z=>.inl z) a z6 qm
    exact⟨d,h',rfl,a3,n,o,z1,z2,z3,z4,z5,S3,z7.mono λm o y q=>⟨koc m y,q⟩⟩
def jY (i:Nat):List Tm->Bool
 | .bor j :: ts=>(i == j) || jY i ts
 | _ :: ts=>jY i ts
 | []=>false
def rh (i:Nat):List Bool->List Tm->Bool
 | true :: ms,.bor j :: ts=>(i == j) || rh i ms ts
 | _ :: ms,_ :: ts=>rh i ms ts
 | _,_=>false
def okA (e:E3):List Bool->List Tm->Bool
 | true :: ms,.bor i :: ts=>((e[i]?).bind Sl.mv).isSome && !(jY i ts) && okA e ms ts
 | true :: _,_ :: _=>false
 | false :: ms,.bor i :: ts=>!(rh i ms ts) && okA e ms ts
 | false :: ms,_ :: ts=>okA e ms ts
 | [],[]=>true
 | _,_=>false
def qg (b:Bool) (t:Tm):Option Nat:=match b,t with
 | true,.bor i=>some i
 | _,_=>none
def c7 (ms:List Bool) (ts:List Tm):List (Option Nat):=List.zipWith qg ms ts
def bE (e:E3):List Bool->List Tm->List Nat
 | false :: ms,.bor i :: ts=>(match e[i]? with
  | some (.sh _)=>bE e ms ts
  | _=>i :: bE e ms ts)
 | _ :: ms,_ :: ts=>bE e ms ts
 | _,_=>[]
mutual
def flatV:Val->Bool
 | .tup xs=>flatVs xs
 | .lst _=>false
 | .kl _=>false
 | .dct _=>false
 | .set _=>false
 | _=>true
def flatVs:List Val->Bool
 | []=>true
 | v :: vs=>flatV v && flatVs vs
end
def o8:List (Key×Val)->Bool
 | []=>true
 | (_,v) :: vs=>flatV v && o8 vs
def eD:Val->Bool
 | .lst xs=>flatVs xs
 | .dct xs=>o8 xs
 | .set _=>true
 | _=>false
def nN:Rt->Bool
 | .val v=>flatV v
 | .new v=>eD v
def qC (e:E3):List Nat->Option E3
 | []=>some e
 | i :: is=>match df e (.bor i) with
  | some (e1,_)=>qC e1 is
  | none=>none
def Rt.tm:Rt->Tm
 | .val v=>.val v
 | .new v=>.new v
def DX (ms:List Bool) (G:Fn3) (A:MA3):ME3:=λe=>(A e).bind λts e1=>match rss e1 ts with
 | none=>.stuck
 | some vs=>if okA e1 ms ts=true then (match G vs with
  | .stuck=>.stuck
  | .ok r mv=>if (bE e1 ms ts).isEmpty || (nN r && mv.all eD) then .ok r.tm (bW (c7 ms ts) (ba ms mv) e1) else (match qC e1 (bE e1 ms ts) with
   | some e2=>.ok r.tm (bW (c7 ms ts) (ba ms mv) e2)
   | none=>.stuck)
  | .exc c mv=>if (bE e1 ms ts).isEmpty || mv.all eD then .exc c (bW (c7 ms ts) (ba ms mv) e1) else .stuck) else .stuck
section
variable {P P':Nat->Prop}{h h':AH}
theorem Rd.flat {d:D}{v:Val} (f:flatV v=true) (r:Rd P h d v):Rd P' h' d v:=
 @Rd.rec P h (λd v _=>flatV v=true->Rd P' h' d v) (λo v _=>flatV v=true->Rd P' h' .non v) (λds vs _=>flatVs vs=true->Rds P' h' ds vs) (λws us _=>True) (λ_=>.non) (λb _=>.bl b) (λi _=>.int i) (λx _=>.str x) (λn _=>.ty n) (λx _=>.glb x) (λx _=>.exc x) (λ_ ih f=>.tup (ih f)) (λ_ _ f=>absurd f Bool.false_ne_true) (λ_ _ r _ f=>by cases r <;> exact absurd f Bool.false_ne_true) (λ_ _ f=>absurd f Bool.false_ne_true) (λ_ _ f=>absurd f Bool.false_ne_true) (λ_ _ f=>absurd f Bool.false_ne_true) (λ_ f=>absurd f Bool.false_ne_true) (λ_=>.nil) (λ_ _ a b f=>.cons (a (Bool.and_eq_true .. ▸ f).1) (b (Bool.and_eq_true .. ▸ f).2)) trivial (λ_ _ _ _=>trivial) d v r f
theorem Rds.flat {d:List D}{v:List Val} (f:flatVs v=true) (r:Rds P h d v):Rds P' h' d v:=
 r.ind (M:=λds vs=>flatVs vs=true->Rds P' h' ds vs) (λ_=>.nil) (λr _ ih f=>by
  rw[flatVs,Bool.and_eq_true] at f
  exact .cons (Rd.flat f.1 r) (ih f.2)) f
theorem Rk.flat {d:List (Key×D)}{v:List (Key×Val)} (f:o8 v=true) (r:Rk P h d v):Rk P' h' d v:=
 r.ind (M:=λds vs=>o8 vs=true->Rk P' h' ds vs) (λ_=>.nil) (λr _ ih f=>by
  rw[o8,Bool.and_eq_true] at f
  exact .cons (Rd.flat f.1 r) (ih f.2)) f
theorem Rc.flat {o:Ob}{v:Val} (f:eD v=true) (r:Rc P h o v):Rc P' h' o v:=by
 cases r with
 | lst r=>exact .lst (Rds.flat (by simpa [eD] using f) r)
 | fz r=>simp [eD] at f
 | dct r=>exact .dct (Rk.flat (by simpa [eD] using f) r)
 | set xs=>exact .set xs
end
theorem qX {i:Nat}:∀ {ts:List Tm}{k:Nat},ts[k]?=some (.bor i)->jY i ts=true
 | [],_,q=>by simp at q
 |
  t :: ts,0,q=>by
  have:t=.bor i:=by simpa using q
  subst this;simp [jY]
 |
  t :: ts,k + 1,q=>by
  have:=qX (ts:=ts) (k:=k) (by simpa using q)
  cases t <;> simp [jY,this]
theorem wY {i:Nat}:∀ {ms:List Bool}{ts:List Tm}{k:Nat},ms[k]?=some true->ts[k]?=some (.bor i)->rh i ms ts=true
 | [],_,_,q,_=>by simp at q
 | _ :: _,[],_,_,q=>by simp at q
 |
  b :: ms,t :: ts,0,q1,q=>by
  have:t=.bor i:=by simpa using q
  have:b=true:=by simpa using q1
  subst_vars;simp [rh]
 |
  b :: ms,t :: ts,k + 1,q1,q=>by
  have:=wY (ms:=ms) (ts:=ts) (k:=k) (by simpa using q1) (by simpa using q)
  cases b <;> cases t <;> simp [rh,this]
theorem rl {e:E3}:∀ {ms:List Bool}{ts:List Tm}{k:Nat},okA e ms ts=true->ms[k]?=some true->∃ i,ts[k]?=some (.bor i)/\∃ u,(e[i]?).bind Sl.mv=some u
 | [],_,_,_,q=>by simp at q
 | b :: ms,[],_,o,_=>by cases b <;> simp [okA] at o
 |
  b :: ms,t :: ts,0,o,q=>by
  have:b=true:=by simpa using q
  subst this
  cases t with
  |
   bor i=>
   simp only[okA,Bool.and_eq_true] at o
   exact⟨i,rfl,Option.isSome_iff_exists.mp o.1.1⟩
  | _=>simp [okA] at o
 |
  b :: ms,t :: ts,k + 1,o,q=>by
  have o':okA e ms ts=true:=by
   cases b <;> cases t <;> simp only[okA,Bool.and_eq_true] at o <;> first | exact o.2 | exact o | (simp at o;done)
  obtain⟨i,y⟩:=rl (k:=k) o' (by simpa using q)
  exact⟨i,by simpa using y⟩
theorem kJ {e:E3}:∀ {ms:List Bool}{ts:List Tm}{k j i:Nat},okA e ms ts=true->ms[k]?=some true->ts[k]?=some (.bor i)->ts[j]?=some (.bor i)->j=k
 | [],_,_,_,_,_,q,_,_=>by simp at q
 | b :: ms,[],_,_,_,o,_,_,_=>by cases b <;> simp [okA] at o
 | b :: ms,t :: ts,0,0,i,o,q1,q2,q3=>rfl
 |
  b :: ms,t :: ts,0,j + 1,i,o,q1,q2,q3=>by
  have h1:b=true:=by simpa using q1
  have h2:t=.bor i:=by simpa using q2
  subst h1 h2
  simp only[okA,Bool.and_eq_true] at o
  have:=qX (i:=i) (ts:=ts) (k:=j) (by simpa using q3)
  rw[this] at o
  simp at o
 |
  b :: ms,t :: ts,k + 1,0,i,o,q1,q2,q3=>by
  have h2:t=.bor i:=by simpa using q3
  subst h2
  have hm:=wY (i:=i) (ms:=ms) (ts:=ts) (k:=k) (by simpa using q1) (by simpa using q2)
  have hb:=qX (i:=i) (ts:=ts) (k:=k) (by simpa using q2)
  cases b <;> simp [okA,hm,hb] at o
 |
  b :: ms,t :: ts,k + 1,j + 1,i,o,q1,q2,q3=>by
  have o':okA e ms ts=true:=by
   cases b <;> cases t <;> simp only[okA,Bool.and_eq_true] at o <;> first | exact o.2 | exact o | (simp at o;done)
  exact congrArg (· + 1) (kJ (k:=k) (j:=j) (i:=i) o' (by simpa using q1) (by simpa using q2) (by simpa using q3))
theorem kS {e:E3}:∀ {ms:List Bool}{ts:List Tm},okA e ms ts=true->ms.length=ts.length
 | [],[],_=>rfl
 | [],_ :: _,o=>by simp [okA] at o
 | b :: ms,[],o=>by cases b <;> simp [okA] at o
 |
  b :: ms,t :: ts,o=>by
  have o':okA e ms ts=true:=by
   cases b <;> cases t <;> simp only[okA,Bool.and_eq_true] at o <;> first | exact o.2 | exact o | (simp at o;done)
  exact congrArg (· + 1) (kS o')
theorem o6 {e:E3}:∀ {ms:List Bool}{ts:List Tm}{k i:Nat},ms[k]?=some false->ts[k]?=some (.bor i)->(∀ v,e[i]? ≠ some (.sh v))->i ∈ bE e ms ts
 | [],_,_,_,q,_,_=>by simp at q
 | _ :: _,[],_,_,_,q,_=>by simp at q
 |
  b :: ms,t :: ts,0,i,q1,q2,hn=>by
  have h1:b=false:=by simpa using q1
  have h2:t=.bor i:=by simpa using q2
  subst h1 h2
  unfold bE
  split
  ·rename_i v q;exact absurd q (hn v)
  ·exact List.mem_cons_self ..
 |
  b :: ms,t :: ts,k + 1,i,q1,q2,hn=>by
  have ih:=o6 (ms:=ms) (ts:=ts) (k:=k) (by simpa using q1) (by simpa using q2) hn
  cases b <;> cases t <;> simp only[bE] <;> first | exact ih | (split;exact ih;exact List.mem_cons_of_mem _ ih)
theorem fT {ms:List Bool}{ts:List Tm}{k i:Nat} (q:(c7 ms ts)[k]?=some (some i)):ms[k]?=some true/\ts[k]?=some (.bor i):=by
 unfold c7 at q
 rw[List.getElem?_zipWith] at q
 cases h1:ms[k]? with
 | none=>rw[h1] at q;cases q
 |
  some b=>
  cases h2:ts[k]? with
  | none=>rw[h1,h2] at q;cases q
  |
   some t=>
   rw[h1,h2] at q
   have q':qg b t=some i:=Option.some.inj q
   cases b <;> cases t <;> first | (cases q';done) | (cases q';exact⟨rfl,rfl⟩)
theorem EA {ms:List Bool}{ts:List Tm}{k i:Nat} (q1:ms[k]?=some true) (q2:ts[k]?=some (.bor i)):(c7 ms ts)[k]?=some (some i):=by
 unfold c7
 rw[List.getElem?_zipWith,q1,q2];rfl
theorem xN {e:E3}:∀ {ts:List Tm}{vs:List Val}{k:Nat}{v:Val},rss e ts=some vs->vs[k]?=some v->∃ t,ts[k]?=some t/\rs e t=some v
 | [],_,_,_,q,q2=>by cases q;simp at q2
 |
  t :: ts,vs,k,v,q,q2=>by
  unfold rss at q
  split at q
  ·rename_i u us e1 e2
   cases q
   cases k with
   | zero=>
    have:u=v:=by simpa using q2
    subst this;exact⟨t,rfl,e1⟩
   |
    succ k=>
    obtain⟨t',y1,y2⟩:=xN (k:=k) e2 (by simpa using q2)
    exact⟨t',by simpa using y1,y2⟩
  ·cases q
theorem nK {e:E3}:∀ {ts:List Tm}{vs:List Val},rss e ts=some vs->vs.length=ts.length
 | [],_,q=>by cases q;rfl
 |
  t :: ts,vs,q=>by
  unfold rss at q
  split at q
  ·rename_i u us e1 e2;cases q;exact congrArg (· + 1) (nK e2)
  ·cases q
theorem TsR.get {X:Nat->Prop}{ns:Ns}{ae:AE}{h:AH}:∀ {ds:List D}{ts:List Tm}{k:Nat}{t:Tm},TsR X ns ae h ds ts->ts[k]?=some t->∃ d,ds[k]?=some d/\((∃ v,t=.val v/\Rd (Oc X ns) h d v)\/∃ i,t=.bor i/\ae[i]?=some (some d))
 | _,_,_,_,.nil,q=>by simp at q
 | _,_,0,_,.val r rr,q=>by have:=(by simpa using q:Tm.val _=_);subst this;exact⟨_,rfl,.inl ⟨_,rfl,r⟩⟩
 | _,_,0,_,.bor r rr,q=>by have:=(by simpa using q:Tm.bor _=_);subst this;exact⟨_,rfl,.inr ⟨_,rfl,r⟩⟩
 | _,_,k + 1,t,.val r rr,q=>by obtain⟨d,y⟩:=rr.get (k:=k) (by simpa using q);exact⟨d,by simpa using y⟩
 | _,_,k + 1,t,.bor r rr,q=>by obtain⟨d,y⟩:=rr.get (k:=k) (by simpa using q);exact⟨d,by simpa using y⟩
def Xc (X:Nat->Prop) (ns:Ns) (e:E3) (ms:List Bool) (ts:List Tm) (n:Nat):Prop:=(X n\/some n ∈ ns)/\some n ∉ c5 (c7 ms ts) ns/\∀ i ∈ bE e ms ts,ns[i]? ≠ some (some n)
theorem uE {X:Nat->Prop}{h0:Nat}{ns:Ns}{e:E3}{ae:AE}{h:AH}{ms:List Bool}{ts:List Tm}{ds:List D}{vs:List Val} (S:Sat X h0 ns e ae h) (rt:TsR X ns ae h ds ts) (qv:rss e ts=some vs) (ok:okA e ms ts=true):
 Sat (Xc X ns e ms ts) h.length (c5 (c7 ms ts) ns) (sls ms vs) (ds.map some) h:=by
 have l1:=kS ok
 have l2:=nK qv
 have l3:=TsR.len rt
 have hs:pR (c7 ms ts):=λj k i q1 q2=>kJ ok (fT q2).1 (fT q2).2 (fT q1).2
 have mv:Mov (Oc X ns) (Oc (Xc X ns e ms ts) (c5 (c7 ms ts) ns)) h h:=λn o p q=>⟨⟨λz=>by
  rcases z.1 with z | z
  ·exact p.1 z
  ·exact p.2 z,λz=>p.2 (oY z)⟩,q⟩
 refine⟨?_,?_,Nat.le_refl _,λn z=>?_,λj k n q1 q2=>?_,λj n q z=>z.2.1 (bH.mpr ⟨j,q⟩),λk s q=>?_⟩
 ·unfold sls;rw[List.length_map,List.length_zipWith];omega
 ·unfold c5 c7 sls;rw[List.length_map,List.length_zipWith,List.length_zipWith];omega
 ·rcases z.1 with z | z
  ·exact S.xl n z
  ·obtain⟨i,z⟩:=bH.mp z
   obtain⟨_,_,_,_,_,_,_,q',_⟩:=S.own z
   exact dA q'
 ·obtain⟨i,y1,y2⟩:=dw q1
  obtain⟨i',y3,y4⟩:=dw q2
  have:=S.inj i i' n y2 y4
  subst this
  exact hs j k i y1 y3
 ·obtain⟨b,v,
   q1,q2,rfl⟩:=ij q
  obtain⟨t,q3,q4⟩:=xN qv q2
  obtain⟨d,q5,q6⟩:=rt.get q3
  have qd:(ds.map some)[k]?=some (some d):=by rw[List.getElem?_map,q5];rfl
  rw[qd]
  have qn:(c5 (c7 ms ts) ns)[k]?=some ((qg b t).bind λi=>(ns[i]?).bind id):=by
   unfold c5 c7
   rw[List.getElem?_map,List.getElem?_zipWith,q1,q3];rfl
  rw[qn]
  cases b with
  |
   true=>
   obtain⟨i,y1,u,y2⟩:=rl ok q1
   rw[q3] at y1;cases y1
   have q4':(e[i]?).bind Sl.val=some v:=q4
   obtain⟨s,z1,z2⟩:=Option.bind_eq_some_iff.mp y2
   rw[z1] at q4'
   have hv:s.val=some v:=q4'
   have huv:u=v:=by cases s <;> first | cases z2;done | (cases z2;cases hv;rfl)
   subst huv
   have hns:∃ n,ns[i]?=some (some n):=by
    have y:=S.sl i s z1
    cases s with
    | ow v=>obtain⟨n,o,y1,_⟩:=y;exact⟨n,y1⟩
    | mu v=>obtain⟨n,o,y1,_⟩:=y;exact⟨n,y1⟩
    | _=>cases z2
   obtain⟨n,hn⟩:=hns
   obtain⟨n',o,k1,k2,k3,k4,_⟩:=S.write z1 z2
   rcases q6 with ⟨_,z,_⟩ | ⟨i',z,q6⟩
   ·cases z
   ·cases z
    rw[q6] at k1;cases k1
    obtain⟨_,_,_,_,_,_,w,_⟩:=S.own hn
    rw[q6] at w;cases w
    exact⟨n,o,by show some ((ns[i]?).bind id)=_;rw[hn];rfl,rfl,k2,k3,k4.mono mv⟩
  |
   false=>
   refine⟨by cases t <;> rfl,d,rfl,?_⟩
   rcases q6 with ⟨u,rfl,q6⟩ | ⟨i,rfl,q6⟩
   ·cases q4;exact q6.mono mv
   ·have q4':(
     e[i]?).bind Sl.val=some v:=q4
    rcases S.bor q6 q4' with z | ⟨n,o,rfl,z1,z2⟩
    ·exact z.mono mv
    ·refine .cell ⟨λy=>?_,λy=>?_⟩ z1 (z2.mono mv)
     ·
      by_cases hsh:∃ w,e[i]?=some (.sh w)
      ·obtain⟨w,hsh⟩:=hsh
       obtain⟨_,x,w1,w2⟩:=S.sl i _ hsh
       rw[q6] at w1;cases w1
       cases w2 with
       | cell p _ _=>rcases y.1 with y | y;exact p.1 y;exact p.2 y
      ·have hl:=o6 q1 q3 λw z=>hsh ⟨w,z⟩
       cases w:ns[i]? with
       |
        none=>
        have hi:i < e.length:=by
         cases z:e[i]? with
         | none=>rw[z] at q4';cases q4'
         | some _=>exact (List.getElem?_eq_some_iff.mp z).1
        rw[List.getElem?_eq_none_iff,S.l2] at w
        omega
       |
        some w'=>
        cases w' with
        |
         none=>
         cases z:e[i]? with
         | none=>rw[z] at q4';cases q4'
         |
          some s=>
          have k:=S.sl i s z
          rw[w] at k
          cases s with
          | no=>rw[z] at q4';cases q4'
          | sh w=>exact hsh ⟨w,z⟩
          | ow w=>obtain⟨_,_,k,_⟩:=k;cases k
          | lo w=>obtain⟨_,_,k,_⟩:=k;cases k
          | mu w=>obtain⟨_,_,k,_⟩:=k;cases k
          | lm w=>obtain⟨_,_,k,_⟩:=k;cases k
        |
         some n'=>
         obtain⟨_,_,_,_,_,_,w2,_⟩:=S.own w
         rw[q6] at w2;cases w2
         exact y.2.2 i hl w
     ·obtain⟨j,y⟩:=bH.mp y
      obtain⟨i',y1,y2⟩:=dw y
      obtain⟨y3,y4⟩:=fT y1
      obtain⟨_,_,_,_,_,_,w2,_⟩:=S.own y2
      have:i'
       = i:=by
       cases w:ns[i]? with
       |
        none=>
        have hi:i < e.length:=by
         cases z:e[i]? with
         | none=>rw[z] at q4';cases q4'
         | some _=>exact (List.getElem?_eq_some_iff.mp z).1
        rw[List.getElem?_eq_none_iff,S.l2] at w
        omega
       |
        some w'=>
        cases w' with
        |
         some n'=>
         obtain⟨_,_,_,_,_,_,w3,_⟩:=S.own w
         rw[q6] at w3;cases w3
         exact S.inj i' i n y2 w
        |
         none=>
         cases z:e[i]? with
         | none=>rw[z] at q4';cases q4'
         |
          some s=>
          have k:=S.sl i s z
          rw[w,q6] at k
          cases s with
          | no=>rw[z] at q4';cases q4'
          |
           sh w=>
           obtain⟨_,x,k1,k2⟩:=k
           cases k1
           cases k2 with
           | cell p _ _=>exact (p.2 (bH.mpr ⟨i',y2⟩)).elim
          | ow w=>obtain⟨_,_,k,_⟩:=k;cases k
          | lo w=>obtain⟨_,_,k,_⟩:=k;cases k
          | mu w=>obtain⟨_,_,k,_⟩:=k;cases k
          | lm w=>obtain⟨_,_,k,_⟩:=k;cases k
      subst this
      have:=kJ ok y3 y4 q3
      subst this
      rw[q1] at y3;cases y3
end L3
namespace L3
open PySem PySem.Spec PyProof.Rows L2
theorem iz:∀ {ms:List Bool}{mv:List Val}{j:Nat}{v:Val},(ba ms mv)[j]?=some (.mu v)->v ∈ mv
 | [],_,_,_,q=>by simp [ba] at q
 | true :: ms,u :: mv,0,v,q=>by
  have:Sl.mu u=.mu v:=by simpa [ba] using q
  cases this;exact List.mem_cons_self ..
 | true :: ms,u :: mv,j + 1,v,q=>List.mem_cons_of_mem _ (iz (ms:=ms) (mv:=mv) (j:=j) (by simpa [ba] using q))
 | true :: ms,[],0,v,q=>by simp [ba] at q
 | true :: ms,[],j + 1,v,q=>iz (ms:=ms) (mv:=[]) (j:=j) (by simpa [ba] using q)
 | false :: ms,mv,0,v,q=>by simp [ba] at q
 | false :: ms,mv,j + 1,v,q=>iz (ms:=ms) (mv:=mv) (j:=j) (by simpa [ba] using q)
theorem oI {e:E3}:∀ {ms:List Bool}{ts:List Tm}{i:Nat},i ∈ bE e ms ts->∃ k:Nat,ms[k]?=some false/\ts[k]?=some (.bor i)
 | [],_,_,q=>by simp [bE] at q
 | _ :: _,[],_,q=>by simp [bE] at q
 |
  b :: ms,t :: ts,i,q=>by
  have up:i ∈ bE e ms ts->∃ k:Nat,(b :: ms)[k]?=some false/\(t :: ts)[k]?=some (.bor i):=λz=>by
   obtain⟨k,y1,y2⟩:=oI z
   exact⟨k + 1,by simpa using y1,by simpa using y2⟩
  cases b <;> cases t <;> simp only[bE] at q <;> first | exact up q | skip
  split at q
  ·exact up q
  ·rcases List.mem_cons.mp q with rfl | q
   ·exact⟨0,rfl,rfl⟩
   ·exact up q
theorem EX {e e1:E3}{i:Nat}{v:Val} (q:df e (.bor i)=some (e1,v)):(∀ j,j ≠ i->e1[j]?=e[j]?)/\e1[i]?=some (.sh v)/\(e[i]?).bind Sl.val=some v:=by
 unfold df at q
 dsimp only at q
 split at q
 ·rename_i u q1;cases q;exact⟨λ_ _=>rfl,q1,by rw[q1];rfl⟩
 ·rename_i u q1;cases q;exact⟨λj z=>bZ z,cI (List.getElem?_eq_some_iff.mp q1).1,by rw[q1];rfl⟩
 ·cases q
theorem vL {X:Nat->Prop}{h0:Nat}{ae:AE}{h:AH}:∀ {is:List Nat}{ns:Ns}{e e2:E3},Sat X h0 ns e ae h->(∀ i ∈ is,∃ d,ae[i]?=some (some d))->qC e is=some e2->∃ j_,Sat X h0 j_ e2 ae h/\Stp ns e h j_ e2 h/\(∀ i,i ∉ is->e2[i]?=e[i]?)/\(∀ i ∈ is,∃ v,e2[i]?=some (.sh v))/\∀ i:Nat,(e2[i]?).bind Sl.val=(e[i]?).bind Sl.val
 | [],ns,e,e2,S,_,q=>by cases q;exact⟨ns,S,.refl,λ_ _=>rfl,(λ_ z=>by cases z),λ_=>rfl⟩
 |
  i :: is,ns,e,e2,S,hd,q=>by
  unfold qC at q
  split at q
  ·rename_i e1 v q1
   obtain⟨d,hd0⟩:=hd i (List.mem_cons_self ..)
   obtain⟨ns1,S1,a1,r1⟩:=iq (L:=0) (t:=.bor i) S hd0 q1
   obtain⟨j_,S2,a2,k1,k2,k3⟩:=vL S1 (λj z=>hd j (List.mem_cons_of_mem _ z)) q
   obtain⟨y1,y2,y3⟩:=EX q1
   refine⟨j_,S2,a1.trans S a2,λj hj=>?_,λj hj=>?_,λj=>?_⟩
   ·rw[List.mem_cons,not_or] at hj
    rw[k1 j hj.2,y1 j hj.1]
   ·by_cases z:j ∈ is
    ·exact k2 j z
    ·rcases List.mem_cons.mp hj with rfl | hj
     ·exact⟨v,by rw[k1 j z];exact y2⟩
     ·exact absurd hj z
   ·rw[k3 j]
    by_cases z:j=i
    ·subst z;rw[y2,y3];rfl
    ·rw[y1 j z]
  ·cases q
theorem r9 {e e2:E3}:∀ {ms:List Bool}{ts:List Tm},(∀ (k i:Nat),ms[k]?=some true->ts[k]?=some (.bor i)->e2[i]?=e[i]?)->okA e ms ts=true->okA e2 ms ts=true
 | [],[],_,o=>rfl
 | [],_ :: _,_,o=>by simp [okA] at o
 | b :: ms,[],_,o=>by cases b <;> simp [okA] at o
 |
  b :: ms,t :: ts,hk,o=>by
  have o':okA e ms ts=true:=by
   cases b <;> cases t <;> simp only[okA,Bool.and_eq_true] at o <;> first | exact o.2 | exact o | (simp at o;done)
  have ih:=r9 (λk i q1 q2=>hk (k + 1) i (by simpa using q1) (by simpa using q2)) o'
  cases b with
  | false=>cases t <;> simp only[okA,Bool.and_eq_true] at o ⊢ <;> first | exact⟨o.1,ih⟩ | exact ih
  |
   true=>
   cases t with
   |
    bor i=>
    simp only[okA,Bool.and_eq_true] at o ⊢
    rw[hk 0 i rfl rfl]
    exact⟨o.1,ih⟩
   | _=>simp [okA] at o
theorem uG {e:E3}:∀ {ms:List Bool}{ts:List Tm},(∀ (k i:Nat),ms[k]?=some false->ts[k]?=some (.bor i)->∃ v,e[i]?=some (.sh v))->bE e ms ts=[]
 | [],_,_=>by simp [bE]
 | _ :: _,[],_=>by simp [bE]
 |
  b :: ms,t :: ts,hk=>by
  have ih:=uG (λk i q1 q2=>hk (k + 1) i (by simpa using q1) (by simpa using q2))
  cases b <;> cases t <;> simp only[bE] <;> first | exact ih | skip
  rename_i i
  obtain⟨v,q⟩:=hk 0 i rfl rfl
  rw[q];exact ih
theorem sI {e e2:E3} (hv:∀ i:Nat,(e2[i]?).bind Sl.val=(e[i]?).bind Sl.val):∀ (ts:List Tm),rss e2 ts=rss e ts
 | []=>rfl
 |
  t :: ts=>by
  unfold rss
  rw[sI hv ts]
  have:rs e2 t=rs e t:=by
   cases t with
   | bor i=>exact hv i
   | _=>rfl
  rw[this]
theorem vX {e:E3}{ms:List Bool}{ts:List Tm}{vs:List Val} (ok:okA e ms ts=true):Lnk (c7 ms ts) e (sls ms vs):=by
 refine⟨λj k i q1 q2=>kJ ok (fT q2).1 (fT q2).2 (fT q1).2,λj v q=>?_,λj s q hm=>?_⟩
 ·obtain⟨b,u,q1,_,q2⟩:=ij q
  cases b with
  | false=>cases q2
  |
   true=>
   obtain⟨i,y1,w,y2⟩:=rl ok q1
   obtain⟨s,z1,z2⟩:=Option.bind_eq_some_iff.mp y2
   exact⟨i,s,EA q1 y1,z1,by cases s <;> first | rfl | cases z2⟩
 ·obtain⟨b,u,q1,_,q2⟩:=ij q
  cases b with
  | false=>subst q2;cases hm
  | true=>exact⟨u,q2⟩
section
variable {X:Nat->Prop}{h0 L:Nat}{ns:Ns}{e:E3}{ae:AE}{h:AH}{ms:List Bool}{ts:List Tm}{ds:List D}{vs:List Val}{S2:Fn}{G3:Fn3}
theorem nO (Y:Nat->Prop) (hY:∀ n,Y n->X n\/Y n) {n:Nat} (hl:bE e ms ts=[]) (z:¬ Xc X ns e ms ts n) (z2:some n ∉ c5 (c7 ms ts) ns):Oc X ns n:=by
 refine⟨λy=>z ⟨.inl y,z2,λi hi=>by rw[hl] at hi;cases hi⟩,λy=>z ⟨.inr y,z2,λi hi=>by rw[hl] at hi;cases hi⟩⟩
theorem xH {r:Rt}{mv:List Val} (S:Sat X h0 ns e ae h) (hL:L<=h.length) (rt:TsR X ns ae h ds ts) (qv:rss e ts=some vs) (ok:okA e ms ts=true) (hG:RF ms S2 G3) (q:G3 vs=.ok r mv) (hf:bE e ms ts=[]\/(nN r=true/\mv.all eD=true)):
 Po X h0 ns e ae h (relE X h0 L ae) (S2 ds h) (.ok r.tm (bW (c7 ms ts) (ba ms mv) e)):=by
 have p:=hG _ _ ds vs h (by rw[nK qv,kS ok]) (uE S rt qv ok)
 rw[q] at p
 obtain⟨d,h',p1,a,rr⟩:=p
 have K:=vX (vs:=vs) ok
 have xcl:∀ n,X n->n < h.length:=S.xl
 cases r with
 |
  val v=>
  obtain⟨S3,rv⟩:=rr
  obtain⟨S4,a4⟩:=S.back (Y:=X) K a (λn z=>⟨Nat.lt_of_lt_of_le (xcl n z) a.len,.inl z⟩) (λ_ z=>z) λj w n q1 q2=>by
   obtain⟨s,u,o,b1,b2,b3,b4,b5,b6,b7⟩:=S3.own q2
   rw[q1] at b1;cases b1;cases b3
   rcases hf with hf | hf
   ·exact⟨o,b5,b6,b7.mono λm o' z y=>⟨nO X (λ_ z=>.inl z) hf z.1 z.2,y⟩⟩
   ·exact⟨o,b5,b6,b7.flat (List.all_eq_true.mp hf.2 w (iz q1))⟩
  refine⟨d,h',ns,p1,a4,S4,?_⟩
  rcases hf with hf | hf
  ·exact rv.mono λm o' z y=>⟨nO X (λ_ z=>.inl z) hf z.1 z.2,y⟩
  ·exact rv.flat hf.1
 |
  new v=>
  obtain⟨n,o,z1,z2,z3,z4,z5,S3,z7⟩:=rr
  have hnx:¬ X n:=λy=>by have:=xcl n y;omega
  have kk:∀ m,Oc (Xn (Xc X ns e ms ts) n) (c5 (c7 ms ts) ns) m->bE e ms ts=[]->Oc (Xn X n) ns m:=λm z hf=>by
   have:=nO X (λ_ z=>.inl z) hf (λy=>z.1 (.inl y)) z.2
   exact⟨λy=>by
    rcases y with y | y
    ·exact this.1 y
    ·exact z.1 (.inr y),this.2⟩
  obtain⟨S4,a4⟩:=S.back (Y:=Xn X n) K a (λm z=>by
   rcases z with z | rfl
   ·exact⟨Nat.lt_of_lt_of_le (xcl m z) a.len,.inl z⟩
   ·exact⟨dA z4,.inr z2⟩) (λ_ z=>.inl z) λj w n' q1 q2=>by
   obtain⟨s,u,o,b1,b2,b3,b4,b5,b6,b7⟩:=S3.own q2
   rw[q1] at b1;cases b1;cases b3
   rcases hf with hf | hf
   ·exact⟨o,b5,b6,b7.mono λm o' z y=>⟨kk m z hf,y⟩⟩
   ·exact⟨o,b5,b6,b7.flat (List.all_eq_true.mp hf.2 w (iz q1))⟩
  refine⟨d,h',ns,p1,a4,S4.weak λ_ z=>.inl z,n,o,z1,Nat.le_trans hL z2,hnx,z4,z5,S4,?_⟩
  rcases hf with hf | hf
  ·exact z7.mono λm o' z y=>⟨kk m z hf,y⟩
  ·exact z7.flat hf.1
theorem Ci {c:Str}{mv:List Val} (S:Sat X h0 ns e ae h) (rt:TsR X ns ae h ds ts) (qv:rss e ts=some vs) (ok:okA e ms ts=true) (hG:RF ms S2 G3) (q:G3 vs=.exc c mv) (hf:bE e ms ts=[]\/mv.all eD=true):
 Po X h0 ns e ae h (relE X h0 L ae) (S2 ds h) (.exc c (bW (c7 ms ts) (ba ms mv) e)):=by
 have p:=hG _ _ ds vs h (by rw[nK qv,kS ok]) (uE S rt qv ok)
 rw[q] at p
 obtain⟨h',p1,a,S3⟩:=p
 have K:=vX (vs:=vs) ok
 obtain⟨S4,a4⟩:=S.back (Y:=X) K a (λn z=>⟨Nat.lt_of_lt_of_le (S.xl n z) a.len,.inl z⟩) (λ_ z=>z) λj w n q1 q2=>by
  obtain⟨s,u,o,b1,b2,b3,b4,b5,b6,b7⟩:=S3.own q2
  rw[q1] at b1;cases b1;cases b3
  rcases hf with hf | hf
  ·exact⟨o,b5,b6,b7.mono λm o' z y=>⟨nO X (λ_ z=>.inl z) hf z.1 z.2,y⟩⟩
  ·exact⟨o,b5,b6,b7.flat (List.all_eq_true.mp hf w (iz q1))⟩
 exact⟨h',ns,p1,a4,S4⟩
theorem EO {A:MA}{A3:MA3}{n:Nat} (hn:n=ms.length) (hG:RF ms S2 G3) (hA:RA A A3):RE (xY n S2 A) (DX ms G3 A3):=λX h0 L ns e ae h S hl=>
 Po.bind
  S (hA X h0 ns e ae h S) λds ts h1 ns1 e1 a1 S1 r1=>by
  try dsimp only
  cases qv:rss e1 ts with
  | none=>trivial
  |
   some vs=>
   dsimp only
   by_cases ok:okA e1 ms ts=true
   ·rw[if_pos ok]
    have db:ds.length=n:=by rw[hn,kS ok];exact TsR.len r1
    rw[if_pos db]
    have hL:L<=h1.length:=Nat.le_trans hl a1.len
    cases q:G3 vs with
    | stuck=>trivial
    |
     exc c mv=>
     dsimp only
     by_cases hf:((bE e1 ms ts).isEmpty || mv.all eD)=true
     ·rw[if_pos hf]
      refine Ci S1 r1 qv ok hG q ?_
      rw[Bool.or_eq_true] at hf
      rcases hf with hf | hf
      ·exact .inl (List.isEmpty_iff.mp hf)
      ·exact .inr hf
     ·rw[if_neg hf];trivial
    |
     ok r mv=>
     dsimp only
     by_cases hf:((bE e1 ms ts).isEmpty || (nN r && mv.all eD))=true
     ·rw[if_pos hf]
      refine xH S1 hL r1 qv ok hG q ?_
      rw[Bool.or_eq_true,Bool.and_eq_true] at hf
      rcases hf with hf | hf
      ·exact .inl (List.isEmpty_iff.mp hf)
      ·exact .inr hf
     ·rw[if_neg hf]
      cases qd:qC e1 (bE e1 ms ts) with
      | none=>trivial
      |
       some e2=>
       dsimp only
       obtain⟨j_,S2',a2,k1,k2,k3⟩:=vL S1 (λi hi=>by
        obtain⟨k,_,y⟩:=oI hi
        obtain⟨d,_,z⟩:=r1.get y
        rcases z with ⟨_,z,_⟩ | ⟨j,z,z2⟩
        ·cases z
        ·cases z;exact⟨d,z2⟩) qd
       have ok2:okA e2 ms ts=true:=r9 (λk i q1 q2=>k1 i λz=>by
        obtain⟨k',y1,y2⟩:=oI z
        have:=kJ ok q1 q2 y2
        subst this
        rw[q1] at y1;cases y1) ok
       have ln:bE e2 ms ts=[]:=uG λk i q1 q2=>by
        by_cases z:i ∈ bE e1 ms ts
        ·exact k2 i z
        ·rw[k1 i z]
         exact Classical.byContradiction λw=>z (o6 q1 q2 λv y=>w ⟨v,y⟩)
       have pp:=xH (L:=L) S2' hL (r1.stp S1 a2) (by rw[sI k3];exact qv) ok2 hG q (.inl ln)
       obtain⟨d,h',ns',y,y1,y2,y3⟩:=pp
       exact⟨d,h',ns',y,a2.trans S1 y1,y2,y3⟩
   ·rw[if_neg ok];trivial
end
def RMv (m2:D->List D->AH->R D) (m3:Val->List Val->Bv):Prop:=∀ P h d v ds vs,ShR P h d v->lI v=true->ShRs P h ds vs->BvR P h (m2 d ds h) (m3 v vs)
end L3
namespace L3
open PySem PySem.Spec PyProof.Rows L2
def aI (f:Int->Int->Val):Val->Val->Bv:=λx y=>match x,y with
 | .int i,.int j=>.val (f i j)
 | _,_=>.stuck
open Classical in
def aIc (C:Int->Int->Prop) (f:Int->Int->Val):Val->Val->Bv:=λx y=>match x,y with
 | .int i,.int j=>if C i j then .val (f i j) else .stuck
 | _,_=>.stuck
def yS:Val->Val->Bv:=λx y=>match x,y with
 | .lst xs,.lst ys=>if xs.length + ys.length<=16777216 then .new (.lst (xs++ys)) else .stuck
 | .tup xs,.tup ys=>if xs.length + ys.length<=16777216 then .val (.tup (xs++ys)) else .stuck
 | _,_=>.stuck
def Ct:Val->Val->Bv:=λx y=>match x,y with
 | .int i,.int j=>.val (.int (i + j))
 | x,y=>yS x y
def aMin:=aI λi j=>.int (i - j)
def yu:=aIc CMulA λi j=>.int (i * j)
def yA:=aIc CDivB λi j=>.int (i.fdiv j)
def yx:=aIc (λ_ j=>j ≠ 0) λi j=>.int (i.fmod j)
def zp:=aIc iU λi j=>.int (i ^ j.toNat)
def yG:=aIc iU λi j=>.int (i * 2 ^ j.toNat)
def aLt:=aI λi j=>.bl (decide (i < j))
def aGt:=aI λi j=>.bl (decide (j < i))
def aGe:=aI λi j=>.bl (decide (j<=i))
def CP:Val->Bv:=λx=>match x with
 | .int i=>.val (.int (-i))
 | _=>.stuck
def aIx:Val->Val->Bv:=λx y=>match x.items,y with
 | some xs,.int i=>(match atI xs i with
  | some v=>.val v
  | none=>.stuck)
 | _,_=>.stuck
section
theorem uH {f2:Int->Int->D}{f3:Int->Int->Val} (hr:∀ i j P h,Rd P h (f2 i j) (f3 i j)):RO (gI f2) (aI f3):=λP h d1 d2 v1 v2 r1 r2=>by
 unfold aI
 split
 ·obtain rfl:=r1.int;obtain rfl:=r2.int;exact⟨_,rfl,hr _ _ P h⟩
 ·trivial
theorem pD {C:Int->Int->Prop}{f2:Int->Int->D}{f3:Int->Int->Val} (hr:∀ i j P h,Rd P h (f2 i j) (f3 i j)):RO (gIc C f2) (aIc C f3):=λP h d1 d2 v1 v2 r1 r2=>by
 unfold aIc
 split
 ·obtain rfl:=r1.int;obtain rfl:=r2.int
  split
  ·rename_i hc;exact⟨_,by unfold gIc;dsimp only;rw[if_pos hc],hr _ _ P h⟩
  ·trivial
 ·trivial
theorem Jy:RO oD yS:=λP h d1 d2 v1 v2 r1 r2=>by
 unfold yS
 split
 ·obtain⟨n,ds,rfl,e1,_,q1⟩:=r1.lst
  obtain⟨m,es,rfl,e2,_,q2⟩:=r2.lst
  split
  ·rename_i hl
   exact⟨.lst (ds++es),by unfold oD;dsimp only;rw[e1,e2];dsimp only;rw[if_pos (by rw[q1.len,q2.len];exact hl)],trivial,.lst (q1.append q2)⟩
  ·trivial
 ·obtain⟨ds,rfl,q1⟩:=r1.tup
  obtain⟨es,rfl,q2⟩:=r2.tup
  split
  ·rename_i hl
   exact⟨_,by unfold oD;dsimp only;rw[if_pos (by rw[q1.len,q2.len];exact hl)],.tup (q1.append q2)⟩
  ·trivial
 ·trivial
theorem H9:RO yI Ct:=λP h d1 d2 v1 v2 r1 r2=>by
 unfold Ct
 split
 ·obtain rfl:=r1.int;obtain rfl:=r2.int;exact⟨_,rfl,.int _⟩
 ·rename_i hn
  have k:=Jy P h d1 d2 v1 v2 r1 r2
  have e:yI d1 d2 h=oD d1 d2 h\/yS v1 v2=.stuck:=by
   cases v1 <;> first | (right;rfl) | (left;skip)
   ·obtain⟨ds,rfl,_⟩:=r1.tup;rfl
   ·obtain⟨n,ds,rfl,_⟩:=r1.lst;rfl
  rcases e with e | e
  ·rw[e];exact k
  ·rw[e];trivial
theorem JS:RO C9 aMin:=uH λ_ _ _ _=>.int _
theorem Io:RO Dr yu:=pD λ_ _ _ _=>.int _
theorem HD:RO Dq yA:=pD λ_ _ _ _=>.int _
theorem IL:RO Cr yx:=pD λ_ _ _ _=>.int _
theorem GI:RO B1 zp:=pD λ_ _ _ _=>.int _
theorem IZ:RO B4 yG:=pD λ_ _ _ _=>.int _
theorem Li:RO gLt aLt:=uH λ_ _ _ _=>.bl _
theorem Mb:RO gGt aGt:=uH λ_ _ _ _=>.bl _
theorem Ly:RO gGe aGe:=uH λ_ _ _ _=>.bl _
theorem GY:RU yY CP:=λP h d v r=>by
 unfold CP
 split
 ·obtain rfl:=r.int;exact⟨_,rfl,.int _⟩
 ·trivial
theorem Mf {P:Nat->Prop}{h:AH}{ds:List D}{vs:List Val} (r:Rds P h ds vs) {i:Int}{v:Val} (e:atI vs i=some v):∃ d,atI ds i=some d/\Rd P h d v:=by
 unfold atI at e ⊢
 rw[r.len]
 cases q:ixN vs.length i with
 | none=>rw[q] at e;cases e
 | some j=>rw[q] at e;exact r.get e
theorem L8:RO gIx aIx:=λP h d1 d2 v1 v2 r1 r2=>by
 unfold aIx
 split
 ·rename_i xs i e1
  obtain⟨ds,e2,q⟩:=r1.items e1
  obtain rfl:=r2.int
  split
  ·rename_i v e3
   obtain⟨d,e4,q2⟩:=Mf q e3
   exact⟨d,by unfold gIx;rw[e2];dsimp only;rw[e4],q2⟩
  ·trivial
 ·trivial
end
mutual
def dI:Nat->Val->Option PyData
 | 0,_=>none
 | _ + 1,.non=>some .none
 | _ + 1,.bl b=>some (.bool b)
 | _ + 1,.int i=>some (.int i)
 | _ + 1,.str x=>some (.str x)
 | k + 1,.tup xs=>(fK k xs).map .tuple
 | k + 1,.lst xs=>(fK k xs).map .list
 | _ + 1,_=>none
def fK:Nat->List Val->Option (List PyData)
 | _,[]=>some []
 | k,x :: xs=>match dI k x,fK k xs with
  | some a,some b=>some (a :: b)
  | _,_=>none
end
theorem CY {P:Nat->Prop}{h:AH}{k:Nat} (hk:∀ d v pd,Rd P h d v->dI k v=some pd->eR k h d=some pd):∀ {ds:List D}{vs:List Val}{ps:List PyData},Rds P h ds vs->fK k vs=some ps->ds.mapM (eR k h)=some ps:=by
 intro ds
 induction ds with
 |
  nil=>
  intro vs ps r q
  cases r
  unfold fK at q
  cases q
  rfl
 |
  cons d0 ds ih=>
  intro vs ps r q
  cases r with
  |
   cons r rr=>
   unfold fK at q
   split at q
   ·rename_i a b e1 e2
    cases q
    rw[List.mapM_cons,hk _ _ _ r e1,ih rr e2];rfl
   ·cases q
theorem kB {P:Nat->Prop}{h:AH}:∀ (k:Nat) (d:D) (v:Val) (pd:PyData),ShR P h d v->dI k v=some pd->eR k h d=some pd
 | 0,_,_,_,_,q=>by unfold dI at q;cases q
 |
  k + 1,d,v,pd,r,q=>by
  have ih:∀ {ds:List D}{vs:List Val}{ps:List PyData},Rds P h ds vs->fK k vs=some ps->ds.mapM (eR k h)=some ps:=CY λd v pd r q=>kB k d v pd (.inl r) q
  cases v with
  | non=>obtain rfl:=r.non;simp only[dI] at q;cases q;rfl
  | bl b=>obtain rfl:=r.bl;simp only[dI] at q;cases q;rfl
  | int b=>obtain rfl:=r.int;simp only[dI] at q;cases q;rfl
  | str b=>obtain rfl:=r.str;simp only[dI] at q;cases q;rfl
  |
   tup xs=>
   obtain⟨ds,rfl,r2⟩:=r.tup
   simp only[dI] at q
   obtain⟨ps,q1,rfl⟩:=Option.map_eq_some_iff.mp q
   show (ds.mapM (eR k h)).map PyData.tuple=_
   rw[ih r2 q1];rfl
  |
   lst xs=>
   obtain⟨n,ds,rfl,_,e1,r2⟩:=r.lst
   simp only[dI] at q
   obtain⟨ps,q1,rfl⟩:=Option.map_eq_some_iff.mp q
   unfold eR
   rw[e1]
   show (ds.mapM (eR k h)).map PyData.list=_
   rw[ih r2 q1];rfl
  | _=>simp only[dI] at q;cases q
def eQ (x y:Val):Option Bool:=match dI 64 x,dI 64 y with
 | some a,some b=>if SeqAt.shaped a=true/\SeqAt.shaped b=true then some (PyData.eqv a b) else none
 | _,_=>none
def aEq (jp:Bool):Val->Val->Bv:=λx y=>match eQ x y with
 | some b=>.val (.bl (if jp then !b else b))
 | none=>.stuck
theorem Kc {P:Nat->Prop}{h:AH}{d1 d2:D}{v1 v2:Val}{b:Bool} (r1:ShR P h d1 v1) (r2:ShR P h d2 v2) (q:eQ v1 v2=some b):ve h d1 d2=some b:=by
 unfold eQ at q
 split at q
 ·rename_i a c e1 e2
  unfold ve
  rw[kB 64 _ _ _ r1 e1,kB 64 _ _ _ r2 e2]
  exact q
 ·cases q
theorem DN (jp:Bool):RO (gEq jp) (aEq jp):=λP h d1 d2 v1 v2 r1 r2=>by
 unfold aEq
 split
 ·rename_i b q
  exact⟨_,by unfold gEq;rw[Kc r1 r2 q],.bl _⟩
 ·trivial
def pW:Val->Bool
 | .non=>true
 | .bl _=>true
 | .int _=>true
 | .str _=>true
 | _=>false
def yO:Val->V
 | .bl b=>.bl b
 | .int i=>.int i
 | .str x=>.str x
 | _=>.non
def eq1 (x y:Val):Bool:=eqV (yO x) (yO y)
def aIn (jp:Bool):Val->Val->Bv:=λx y=>match y.items with
 | some xs=>if pW x=true/\xs.all pW=true then .val (.bl (if jp then !(xs.any λd=>eq1 d x) else xs.any λd=>eq1 d x)) else .stuck
 | none=>.stuck
theorem xu {P:Nat->Prop}{h:AH}{d:D}{v:Val} (r:ShR P h d v) (f:pW v=true):nD d=true/\toV d=yO v:=by
 cases v with
 | non=>obtain rfl:=r.non;exact⟨rfl,rfl⟩
 | bl b=>obtain rfl:=r.bl;exact⟨rfl,rfl⟩
 | int b=>obtain rfl:=r.int;exact⟨rfl,rfl⟩
 | str b=>obtain rfl:=r.str;exact⟨rfl,rfl⟩
 | _=>cases f
theorem CG {P:Nat->Prop}{h:AH} (x:D) (y:Val) (hx:toV x=yO y):∀ {ds:List D}{vs:List Val},Rds P h ds vs->vs.all pW=true->ds.all nD=true/\(ds.any λd=>eqF d x)=vs.any λd=>eq1 d y:=by
 intro ds
 induction ds with
 |
  nil=>
  intro vs r f
  cases r
  exact⟨rfl,rfl⟩
 |
  cons d0 ds ih=>
  intro vs r f
  cases r with
  |
   cons r rr=>
   rw[List.all_cons,Bool.and_eq_true] at f
   obtain⟨h1,h2⟩:=xu (.inl r) f.1
   obtain⟨h3,h4⟩:=ih rr f.2
   refine⟨by rw[List.all_cons,h1,h3];rfl,?_⟩
   rw[List.any_cons,List.any_cons,h4]
   unfold eqF eq1
   rw[h2,hx]
theorem DL (jp:Bool):RO (gIn jp) (aIn jp):=λP h d1 d2 v1 v2 r1 r2=>by
 unfold aIn
 split
 ·rename_i xs e
  obtain⟨ds,e2,q⟩:=r2.items e
  split
  ·rename_i hf
   obtain⟨f1,f2⟩:=xu r1 hf.1
   obtain⟨f3,f4⟩:=CG d1 v1 f2 q hf.2
   exact⟨_,by unfold gIn;rw[e2];dsimp only;rw[if_pos ⟨f1,f3⟩,f4],.bl _⟩
  ·trivial
 ·trivial
def yo (jp:Bool):Val->Val->Bv:=λx y=>match x,y with
 | .non,.non=>.val (.bl (!jp))
 | _,.non=>.val (.bl jp)
 | _,_=>.stuck
theorem Aw (jp:Bool):RO (nq jp) (yo jp):=λP h d1 d2 v1 v2 r1 r2=>by
 unfold yo
 split
 ·obtain rfl:=r1.non;obtain rfl:=r2.non;exact⟨_,rfl,.bl _⟩
 ·rename_i hn
  obtain rfl:=r2.non
  have:d1 ≠ .non:=by
   rintro rfl
   rcases r1 with r | ⟨n,o,z,_⟩
   ·cases r;exact hn rfl
   ·cases z
  refine⟨_,?_,.bl jp⟩
  unfold nq
  split
  ·exact absurd rfl this
  ·rfl
  ·rename_i h1 h2;exact (h1 rfl).elim
 ·trivial
def Bz:List Val->Bv:=λvs=>match vs with
 | [v]=>(match v.items with
  | some xs=>.val (.int xs.length)
  | none=>(match v with
   | .str z=>if z.length<=16777216 then .val (.int z.length) else .stuck
   | _=>.stuck))
 | _=>.stuck
def BR:List Val->Bv:=λvs=>match vs with
 | [.int i]=>.val (.int (if i < 0 then -i else i))
 | _=>.stuck
def iu:List Val->Option (List Bool)
 | []=>some []
 | .bl b :: r=>(iu r).map (b :: ·)
 | _=>none
def lW:List Val->Option (List Int)
 | []=>some []
 | .int b :: r=>(lW r).map (b :: ·)
 | _=>none
def CQ:List Val->Bv:=λvs=>match vs with
 | [.lst xs]=>(match iu xs with
  | some bs=>.val (.bl (bs.all id))
  | none=>.stuck)
 | _=>.stuck
def BV:List Val->Bv:=λvs=>match vs with
 | [.lst xs]=>(match lW xs with
  | some bs=>.val (.int bs.sum)
  | none=>.stuck)
 | _=>.stuck
def yi:List Val->Bv:=λvs=>match vs with
 | [v]=>(match v.items with
  | some xs=>.new (.lst xs)
  | none=>.stuck)
 | _=>.stuck
theorem Hk:RFn uw Bz:=λP h ds vs r=>by
 unfold Bz
 split
 ·obtain⟨d,hd,rr1⟩:=jR r;subst hd;clear r;have r:=rr1
  split
  ·rename_i xs e
   obtain⟨es,e2,q⟩:=r.items e
   exact⟨_,by unfold uw;dsimp only;rw[e2],by rw[<- q.len];exact .int _⟩
  ·split
   ·rename_i z _
    obtain rfl:=r.str
    split
    ·rename_i hl;exact⟨_,by show (if z.length<=16777216 then _ else _)=_;rw[if_pos hl],.int _⟩
    ·trivial
   ·trivial
 ·trivial
theorem GB:RFn ya BR:=λP h ds vs r=>by
 unfold BR
 split
 ·obtain⟨d,hd,rr1⟩:=jR r;subst hd;clear r;have r:=rr1;obtain rfl:=r.int;exact⟨_,rfl,.int _⟩
 ·trivial
theorem DV {P:Nat->Prop}{h:AH}:∀ {ds:List D}{vs:List Val}{bs:List Bool},Rds P h ds vs->iu vs=some bs->iG ds=some bs:=by
 intro ds
 induction ds with
 |
  nil=>
  intro vs bs r q
  cases r
  cases q
  rfl
 |
  cons d0 ds ih=>
  intro vs bs r q
  cases r with
  |
   cons r rr=>
   rename_i v vs
   cases v with
   |
    bl b=>
    obtain rfl:=ShR.bl (.inl r)
    obtain⟨b',q1,rfl⟩:=Option.map_eq_some_iff.mp (show (iu vs).map (b :: ·)=some bs from q)
    show (iG _).map (b :: ·)=_
    rw[ih rr q1];rfl
   | _=>cases q
theorem Jr {P:Nat->Prop}{h:AH}:∀ {ds:List D}{vs:List Val}{bs:List Int},Rds P h ds vs->lW vs=some bs->iM ds=some bs:=by
 intro ds
 induction ds with
 |
  nil=>
  intro vs bs r q
  cases r
  cases q
  rfl
 |
  cons d0 ds ih=>
  intro vs bs r q
  cases r with
  |
   cons r rr=>
   rename_i v vs
   cases v with
   |
    int b=>
    obtain rfl:=ShR.int (.inl r)
    obtain⟨b',q1,rfl⟩:=Option.map_eq_some_iff.mp (show (lW vs).map (b :: ·)=some bs from q)
    show (iM _).map (b :: ·)=_
    rw[ih rr q1];rfl
   | _=>cases q
theorem Ia:RFn ue CQ:=λP h ds vs r=>by
 unfold CQ
 split
 ·obtain⟨d,hd,rr1⟩:=jR r;subst hd;clear r;have r:=rr1
  obtain⟨n,es,rfl,_,e1,q⟩:=r.lst
  split
  ·rename_i bs e2
   exact⟨_,by unfold ue;dsimp only;rw[e1];show (match iG es with | some bs=>_ | none=>_)=_;rw[DV q e2],.bl _⟩
  ·trivial
 ·trivial
theorem ID:RFn vV BV:=λP h ds vs r=>by
 unfold BV
 split
 ·obtain⟨d,hd,rr1⟩:=jR r;subst hd;clear r;have r:=rr1
  obtain⟨n,es,rfl,_,e1,q⟩:=r.lst
  split
  ·rename_i bs e2
   exact⟨_,by unfold vV;dsimp only;rw[e1];show (match iM es with | some bs=>_ | none=>_)=_;rw[Jr q e2],.int _⟩
  ·trivial
 ·trivial
theorem EW:RFn p7 yi:=λP h ds vs r=>by
 unfold yi
 split
 ·obtain⟨d,hd,rr1⟩:=jR r;subst hd;clear r;have r:=rr1
  split
  ·rename_i xs e
   obtain⟨es,e2,q⟩:=r.items e
   exact⟨.lst es,by unfold p7;dsimp only;rw[e2],trivial,.lst q⟩
  ·trivial
 ·trivial
def tyC:Val->Option Cl
 | .non=>some (.b "NoneType")
 | .bl _=>some (.b "bool")
 | .int _=>some (.b "int")
 | .str _=>some (.b "str")
 | .tup _=>some (.b "tuple")
 | .exc x=>some (.o x)
 | .lst _=>some (.b "list")
 | .dct _=>some (.b "dict")
 | _=>none
def clV:Val->Option Cl
 | .ty n=>some (.b n)
 | .glb x=>some (.o x)
 | _=>none
def yE:List Val->Option (List Cl)
 | []=>some []
 | v :: vs=>match clV v,yE vs with
  | some c,some cs=>some (c :: cs)
  | _,_=>none
def Kt:Val->Option (List Cl)
 | .tup cs=>yE cs
 | v=>(clV v).map ([·])
def Dg (kt:gx):List Val->Bv:=λvs=>match vs with
 | [v,c]=>(match tyC v,Kt c with
  | some t,some (c0 :: cr)=>(match ip kt t (c0 :: cr),kit kt t c0 with
   | some b,some _=>.val (.bl b)
   | _,_=>.stuck)
  | _,_=>.stuck)
 | _=>.stuck
theorem ML {P:Nat->Prop}{h:AH}{d:D}{v:Val}{t:Cl} (r:ShR P h d v) (q:tyC v=some t):tyD h d=some t:=by
 cases v with
 | non=>obtain rfl:=r.non;exact q
 | bl b=>obtain rfl:=r.bl;exact q
 | int b=>obtain rfl:=r.int;exact q
 | str b=>obtain rfl:=r.str;exact q
 | exc b=>obtain rfl:=r.exc;exact q
 | tup b=>obtain⟨ds,rfl,_⟩:=r.tup;exact q
 | lst b=>obtain⟨n,ds,rfl,e,_⟩:=r.lst;unfold tyD;dsimp only;rw[e];exact q
 | dct b=>obtain⟨n,ds,rfl,e,_⟩:=r.dct;unfold tyD;dsimp only;rw[e];exact q
 | _=>cases q
theorem D3 {P:Nat->Prop}{h:AH}{d:D}{v:Val}{c:Cl} (r:ShR P h d v) (q:clV v=some c):clD d=some c:=by
 cases v with
 | ty b=>obtain rfl:=r.ty;exact q
 | glb b=>obtain rfl:=r.glb;exact q
 | _=>cases q
theorem Hv {P:Nat->Prop}{h:AH}:∀ {ds:List D}{vs:List Val}{cs:List Cl},Rds P h ds vs->yE vs=some cs->ds.mapM clD=some cs:=by
 intro ds
 induction ds with
 |
  nil=>
  intro vs cs r q
  cases r
  cases q
  rfl
 |
  cons d0 ds ih=>
  intro vs cs r q
  cases r with
  |
   cons r rr=>
   unfold yE at q
   split at q
   ·rename_i c cs' e1 e2
    cases q
    rw[List.mapM_cons,D3 (.inl r) e1,ih rr e2];rfl
   ·cases q
theorem Jf (kt:gx):RFn (vY kt) (Dg kt):=λP h ds vs r=>by
 unfold Dg
 split
 ·rename_i v c
  obtain⟨d,d',rfl,r1,r2⟩:=D2 r
  split
  ·rename_i t c0 cr e1 e2
   have e3:=ML r1 e1
   split
   ·rename_i b b' e4 e5
    refine⟨.bl b,?_,.bl b⟩
    unfold vY
    dsimp only
    rw[e3]
    dsimp only
    by_cases ht:∃ cs,c=.tup cs
    ·obtain⟨cs,rfl⟩:=ht
     obtain⟨es,rfl,q⟩:=r2.tup
     dsimp only
     rw[Hv q e2]
     dsimp only
     rw[e4,e5]
    ·have e2':(clV c).map ([·])=some (c0 :: cr):=by
      cases c with
      | tup cs=>exact absurd ⟨cs,rfl⟩ ht
      | _=>exact e2
     obtain⟨cl,y1,y2⟩:=Option.map_eq_some_iff.mp e2'
     cases y2
     have y3:=D3 r2 y1
     have hd:∀ cs,d' ≠ .tup cs:=λcs z=>by subst z;cases y3
     split
     ·rename_i cs;exact absurd rfl (hd cs)
     ·rw[y3]
      dsimp only
      have:kit kt t c0=some b:=by
       unfold ip at e4
       rw[e5] at e4 ⊢
       cases b' with
       | true=>exact e4
       | false=>unfold ip at e4;exact e4
      rw[this]
   ·trivial
  ·trivial
 ·trivial
def gA (xs:List Val) (lo hi:Option Int):List Val:=(xs.drop (HT.sIx xs.length 0 lo)).take (HT.sIx xs.length xs.length hi - HT.sIx xs.length 0 lo)
abbrev MO3:=E3->R3 (Option Int)
def Cp (_:Ns) (_:E3) (_:AH) (b c:Option Int):Prop:=b=c
def ROp (F:MO) (G:MO3):Prop:=∀ X h0 ns e ae h,Sat X h0 ns e ae h->Po X h0 ns e ae h Cp (F ae h) (G e)
def Au:MO3:=λe=>.ok none e
def Am (F:ME3):MO3:=λe=>(F e).bind λt e1=>match rs e1 t with
 | some (.int i)=>.ok (some i) e1
 | _=>.stuck
def aSl (x:Val) (lo hi:Option Int):Bv:=match x with
 | .tup xs=>if HT.sIx xs.length 0 lo=0/\HT.sIx xs.length xs.length hi=xs.length then .stuck else .val (.tup (gA xs lo hi))
 | .lst xs=>.new (.lst (gA xs lo hi))
 | .kl xs=>.new (.lst (gA xs lo hi))
 | _=>.stuck
def vSl (F:ME3) (L U:MO3):ME3:=λe=>(F e).bind λt e1=>(L e1).bind λlo e2=>(U e2).bind λhi e3=>match rs e3 t.drop with
 | some v=>(aSl v lo hi).at e3
 | none=>.stuck
theorem Fh:ROp yP Au:=λX h0 ns e ae h S=>Po.ret S rfl
theorem Gd {F:ME}{F3:ME3} (hF:RE F F3):ROp (yr F) (Am F3):=λX h0 ns e ae h S=>
 Po.bind S (hF X h0 0 ns e ae h S (Nat.zero_le _)) λd t h1 ns1 e1 a1 S1 r1=>by
  by_cases hq:∃ i,rs e1 t=some (.int i)
  ·obtain⟨i,hq⟩:=hq
   have hd:=(r1.sh S1 hq).int
   subst hd
   show Po X h0 ns1 e1 ae h1 Cp (R.ok (some i) h1) (match rs e1 t with | some (.int i)=>R3.ok (some i) e1 | _=>.stuck)
   rw[hq]
   exact Po.ret S1 rfl
  ·have:(match rs e1 t with | some (.int i)=>R3.ok (some i) e1 | _=>.stuck)=(.stuck:R3 (Option Int)):=by
    split
    ·rename_i i q;exact absurd ⟨i,q⟩ hq
    ·rfl
   show Po X h0 ns1 e1 ae h1 Cp _ (match rs e1 t with | some (.int i)=>R3.ok (some i) e1 | _=>.stuck)
   rw[this];trivial
theorem Kn {F:ME}{F3:ME3}{L U:MO}{L3' U3:MO3} (hF:RE F F3) (hL:ROp L L3') (hU:ROp U U3):RE (eSl F L U) (vSl F3 L3' U3):=λX h0 LL ns e ae h S hl=>
 Po.bind
  S (hF X h0 LL ns e ae h S hl) λd t h1 ns1 e1 a1 S1 r1=>Po.bind S1 (hL X h0 ns1 e1 ae h1 S1) λlo lo' h2 j_ e2 a2 S2 r2=>Po.bind S2 (hU X h0 j_ e2 ae h2 S2) λhi hi' h3 ns3 e3 a3 S3 r3=>by
  cases r2;cases r3
  obtain⟨r1',hn⟩:=r1.drop
  have r4:=(r1'.stp S1 a2 hn).stp S2 a3 hn
  try dsimp only
  split
  ·rename_i v q
   have rr:=r4.sh S3 q
   refine BvR.po S3 (Nat.le_trans hl (Nat.le_trans a1.len (Nat.le_trans a2.len a3.len))) ?_
   unfold aSl
   split
   ·rename_i xs
    obtain⟨ds,rfl,q1⟩:=rr.tup
    split
    ·trivial
    ·rename_i hne
     refine⟨_,by unfold gSl;dsimp only;rw[if_neg (by rw[q1.len];exact hne)],.tup ?_⟩
     unfold L2.cutD gA
     rw[q1.len]
     exact (q1.drop _).take _
   ·rename_i xs
    obtain⟨n,ds,rfl,_,e1,q1⟩:=rr.lst
    refine⟨.lst (L2.cutD ds lo hi),by unfold gSl;dsimp only;rw[e1],trivial,.lst ?_⟩
    unfold L2.cutD gA
    rw[q1.len]
    exact (q1.drop _).take _
   ·rename_i xs
    have key:∃ ds,gSl d lo hi h3=.ok (.ref h3.length) (h3++[.lst (L2.cutD ds lo hi)])/\Rds (Oc X ns3) h3 ds xs:=by
     rcases rr with rr | ⟨n,o,rfl,e,rr⟩
     ·cases rr with
      | kl q1=>exact⟨_,rfl,q1⟩
      | cell p e rc=>cases rc with | fz q1=>exact⟨_,by unfold gSl bC;dsimp only;rw[e],q1⟩
     ·cases rr with | fz q1=>exact⟨_,by unfold gSl bC;dsimp only;rw[e],q1⟩
    obtain⟨ds,e1,q1⟩:=key
    refine⟨.lst (L2.cutD ds lo hi),e1,trivial,.lst ?_⟩
    unfold L2.cutD gA
    rw[q1.len]
    exact (q1.drop _).take _
   ·trivial
  ·trivial
def qF:Val->List Val->Option (Val×Val):=λu vs=>match u,vs with
 | .lst xs,[v]=>if xs.length < 16777216 then some (.lst (xs++[v]),.non) else none
 | _,_=>none
def oP:Val->List Val->Option (Val×Val):=λu vs=>match u,vs with
 | .lst xs,[]=>some (.lst xs.reverse,.non)
 | _,_=>none
section
variable {P:Nat->Prop}{h:AH}
theorem D8 {n:Nat}{o:Ob}{xs:List Val} (e:h[n]?=some o) (r:Rc P h o (.lst xs)):ny h (.ref n)=true/\∃ ds,h[n]?=some (.lst ds)/\Rds P h ds xs/\∀ f,nu h (.ref n) f=f n ds:=by
 obtain⟨ds,e1,e2,q⟩:=Rc.seq e r
 refine⟨by show (bC h n).isSome=true;rw[e2];rfl,ds,e1,q,λf=>?_⟩
 unfold nu;dsimp only;rw[e1]
theorem rds1 {ds:List D}{v:Val} (r:Rds P h ds [v]):∃ d,ds=[d]/\Rd P h d v:=by
 cases r with | cons r rr=>cases rr;exact⟨_,rfl,r⟩
end
theorem AF:RM nt qF:=λP h n o u ds vs u' v e hf r rs q=>by
 unfold qF at q
 split at q
 ·split at q
  ·rename_i hl
   cases q
   obtain⟨q1,es,q2,q3,q4⟩:=D8 e r
   obtain⟨d,rfl,rd⟩:=rds1 rs
   refine⟨q1,.lst (es++[d]),.non,?_,trivial,.lst (q3.append (.cons rd .nil)),.non⟩
   unfold nt;rw[q4];dsimp only;rw[if_pos (by rw[q3.len];exact hl)]
  ·cases q
 ·cases q
theorem yU:RM lQ oP:=λP h n o u ds vs u' v e hf r rs q=>by
 unfold oP at q
 split at q
 ·cases q
  obtain⟨q1,es,q2,q3,q4⟩:=D8 e r
  cases rs
  exact⟨q1,.lst es.reverse,.non,by unfold lQ;rw[q4],trivial,.lst q3.reverse,.non⟩
 ·cases q
end L3
namespace L3
open PySem PySem.Spec PyProof.Rows L2
structure PEx where
 F:ME
 G:ME3
 ok:RE F G
structure PTs where
 F:MT
 G:MT3
 ok:RT F G
structure PAs where
 F:MA
 G:MA3
 ok:RA F G
structure PSt where
 F:MS
 G:MS3
 ok:RS F G
structure PGt where
 F:MG
 G:MG3
 ok:RG F G
structure PGs where
 F:MGs
 G:kX
 ok:RGs F G
structure PIt where
 F:MI
 G:MI3
 ok:RI F G
structure POp where
 F:MO
 G:MO3
 ok:ROp F G
structure PO2 where
 F:D->D->AH->R D
 G:Val->Val->Bv
 ok:RO F G
structure PU1 where
 F:D->AH->R D
 G:Val->Bv
 ok:RU F G
structure PBf where
 F:Fn
 G:List Val->Bv
 ok:RFn F G
structure PMm where
 F:D->List D->AH->R D
 G:Val->List Val->Option (Val×Val)
 ok:RM F G
structure PMv where
 F:D->List D->AH->R D
 G:Val->List Val->Bv
 ok:RMv F G
structure PSe where
 F:D->D->D->AH->R Unit
 G:Val->Val->Val->Option Val
 ok:BC F G
structure PFn where
 ms:List Bool
 F:Fn
 G:Fn3
 ok:RF ms F G
structure PFx (ms:List Bool) where
 F:Fn
 G:Fn3
 ok:RF ms F G
noncomputable section
def PFx.fn {ms:List Bool} (p:PFx ms):PFn:=⟨ms,p.F,p.G,p.ok⟩
def ah (i:Nat):PEx:=⟨dR i,BB i,HY i⟩
def av (i:Int):PEx:=⟨eC (.int i),vC (.int i),oE λ_ _=>.int i⟩
def pBl (i:Bool):PEx:=⟨eC (.bl i),vC (.bl i),oE λ_ _=>.bl i⟩
def bI (i:Str):PEx:=⟨eC (.str i),vC (.str i),oE λ_ _=>.str i⟩
def iw:PEx:=⟨eC .non,vC .non,oE λ_ _=>.non⟩
def pTy (i:String):PEx:=⟨eC (.ty i),vC (.ty i),oE λ_ _=>.ty i⟩
def yZ (i:Str):PEx:=⟨eC (.glb i),vC (.glb i),oE λ_ _=>.glb i⟩
def tT (d:D) (v:Val) (r:∀ P h,Rd P h d v):PEx:=⟨eC d,vC v,oE r⟩
def pUn (o:PU1) (a:PEx):PEx:=⟨eUn o.F a.F,vUn o.G a.G,Mw o.ok a.ok⟩
def pOp (o:PO2) (a b:PEx):PEx:=⟨eOp o.F a.F b.F,vOp o.G a.G b.G,MH o.ok a.ok b.ok⟩
def ao:PAs:=⟨qE,rf,Ab⟩
def ag (a:PEx) (r:PAs):PAs:=⟨tw a.F r.F,DZ a.G r.G,Fp a.ok r.ok⟩
def pFn (o:PBf) (a:PAs):PEx:=⟨eFn o.F a.F,vFn o.G a.G,Ku o.ok a.ok⟩
def d7 (a:PAs):PEx:=⟨eFn pE a.F,vTup a.G,Ju a.ok⟩
def dH (a:PAs):PEx:=⟨eFn eV a.F,vLst a.G,Jb a.ok⟩
def oA (a b:PEx):PEx:=⟨C8 a.F b.F,vAnd a.G b.G,Gy a.ok b.ok⟩
def pOr (a b:PEx):PEx:=⟨eOr a.F b.F,vOr a.G b.G,KH a.ok b.ok⟩
def uX (a:PEx):PEx:=⟨CT a.F,vNot a.G,HI a.ok⟩
def qOf (a:PEx):PTs:=⟨tOf a.F,cOf a.G,Lv a.ok⟩
def qAn (a b:PTs):PTs:=⟨tAn a.F b.F,cAn a.G b.G,Lz a.ok b.ok⟩
def qO (a b:PTs):PTs:=⟨tO a.F b.F,cO a.G b.G,rt_o a.ok b.ok⟩
def qNo (a:PTs):PTs:=⟨tNo a.F,cNo a.G,KQ a.ok⟩
def qY:PTs:=⟨tY,cY,rt_y⟩
def xNx:PSt:=⟨sNx,wNx,KJ⟩
def xCt:PSt:=⟨sCt,wCt,LQ⟩
def aK (a:PEx):PSt:=⟨Df a.F,wRet a.G,Jc a.ok⟩
def dX (a:PEx):PSt:=⟨zw a.F,Ef a.G,Gf a.ok⟩
def aB (a b:PSt):PSt:=⟨Ca a.F b.F,wSeq a.G b.G,IJ a.ok b.ok⟩
def xIf (c:PTs) (a b:PSt):PSt:=⟨sIf c.F a.F b.F,wIf c.G a.G b.G,Lp c.ok a.ok b.ok⟩
def aW (o:Bool) (i:Nat) (a:PEx):PSt:=⟨jH a.F (gN i),wAsg o i a.G,Ip o i a.ok⟩
def gtN (i:Nat):PGt:=⟨gN i,pN i,yD i⟩
def fS:PGs:=⟨gsN,psN,Ll⟩
def bL (a:PGt) (b:PGs):PGs:=⟨gsC a.F b.F,psC a.G b.G,LD a.ok b.ok⟩
def gtT (n:Nat) (a:PGs):PGt:=⟨gT λds ae h=>if ds.length=n then a.F ds ae h else .stuck,pT n a.G,rg_t n a.ok⟩
def gtX (a:PGt):PGt:=⟨λd ae h=>noX (a.F d ae h),a.G,He a.ok⟩
def iI (a:PEx) (g:PGt):PSt:=⟨jH a.F g.F,DK a.G g.G,E5 a.ok g.ok⟩
def jz (i j:Nat) (a:PAs):PSt:=⟨B5 i j a.F,wPar i j a.G,Ke i j a.ok⟩
def CU (i:Nat) (o:PO2) (a:PEx):PSt:=⟨tP i o.F a.F,C3 i o.G a.G,GU i o.ok a.ok⟩
def fI (c:Str) (a:PAs):PSt:=⟨ur c a.F,zO c a.G,CZ c a.ok⟩
def tZ (i:Nat) (w:PSe) (k a:PEx):PSt:=⟨jH a.F (gS (dR i) k.F w.F),wSet i k.G a.G w.G,HR i w.ok k.ok a.ok⟩
def oz (i:Nat) (m:PMm) (a:PAs):PEx:=⟨eM m.F (dR i) a.F,nX i m.G a.G,Ba i m.ok a.ok⟩
def yR (i:Nat) (m:PMm):PEx:=⟨eM0 m.F (dR i),nX i m.G rf,Fi i m.ok⟩
def bt (a:PEx):PIt:=⟨Dn a.F,D1 a.G,JR a.ok⟩
def qa (a:PAs):PIt:=⟨B7 a.F,tX kr a.G,JW a.ok⟩
def tG (a:PAs):PIt:=⟨Bs a.F,tX qT a.G,Hn a.ok⟩
def zt (a:PAs):PIt:=⟨BD a.F,DY a.G,HB a.ok⟩
def fY (i:PIt) (g:PGt) (b:PSt):PSt:=⟨Cg i.F g.F b.F,wFor i.G g.G b.G,Ha i.ok g.ok b.ok⟩
def xWh (c:PTs) (b:PSt):PSt:=⟨sWh c.F b.F,wWh c.G b.G,KD c.ok b.ok⟩
def pLC (i:PIt) (sub:List (Option Nat)) (hs:(sub.filterMap id).Nodup) (g:PGt) (c:PTs) (a:PEx):PEx:=⟨eLC i.F sub g.F c.F a.F,vLC i.G sub g.G c.G a.G,LV hs i.ok g.ok c.ok a.ok⟩
def ax (f:PFn) (a:PAs):PEx:=⟨xY f.ms.length f.F a.F,DX f.ms f.G a.G,EO rfl f.ok a.ok⟩
def oN:POp:=⟨yP,Au,Fh⟩
def oS (a:PEx):POp:=⟨yr a.F,Am a.G,Gd a.ok⟩
def pSl (a:PEx) (l u:POp):PEx:=⟨eSl a.F l.F u.F,vSl a.G l.G u.G,Kn a.ok l.ok u.ok⟩
def PFx.none (ms:List Bool) (N:Nat:=0):PFx ms:=⟨λ_ _=>.stuck,λ_=>.stuck,λ_ _ _ _ _ _ _=>trivial⟩
def PFx.of (ms:List Bool) (N:Nat) (c:PSt):PFx ms:=⟨fnD N c.F,fnV ms N c.G,DU c.ok⟩
def fnP (ms:List Bool) (N:Nat) (c:PSt):PFn:=⟨ms,fnD N c.F,fnV ms N c.G,DU c.ok⟩
def bQ:PO2:=⟨yI,Ct,H9⟩
def zB:PO2:=⟨C9,aMin,JS⟩
def bD:PO2:=⟨Dr,yu,Io⟩
def ku:PO2:=⟨Dq,yA,HD⟩
def dh:PO2:=⟨Cr,yx,IL⟩
def rQ:PO2:=⟨B1,zp,GI⟩
def BU:PO2:=⟨B4,yG,IZ⟩
def bLt:PO2:=⟨gLt,aLt,Li⟩
def bGt:PO2:=⟨gGt,aGt,Mb⟩
def bGe:PO2:=⟨gGe,aGe,Ly⟩
def bIx:PO2:=⟨gIx,aIx,L8⟩
def bEq:PO2:=⟨gEq false,aEq false,DN false⟩
def bNe:PO2:=⟨gEq true,aEq true,DN true⟩
def bIn:PO2:=⟨gIn false,aIn false,DL false⟩
def lF:PO2:=⟨gIn true,aIn true,DL true⟩
def bIs:PO2:=⟨nq false,yo false,Aw false⟩
def Cn:PO2:=⟨nq true,yo true,Aw true⟩
def Cy:PO2:=⟨gI λi j=>.int (i + j),aI λi j=>.int (i + j),uH λ_ _ _ _=>.int _⟩
def uD:PU1:=⟨yY,CP,GY⟩
def cP:PBf:=⟨uw,Bz,Hk⟩
def pK:PBf:=⟨ya,BR,GB⟩
def tj:PBf:=⟨ue,CQ,Ia⟩
def gw:PBf:=⟨vV,BV,ID⟩
def mQ:PBf:=⟨p7,yi,EW⟩
def bM (kt:gx):PBf:=⟨vY kt,Dg kt,Jf kt⟩
def fR:PMm:=⟨nt,qF,AF⟩
def mX:PMm:=⟨lQ,oP,yU⟩
end
theorem rN {P:Nat->Prop}{h:AH}:∀ (ns:List Int),Rds P h (ns.map D.int) (ns.map Val.int)
 | []=>.nil
 | _ :: r=>.cons (.int _) (rN r)
theorem law3 (p:PFn) (hm:p.ms=[false]) (hG:∀ ns:List Int,ns.length<=63->p.G [.kl (ns.map .int)]=.ok (.val (.bl true)) []) (d:D) (h:AH) (ns:List Int) (hl:ns.length<=63) (sc:Script h d ns):∃ h',p.F [d] h=.ok (.bl true) h':=by
 have hp:=p.ok
 rw[hm] at hp
 have rd:Rd (Oc (λ_=>False) [none]) h d (.kl (ns.map .int)):=by
  rcases sc.form with ⟨n,rfl,e⟩ | rfl
  ·exact .cell ⟨λz=>z,by simp⟩ e (.fz (rN ns))
  ·exact .kl (rN ns)
 have S:Sat (λ_=>False) h.length [none] (sls [false] [.kl (ns.map .int)]) ([d].map some) h:=by
  refine⟨rfl,rfl,Nat.le_refl _,λ_ z=>z.elim,λi j n q=>?_,λi n q z=>z,λi s q=>?_⟩
  ·cases i with
   | zero=>simp at q
   | succ i=>simp at q
  ·cases i with
   |
    zero=>
    have:sl1 false (.kl (ns.map .int))=s:=by simpa [sls] using q
    subst this
    exact⟨rfl,d,rfl,rd⟩
   | succ i=>simp [sls] at q
 have:=hp _ _ [d] [.kl (ns.map .int)] h rfl S
 rw[hG ns hl] at this
 obtain⟨d',h',e,_,_,r⟩:=this
 cases r with
 | bl=>exact⟨h',e⟩
 | cell p e r=>cases r
section
variable (e:E3)
@[simp] theorem jg {α β:Type} (a:α) (f:α->E3->R3 β):(R3.ok a e).bind f=f a e:=rfl
@[simp] theorem Lq {α:Type} (a:α) (f:α->E3->SR3):(R3.ok a e).toS f=f a e:=rfl
@[simp] theorem Kz (f:E3->SR3):(SR3.nx e).then f=f e:=rfl
@[simp] theorem K3 (r:Rt) (f:E3->SR3):(SR3.rt r e).then f=.rt r e:=rfl
@[simp] theorem Ls (f:E3->SR3):(SR3.ct e).then f=.ct e:=rfl
@[simp] theorem Gr (c:Str) (f:E3->SR3):(SR3.exc c e).then f=.exc c e:=rfl
@[simp] theorem jO (f:E3->SR3):(SR3.nx e).loop f=f e:=rfl
@[simp] theorem DB (f:E3->SR3):(SR3.ct e).loop f=f e:=rfl
@[simp] theorem LA (r:SR3):r.unl none=r:=by cases r <;> rfl
@[simp] theorem B6:lockO e none=e:=rfl
@[simp] theorem yH:gn e none=e:=rfl
@[simp] theorem Iy (v:Val):(Bv.val v).at e=.ok (.val v) e:=rfl
@[simp] theorem JA (v:Val):(Bv.new v).at e=.ok (.new v) e:=rfl
@[simp] theorem HQ (v:Val):rs e (.val v)=some v:=rfl
@[simp] theorem GJ (v:Val):rs e (.new v)=some v:=rfl
@[simp] theorem Ji (i:Nat):rs e (.bor i)=(e[i]?).bind Sl.val:=rfl
@[simp] theorem JJ (v:Val):(Tm.val v).drop=.val v:=rfl
@[simp] theorem I0 (v:Val):(Tm.new v).drop=.val v:=rfl
@[simp] theorem HW (i:Nat):(Tm.bor i).drop=.bor i:=rfl
@[simp] theorem ER:rss e []=some []:=rfl
@[simp] theorem BF (t:Tm) (ts:List Tm):rss e (t :: ts)=match rs e t,rss e ts with
 | some v,some vs=>some (v :: vs)
 | _,_=>none:=rfl
@[simp] theorem Jq (v:Val):df e (.val v)=some (e,v):=rfl
@[simp] theorem IQ (v:Val):df e (.new v)=some (e,v):=rfl
@[simp] theorem IH (i:Nat):df e (.bor i)=match e[i]? with
 | some (.sh v)=>some (e,v)
 | some (.ow v)=>some (e.set i (.sh v),v)
 | _=>none:=rfl
@[simp] theorem A9:dem e []=some (e,[]):=rfl
@[simp] theorem FW (t:Tm) (ts:List Tm):dem e (t :: ts)=match df e t with
 | some (e1,v)=>match dem e1 ts with
  | some (e2,vs)=>some (e2,v :: vs)
  | none=>none
 | none=>none:=rfl
@[simp] theorem G1 (b:Bool):bOf (some (.bl b))=some b:=rfl
@[simp] theorem Ml (i:Nat):(ah i).G e=match e[i]? with
 | some (.sh v)=>.ok (.val v) e
 | some .no=>.stuck
 | some _=>.ok (.bor i) e
 | none=>.stuck:=rfl
@[simp] theorem MC (i:Int):(av i).G e=.ok (.val (.int i)) e:=rfl
@[simp] theorem v_bl (i:Bool):(pBl i).G e=.ok (.val (.bl i)) e:=rfl
@[simp] theorem KU (i:Str):(bI i).G e=.ok (.val (.str i)) e:=rfl
@[simp] theorem Mu:iw.G e=.ok (.val .non) e:=rfl
@[simp] theorem v_ty (i:String):(pTy i).G e=.ok (.val (.ty i)) e:=rfl
@[simp] theorem MK (i:Str):(yZ i).G e=.ok (.val (.glb i)) e:=rfl
@[simp] theorem v_un (o:PU1) (a:PEx):(pUn o a).G e=(a.G e).bind λt e1=>match rs e1 t with
 | some v=>(o.G v).at e1
 | none=>.stuck:=rfl
@[simp] theorem v_op (o:PO2) (a b:PEx):(pOp o a b).G e=(a.G e).bind λt1 e1=>(b.G e1).bind λt2 e2=>match rs e2 t1.drop,rs e2 t2 with
 | some v1,some v2=>(o.G v1 v2).at e2
 | _,_=>.stuck:=rfl
@[simp] theorem Lr:ao.G e=.ok [] e:=rfl
@[simp] theorem GS (a:PEx) (r:PAs):(ag a r).G e=(a.G e).bind λt e1=>(r.G e1).bind λts e2=>.ok (t.drop :: ts) e2:=rfl
@[simp] theorem v_fn (o:PBf) (a:PAs):(pFn o a).G e=(a.G e).bind λts e1=>match rss e1 ts with
 | some vs=>(o.G vs).at e1
 | none=>.stuck:=rfl
@[simp] theorem Lu (a:PAs):(d7 a).G e=(a.G e).bind λts e1=>match dem e1 ts with
 | some (e2,vs)=>if vs.length<=16777216 then .ok (.val (.tup vs)) e2 else .stuck
 | none=>.stuck:=rfl
@[simp] theorem Lf (a:PAs):(dH a).G e=(a.G e).bind λts e1=>match dem e1 ts with
 | some (e2,vs)=>if vs.length<=16777216 then .ok (.new (.lst vs)) e2 else .stuck
 | none=>.stuck:=rfl
@[simp] theorem Lx (a b:PEx):(oA a b).G e=(a.G e).bind λt e1=>match bOf (rs e1 t) with
 | some true=>b.G e1
 | some false=>.ok (.val (.bl false)) e1
 | none=>.stuck:=rfl
@[simp] theorem y_or (a b:PEx):(pOr a b).G e=(a.G e).bind λt e1=>match bOf (rs e1 t) with
 | some true=>.ok (.val (.bl true)) e1
 | some false=>b.G e1
 | none=>.stuck:=rfl
@[simp] theorem Mo (a:PEx):(uX a).G e=(a.G e).bind λt e1=>match bOf (rs e1 t) with
 | some b=>.ok (.val (.bl (!b))) e1
 | none=>.stuck:=rfl
@[simp] theorem c_of (a:PEx):(qOf a).G e=(a.G e).bind λt e1=>match bOf (rs e1 t) with
 | some b=>.ok b e1
 | none=>.stuck:=rfl
@[simp] theorem c_an (a b:PTs):(qAn a b).G e=(a.G e).bind λk e1=>if k=true then b.G e1 else .ok false e1:=rfl
@[simp] theorem c_o (a b:PTs):(qO a b).G e=(a.G e).bind λk e1=>if k=true then .ok true e1 else b.G e1:=rfl
@[simp] theorem c_no (a:PTs):(qNo a).G e=(a.G e).bind λk e1=>.ok (!k) e1:=rfl
@[simp] theorem c_y:qY.G e=.ok true e:=rfl
@[simp] theorem x_nx:xNx.G e=.nx e:=rfl
@[simp] theorem x_ct:xCt.G e=.ct e:=rfl
@[simp] theorem Lj (a:PEx):(aK a).G e=(a.G e).toS rK:=rfl
@[simp] theorem FN (v:Val):rK (.val v) e=.rt (.val v) e:=rfl
@[simp] theorem FG (v:Val):rK (.new v) e=.rt (.new v) e:=rfl
@[simp] theorem Et (i:Nat):rK (.bor i) e=match e[i]? with
 | some (.sh v)=>.rt (.val v) e
 | some (.ow v)=>.rt (.new v) (e.set i .no)
 | _=>.stuck:=rfl
@[simp] theorem G9 (a:PEx):(dX a).G e=(a.G e).toS λ_ e1=>.nx e1:=rfl
@[simp] theorem Ee (a b:PSt):(aB a b).G e=(a.G e).then b.G:=rfl
@[simp] theorem x_if (c:PTs) (a b:PSt):(xIf c a b).G e=(c.G e).toS λk e1=>if k=true then a.G e1 else b.G e1:=rfl
@[simp] theorem LR (o:Bool) (i:Nat) (a:PEx):(aW o i a).G e=(a.G e).toS (j6 o i):=rfl
@[simp] theorem Mc:Sl.no.pl=true:=rfl
@[simp] theorem Lg (v:Val):(Sl.sh v).pl=true:=rfl
@[simp] theorem Ew (o:Bool) (i:Nat) (v:Val):j6 o i (.val v) e=match e[i]? with
 | some s0=>if s0.pl=true then .nx (e.set i (.sh v)) else .stuck
 | none=>.stuck:=by unfold j6;rfl
@[simp] theorem C2 (i:Nat) (v:Val):j6 true i (.new v) e=match e[i]? with
 | some s0=>if s0.pl=true then .nx (e.set i (.ow v)) else .stuck
 | none=>.stuck:=by unfold j6;rfl
@[simp] theorem CW (i:Nat) (v:Val):j6 false i (.new v) e=match e[i]? with
 | some s0=>if s0.pl=true then .nx (e.set i (.sh v)) else .stuck
 | none=>.stuck:=by unfold j6;rfl
@[simp] theorem g_n (i:Nat) (v:Val):(gtN i).G v e=match e[i]? with
 | some s=>if s.pl=true then some (e.set i (.sh v)) else none
 | none=>none:=rfl
@[simp] theorem g_sn:fS.G [] e=some e:=rfl
@[simp] theorem g_sc (a:PGt) (b:PGs) (v:Val) (vs:List Val):(bL a b).G (v :: vs) e=(a.G v e).bind λe1=>b.G vs e1:=rfl
@[simp] theorem g_t (n:Nat) (a:PGs) (vs:List Val):(gtT n a).G (.tup vs) e=if vs.length=n then a.G vs e else none:=rfl
@[simp] theorem g_x (a:PGt) (v:Val):(gtX a).G v e=a.G v e:=rfl
@[simp] theorem Kb (a:PEx) (g:PGt):(iI a g).G e=(a.G e).toS λt e1=>match df e1 t with
 | some (e2,v)=>match g.G v e2 with
  | some e3=>.nx e3
  | none=>.stuck
 | none=>.stuck:=rfl
@[simp] theorem Ky (i j:Nat) (a:PAs):(jz i j a).G e=(a.G e).toS λts e1=>match dem e1 ts with
 | some (e2,[v,u])=>match (pN i v e2).bind (pN j u) with
  | some e3=>.nx e3
  | none=>.stuck
 | _=>.stuck:=rfl
@[simp] theorem L6 (i:Nat) (v:Val):pN i v e=match e[i]? with
 | some s=>if s.pl=true then some (e.set i (.sh v)) else none
 | none=>none:=rfl
@[simp] theorem LN (i:Nat) (o:PO2) (a:PEx):(CU i o a).G e=match e[i]? with
 | some (.sh x)=>(a.G e).toS λt e1=>match rs e1 t with
  | some y=>match o.G x y with
   | .val z=>match pN i z e1 with
    | some e2=>.nx e2
    | none=>.stuck
   | _=>.stuck
  | none=>.stuck
 | _=>.stuck:=rfl
@[simp] theorem En (c:Str) (a:PAs):(fI c a).G e=(a.G e).toS λts e1=>if ts.length<=16777216 then .exc c e1 else .stuck:=rfl
@[simp] theorem Kv (i:Nat) (w:PSe) (k a:PEx):(tZ i w k a).G e=(a.G e).toS λt e1=>match (e1[i]?).bind Sl.mv with
 | none=>.stuck
 | some _=>(k.G e1).toS λt2 e2=>match rs e2 t2 with
  | none=>.stuck
  | some vi=>match df e2 t.drop with
   | none=>.stuck
   | some (e3,v)=>match e3[i]? with
    | none=>.stuck
    | some s=>match s.mv with
     | none=>.stuck
     | some u=>match w.G u vi v with
      | some u'=>.nx (e3.set i (s.re u'))
      | none=>.stuck:=rfl
@[simp] theorem Lo (v:Val):(Sl.ow v).mv=some v:=rfl
@[simp] theorem MP (v:Val):(Sl.mu v).mv=some v:=rfl
@[simp] theorem KA (v u:Val):(Sl.ow v).re u=.ow u:=rfl
@[simp] theorem Ki (v u:Val):(Sl.mu v).re u=.mu u:=rfl
@[simp] theorem Hy (v:Val):(Sl.ow v).val=some v:=rfl
@[simp] theorem G5 (v:Val):(Sl.mu v).val=some v:=rfl
@[simp] theorem K4 (i:Nat) (m:PMm) (a:PAs):(oz i m a).G e=match e[i]? with
 | some s=>if (s.mv.map lI)=some true then (a.G e).bind λts e1=>match dem e1 ts with
  | some (e2,vs)=>match e2[i]? with
   | some s2=>match s2.mv with
    | some u=>match m.G u vs with
     | some (u',v)=>.ok (.val v) (e2.set i (s2.re u'))
     | none=>.stuck
    | none=>.stuck
   | none=>.stuck
  | none=>.stuck else .stuck
 | none=>.stuck:=rfl
@[simp] theorem Gs (i:Nat) (m:PMm):(yR i m).G e=match e[i]? with
 | some s=>if (s.mv.map lI)=some true then (match s.mv with
  | some u=>match m.G u [] with
   | some (u',v)=>.ok (.val v) (e.set i (s.re u'))
   | none=>.stuck
  | none=>.stuck) else .stuck
 | none=>.stuck:=by
 show nX i m.G rf e=_
 unfold nX
 cases q:e[i]? with
 | none=>rfl
 |
  some s=>
  dsimp only
  split
  ·simp only[rf,jg,A9,q];try rfl
  ·rfl
@[simp] theorem CV (xs:List Val):lI (.lst xs)=true:=rfl
@[simp] theorem Md (a:PEx):(bt a).G e=(a.G e).bind λt e1=>match fO t e1 with
 | some p=>.ok p e1
 | none=>.stuck:=rfl
@[simp] theorem Mp (a:PAs):(zt a).G e=(a.G e).bind λts e1=>match ts with
 | [t,u]=>(match fO t e1,fO u e1 with
  | some (xs,k),some (ys,none)=>.ok (List.zipWith (λx y=>.tup [x,y]) xs ys,k) e1
  | _,_=>.stuck)
 | _=>.stuck:=rfl
@[simp] theorem Hc (v:Val):fO (.val v) e=(jP v).map λxs=>(xs,none):=rfl
@[simp] theorem J3 (v:Val):fO (.new v) e=(jP v).map λxs=>(xs,none):=rfl
@[simp] theorem J2 (xs:List Val):jP (.tup xs)=some xs:=rfl
@[simp] theorem Ib (xs:List Val):jP (.lst xs)=some xs:=rfl
@[simp] theorem Kl (a:PAs):(qa a).G e=(a.G e).bind λts e1=>match (rss e1 ts).bind kr with
 | some xs=>.ok (xs,none) e1
 | none=>.stuck:=rfl
@[simp] theorem MN (a:PAs):(tG a).G e=(a.G e).bind λts e1=>match (rss e1 ts).bind qT with
 | some xs=>.ok (xs,none) e1
 | none=>.stuck:=rfl
@[simp] theorem LZ (i:PIt) (g:PGt) (b:PSt):(fY i g b).G e=(i.G e).toS λp e1=>(fE g.G b.G p.1 (lockO e1 p.2)).unl p.2:=rfl
@[simp] theorem kF (g:MG3) (B:MS3):fE g B [] e=.nx e:=rfl
theorem bK (g:MG3) (B:MS3) (v:Val) (vs:List Val):fE g B (v :: vs) e=match g v e with
 | some e1=>(B e1).loop (fE g B vs)
 | none=>.stuck:=rfl
theorem zi (c:PTs) (b:PSt):(xWh c b).G e=(c.G e).toS λk e1=>if k=true then (b.G e1).loop (xWh c b).G else .nx e1:=Cu c.G b.G e
@[simp] theorem v_lc (i:PIt) (sub:List (Option Nat)) (hs:(sub.filterMap id).Nodup) (g:PGt) (c:PTs) (a:PEx):(pLC i sub hs g c a).G e=(i.G e).bind λp e1=>match lcV g.G c.G a.G p.1 [] (bT sub (lockO e1 p.2)) with
 | .ok ys e2=>if ys.length<=16777216 then .ok (.new (.lst ys)) (gn (bW sub e2 (lockO e1 p.2)) p.2) else .stuck
 | _=>.stuck:=rfl
@[simp] theorem GG (f:PFn) (a:PAs):(ax f a).G e=(a.G e).bind λts e1=>match rss e1 ts with
 | none=>.stuck
 | some vs=>if okA e1 f.ms ts=true then (match f.G vs with
  | .stuck=>.stuck
  | .ok r mv=>if (bE e1 f.ms ts).isEmpty || (nN r && mv.all eD) then .ok r.tm (bW (c7 f.ms ts) (ba f.ms mv) e1) else (match qC e1 (bE e1 f.ms ts) with
   | some e2=>.ok r.tm (bW (c7 f.ms ts) (ba f.ms mv) e2)
   | none=>.stuck)
  | .exc c mv=>if (bE e1 f.ms ts).isEmpty || mv.all eD then .exc c (bW (c7 f.ms ts) (ba f.ms mv) e1) else .stuck) else .stuck:=rfl
@[simp] theorem Gp (v:Val):(Rt.val v).tm=.val v:=rfl
@[simp] theorem JF (v:Val):(Rt.new v).tm=.new v:=rfl
@[simp] theorem o_n:oN.G e=.ok none e:=rfl
@[simp] theorem o_s (a:PEx):(oS a).G e=(a.G e).bind λt e1=>match rs e1 t with
 | some (.int i)=>.ok (some i) e1
 | _=>.stuck:=rfl
@[simp] theorem v_sl (a:PEx) (l u:POp):(pSl a l u).G e=(a.G e).bind λt e1=>(l.G e1).bind λlo e2=>(u.G e2).bind λhi e3=>match rs e3 t.drop with
 | some v=>(aSl v lo hi).at e3
 | none=>.stuck:=rfl
theorem bc (ms:List Bool) (N:Nat) (c:PSt) (vs:List Val):(fnP ms N c).G vs=if vs.length=ms.length then (match c.G (sls ms vs++List.replicate (N - vs.length) .no) with
 | .nx e=>(match muV ms e with | some mv=>.ok (.val .non) mv | none=>.stuck)
 | .rt r e=>(match muV ms e with | some mv=>.ok r mv | none=>.stuck)
 | .exc c e=>(match muV ms e with | some mv=>.exc c mv | none=>.stuck)
 | _=>.stuck) else .stuck:=rfl
theorem jQ (ms:List Bool) (N:Nat) (c:PSt) (vs:List Val):(PFx.of ms N c).G vs=if vs.length=ms.length then (match c.G (sls ms vs++List.replicate (N - vs.length) .no) with
 | .nx e=>(match muV ms e with | some mv=>.ok (.val .non) mv | none=>.stuck)
 | .rt r e=>(match muV ms e with | some mv=>.ok r mv | none=>.stuck)
 | .exc c e=>(match muV ms e with | some mv=>.exc c mv | none=>.stuck)
 | _=>.stuck) else .stuck:=rfl
@[simp] theorem Ms {ms:List Bool} (p:PFx ms):p.fn.ms=ms:=rfl
@[simp] theorem fx_G {ms:List Bool} (p:PFx ms) (vs:List Val):p.fn.G vs=p.G vs:=rfl
end
@[simp] theorem LH (i j:Int):bQ.G (.int i) (.int j)=.val (.int (i + j)):=rfl
@[simp] theorem K9 (i j:Int):zB.G (.int i) (.int j)=.val (.int (i - j)):=rfl
@[simp] theorem k_lt (i j:Int):bLt.G (.int i) (.int j)=.val (.bl (decide (i < j))):=rfl
@[simp] theorem k_gt (i j:Int):bGt.G (.int i) (.int j)=.val (.bl (decide (j < i))):=rfl
@[simp] theorem k_ge (i j:Int):bGe.G (.int i) (.int j)=.val (.bl (decide (j<=i))):=rfl
@[simp] theorem LO (i j:Int):Cy.G (.int i) (.int j)=.val (.int (i + j)):=rfl
@[simp] theorem Lc (i:Int):uD.G (.int i)=.val (.int (-i)):=rfl
theorem bN {i j:Int} (c:CMulA i j):bD.G (.int i) (.int j)=.val (.int (i * j)):=by show yu (.int i) (.int j)=_;unfold yu aIc;dsimp only;rw[if_pos c]
theorem nr {i j:Int} (c:CDivB i j):ku.G (.int i) (.int j)=.val (.int (i.fdiv j)):=by show yA (.int i) (.int j)=_;unfold yA aIc;dsimp only;rw[if_pos c]
theorem iF {i j:Int} (c:j ≠ 0):dh.G (.int i) (.int j)=.val (.int (i.fmod j)):=by show yx (.int i) (.int j)=_;unfold yx aIc;dsimp only;rw[if_pos c]
theorem Ec {i j:Int} (c:iU i j):rQ.G (.int i) (.int j)=.val (.int (i ^ j.toNat)):=by show zp (.int i) (.int j)=_;unfold zp aIc;dsimp only;rw[if_pos c]
theorem Kk {i j:Int} (c:iU i j):BU.G (.int i) (.int j)=.val (.int (i * 2 ^ j.toNat)):=by show yG (.int i) (.int j)=_;unfold yG aIc;dsimp only;rw[if_pos c]
@[simp] theorem k_ix (x:Val) (i:Int):bIx.G x (.int i)=match x.items with
 | some xs=>(match atI xs i with
  | some v=>.val v
  | none=>.stuck)
 | none=>.stuck:=by show aIx x (.int i)=_;unfold aIx;cases x.items <;> rfl
@[simp] theorem GZ (xs:List Val):(Val.tup xs).items=some xs:=rfl
@[simp] theorem zD (xs:List Val):(Val.lst xs).items=some xs:=rfl
@[simp] theorem k_eq (x y:Val):bEq.G x y=match eQ x y with
 | some b=>.val (.bl b)
 | none=>.stuck:=by show aEq false x y=_;unfold aEq;cases eQ x y <;> rfl
@[simp] theorem k_ne (x y:Val):bNe.G x y=match eQ x y with
 | some b=>.val (.bl (!b))
 | none=>.stuck:=by show aEq true x y=_;unfold aEq;cases eQ x y <;> rfl
@[simp] theorem LG (x y:Int):eQ (.int x) (.int y)=some (x == y):=rfl
theorem eq_str {x y:Str} (hx:PyData.strOk x=true) (hy:PyData.strOk y=true):eQ (.str x) (.str y)=some (x == y):=by
 unfold eQ
 show (if SeqAt.shaped (.str x)=true/\SeqAt.shaped (.str y)=true then _ else _)=_
 rw[if_pos ⟨gi hx (Nat.zero_le _),gi hy (Nat.zero_le _)⟩]
 rfl
@[simp] theorem k_is (x:Val):bIs.G x .non=match x with
 | .non=>.val (.bl true)
 | _=>.val (.bl false):=by cases x <;> rfl
@[simp] theorem Mj (x:Val):Cn.G x .non=match x with
 | .non=>.val (.bl false)
 | _=>.val (.bl true):=by cases x <;> rfl
@[simp] theorem Kp (v:Val):cP.G [v]=match v.items with
 | some xs=>.val (.int xs.length)
 | none=>(match v with
  | .str z=>if z.length<=16777216 then .val (.int z.length) else .stuck
  | _=>.stuck):=rfl
@[simp] theorem KI (i:Int):pK.G [.int i]=.val (.int (if i < 0 then -i else i)):=rfl
@[simp] theorem Mv (xs:List Val):tj.G [.lst xs]=match iu xs with
 | some bs=>.val (.bl (bs.all id))
 | none=>.stuck:=rfl
@[simp] theorem LP (xs:List Val):gw.G [.lst xs]=match lW xs with
 | some bs=>.val (.int bs.sum)
 | none=>.stuck:=rfl
@[simp] theorem IS (v:Val):mQ.G [v]=match v.items with
 | some xs=>.new (.lst xs)
 | none=>.stuck:=rfl
@[simp] theorem Bp (xs:List Val) (v:Val):fR.G (.lst xs) [v]=if xs.length < 16777216 then some (.lst (xs++[v]),.non) else none:=rfl
@[simp] theorem sy:∀ (bs:List Int),lW (bs.map Val.int)=some bs
 | []=>rfl
 | b :: r=>by show (lW (r.map Val.int)).map (b :: ·)=_;rw[sy r];rfl
@[simp] theorem tS:∀ (bs:List Bool),iu (bs.map Val.bl)=some bs
 | []=>rfl
 | b :: r=>by show (iu (r.map Val.bl)).map (b :: ·)=_;rw[tS r];rfl
theorem zZ {K:W.Frag}{mg:Str->Option Value}{X:Cx}{ES:L2.St->XK}{sts:List Stmt}:DSs K mg X ES sts (λ_ _=>.stuck):=λpins s σ H D I ⟨_,_,_,_,_,p⟩=>p.elim
end L3
namespace L3
open PySem PySem.Spec PyProof.Rows L2
section
variable {K:W.Frag}{mg:Str->Option Value}{X:Cx}{ES:L2.St->XK}{e a b c o i tg al lv:Expr}{es:List Expr}{st:Stmt}{sts sts':List Stmt}{p q r:PEx}{A:PAs}{t u:PTs}{x y:PSt}{g:PGt}{gs:PGs}{I:PIt}{pos:Pos}
theorem af (i:Nat) {x:Str} (hN:X.N[i]?=some x:=by rfl) (hv:Vis X.env.scope x:=by first | exact Or.inl rfl | exact Or.inr (Or.inl rfl) | exact Or.inr (Or.inr rfl)) (hd:(x == ("__debug__" : Str))=false:=by decide) (hcd:(x == ("__classdict__" : Str))=false:=by decide):DE K mg X ES (.Name x pos) (ah i).F:=Gw i hN hv hd hcd
theorem aj {i:Int}{j:Nat}:DE K mg X ES (.Constant (.int i) j pos) (av i).F:=Ie
theorem jk {i:Bool}{j:Nat}:DE K mg X ES (.Constant (.bool i) j pos) (pBl i).F:=MB
theorem e8 {j:Nat}:DE K mg X ES (.Constant .none j pos) iw.F:=J9
theorem aX {i:Str}{j:Nat}:DE K mg X ES (.Constant (.str i) j pos) (bI i).F:=IG
theorem AR {x:Str} (hg:Gl X x) (ha:∃ a,mg x=some (.ref a)) (hm:X.mg=mg:=by rfl) (hd:(x == ("__debug__" : Str))=false:=by decide):DE K mg X ES (.Name x pos) (yZ x).F:=Gq hg ha hm hd
theorem yj {x:Str}{d:D}{v:Val}{r:∀ P h,Rd P h d v} (hg:Gl X x) (ha:GC K mg x d) (hm:X.mg=mg:=by rfl) (hd:(x == ("__debug__" : Str))=false:=by decide):DE K mg X ES (.Name x pos) (tT d v r).F:=MM hg ha hm hd
theorem d6 {x:Str}{n:String} (hg:Gl X x) (hm:mg x=none) (hv:bootBuiltins x=some (.type n)) (he:X.mg=mg:=by rfl) (hn:x ≠ "__name__" := by decide) (hd:(x == ("__debug__" : Str))=false:=by decide):DE K mg X ES (.Name x pos) (pTy n).F:=LX hg hm hv he hn hd
theorem aF {op:Operator}{r':R2}{k:PO2} (ho:OpR X (binaryOp op) r') (hd:OpD K mg r' k.F) (ha:DE K mg X ES a p.F) (hb:DE K mg X ES b q.F):DE K mg X ES (.BinOp a op b pos) (pOp k p q).F:=Mh ho hd ha hb
theorem az {r':R2}{k:PO2} (hr:IxR X r') (hd:OpD K mg r' k.F) (ha:DE K mg X ES a p.F) (hb:DE K mg X ES b q.F) (hs:qH b):DE K mg X ES (.Subscript a b pos) (pOp k p q).F:=Ks hr hd ha hb hs
theorem fL {op:CmpOp}{r':R2}{k:PO2} (ho:OpR X (compareOp op) r') (hd:OpD K mg r' k.F) (ha:DE K mg X ES a p.F) (hb:DE K mg X ES b q.F) (hm:behindInMarks op b=false):DE K mg X ES (.Compare a [op] [b] pos) (pOp k p q).F:=GA ho hd ha hb hm
theorem aO {op:CmpOp}{r':R2}{k:PO2} (ho:OpR X (compareOp op) r') (hd:OpD K mg r' k.F) (ha:DE K mg X ES a p.F) (hb:DE K mg X ES b q.F) (hm:behindInMarks op b=false):DT K mg X ES (.Compare a [op] [b] pos) (qOf (pOp k p q)).F:=Ih ho hd ha hb hm
theorem bf (ha:DE K mg X ES a p.F) (he:∀ tz,isTrue a X.env tz=(do let v <- tz;standAt a.pos;holding [v] (truthy v)):=by intro _;rfl):DT K mg X ES a (qOf p).F:=Jj ha he
theorem cm (ha:DT K mg X ES a t.F):DT K mg X ES (.UnaryOp .Not a pos) (qNo t).F:=JC ha
theorem rL (ha:DT K mg X ES a t.F):DW K mg X ES (.BoolOp .And [a] pos) t.F:=F9 ha
theorem dF (ha:DT K mg X ES a t.F):DW K mg X ES (.BoolOp .Or [a] pos) t.F:=GW ha
theorem vb (ha:DT K mg X ES a t.F) (hb:DW K mg X ES (.BoolOp .And (b :: es) pos) u.F):DW K mg X ES (.BoolOp .And (a :: b :: es) pos) (qAn t u).F:=Im ha hb
theorem dN (ha:DT K mg X ES a t.F) (hb:DW K mg X ES (.BoolOp .Or (b :: es) pos) u.F):DW K mg X ES (.BoolOp .Or (a :: b :: es) pos) (qO t u).F:=LY ha hb
theorem ZW.dt (h:DW K mg X ES a t.F):DT K mg X ES a t.F:=DW.dt h
theorem kQ {op} (h:DE K mg X ES a p.F):DE K mg X ES (.BoolOp op [a] pos) p.F:=HX h
theorem mF (ha:DE K mg X ES a p.F) (hb:DE K mg X ES (.BoolOp .And (b :: es) pos) q.F):DE K mg X ES (.BoolOp .And (a :: b :: es) pos) (oA p q).F:=Hi ha hb
theorem Mg (ha:DE K mg X ES a p.F) (hb:DE K mg X ES (.BoolOp .Or (b :: es) pos) q.F):DE K mg X ES (.BoolOp .Or (a :: b :: es) pos) (pOr p q).F:=My ha hb
theorem vy (ha:DE K mg X ES a p.F):DE K mg X ES (.UnaryOp .Not a pos) (uX p).F:=HG ha
theorem yy {op:UnaryOp}{r':V->Hp->VK->Prop}{k:PU1} (ho:UnR X (unaryOp op) r') (hd:UnD K mg r' k.F) (ha:DE K mg X ES a p.F):DE K mg X ES (.UnaryOp op a pos) (pUn k p).F:=Km ho hd ha
theorem ai:DA K mg X ES [] ao.F:=HH
theorem aa (ha:DE K mg X ES e p.F) (hr:DA K mg X ES es A.F) (hs:starEach (e :: es) X.env=(false,eval e X.env) :: starEach es X.env:=by rfl):DA K mg X ES (e :: es) (ag p A).F:=Fz ha hr hs
theorem dc {x1} (h:DA K mg X ES es A.F):DE K mg X ES (.Tuple es x1 pos) (d7 A).F:=IT h
theorem cn (h:DA K mg X ES es A.F):DE K mg X ES (.List es pos) (dH A).F:=Iz h
theorem aD {id:String}{r':List V->Hp->VK->Prop}{k:PBf}{x:Str}{p0:Pos} (hc:CallR X (.builtin id) r') (hd:cW K mg r' k.F) (hg:Gl X x) (hm:mg x=none) (hv:bootBuiltins x=some (.builtin id)) (ha:DA K mg X ES (e :: es) A.F) (hk:X.mg=mg:=by rfl) (hn:x ≠ "__name__" := by decide) (hdb:(x == ("__debug__" : Str))=false:=by decide) (he:starEach (e :: es) X.env=(false,eval e X.env) :: starEach es X.env:=by rfl) (hpl:(backTo pos (starEach es X.env)).any (·.1)=false:=by rfl):DE K mg X ES (.Call (.Name x p0) (e :: es) [] pos) (pFn k A).F:=Cv hc hd hg hm hv ha hk hn hdb he hpl
theorem mT {id:String}{r':List V->Hp->VK->Prop}{k:PBf}{x:Str}{p0:Pos} (hc:CallR X (.type id) r') (hd:cW K mg r' k.F) (hg:Gl X x) (hm:mg x=none) (hv:bootBuiltins x=some (.type id)) (ha:DA K mg X ES (e :: es) A.F) (hk:X.mg=mg:=by rfl) (hn:x ≠ "__name__" := by decide) (hdb:(x == ("__debug__" : Str))=false:=by decide) (he:starEach (e :: es) X.env=(false,eval e X.env) :: starEach es X.env:=by rfl) (hpl:(backTo pos (starEach es X.env)).any (·.1)=false:=by rfl):DE K mg X ES (.Call (.Name x p0) (e :: es) [] pos) (pFn k A).F:=A8 hc hd hg hm hv ha hk hn hdb he hpl
theorem ar {f:PFn}{x:Str}{p0:Pos}{k n:Nat}{ps:List Str} (C:Callee X.prog X.w X.K X.mg X.base x k ps (spD K mg n f.F)) (hr:Room k X.A) (hg:Gl X x) (hx:pk X ES) (ha:DA K mg X ES (e :: es) A.F) (hn:f.ms.length=n:=by rfl) (hdb:(x == ("__debug__" : Str))=false:=by decide) (he:starEach (e :: es) X.env=(false,eval e X.env) :: starEach es X.env:=by rfl) (hpl:(backTo pos (starEach es X.env)).any (·.1)=false:=by rfl):DE K mg X ES (.Call (.Name x p0) (e :: es) [] pos) (ax f A).F:=by
 subst hn
 exact Cj C hr hg hx ha hdb he hpl
theorem aH:DSs K mg X ES [] xNx.F:=EB
theorem au (h1:DS K mg X ES st x.F):DSs K mg X ES [st] x.F:=ET h1
theorem aq (h1:DS K mg X ES st x.F) (h2:DSs K mg X ES sts y.F):DSs K mg X ES (st :: sts) (aB x y).F:=Dh h1 h2
theorem wJ:DS K mg X ES (.Continue pos) xCt.F:=wR
theorem aC (he:DE K mg X ES e p.F):DS K mg X ES (.Return (some e) pos) (aK p).F:=Hx he
theorem cX (he:DE K mg X ES e p.F) (hs:swapsWith e none pos.line X.env=pure false:=by rfl):DS K mg X ES (.Expr e pos) (dX p).F:=EI he hs
theorem aQ (hc:DT K mg X ES c t.F) (ha:DSs K mg X ES sts x.F) (hb:DSs K mg X ES sts' y.F):DS K mg X ES (.If c sts sts' pos) (xIf t x y).F:=K0 hc ha hb
theorem aE {i:Nat}{x:Str} (hN:X.N.Nodup) (hi:X.N[i]?=some x) (hx:Loc X.env.scope x) (hf:X.fn x=true\/X.env.scope.names.lookup x=some .local:=by first | exact .inl rfl | exact .inr rfl | assumption):DG K mg X ES (.Name x pos) (gtN i).F:=EF hN hi hx hf
theorem ek:DGs K mg X ES [] fS.F:=Fs
theorem aT (h1:DG K mg X (λ_=>E0) e g.F) (h2:DGs K mg X (λ_=>E0) es gs.F) (hs:(assignEach (e :: es) X.env).map (·.2)=assign e X.env :: (assignEach es X.env).map (·.2):=by rfl):DGs K mg X (λ_=>E0) (e :: es) (bL g gs).F:=CS h1 h2 hs
theorem jB {k n:Nat} (hK:X.K=K) (hc:X.calm=true) (h:DGs K mg X (λ_=>E0) es gs.F) (hn:(assignEach es X.env).length=n:=by rfl) (hst:(assignEach es X.env).findIdx? (·.1)=none:=by rfl):DG K mg X (λ_=>E0) (.Tuple es k pos) (gtT n gs).F:=GO hK hc h hn hst
theorem ZG.weak (hg:DG K mg X (λ_=>E0) e g.F):DG K mg X ES e (gtX g).F:=DG.weak hg
theorem gj (he:DE K mg X ES e p.F) (hg:DG K mg X ES a g.F) (hs:swapsWithSole [a] e pos.line X.env=pure false:=by rfl) (hw:swappedStores [a] e X.env=pure none:=by rfl) (h1:(assignEach [a] X.env).map (·.2)=[assign a X.env]:=by rfl):DS K mg X ES (.Assign [a] e pos) (iI p g).F:=zI he hg hs hw h1
theorem rA {j:Nat}{w:PSe}{r':oT}{p1:Pos} (he:DE K mg X ES e p.F) (ho:DE K mg X ES o (ah j).F) (hi:DE K mg X ES i q.F) (hs':yq X r') (hd:BX K mg r' w.F) (hs:swapsWithSole [.Subscript o i p1] e pos.line X.env=pure false:=by rfl) (hw:swappedStores [.Subscript o i p1] e X.env=pure none:=by rfl) (h1:(assignEach [.Subscript o i p1] X.env).map (·.2)=[assign (.Subscript o i p1) X.env]:=by rfl)
 (ha:∀ v,assign (.Subscript o i p1) X.env v=(do
  let ov <- holding [v] (eval o X.env)
  let iv <- holding [v,ov] (eval i X.env)
  standAt p1
  holding [v,ov,iv] (setItem ov iv v)
  release [v,ov,iv] []):=by intro _;rfl):DS K mg X ES (.Assign [.Subscript o i p1] e pos) (tZ j w q p).F:=zI he (JG ho hi hs' hd ha) hs hw h1
theorem aN {ow:Bool}{i:Nat}{x:Str}{s_:Pos} (hN:X.N.Nodup) (hi:X.N[i]?=some x) (hx:Loc X.env.scope x) (he:DE K mg X ES e p.F) (hs:swapsWith e (some (.Name x s_)) pos.line X.env=pure false:=by rfl) (hf:X.fn x=true\/X.env.scope.names.lookup x=some .local:=by first | exact .inl rfl | exact .inr rfl | assumption):DS K mg X ES (.Assign [.Name x s_] e pos) (aW ow i p).F:=Il hN hi hx he hs hf
theorem gO {i j:Nat}{x y:Str}{px py pt:Pos}{kt k2 pt2} (hc:X.calm=true) (hN:X.N.Nodup) (hi:X.N[i]?=some x) (hj:X.N[j]?=some y) (hij:i ≠ j) (hx:X.env.scope.names.lookup x=some .local) (hy:X.env.scope.names.lookup y=some .local) (ha:DA K mg X ES [a,b] A.F) (hw:swappedStores [.Tuple [.Name x px,.Name y py] kt pt] (.Tuple [a,b] k2 pt2) X.env=pure (some [x,y])) (hs:swapsWithSole [.Tuple [.Name x px,.Name y py] kt pt] (.Tuple [a,b] k2 pt2) pos.line X.env=pure false:=by rfl):DS K mg X ES (.Assign [.Tuple [.Name x px,.Name y py] kt pt] (.Tuple [a,b] k2 pt2) pos) (jz i j A).F:=Iv hc hN hi hj hij hx hy ha hw hs
theorem JU {i:Nat}{x:Str}{op:Operator}{ti:TIp}{s_:Pos}{k:PO2} (hN:X.N.Nodup) (hi:X.N[i]?=some x) (hx:Loc X.env.scope x) (he:DE K mg X ES e p.F) (ho:PIp X op ti) (hd:IpD K mg ti k.F) (hf:X.fn x=true\/X.env.scope.names.lookup x=some .local:=by first | exact .inl rfl | exact .inr rfl | assumption):DS K mg X ES (.AugAssign (.Name x s_) op e pos) (CU i k p).F:=JL hN hi hx he ho hd hf
theorem fm {x:Str}{C:Addr}{E:XK}{np cpos:Pos} (hc:X.calm=true) (hR:Rz X E) (hg:Gl X x) (hm:mg x=some (.ref C)) (hq:W.excIn X.K C fb "ValueError.__new__" = true) (ha:DA K mg X (λ_=>E) (e :: es) A.F) (hk:X.mg=mg:=by rfl) (he:starEach (e :: es) X.env=(false,eval e X.env) :: starEach es X.env:=by rfl) (kw:(backTo cpos (starEach es X.env)).any (·.1)=false:=by rfl) (hd:(x == ("__debug__" : Str))=false:=by decide):DS K mg X (λ_=>E) (.Raise (some (.Call (.Name x np) (e :: es) [] cpos)) none pos) (fI x A).F:=Cm hc hR hg hm hq ha hk he kw hd
theorem bo (hK:X.K=K) (he:DE K mg X ES e p.F):DI K mg X ES tg e (bt p).F:=Jg hK he
theorem nc {p0:Pos} (hg:Gl X "range") (hm:mg "range" = none) (ha:DA K mg X ES [a] A.F) (hk:X.mg=mg:=by rfl) (hs:starEach [a] X.env=[(false,eval a X.env)]:=by rfl):DI K mg X ES tg (.Call (.Name "range" p0) [a] [] pos) (qa A).F:=Aq hg hm ha hk hs
theorem rS {p0:Pos} (hg:Gl X "range") (hm:mg "range" = none) (ha:DA K mg X ES [a,b] A.F) (hk:X.mg=mg:=by rfl) (hs:starEach [a,b] X.env=[(false,eval a X.env),(false,eval b X.env)]:=by rfl) (hs2:starEach [b] X.env=[(false,eval b X.env)]:=by rfl):DI K mg X ES tg (.Call (.Name "range" p0) [a,b] [] pos) (tG A).F:=Bg hg hm ha hk hs hs2
theorem Hl {elts:List Expr}{x1:Nat}{tp p0:Pos} (hK:X.K=K) (hg:Gl X "zip") (hm:mg "zip" = none) (ha:DA K mg X ES [a,b] A.F) (hk:X.mg=mg:=by rfl) (hs:starEach [a,b] X.env=[(false,eval a X.env),(false,eval b X.env)]:=by rfl) (hs2:starEach [b] X.env=[(false,eval b X.env)]:=by rfl):DI K mg X ES (.Tuple elts x1 tp) (.Call (.Name "zip" p0) [a,b] [] pos) (zt A).F:=Hs hK hg hm ha hk hs hs2
theorem eh (hp:PassesOwn (model X.prog X.w) X.A X.env X.xe) (hc:X.calm=true) (hi:DI K mg X ES tg al I.F) (hg:DG K mg X ES tg g.F) (hb:DSs K mg X ES sts x.F) (hs:∀ x,foldedSetIterable al X.env x=pure x:=by intro _;rfl):DS K mg X ES (.For tg al sts [] pos) (fY I g x).F:=IW hp hc hi hg hb hs
theorem uA (hp:PassesOwn (model X.prog X.w) X.A X.env X.xe) (hc:DT K mg X ES c t.F) (hb:DSs K mg X ES sts x.F):DS K mg X ES (.While c sts [] pos) (xWh t x).F:=By hp hc hb
theorem eL {scope:Scope} (M:List Str) (kn:List (Str×NameKind)) (N:List Str) (sub:List (Option Nat)) {hsb:(sub.filterMap id).Nodup} (hc:X.calm=true) (hi:DI K mg X ES tg al I.F) (hg:∀ cl C s₂ H fp,DG K mg (aS X N scope cl C s₂ H fp) (λ_=>E0) tg g.F) (he:∀ cl C s₂ H fp,DE K mg (aS X N scope cl C s₂ H fp) (λ_=>E0) lv p.F) (hM:X.N=M:=by rfl) (hkn:X.env.scope.names=kn:=by rfl) (io:ft M scope.names sub N=true:=by decide) (hk:scope.kind=.function:=by rfl) (hnc:∀ x ∈ scope.names,x.2 ≠ .cell:=by decide) (bi:∀ x ∈ scope.names,x.2=.local->scope.names.lookup x.1=some .local:=by decide) (tt:iB kn scope.names=true:=by decide) (hsl:sub.length=N.length:=by rfl) (hs:∀ x,foldedSetIterable al X.env x=pure x:=by intro _;rfl):DE K mg X ES (.ListComp lv [⟨tg,al,[],0⟩] scope pos) (pLC I sub hsb g qY p).F:=La M kn N sub hc hi hg he hM hkn io hk hnc bi tt hsl hs
theorem EJ {scope:Scope} (M:List Str) (kn:List (Str×NameKind)) (N:List Str) (sub:List (Option Nat)) {hsb:(sub.filterMap id).Nodup} (hc:X.calm=true) (hi:DI K mg X ES tg al I.F) (hg:∀ cl C s₂ H fp,DG K mg (aS X N scope cl C s₂ H fp) (λ_=>E0) tg g.F) (ht:∀ cl C s₂ H fp,DT K mg (aS X N scope cl C s₂ H fp) (λ_=>E0) c t.F) (he:∀ cl C s₂ H fp,DE K mg (aS X N scope cl C s₂ H fp) (λ_=>E0) lv p.F) (hM:X.N=M:=by rfl) (hkn:X.env.scope.names=kn:=by rfl) (io:ft M scope.names sub N=true:=by decide) (hk:scope.kind=.function:=by rfl) (hnc:∀ x ∈ scope.names,x.2 ≠ .cell:=by decide) (bi:∀ x ∈ scope.names,x.2=.local->scope.names.lookup x.1=some .local:=by decide) (tt:iB kn scope.names=true:=by decide) (hsl:sub.length=N.length:=by rfl) (hs:∀ x,foldedSetIterable al X.env x=pure x:=by intro _;rfl):DE K mg X ES (.ListComp lv [⟨tg,al,[c],0⟩] scope pos) (pLC I sub hsb g t p).F:=FI M kn N sub hc hi hg ht he hM hkn io hk hnc bi tt hsl hs
theorem DD {ow:Bool}{px spos:Pos}{iT:Nat}{xT:Str}{scope:Scope} (M:List Str) (kn:List (Str×NameKind)) (N:List Str) (sub:List (Option Nat)) {hsb:(sub.filterMap id).Nodup} (hc:X.calm=true) (hN:X.N.Nodup) (hix:X.N[iT]?=some xT) (hxl:Loc X.env.scope xT) (hi:DI K mg X ES tg al I.F) (hg:∀ cl C s₂ H fp,DG K mg (aS X N scope cl C s₂ H fp) (λ_=>E0) tg g.F) (he:∀ cl C s₂ H fp,DE K mg (aS X N scope cl C s₂ H fp) (λ_=>E0) lv p.F) (hsw:swapsWith (.ListComp lv [⟨tg,al,[],0⟩] scope pos) (some (.Name xT px)) spos.line X.env=pure true:=by rfl) (hM:X.N=M:=by rfl) (hkn:X.env.scope.names=kn:=by rfl) (io:ft M scope.names sub N=true:=by decide) (hk:scope.kind=.function:=by rfl) (hnc:∀ x ∈ scope.names,x.2 ≠ .cell:=by decide) (bi:∀ x ∈ scope.names,x.2=.local->scope.names.lookup x.1=some .local:=by decide) (tt:iB kn scope.names=true:=by decide) (hsl:sub.length=N.length:=by rfl) (hs:∀ x,foldedSetIterable al X.env x=pure x:=by intro _;rfl) (hf:X.fn xT=true\/X.env.scope.names.lookup xT=some .local:=by first | exact .inl rfl | exact .inr rfl | assumption):DS K mg X ES (.Assign [.Name xT px] (.ListComp lv [⟨tg,al,[],0⟩] scope pos) spos) (aW ow iT (pLC I sub hsb g qY p)).F:=KS M kn N sub hc hN hix hxl hi hg he hsw hM hkn io hk hnc bi tt hsl hs hf
theorem F4 {ow:Bool}{px spos:Pos}{iT:Nat}{xT:Str}{scope:Scope} (M:List Str) (kn:List (Str×NameKind)) (N:List Str) (sub:List (Option Nat)) {hsb:(sub.filterMap id).Nodup} (hc:X.calm=true) (hN:X.N.Nodup) (hix:X.N[iT]?=some xT) (hxl:Loc X.env.scope xT) (hi:DI K mg X ES tg al I.F) (hg:∀ cl C s₂ H fp,DG K mg (aS X N scope cl C s₂ H fp) (λ_=>E0) tg g.F) (ht:∀ cl C s₂ H fp,DT K mg (aS X N scope cl C s₂ H fp) (λ_=>E0) c t.F) (he:∀ cl C s₂ H fp,DE K mg (aS X N scope cl C s₂ H fp) (λ_=>E0) lv p.F) (hsw:swapsWith (.ListComp lv [⟨tg,al,[c],0⟩] scope pos) (some (.Name xT px)) spos.line X.env=pure true:=by rfl) (hM:X.N=M:=by rfl) (hkn:X.env.scope.names=kn:=by rfl) (io:ft M scope.names sub N=true:=by decide) (hk:scope.kind=.function:=by rfl) (hnc:∀ x ∈ scope.names,x.2 ≠ .cell:=by decide) (bi:∀ x ∈ scope.names,x.2=.local->scope.names.lookup x.1=some .local:=by decide) (tt:iB kn scope.names=true:=by decide) (hsl:sub.length=N.length:=by rfl) (hs:∀ x,foldedSetIterable al X.env x=pure x:=by intro _;rfl) (hf:X.fn xT=true\/X.env.scope.names.lookup xT=some .local:=by first | exact .inl rfl | exact .inr rfl | assumption):DS K mg X ES (.Assign [.Name xT px] (.ListComp lv [⟨tg,al,[c],0⟩] scope pos) spos) (aW ow iT (pLC I sub hsb g t p)).F:=Fq M kn N sub hc hN hix hxl hi hg ht he hsw hM hkn io hk hnc bi tt hsl hs hf
theorem mU {j:Nat}{name:Str}{id:String}{apos cpos:Pos}{r':V->List V->Hp->VK->Prop}{k:PMm} (hK:X.K=K) (slot:Slot "list" name id) (hty:typeOf (.builtin id)=pure (.type "method_descriptor")) (hm:MtM X id r') (hd:MtD K mg r' k.F) (ho:DE K mg X ES o (ah j).F) (ha:DA K mg X ES (e :: es) A.F) (r_:attributeBase o name X.env (eval o X.env)=eval o X.env:=by rfl) (hfew:((backTo cpos (starEach (e :: es) X.env)).all (λx=>!x.1) && (backToKw cpos (keywordEach [] X.env)).all (λx=>x.1.isSome) && decide ((e :: es).length + ([]:List Keyword).length + (if ([]:List Keyword).isEmpty then 0 else 1) < 30))=true:=by rfl) (p_:(apos.endLine == cpos.line)=true:=by rfl) (hs:starEach (e :: es) X.env=(false,eval e X.env) :: starEach es X.env:=by rfl) (kw:(backTo cpos (starEach es X.env)).any (·.1)=false:=by rfl):DE K mg X ES (.Call (.Attribute o name apos) (e :: es) [] cpos) (oz j k A).F:=de_m hK slot hty hm hd ho ha r_ hfew p_ hs kw
theorem FJ {j:Nat}{name:Str}{id:String}{apos cpos:Pos}{r':V->List V->Hp->VK->Prop}{k:PMm} (hK:X.K=K) (slot:Slot "list" name id) (hty:typeOf (.builtin id)=pure (.type "method_descriptor")) (hm:MtM X id r') (hd:MtD K mg r' k.F) (ho:DE K mg X ES o (ah j).F) (r_:attributeBase o name X.env (eval o X.env)=eval o X.env:=by rfl) (p_:(apos.endLine == cpos.line)=true:=by rfl):DE K mg X ES (.Call (.Attribute o name apos) [] [] cpos) (yR j k).F:=Lb hK slot hty hm hd ho r_ p_
theorem gh:DO K mg X ES none oN.F:=E6
theorem gk (he:DE K mg X ES e p.F):DO K mg X ES (some e) (oS p).F:=E9 he
theorem eW {l u:POp}{lo hi:Option Expr}{p2:Pos} (hK:X.K=K) (he:DE K mg X ES e p.F) (hl:DO K mg X ES lo l.F) (hu:DO K mg X ES hi u.F):DE K mg X ES (.Subscript e (.Slice lo hi none p2) pos) (pSl p l u).F:=BA hK he hl hu
theorem br:OpD K mg (λx y H Q=>rI0 (λi j=>.int (i + j)) x y H Q\/(rq x y H Q\/(nE K x y H Q\/nI K x y H Q))) bQ.F:=J1
theorem Bi:OpD K mg (rI0 λi j=>.int (i - j)) zB.F:=Jw
theorem bq:OpD K mg (rI CMulA λi j=>.int (i * j)) bD.F:=IA
theorem jy:OpD K mg (rI CDivB λi j=>.int (i.fdiv j)) ku.F:=Hq
theorem d8:OpD K mg (rI (λ_ j=>j ≠ 0) λi j=>.int (i.fmod j)) dh.F:=IP
theorem A1:OpD K mg (rI iU λi j=>.int (i ^ j.toNat)) rQ.F:=Jm
theorem Jl:OpD K mg (rI iU λi j=>.int (i * 2 ^ j.toNat)) BU.F:=Jh
theorem qc:OpD K mg (rI0 λi j=>.bl (decide (i < j))) bLt.F:=K2
theorem l7:OpD K mg (rI0 λi j=>.bl (decide (j < i))) bGt.F:=K6
theorem yM:OpD K mg (rI0 λi j=>.bl (decide (j<=i))) bGe.F:=MQ
theorem aA:OpD K mg (λx y H Q=>yC K x y H Q\/y9 K x y H Q) bIx.F:=HP
theorem dY:OpD K mg (xZ K) bEq.F:=GK
theorem jj:OpD K mg (yN K) bNe.F:=JH
theorem KZ:OpD K mg (rIn K false) bIn.F:=(AA false)
theorem tQ:OpD K mg (rIn K true) lF.F:=(AA true)
theorem pw:OpD K mg (λx y H Q=>y=.non/\Q (.bl (decide (x=.non))) H) bIs.F:=ED
theorem IU:OpD K mg (λx y H Q=>y=.non/\Q (.bl (!decide (x=.non))) H) Cn.F:=Ck
theorem cq:cW K mg (λxs H Q=>(∃ p ys,xs=[.ref p]/\(SqL K H p ys\/SqT K H p ys)/\Q (.int ys.length) H)\/(∃ z,xs=[.str z]/\z.length<=sizeLine/\Q (.int z.length) H)) cP.F:=IF
theorem uq:cW K mg (λxs H Q=>∃ i,xs=[.int i]/\Q (.int (if i < 0 then -i else i)) H) pK.F:=Ii
theorem A6:cW K mg (λxs H Q=>∃ (a:Addr) (bs:List Bool),xs=[.ref a]/\SqL K H a (bs.map V.bl)/\Q (.bl (bs.all id)) H) tj.F:=J7
theorem jK:cW K mg (λxs H Q=>∃ (a:Addr) (ns:List Int),xs=[.ref a]/\SqL K H a (ns.map V.int)/\Q (.int ns.sum) H) gw.F:=Kd
theorem rD:cW K mg (λxs H Q=>∃ p ys,xs=[.ref p]/\(SqL K H p ys\/SqT K H p ys)/\∀ l,H l=none->Q (.ref l) (upd H l (.lst ys))) mQ.F:=Er
theorem da {kt:gx} (ok:KitsOk K mg kt):cW K mg (λxs H Q=>(∃ x c t v b,xs=[x,c]/\TyX K H x t/\gQ c=some v/\W.kitOne K t v=some b/\Q (.bl b) H)\/
 (∃ x tp cs t vs b,xs=[x,.ref tp]/\SqT K H tp cs/\TyX K H x t/\cs.mapM gQ=some vs/\W.kitAny K t vs=some b/\Q (.bl b) H)) (bM kt).F:=J5 ok
theorem iL:MtD K mg qw fR.F:=Ap
theorem yK:MtD K mg oH mX.F:=xX
theorem Gm:IpD K mg (ipI λi j=>i + j) Cy.F:=E7
theorem uM:UnD K mg (rU λi=>.int (-i)) uD.F:=HJ
variable {P:Program}{w:World}{base:Heap}{fx:Str}{fst:Stmt}{k n m:Nat}{ps N:List Str}{ms:List Bool}
theorem okP (D:Def K mg fx fst) (S:FnScope N ps (aw fst))
 (hb:∀ (kV doc pm:Value) (an:Option Addr) (cdv ct:Value) (us:List Value),us.length=ps.length->bindArgs (W.fnOf fx fx (eg fst) (cA fst) (aw fst) .none kV doc pm an cdv ct) ⟨us,[]⟩=pure (ps.zip us))
 (pi:∀ (f:Addr) (cdv:Value) (A:Around) (outer:List Env) (s:Shared) (H:Hp) (E:XK),Room k (A.deeper (envOfC fx (aw fst) s.heap.objs.size f cdv))->
  DSs K mg (fD (CX1 P w) P w K mg base N fx (aw fst) f cdv A outer s H E) (λ_=>E) (cA fst) x.F) (hn:ps.length=n:=by rfl) (hm:N.length=m:=by rfl):Callee P w K mg base fx (k + 1) ps (spD K mg n (fnP ms m x).F):=by
 subst hn hm
 exact D.okD S hb pi
theorem okX (D:Def K mg fx fst) (S:FnScope N ps (aw fst))
 (hb:∀ (kV doc pm:Value) (an:Option Addr) (cdv ct:Value) (us:List Value),us.length=ps.length->bindArgs (W.fnOf fx fx (eg fst) (cA fst) (aw fst) .none kV doc pm an cdv ct) ⟨us,[]⟩=pure (ps.zip us))
 (pi:∀ (f:Addr) (cdv:Value) (A:Around) (outer:List Env) (s:Shared) (H:Hp) (E:XK),Room k (A.deeper (envOfC fx (aw fst) s.heap.objs.size f cdv))->
  DSs K mg (fD (CX1 P w) P w K mg base N fx (aw fst) f cdv A outer s H E) (λ_=>E) (cA fst) x.F) (hn:ps.length=n:=by rfl) (hm:N.length=m:=by rfl):Callee P w K mg base fx (k + 1) ps (spD K mg n (PFx.of ms m x).F):=by
 subst hn hm
 exact D.okD S hb pi
theorem ok0 (D:Def K mg fx fst) (S:FnScope N ps (aw fst))
 (hb:∀ (kV doc pm:Value) (an:Option Addr) (cdv ct:Value) (us:List Value),us.length=ps.length->bindArgs (W.fnOf fx fx (eg fst) (cA fst) (aw fst) .none kV doc pm an cdv ct) ⟨us,[]⟩=pure (ps.zip us)) (hn:ps.length=n:=by rfl):Callee P w K mg base fx (k + 1) ps (spD K mg n (PFx.none ms).F):=by
 subst hn
 exact D.okD (F:=λ_ _=>.stuck) S hb λ_ _ _ _ _ _ _ _=>zZ
end
end L3
namespace L3
open PySem PySem.Spec PyProof.Rows L2
theorem Hr (b:Bool) (ms:List Bool) (v:Val) (vs:List Val):sls (b :: ms) (v :: vs)=sl1 b v :: sls ms vs:=rfl
theorem Fg:sls [] []=[]:=rfl
theorem Kx (v:Val):sl1 true v=.mu v:=rfl
theorem Mq (v:Val):sl1 false v=.sh v:=rfl
section
variable (e:E3)
theorem FK:okA e [] []=true:=rfl
theorem IK (i:Nat) (ms:List Bool) (ts:List Tm):okA e (true :: ms) (.bor i :: ts)=(((e[i]?).bind Sl.mv).isSome && !(jY i ts) && okA e ms ts):=rfl
theorem Iw (v:Val) (ms:List Bool) (ts:List Tm):okA e (false :: ms) (.val v :: ts)=okA e ms ts:=rfl
theorem Dm (i:Nat):jY i []=false:=rfl
theorem JY (i:Nat) (v:Val) (ts:List Tm):jY i (.val v :: ts)=jY i ts:=rfl
theorem zY:bE e [] []=[]:=rfl
theorem Gk (v:Val) (ms:List Bool) (ts:List Tm):bE e (false :: ms) (.val v :: ts)=bE e ms ts:=rfl
theorem Hu (t:Tm) (ms:List Bool) (ts:List Tm):bE e (true :: ms) (t :: ts)=bE e ms ts:=by cases t <;> rfl
end
theorem zE:c7 [] []=[]:=rfl
theorem Ft (b:Bool) (t:Tm) (ms:List Bool) (ts:List Tm):c7 (b :: ms) (t :: ts)=qg b t :: c7 ms ts:=rfl
theorem Fy (i:Nat):qg true (.bor i)=some i:=rfl
theorem Je (t:Tm):qg false t=none:=by cases t <;> rfl
theorem B9 (e:E3):bW [] [] e=e:=rfl
theorem GD (o:Option Nat) (sub:List (Option Nat)) (s:Sl) (i e:E3):bW (o :: sub) (s :: i) e=bW sub i (iA o s e):=rfl
theorem F8 (i:Nat) (v:Val) (e:E3):iA (some i) (.mu v) e=match e[i]? with
 | some t=>e.set i (t.re v)
 | none=>e:=rfl
theorem JT (s:Sl) (e:E3):iA none s e=e:=rfl
theorem BI (vs:List Val):ba [] vs=[]:=rfl
theorem Jn (ms:List Bool) (v:Val) (vs:List Val):ba (true :: ms) (v :: vs)=.mu v :: ba ms vs:=rfl
theorem Jx (ms:List Bool) (vs:List Val):ba (false :: ms) vs=.no :: ba ms vs:=by cases vs <;> rfl
theorem Gj (e:E3):muV [] e=some []:=by cases e <;> rfl
theorem KW (ms:List Bool) (v:Val) (e:E3):muV (true :: ms) (.mu v :: e)=(muV ms e).map (v :: ·):=rfl
theorem L5 (ms:List Bool) (s:Sl) (e:E3):muV (false :: ms) (s :: e)=muV ms e:=by cases s <;> rfl
theorem zP (v:Val):nN (.val v)=flatV v:=rfl
theorem zH (v:Val):nN (.new v)=eD v:=rfl
theorem AO (xs:List Val):eD (.lst xs)=flatVs xs:=rfl
theorem gX:flatVs []=true:=by simp [flatVs]
theorem fH (v:Val) (vs:List Val):flatVs (v :: vs)=(flatV v && flatVs vs):=by simp [flatVs]
theorem mS (i:Int):flatV (.int i)=true:=by simp [flatV]
theorem BM (i:Bool):flatV (.bl i)=true:=by simp [flatV]
theorem so (i:Str):flatV (.str i)=true:=by simp [flatV]
theorem AM:flatV .non=true:=by simp [flatV]
theorem mY (xs:List Val):flatV (.tup xs)=flatVs xs:=by simp [flatV]
theorem nC {α:Type}{l:List α}{i:Int}{x:α} (h0:0<=i) (h:l[i.toNat]?=some x):atI l i=some x:=by
 have hl:=(List.getElem?_eq_some_iff.mp h).1
 unfold atI ixN
 rw[if_pos h0,if_pos (by omega)]
 exact h
section
variable {α:Type} (a b c d e f g h:α) (l:List α)
theorem ati0:atI (a :: l) 0=some a:=nC (by decide) rfl
theorem ati1:atI (a :: b :: l) 1=some b:=nC (by decide) rfl
theorem ati2:atI (a :: b :: c :: l) 2=some c:=nC (by decide) rfl
theorem ati3:atI (a :: b :: c :: d :: l) 3=some d:=nC (by decide) rfl
end
end L3
namespace L3
open PySem PySem.Spec PyProof.Rows L2
mutual
def vq:Val->Val->Bool
 | .non,.non=>true
 | .bl a,.bl b=>a == b
 | .bl a,.int j=>(if a then 1 else 0) == j
 | .int i,.bl b=>i == (if b then 1 else 0)
 | .int i,.int j=>i == j
 | .str x,.str y=>x == y
 | .tup xs,.tup ys=>vqs xs ys
 | .lst xs,.lst ys=>vqs xs ys
 | _,_=>false
def vqs:List Val->List Val->Bool
 | [],[]=>true
 | x :: xs,y :: ys=>vq x y && vqs xs ys
 | _,_=>false
end
mutual
def wfV:Nat->Val->Bool
 | _,.non=>true
 | _,.bl _=>true
 | _,.int _=>true
 | _,.str x=>PyData.strOk x
 | k + 1,.tup xs=>fk k xs
 | k + 1,.lst xs=>fk k xs
 | _,_=>false
def fk:Nat->List Val->Bool
 | _,[]=>true
 | k,x :: xs=>wfV k x && fk k xs
end
mutual
def cK:Val->PyData
 | .bl b=>.bool b
 | .int i=>.int i
 | .str x=>.str x
 | .tup xs=>.tuple (eB xs)
 | .lst xs=>.list (eB xs)
 | _=>.none
def eB:List Val->List PyData
 | []=>[]
 | x :: xs=>cK x :: eB xs
end
mutual
theorem kR:∀ (k:Nat) (v:Val),wfV k v=true->(∀ j,k < j->dI j v=some (cK v))/\(cK v).canLay0=true/\(cK v).depth<=k
 | k,.non,_=>⟨λj hj=>by cases j with | zero=>exact absurd hj (Nat.not_lt_zero _) | succ j=>rfl,rfl,Nat.zero_le _⟩
 | k,.bl b,_=>⟨λj hj=>by cases j with | zero=>exact absurd hj (Nat.not_lt_zero _) | succ j=>rfl,rfl,Nat.zero_le _⟩
 | k,.int b,_=>⟨λj hj=>by cases j with | zero=>exact absurd hj (Nat.not_lt_zero _) | succ j=>rfl,rfl,Nat.zero_le _⟩
 | k,.str b,w=>⟨λj hj=>by cases j with | zero=>exact absurd hj (Nat.not_lt_zero _) | succ j=>rfl,by cases k <;> exact w,Nat.zero_le _⟩
 | 0,.tup xs,w=>absurd w Bool.false_ne_true
 | 0,.lst xs,w=>absurd w Bool.false_ne_true
 |
  k + 1,.tup xs,w=>by
  obtain⟨h1,h2,h3⟩:=n5 k xs w
  exact⟨λj hj=>by cases j with | zero=>exact absurd hj (Nat.not_lt_zero _) | succ j=>simp only[dI,cK,h1 j (Nat.lt_of_succ_lt_succ hj),Option.map_some],h2,by simpa [cK,PyData.depth] using h3⟩
 |
  k + 1,.lst xs,w=>by
  obtain⟨h1,h2,h3⟩:=n5 k xs w
  exact⟨λj hj=>by cases j with | zero=>exact absurd hj (Nat.not_lt_zero _) | succ j=>simp only[dI,cK,h1 j (Nat.lt_of_succ_lt_succ hj),Option.map_some],h2,by simpa [cK,PyData.depth] using h3⟩
 | k,.ty _,w=>by cases k <;> exact absurd w Bool.false_ne_true
 | k,.glb _,w=>by cases k <;> exact absurd w Bool.false_ne_true
 | k,.exc _,w=>by cases k <;> exact absurd w Bool.false_ne_true
 | k,.kl _,w=>by cases k <;> exact absurd w Bool.false_ne_true
 | k,.dct _,w=>by cases k <;> exact absurd w Bool.false_ne_true
 | k,.set _,w=>by cases k <;> exact absurd w Bool.false_ne_true
theorem n5:∀ (k:Nat) (vs:List Val),fk k vs=true->(∀ j,k < j->fK j vs=some (eB vs))/\PyData.canLayAll0 (eB vs)=true/\PyData.depthAll (eB vs)<=k
 | k,[],_=>⟨λj hj=>by simp [fK,eB],rfl,Nat.zero_le _⟩
 |
  k,v :: vs,w=>by
  have w':(wfV k v && fk k vs)=true:=w
  rw[Bool.and_eq_true] at w'
  obtain⟨h1,h2,h3⟩:=kR k v w'.1
  obtain⟨i1,i2,i3⟩:=n5 k vs w'.2
  exact⟨λj hj=>by simp [fK,eB,h1 j hj,i1 j hj],by simp [eB,PyData.canLayAll0,h2,i2],Nat.max_le.mpr ⟨h3,i3⟩⟩
end
mutual
theorem zW:∀ (k:Nat) (v u:Val),wfV k v=true->wfV k u=true->PyData.eqv (cK v) (cK u)=vq v u
 |
  k,v,u,hv,hu=>by
  cases v <;> first | (cases k <;> exact absurd hv Bool.false_ne_true) | skip
  all_goals (cases u <;> first | (cases k <;> exact absurd hu Bool.false_ne_true) | rfl | (cases k with | zero=>exact absurd hv Bool.false_ne_true | succ k=>exact wZ k _ _ hv hu))
theorem wZ:∀ (k:Nat) (v u:List Val),fk k v=true->fk k u=true->PyData.eqvAll (eB v) (eB u)=vqs v u
 | _,[],[],_,_=>rfl
 | _,[],_ :: _,_,_=>rfl
 | _,_ :: _,[],_,_=>rfl
 |
  k,x :: xs,y :: ys,hv,hu=>by
  have h1:(wfV k x && fk k xs)=true:=hv
  have h2:(wfV k y && fk k ys)=true:=hu
  rw[Bool.and_eq_true] at h1 h2
  show (PyData.eqv (cK x) (cK y) && PyData.eqvAll (eB xs) (eB ys))=(vq x y && vqs xs ys)
  rw[zW k x y h1.1 h2.1,wZ k xs ys h1.2 h2.2]
end
theorem DR {x y:Val} (hx:wfV 60 x=true) (hy:wfV 60 y=true):eQ x y=some (vq x y):=by
 obtain⟨h1,h2,h3⟩:=kR 60 x hx
 obtain⟨i1,i2,i3⟩:=kR 60 y hy
 unfold eQ
 rw[h1 64 (by omega),i1 64 (by omega)]
 dsimp only
 rw[if_pos ⟨gi h2 (by omega),gi i2 (by omega)⟩,zW 60 x y hx hy]
mutual
theorem qQ:∀ (k:Nat) (v:Val),wfV k v=true->vq v v=true
 |
  k,v,hv=>by
  cases v <;> first | (cases k <;> exact absurd hv Bool.false_ne_true) | rfl | exact beq_self_eq_true _ | (cases k with | zero=>exact absurd hv Bool.false_ne_true | succ k=>exact vM k _ hv)
theorem vM:∀ (k:Nat) (v:List Val),fk k v=true->vqs v v=true
 | _,[],_=>rfl
 |
  k,x :: xs,hv=>by
  have h1:(wfV k x && fk k xs)=true:=hv
  rw[Bool.and_eq_true] at h1
  show (vq x x && vqs xs xs)=true
  rw[qQ k x h1.1,vM k xs h1.2]
  rfl
end
def fV (q:Rat):Val:=.tup [.int q.num,.int q.den]
structure Bx where
 l:Rat
 t:Rat
 w:Rat
 h:Rat
structure Bx.Ok (b:Bx):Prop where
 w:0 < b.w
 h:0 < b.h
structure Bx.Sz (n:Nat) (b:Bx):Prop where
 l:L2.Sz n b.l
 t:L2.Sz n b.t
 w:L2.Sz n b.w
 h:L2.Sz n b.h
def bV (b:Bx):Val:=.tup [fV b.l,fV b.t,fV b.w,fV b.h]
theorem p6 (q:Rat) (k:Nat):wfV (k + 1) (fV q)=true:=by simp [fV,wfV,fk]
def knV:Val->Bool
 | .exc _=>false
 | v=>(tyC v).isSome
def kj:Nat->Val->Bool
 | k + 1,.tup xs=>xs.all (kj k)
 | _,v=>knV v
def mr:Val->Bool
 | .int _=>true
 | _=>false
def bg:Val->Bool
 | .tup [.int a,.int b]=>decide (1<=b) && decide (Int.gcd a b=1)
 | _=>false
def lE:Val->Bool
 | .tup (.int a :: _)=>decide (0 < a)
 | _=>false
def iD:Val->Bool
 | .tup [a,b,c,d]=>bg a && (bg b && (bg c && (bg d && (lE c && lE d))))
 | _=>false
def jS:Val->Bool
 | .int i=>decide (1<=i)
 | _=>false
def gM:Val->Bool
 | .tup _=>true
 | _=>false
theorem Mi {a b:Int} (h1:1<=b) (h2:Int.gcd a b=1):Val.tup [.int a,.int b]=fV ((a:Rat) / (b:Rat)):=by
 have hb:b ≠ 0:=by omega
 have h:=pZ (a:=a) hb
 have s:=Fr.self (by omega) h2
 unfold fV
 rw[<- h.1,<- h.2,s.1,s.2]
theorem k8 (q:Rat):bg (fV q)=true:=by
 show (decide (1<=(q.den:Int)) && decide (Int.gcd q.num q.den=1))=true
 have:=q.den_pos
 rw[decide_eq_true (by omega),decide_eq_true (xp q)];rfl
theorem Bc {d:Val} (h:bg d=true):∃ q,d=fV q:=by
 unfold bg at h
 split at h
 ·simp only[Bool.and_eq_true,decide_eq_true_eq] at h
  exact⟨_,Mi h.1 h.2⟩
 ·cases h
theorem w6 (q:Rat):lE (fV q)=decide (0 < q):=by
 show decide (0 < q.num)=decide (0 < q)
 rw[decide_eq_decide]
 exact xj
theorem Dx {b:Bx} (h:b.Ok):iD (bV b)=true:=by
 show (bg (fV b.l) && (bg (fV b.t) && (bg (fV b.w) && (bg (fV b.h) && (lE (fV b.w) && lE (fV b.h))))))=true
 rw[k8,k8,k8,k8,w6,w6,decide_eq_true h.w,decide_eq_true h.h];rfl
theorem Gn (b:Bx):kj 2 (bV b)=true:=by simp [bV,fV,kj,knV,tyC]
theorem rj {g:MG3}{F:ME3}{f:Val->Val} (P:E3->Prop):∀ (vs acc:List Val) (e:E3),P e->(∀ v ∈ vs,∀ e,P e->∃ e1 t e2,g v e=some e1/\F e1=.ok t e2/\df e2 t=some (e2,f v)/\P e2)->acc.length + vs.length<=16777216->∃ e',P e'/\lcV g cY F vs acc e=.ok (acc++vs.map f) e'
 | [],acc,e,hp,_,_=>⟨e,hp,by simp [lcV]⟩
 |
  v :: vs,acc,e,hp,hf,hl=>by
  obtain⟨e1,t,e2,q1,q2,q3,q4⟩:=hf v (List.mem_cons_self ..) e hp
  obtain⟨e',p',q5⟩:=rj P vs (acc++[f v]) e2 q4 (λu hu=>hf u (List.mem_cons_of_mem _ hu)) (by simp at hl ⊢;omega)
  refine⟨e',p',?_⟩
  unfold lcV
  rw[if_pos (by simp at hl;omega),q1]
  simp only[cY,jg,if_true,q2,q3,q5]
  simp
end L3
namespace L3
open PySem PySem.Spec PyProof.Rows L2
def rgV (k:Nat):List Val:=(List.range k).map λj=>Val.int (j:Nat)
theorem FX {k:Nat} (h:k < 1000000):kr [.int (k:Nat)]=some (rgV k):=by
 simp only[kr]
 rw[if_pos (⟨by omega,by omega⟩:RgB _),Int.toNat_natCast]
 unfold qI rgV
 simp only[Int.zero_add]
theorem qr {i:Int} (h0:0<=i) (h:i < 1000000):kr [.int i]=some (rgV i.toNat):=by
 have:=FX (k:=i.toNat) (by omega)
 rwa [show ((i.toNat:Nat):Int)=i from by omega] at this
theorem mI {g:MG3}{B:MS3}{α σ:Type} (f:α->Val) (st:σ->α->σ) (P:σ->E3->Prop):∀ (l:List α) (s:σ) (e:E3),P s e->(∀ a ∈ l,∀ s e,P s e->∃ e1 e2,g (f a) e=some e1/\(B e1=.nx e2\/B e1=.ct e2)/\P (st s a) e2)->∃ e',P (l.foldl st s) e'/\fE g B (l.map f) e=.nx e'
 | [],s,e,hp,_=>⟨e,hp,rfl⟩
 |
  a :: l,s,e,hp,hf=>by
  obtain⟨e1,e2,q1,q2,q3⟩:=hf a (List.mem_cons_self ..) s e hp
  obtain⟨e',p',q4⟩:=mI f st P l (st s a) e2 q3 λu hu=>hf u (List.mem_cons_of_mem _ hu)
  refine⟨e',p',?_⟩
  rw[List.map_cons,bK,q1]
  rcases q2 with q2 | q2 <;> simp only[q2,jO,DB,q4]
theorem eF {g:MG3}{F:ME3}{α:Type} (fv fw:α->Val) (P:E3->Prop):∀ (l:List α) (acc:List Val) (e:E3),P e->(∀ a ∈ l,∀ e,P e->∃ e1 t e2,g (fv a) e=some e1/\F e1=.ok t e2/\df e2 t=some (e2,fw a)/\P e2)->acc.length + l.length<=16777216->∃ e',P e'/\lcV g qY.G F (l.map fv) acc e=.ok (acc++l.map fw) e'
 | [],acc,e,hp,_,_=>⟨e,hp,by simp [lcV]⟩
 |
  v :: vs,acc,e,hp,hf,hl=>by
  obtain⟨e1,t,e2,q1,q2,q3,q4⟩:=hf v (List.mem_cons_self ..) e hp
  obtain⟨e',p',q5⟩:=eF fv fw P vs (acc++[fw v]) e2 q4 (λu hu=>hf u (List.mem_cons_of_mem _ hu)) (by simp at hl ⊢;omega)
  refine⟨e',p',?_⟩
  rw[List.map_cons]
  unfold lcV
  have cy:qY.G=cY:=rfl
  rw[cy] at q5 ⊢
  rw[if_pos (by simp at hl;omega),q1]
  simp only[cY,jg,if_true,q2,q3,q5]
  simp
theorem Jz (v:Val):inS (.mu v)=.mu v:=rfl
theorem GP (v:Val):inS (.sh v)=.sh v:=rfl
theorem oo (k:Nat):∀ xs:List Val,fk k xs=xs.all (wfV k)
 | []=>by simp [fk]
 | x :: xs=>by simp [fk,oo k xs]
theorem Ek (i:Nat) (v:Val) (e:E3):iA (some i) (.sh v) e=e:=rfl
def CA (ms:List Bool) (r:SR3):R3F:=match r with
 | .nx e=>(match muV ms e with | some mv=>.ok (.val .non) mv | none=>.stuck)
 | .rt r e=>(match muV ms e with | some mv=>.ok r mv | none=>.stuck)
 | .exc c e=>(match muV ms e with | some mv=>.exc c mv | none=>.stuck)
 | _=>.stuck
theorem Mr {ms:List Bool}{N:Nat}{c:PSt}{vs:List Val} (h:vs.length=ms.length):(fnP ms N c).G vs=CA ms (c.G (sls ms vs++List.replicate (N - vs.length) .no)):=by
 rw[bc,if_pos h];rfl
theorem Kw (ms:List Bool) (r:Rt) (e:E3):CA ms (.rt r e)=match muV ms e with | some mv=>.ok r mv | none=>.stuck:=rfl
theorem gB {Q:SR3->Prop} (I:E3->Prop) {a b:PSt}{e:E3} (h1:∃ e1,a.G e=.nx e1/\I e1) (h2:∀ e1,I e1->Q (b.G e1)):Q ((aB a b).G e):=by
 obtain⟨e1,q,i⟩:=h1
 rw[Ee,q]
 exact h2 e1 i
theorem sm8 {m:Int} (h:m.natAbs < 1099511627776):Sm 8000 m:=Nat.lt_of_lt_of_le (show m.natAbs < 2 ^ 40 from h) (Nat.pow_le_pow_right (by decide) (by decide))
theorem rC {m:Int} (h:0 < m):(0:Rat) < (m:Rat):=Rat.intCast_pos.mpr h
theorem nW {a b:Int} (h1:0 < a) (h2:0 < b):(0:Rat) < (a:Rat) / (b:Rat):=by
 rw[Rat.div_def]
 exact Rat.mul_pos (rC h1) (Rat.inv_pos.mpr (rC h2))
structure Good (b:Bx):Prop where
 ok:b.Ok
 sz:b.Sz 101
end L3
namespace L3
open PySem PySem.Spec PyProof.Rows L2
section
variable {K:W.Frag}{mg:Str->Option Value}{X:Cx}{ES:L2.St->XK}{e:Expr}{es:List Expr}{A:PAs}{pos:Pos}
end
theorem JN (xs ys:List Val):bQ.G (.lst xs) (.lst ys)=if xs.length + ys.length<=16777216 then .new (.lst (xs++ys)) else .stuck:=rfl
end L3
namespace L3
open PySem PySem.Spec PyProof.Rows L2
section
variable {K:W.Frag}{mg:Str->Option Value}{X:Cx}{ES:L2.St->XK}{e a b c o lo hi:Expr}{p q r:PEx}{pos p1 p2:Pos}
end
theorem ar1 {α:Type}{P:List α->Prop} (h:∀ a,P [a]):∀ us:List α,us.length=1->P us
 | [a],_=>h a
theorem ar2 {α:Type}{P:List α->Prop} (h:∀ a b,P [a,b]):∀ us:List α,us.length=2->P us
 | [a,b],_=>h a b
theorem ar3 {α:Type}{P:List α->Prop} (h:∀ a b c,P [a,b,c]):∀ us:List α,us.length=3->P us
 | [a,b,c],_=>h a b c
theorem ar4 {α:Type}{P:List α->Prop} (h:∀ a b c d,P [a,b,c,d]):∀ us:List α,us.length=4->P us
 | [a,b,c,d],_=>h a b c d
end L3
namespace L3
open PySem PySem.Spec PyProof.Rows L2
section
variable {P:Nat->Prop}{h:AH}
theorem LW {k:Key}{v:Val}{ws:List (Key×D)}{us:List (Key×Val)} (r:Rk P h ws us):lkD us k=some v->∃ d,lkD ws k=some d/\Rd P h d v:=
 r.ind (M:=λws us=>lkD us k=some v->∃ d,lkD ws k=some d/\Rd P h d v) (λq=>by cases q) (λ{k2 d v2 ds vs} r _ ih q=>by
  unfold lkD at q ih ⊢
  rw[List.find?_cons] at q ⊢
  dsimp only at q ⊢
  by_cases hk:k2=k
  ·rw[decide_eq_true hk] at q ⊢
   cases q
   exact⟨d,rfl,r⟩
  ·rw[decide_eq_false hk] at q ⊢
   exact ih q)
theorem E8 {ws:List (Key×D)}{us:List (Key×Val)} (r:Rk P h ws us):us.map (·.1)=ws.map (·.1):=
 r.ind (M:=λws us=>us.map (·.1)=ws.map (·.1)) rfl λ_ _ ih=>by rw[List.map_cons,List.map_cons,ih]
theorem Kf {ws:List (Key×D)}{us:List (Key×Val)} (r:Rk P h ws us):ws.length=us.length:=
 r.ind (M:=λws us=>ws.length=us.length) rfl λ_ _ ih=>congrArg (· + 1) ih
theorem HE {ws ws':List (Key×D)}{us us':List (Key×Val)} (r:Rk P h ws us) (q:Rk P h ws' us'):Rk P h (ws++ws') (us++us'):=
 r.ind (M:=λws us=>Rk P h (ws++ws') (us++us')) q λr _ ih=>.cons r ih
theorem J6 {k:Key}{d:D}{v:Val} (rd:Rd P h d v) {ws:List (Key×D)}{us:List (Key×Val)} (r:Rk P h ws us):Rk P h (mi ws k d) (mi us k v):=by
 unfold mi
 rw[tN (E8 r)]
 by_cases hc:(ws.any λkv=>decide (kv.1=k))=true
 ·rw[if_pos hc,if_pos hc]
  exact r.ind (M:=λws us=>Rk P h (ws.map λkv=>if kv.1=k then (kv.1,d) else kv) (us.map λkv=>if kv.1=k then (kv.1,v) else kv)) .nil (λ{k2 d2 v2 ds vs} r _ ih=>by
   rw[List.map_cons,List.map_cons]
   dsimp only
   by_cases hk:k2=k
   ·rw[if_pos hk,if_pos hk];exact .cons rd ih
   ·rw[if_neg hk,if_neg hk];exact .cons r ih)
 ·rw[if_neg hc,if_neg hc]
  exact HE r (.cons rd .nil)
theorem Ig:∀ {ks:List Key}{ds:List D}{vs:List Val},Rds P h ds vs->Rk P h (ks.zip ds) (ks.zip vs):=by
 intro ks
 induction ks with
 | nil=>intro ds vs _;exact .nil
 |
  cons k ks ih=>
  intro ds vs r
  cases r with
  | nil=>exact .nil
  | cons r rr=>exact .cons r (ih rr)
end
def CO:Val->Val->Bv:=λx y=>match x with
 | .dct kvs=>(match y with
  | .str k=>(match lkD kvs (.inr k) with
   | some v=>.val v
   | none=>.stuck)
  | _=>.stuck)
 | _=>.stuck
theorem JX:RO ua CO:=λP h d1 d2 v1 v2 r1 r2=>by
 unfold CO
 split
 ·rename_i kvs
  split
  ·rename_i k
   split
   ·rename_i v q
    obtain⟨n,ws,rfl,e,rk⟩:=r1.dct
    obtain rfl:=r2.str
    obtain⟨d,q1,rd⟩:=LW rk q
    refine⟨d,?_,rd⟩
    unfold ua
    dsimp only
    rw[e]
    dsimp only
    rw[q1]
   ·trivial
  ·trivial
 ·trivial
def iX:PO2:=⟨ua,CO,JX⟩
def sD:Val->Val->Val->Option Val:=λo i v=>match o with
 | .dct kvs=>(match i with
  | .str k=>if kvs.length < 16777216 then some (.dct (mi kvs (.inr k) v)) else none
  | _=>none)
 | _=>none
theorem HF:BC wD sD:=λP h n o u di vi d v u' np e hf r ri rd q=>by
 unfold sD at q
 split at q
 ·rename_i kvs
  split at q
  ·rename_i k
   split at q
   ·rename_i hl
    cases q
    obtain rfl:=ri.str
    cases r with
    |
     dct rk=>
     rename_i ws
     refine⟨.dct (mi ws (.inr k) d),?_,trivial,.dct (J6 rd rk)⟩
     unfold wD
     dsimp only
     rw[e]
     dsimp only
     rw[if_pos (by rw[Kf rk];exact hl)]
   ·cases q
  ·cases q
 ·cases q
def seD:PSe:=⟨wD,sD,HF⟩
def x8 (ks:List Str) (A:MA3):ME3:=λe=>(A e).bind λts e1=>match dem e1 ts with
 | some (e2,vs)=>if ks.length=vs.length then .ok (.new (.dct ((ks.map Sum.inr).zip vs))) e2 else .stuck
 | none=>.stuck
theorem Gh {A:MA}{A3:MA3} (ks:List Str) (hA:RA A A3):RE (pB ks A) (x8 ks A3):=λX h0 L ns e ae h S hl=>by
 have SG:=S.grow (.dct [])
 have p:=hA (Xn X h.length) h0 ns e ae (h++[.dct []]) SG
 unfold x8 pB
 cases q:A3 e with
 | stuck=>trivial
 |
  exc c e'=>
  rw[q] at p
  obtain⟨h',ns',y,a,S'⟩:=p
  exact⟨h',ns',by rw[y];rfl,(Stp.grow _).trans S a,S'.weak λn z=>.inl z⟩
 |
  ok ts e1=>
  rw[q] at p
  obtain⟨ds,h1,ns1,y,a1,S1,r1⟩:=p
  rw[y]
  show Po X h0 ns e ae h (relE X h0 L ae) _ (match dem e1 ts with
   | some (e2,vs)=>if ks.length=vs.length then .ok (.new (.dct ((ks.map Sum.inr).zip vs))) e2 else .stuck
   | none=>.stuck)
  cases qd:dem e1 ts with
  | none=>trivial
  |
   some w=>
   obtain⟨e2,vs⟩:=w
   dsimp only
   by_cases db:ks.length=vs.length
   ·rw[if_pos db]
    obtain⟨j_,S2,a2,r2⟩:=kK S1 r1 qd
    have hk:h1[h.length]?=some (.dct []):=a1.keep _ _ xS λ⟨i,s,z,_⟩=>SG.nx i _ z (.inr rfl)
    have A:=((Stp.grow (.dct [])).trans S a1).trans S a2
    have hlt:=dA hk
    have mv:Mov (Oc (Xn X h.length) j_) (Oc (Xn X h.length) j_) h1 (h1.set h.length (.dct ((ks.map Sum.inr).zip ds))):=λm o p q=>⟨p,by
     have:m ≠ h.length:=λz=>p.1 (.inr z)
     rw[bZ this];exact q⟩
    have S3:Sat (Xn X h.length) h0 j_ e2 ae (h1.set h.length (.dct ((ks.map Sum.inr).zip ds))):=⟨S2.l1,S2.l2,by rw[List.length_set];exact S2.lh,λm z=>by rw[List.length_set];exact S2.xl m z,S2.inj,S2.nx,λj s qj=>(S2.sl j s qj).mono mv λm o qm qo=>by
     have:m ≠ h.length:=λz=>S2.nx j m qm (.inr z)
     rw[bZ this];exact qo⟩
    have A3':Stp ns e h j_ e2 (h1.set h.length (.dct ((ks.map Sum.inr).zip ds))):=⟨by rw[List.length_set];exact A.len,λm o qm hm=>by
     have:m ≠ h.length:=Nat.ne_of_lt (dA qm)
     rw[bZ this];exact A.keep m o qm hm,A.nw,A.lk,A.lk',A.mu,A.mu'⟩
    refine⟨.ref h.length,_,j_,?_,A3',S3.weak λn z=>.inl z,h.length,_,rfl,hl,λz=>Nat.lt_irrefl _ (S.xl _ z),cI hlt,trivial,S3,.dct ((Ig r2).mono mv)⟩
    show (match h1[h.length]? with
     | some (.dct [])=>if ks.length=ds.length then R.ok (D.ref h.length) (h1.set h.length (.dct ((ks.map Sum.inr).zip ds))) else .stuck
     | _=>.stuck)=_
    rw[hk]
    dsimp only
    rw[if_pos (by rw[r2.len];exact db)]
   ·rw[if_neg db]
    trivial
def zm (ks:List Str) (a:PAs):PEx:=⟨pB ks a.F,x8 ks a.G,Gh ks a.ok⟩
theorem zT (e:E3) (ks:List Str) (a:PAs):(zm ks a).G e=(a.G e).bind λts e1=>match dem e1 ts with
 | some (e2,vs)=>if ks.length=vs.length then .ok (.new (.dct ((ks.map Sum.inr).zip vs))) e2 else .stuck
 | none=>.stuck:=rfl
section
variable {K:W.Frag}{mg:Str->Option Value}{X:Cx}{ES:L2.St->XK}{a b:Expr}{p q:PEx}{pos:Pos}
theorem gm (hu:X.A.units + 1 < cLine) (ha:DE K mg X ES a p.F) (hb:DE K mg X ES b q.F) (hs:yW b):DE K mg X ES (.Subscript a b pos) (pOp iX p q).F:=Fc hu ha hb hs
theorem EH {keys:List (Option Expr)}{values:List Expr}{prs:List (Str×ME)}{ks:List Str}{A:PAs} (hp:PPs X pos keys values (tps K mg ES prs)) (h1:ks=prs.map (·.1):=by rfl) (h2:A.F=aL prs:=by rfl) (hn:ks.Nodup:=by decide) (hall:keys.all (·.isSome)=true:=by rfl) (hl:keys.length=values.length:=by rfl) (h0:keys ≠ []:=by intro h;cases h) (h15:keys.length<=15:=by decide) (hp15:prs.length<=15:=by decide):DE K mg X ES (.Dict keys values pos) (zm ks A).F:=by
 subst h1
 show DE K mg X ES (.Dict keys values pos) (pB (prs.map (·.1)) A.F)
 rw[h2]
 exact F1 hp hall hl h0 h15 hn hp15
end
def CJ:List Val->Bv:=λvs=>match vs with
 | [.lst xs]=>(match iu xs with
  | some bs=>.val (.bl (bs.any id))
  | none=>.stuck)
 | _=>.stuck
theorem JI:RFn tR CJ:=λP h ds vs r=>by
 unfold CJ
 split
 ·obtain⟨d,hd,rr1⟩:=jR r;subst hd;clear r;have r:=rr1
  obtain⟨n,es,rfl,_,e1,q⟩:=r.lst
  split
  ·rename_i bs e2
   exact⟨_,by unfold tR;dsimp only;rw[e1];show (match iG es with | some bs=>_ | none=>_)=_;rw[DV q e2],.bl _⟩
  ·trivial
 ·trivial
def tK:PBf:=⟨tR,CJ,JI⟩
theorem KR (xs:List Val):tK.G [.lst xs]=match iu xs with
 | some bs=>.val (.bl (bs.any id))
 | none=>.stuck:=rfl
theorem AV {K:W.Frag}{mg:Str->Option Value}:cW K mg (λxs H Q=>∃ (a:Addr) (bs:List Bool),xs=[.ref a]/\SqL K H a (bs.map V.bl)/\Q (.bl (bs.any id)) H) tK.F:=Ja
end L3
namespace L3
open PySem L2
theorem sk {g:MG3}{B:MS3} (P:Nat->E3->Prop) (m:Nat) (hs:∀ i,i < m->∀ e,P i e->∃ e1 e2,g (.int (i:Nat)) e=some e1/\(B e1=.nx e2\/B e1=.ct e2)/\P (i + 1) e2):∀ (k i:Nat) (e:E3),i + k=m->P i e->∃ e',P m e'/\fE g B ((List.range' i k).map λj=>Val.int (j:Nat)) e=.nx e'
 |
  0,i,e,h,p=>by
  obtain rfl:i=m:=by omega
  exact⟨e,p,rfl⟩
 |
  k + 1,i,e,h,p=>by
  obtain⟨e1,e2,q1,q2,q3⟩:=hs i (by omega) e p
  obtain⟨e',p',q4⟩:=sk P m hs k (i + 1) e2 (by omega) q3
  refine⟨e',p',?_⟩
  rw[List.range'_succ,List.map_cons,bK,q1]
  rcases q2 with q2 | q2
  ·simp only[q2,jO];exact q4
  ·simp only[q2,DB];exact q4
theorem BG {g:MG3}{B:MS3} (P:Nat->E3->Prop) (m:Nat) {e:E3} (h0:P 0 e) (hs:∀ i,i < m->∀ e,P i e->∃ e1 e2,g (.int (i:Nat)) e=some e1/\(B e1=.nx e2\/B e1=.ct e2)/\P (i + 1) e2):∃ e',P m e'/\fE g B (rgV m) e=.nx e':=by
 have:=sk P m hs m 0 e (by omega) h0
 rw[<- List.range_eq_range'] at this
 exact this
theorem uj (xs:List Val) (n:Nat):gA xs none (some (n:Int))=xs.take n:=by
 unfold gA
 rw[HT.sIx_none,HT.sIx_nat,List.drop_zero,Nat.sub_zero]
 by_cases h:n<=xs.length
 ·rw[Nat.min_eq_left h]
 ·rw[Nat.min_eq_right (by omega),List.take_of_length_le (Nat.le_refl _),List.take_of_length_le (by omega)]
theorem tW (xs:List Val) (n:Nat):gA xs (some (n:Int)) none=xs.drop n:=by
 unfold gA
 rw[HT.sIx_none,HT.sIx_nat]
 by_cases h:n<=xs.length
 ·rw[Nat.min_eq_left h,List.take_of_length_le (by rw[List.length_drop];exact Nat.le_refl _)]
 ·rw[Nat.min_eq_right (by omega),List.drop_of_length_le (Nat.le_refl _),List.drop_of_length_le (by omega),List.take_nil]
theorem xh (xs:List Val):gA xs none (some (-1))=xs.dropLast:=by
 unfold gA
 rw[HT.sIx_none,List.drop_zero,Nat.sub_zero,List.dropLast_eq_take]
 show xs.take (if (-1:Int) < 0 then ((-1:Int) + (xs.length:Int)).toNat else min (-1:Int).toNat xs.length)=_
 rw[if_pos (by decide)]
 congr 1
 omega
theorem kL (xs:List Val) (lo hi:Option Int):aSl (.lst xs) lo hi=.new (.lst (gA xs lo hi)):=rfl
theorem L9 (xs:List Val) (lo hi:Option Int):aSl (.kl xs) lo hi=.new (.lst (gA xs lo hi)):=rfl
end L3
namespace L3
open PySem PySem.Spec PyProof.Rows L2
def pU (n:Nat) (u:kX):MG3:=λv e=>match v with
 | .tup vs=>if vs.length=n then u vs e else none
 | .lst vs=>if vs.length=n then u vs e else none
 | _=>none
section
variable {gs:MGs}{gs3:kX}
theorem rg_u (n:Nat) (hs:RGs gs gs3):RG (gU λds ae h=>if ds.length=n then gs ds ae h else .stuck) (pU n gs3):=λX h0 ns e ae h d v e' S r q=>by
 unfold pU at q
 split at q
 ·split at q
  ·rename_i hn
   obtain⟨ds,rfl,r2⟩:=ShR.tup (.inl r)
   obtain⟨k_,ns1,p1,S1,a1⟩:=hs _ _ _ _ _ _ _ _ _ S r2 q
   refine⟨k_,ns1,?_,S1,a1⟩
   unfold gU;dsimp only;rw[if_pos (by rw[r2.len];exact hn)];exact p1
  ·cases q
 ·split at q
  ·rename_i hn
   obtain⟨m,ds,rfl,_,eq,r2⟩:=ShR.lst (.inl r)
   obtain⟨k_,ns1,p1,S1,a1⟩:=hs _ _ _ _ _ _ _ _ _ S r2 q
   refine⟨k_,ns1,?_,S1,a1⟩
   unfold gU;dsimp only;rw[eq];dsimp only;rw[if_pos (by rw[r2.len];exact hn)];exact p1
  ·cases q
 ·cases q
end
def gtU (n:Nat) (a:PGs):PGt:=⟨gU λds ae h=>if ds.length=n then a.F ds ae h else .stuck,pU n a.G,rg_u n a.ok⟩
section
variable {e:E3}
theorem g_u (n:Nat) (a:PGs) (vs:List Val):(gtU n a).G (.tup vs) e=if vs.length=n then a.G vs e else none:=rfl
theorem g_uL (n:Nat) (a:PGs) (vs:List Val):(gtU n a).G (.lst vs) e=if vs.length=n then a.G vs e else none:=rfl
end
section
variable {K:W.Frag}{mg:Str->Option Value}{X:Cx}{es:List Expr}{gs:PGs}{pos:Pos}
theorem pA {k n:Nat} (hK:X.K=K) (hc:X.calm=true) (h:DGs K mg X (λ_=>E0) es gs.F) (hn:(assignEach es X.env).length=n:=by rfl) (hst:(assignEach es X.env).findIdx? (·.1)=none:=by rfl):DG K mg X (λ_=>E0) (.Tuple es k pos) (gtU n gs).F:=GN hK hc h hn hst
end
end L3
namespace L3
open PySem PySem.Spec PyProof.Rows L2
def CL:List Val->Bv:=λvs=>match vs with
 | [.int j]=>if -(2 ^ 62)<=j/\j<=16777216 then .new (.lst (rgV j.toNat)) else .stuck
 | _=>.stuck
theorem Gz:RFn rE CL:=λP h ds vs r=>by
 unfold CL
 split
 ·obtain⟨d,hd,rr1⟩:=jR r;subst hd
  split
  ·rename_i j hb
   have e:=rr1.int
   subst e
   refine⟨.lst (BL j),by unfold rE;dsimp only;rw[if_pos hb],trivial,.lst ?_⟩
   unfold BL rgV
   generalize List.range j.toNat=l
   induction l with
   | nil=>exact .nil
   | cons i l ih=>exact .cons (.int _) ih
  ·trivial
 ·trivial
def lX:PBf:=⟨rE,CL,Gz⟩
theorem D9 {j:Int} (h:-(2 ^ 62)<=j/\j<=16777216):lX.G [.int j]=.new (.lst (rgV j.toNat)):=if_pos h
section
variable {K:W.Frag}{mg:Str->Option Value}{X:Cx}{ES:L2.St->XK}{a:Expr}{A:PAs}{pos q2 p1 p2:Pos}
theorem vK (hc:X.calm=true) (hl:Gl X "list") (hml:mg "list" = none) (hg:Gl X "range") (hm:mg "range" = none) (ha:DA K mg X ES [a] A.F) (hk:X.mg=mg:=by rfl) (hs:starEach [a] X.env=[(false,eval a X.env)]:=by rfl)
 (hs1:starEach [.Call (.Name "range" p2) [a] [] q2] X.env=[(false,eval (.Call (.Name "range" p2) [a] [] q2) X.env)]:=by rfl):
 DE K mg X ES (.Call (.Name "list" p1) [.Call (.Name "range" p2) [a] [] q2] [] pos) (pFn lX A).F:=IV hc hl hml hg hm ha hk hs hs1
end
end L3
namespace L3
open PySem PySem.Spec PyProof.Rows L2
def vf (jp:Bool) (n:Str) (kvs:List (Str×Int)):Val->Val->Bv:=λx y=>match x,y with
 | .str k,.glb m=>if m=n then .val (.bl (jp ^^ (lkS kvs k).isSome)) else .stuck
 | _,_=>.stuck
def pI (n:Str) (kvs:List (Str×Int)):Val->Val->Bv:=λx y=>match x,y with
 | .glb m,.str k=>(match lkS kvs k with
  | some i=>if m=n then .val (.int i) else .stuck
  | none=>.stuck)
 | _,_=>.stuck
theorem G0 (jp:Bool) (n:Str) (kvs:List (Str×Int)):RO (vw jp n kvs) (vf jp n kvs):=λP h d1 d2 v1 v2 r1 r2=>by
 unfold vf
 split
 ·split
  ·rename_i hm
   obtain rfl:=r1.str;obtain rfl:=r2.glb
   exact⟨_,by unfold vw;dsimp only;rw[if_pos hm],.bl _⟩
  ·trivial
 ·trivial
theorem EM (n:Str) (kvs:List (Str×Int)):RO (o9 n kvs) (pI n kvs):=λP h d1 d2 v1 v2 r1 r2=>by
 unfold pI
 split
 ·split
  ·rename_i i e
   split
   ·rename_i hm
    obtain rfl:=r1.glb;obtain rfl:=r2.str
    exact⟨_,by unfold o9;dsimp only;rw[e];dsimp only;rw[if_pos hm],.int _⟩
   ·trivial
  ·trivial
 ·trivial
def zf (n:Str) (kvs:List (Str×Int)):PO2:=⟨vw true n kvs,vf true n kvs,G0 true n kvs⟩
def tH (n:Str) (kvs:List (Str×Int)):PO2:=⟨o9 n kvs,pI n kvs,EM n kvs⟩
theorem JD (n:Str) (kvs:List (Str×Int)) (k:Str):(zf n kvs).G (.str k) (.glb n)=.val (.bl (!(lkS kvs k).isSome)):=by
 show vf true n kvs (.str k) (.glb n)=_
 unfold vf
 dsimp only
 rw[if_pos rfl]
 cases (lkS kvs k).isSome <;> rfl
theorem Iu {n:Str}{kvs:List (Str×Int)}{k:Str}{i:Int} (h:lkS kvs k=some i):(tH n kvs).G (.glb n) (.str k)=.val (.int i):=by
 show pI n kvs (.glb n) (.str k)=_
 unfold pI
 dsimp only
 rw[h]
 dsimp only
 rw[if_pos rfl]
section
variable {K:W.Frag}{mg:Str->Option Value}{n:Str}{kvs:List (Str×Int)}
theorem F7:OpD K mg (Dk true mg n kvs) (zf n kvs).F:=F2 true
theorem FA:OpD K mg (yz mg n kvs) (tH n kvs).F:=Dz
end
end L3
namespace L3
open PySem L2
theorem qA {g:MG3}{c:MT3}{F:ME3}{α:Type} (pz:α->Bool) (fv fw:α->Val) (P:E3->Prop):∀ (l:List α) (acc:List Val) (e:E3),P e->(∀ a ∈ l,∀ e,P e->∃ e1 e2,g (fv a) e=some e1/\c e1=.ok (pz a) e2/\P e2/\(pz a=true->∃ t e3,F e2=.ok t e3/\df e3 t=some (e3,fw a)/\P e3))->acc.length + l.length<=16777216->∃ e',P e'/\lcV g c F (l.map fv) acc e=.ok (acc++(l.filter pz).map fw) e'
 | [],acc,e,hp,_,_=>⟨e,hp,by simp [lcV]⟩
 |
  a :: l,acc,e,hp,hf,hl=>by
  obtain⟨e1,e2,q1,q2,q3,q4⟩:=hf a (List.mem_cons_self ..) e hp
  rw[List.length_cons] at hl
  cases hz:pz a with
  |
   false=>
   obtain⟨e',p',q⟩:=qA pz fv fw P l acc e2 q3 (λu hu=>hf u (List.mem_cons_of_mem _ hu)) (by omega)
   refine⟨e',p',?_⟩
   rw[hz] at q2
   rw[List.map_cons]
   unfold lcV
   rw[if_pos (by omega),q1]
   simp only[q2,jg,Bool.false_eq_true,if_false,q]
   rw[List.filter_cons_of_neg (by rw[hz];exact Bool.false_ne_true)]
  |
   true=>
   obtain⟨t,e3,r1,r2,r3⟩:=q4 hz
   obtain⟨e',p',q⟩:=qA pz fv fw P l (acc++[fw a]) e3 r3 (λu hu=>hf u (List.mem_cons_of_mem _ hu)) (by simp;omega)
   refine⟨e',p',?_⟩
   rw[hz] at q2
   rw[List.map_cons]
   unfold lcV
   rw[if_pos (by omega),q1]
   simp only[q2,jg,if_true,r1,r2,q]
   rw[List.filter_cons_of_pos hz,List.map_cons,List.append_assoc]
   rfl
theorem zh (xs:List Int):(xs.map Val.int).all pW=true:=by
 rw[List.all_map,List.all_eq_true]
 intro x _
 rfl
theorem BY (xs:List Int) (a:Int):((xs.map Val.int).any λd=>eq1 d (.int a))=xs.contains a:=by
 induction xs with
 | nil=>rfl
 |
  cons x xs ih=>
  rw[List.map_cons,List.any_cons,ih,List.contains_cons]
  congr 1
  show (x == a)=(a == x)
  rw[Bool.eq_iff_iff,beq_iff_eq,beq_iff_eq]
  exact⟨Eq.symm,Eq.symm⟩
theorem zV (xs:List Int) (a:Int):lF.G (.int a) (.lst (xs.map .int))=.val (.bl (!xs.contains a)):=by
 show aIn true (.int a) (.lst (xs.map .int))=_
 unfold aIn
 dsimp only [Val.items]
 rw[if_pos ⟨rfl,zh xs⟩,BY]
 rfl
end L3
namespace L3
open PySem PySem.Spec PyProof.Rows L2
def tF (x y:Val):Option Bool:=match dI 64 x,dI 64 y with
 | some d,some (.list ds)=>if SeqAt.shaped d=true/\SeqAt.shaped (.list ds)=true/\(ds.all λe=>SeqAt.noMix e d)=true then some (decide (Spec.countIn d ds ≠ 0)) else none
 | _,_=>none
def uh (jp:Bool):Val->Val->Bv:=λx y=>match tF x y with
 | some b=>.val (.bl (jp ^^ b))
 | none=>.stuck
theorem JP (jp:Bool):RO (uI jp) (uh jp):=λP h d1 d2 v1 v2 r1 r2=>by
 unfold uh
 split
 ·rename_i b q
  refine⟨_,?_,.bl _⟩
  unfold uI
  have:tq h d1 d2=some b:=by
   unfold tF at q
   split at q
   ·rename_i d ds e1 e2
    unfold tq
    rw[kB 64 _ _ _ r1 e1,kB 64 _ _ _ r2 e2]
    exact q
   ·cases q
  rw[this]
 ·trivial
def yX:PO2:=⟨uI true,uh true,JP true⟩
theorem sf {α:Type} (f:α->Val):∀ l:List α,eB (l.map f)=l.map λa=>cK (f a)
 | []=>rfl
 | a :: l=>by rw[List.map_cons,List.map_cons,<- sf f l];rfl
theorem IC (qs:List Rat) (k:Nat):wfV (k + 2) (.lst (qs.map fV))=true:=by
 show fk (k + 1) _=true
 rw[oo,List.all_eq_true]
 intro v hv
 obtain⟨q,_,rfl⟩:=List.mem_map.mp hv
 exact p6 q k
theorem uR (q:Rat):∀ qs:List Rat,0<=Spec.countIn (cK (fV q)) (qs.map λp=>cK (fV p))/\(q ∈ qs->0 < Spec.countIn (cK (fV q)) (qs.map λp=>cK (fV p)))
 | []=>⟨Int.le_refl 0,λz=>nomatch z⟩
 |
  p :: qs=>by
  obtain⟨h1,h2⟩:=uR q qs
  have e:Spec.countIn (cK (fV q)) ((p :: qs).map λp=>cK (fV p))=(if Spec.same (cK (fV p)) (cK (fV q))=true then 1 else 0) + Spec.countIn (cK (fV q)) (qs.map λp=>cK (fV p)):=rfl
  rw[e]
  refine⟨by split <;> omega,λz=>?_⟩
  rcases List.mem_cons.mp z with rfl | z
  ·have:Spec.same (cK (fV q)) (cK (fV q))=true:=by
    show (q.num == q.num && ((q.den:Int) == (q.den:Int) && true))=true
    rw[beq_self_eq_true,beq_self_eq_true]
    rfl
   rw[if_pos this]
   omega
  ·have:=h2 z
   split <;> omega
theorem B8 {q:Rat}{qs:List Rat} (h:q ∈ qs):yX.G (fV q) (.lst (qs.map fV))=.val (.bl false):=by
 show uh true (fV q) (.lst (qs.map fV))=_
 obtain⟨h1,h2,h3⟩:=kR 60 (fV q) (p6 q 59)
 obtain⟨i1,i2,i3⟩:=kR 60 (.lst (qs.map fV)) (IC qs 58)
 have e:cK (.lst (qs.map fV))=.list (qs.map λp=>cK (fV p)):=by
  show PyData.list (eB (qs.map fV))=_
  rw[sf]
 have c:=(uR q qs).2 h
 have hv:tF (fV q) (.lst (qs.map fV))=some true:=by
  unfold tF
  rw[h1 64 (by omega),i1 64 (by omega)]
  rw[e] at i2 i3 ⊢
  dsimp only
  rw[if_pos ⟨gi h2 (by omega),gi i2 (by omega),by
   rw[List.all_map,List.all_eq_true]
   intro p _
   rfl⟩]
  congr 1
  exact decide_eq_true (by omega)
 unfold uh
 rw[hv]
 rfl
section
variable {K:W.Frag}{mg:Str->Option Value}
theorem Fo:OpD K mg (C0 true K) yX.F:=Eo true
end
end L3
namespace L3
open PySem L2
def dC (b:Bx):Rat:=if b.w < b.h then b.h / b.w else b.w / b.h
def shL (s l:Rat) (W:Int):Int->List Int->List (Rat×Rat)
 | _,[]=>[]
 | a,w :: ws=>(s + l * ((a:Rat) / (W:Rat)),l * ((w:Rat) / (W:Rat))) :: shL s l W (a + w) ws
theorem rR (s l:Rat) (W:Int):∀ (ws:List Int) (a:Int),(shL s l W a ws).length=ws.length
 | [],_=>rfl
 | w :: ws,a=>by unfold shL;rw[List.length_cons,List.length_cons,rR s l W ws (a + w)]
def gR (b:Bx) (way:Str) (ws:List Int):List Bx:=if way = "across" then (shL b.l b.w ws.sum 0 ws).map λp=>⟨p.1,b.t,p.2,b.h⟩ else (shL b.t b.h ws.sum 0 ws).map λp=>⟨b.l,p.1,b.w,p.2⟩
theorem jM:∀ {l:List Int},(∀ w ∈ l,1<=w)->(l.length:Int)<=l.sum
 | [],_=>by simp
 |
  x :: l,h=>by
  rw[List.sum_cons,List.length_cons]
  have:=h x (List.mem_cons_self ..)
  have:=jM (l:=l) λw hw=>h w (List.mem_cons_of_mem _ hw)
  omega
theorem xI {s l:Rat}{W:Int}{p:Rat×Rat}:∀ (ws:List Int) (a:Int),0<=a->(∀ w ∈ ws,1<=w)->a + ws.sum<=W->p ∈ shL s l W a ws->∃ a' w:Int,0<=a'/\a'<=W/\1<=w/\w<=W/\p=(s + l * ((a':Rat) / (W:Rat)),l * ((w:Rat) / (W:Rat)))
 | [],_,_,_,_,h=>nomatch h
 |
  w :: ws,a,ha,hw,hs,h=>by
  have h1:=hw w (List.mem_cons_self ..)
  have h2:=jM (l:=ws) λx hx=>hw x (List.mem_cons_of_mem _ hx)
  rw[List.sum_cons] at hs
  unfold shL at h
  rcases List.mem_cons.mp h with rfl | h
  ·exact⟨a,w,ha,by omega,h1,by omega,rfl⟩
  ·exact xI ws (a + w) (by omega) (λx hx=>hw x (List.mem_cons_of_mem _ hx)) (by omega) h
theorem u7 {b:Bx}{n m:Nat}{way:Str}{ws:List Int} (hb:b.Ok) (hs:b.Sz n) (hw:∀ w ∈ ws,1<=w) (mW:Sm m ws.sum) {b':Bx} (h:b' ∈ gR b way ws):b'.Ok/\b'.Sz (n + (n + m) + 1):=by
 have key:∀ (s l:Rat),Sz n s->Sz n l->0 < l->∀ p ∈ shL s l ws.sum 0 ws,Sz (n + (n + m) + 1) p.1/\Sz (n + (n + m) + 1) p.2/\0 < p.2:=by
  intro s l hs hl l0 p hp
  obtain⟨a',w,h1,h2,h3,h4,rfl⟩:=xI ws 0 (by omega) hw (by omega) hp
  have z1:Sz m ((a':Rat) / (ws.sum:Rat)):=Sz.div (by omega) (mW.of_le (by omega)) mW m (Nat.le_refl _) (Nat.le_refl _)
  have z2:Sz m ((w:Rat) / (ws.sum:Rat)):=Sz.div (by omega) (mW.of_le (by omega)) mW m (Nat.le_refl _) (Nat.le_refl _)
  exact⟨hs.add (hl.mul z1),(hl.mul z2).mono (by omega),Rat.mul_pos l0 (nW (by omega) (by omega))⟩
 unfold gR at h
 split at h
 ·obtain⟨p,hp,rfl⟩:=List.mem_map.mp h
  obtain⟨k1,k2,k3⟩:=key _ _ hs.l hs.w hb.1 p hp
  exact⟨⟨k3,hb.2⟩,⟨k1,hs.t.mono (by omega),k2,hs.h.mono (by omega)⟩⟩
 ·obtain⟨p,hp,rfl⟩:=List.mem_map.mp h
  obtain⟨k1,k2,k3⟩:=key _ _ hs.t hs.h hb.2 p hp
  exact⟨⟨hb.1,k3⟩,⟨hs.l.mono (by omega),k1,hs.w.mono (by omega),k2⟩⟩
def eS (b:Bx) (way:Str) (u v:Int):Bx:=(gR b way [u,v]).headD b
def fo (b:Bx) (way:Str) (u v:Int):Bx:=((gR b way [u,v]).drop 1).headD b
theorem qb (b:Bx) (way:Str) (u v:Int):gR b way [u,v]=[eS b way u v,fo b way u v]:=by
 unfold eS fo gR
 split <;> rfl
theorem xk {b:Bx}{n m:Nat}{way:Str}{u v:Int} (hb:b.Ok) (hs:b.Sz n) (hu:1<=u) (hv:1<=v) (mW:Sm m (u + v)):(eS b way u v).Ok/\(eS b way u v).Sz (n + (n + m) + 1):=by
 refine u7 (way:=way) (ws:=[u,v]) hb hs ?_ (by simpa using mW) (by rw[qb];exact List.mem_cons_self ..)
 intro w hw
 simp at hw
 omega
theorem xo {b:Bx}{n m:Nat}{way:Str}{u v:Int} (hb:b.Ok) (hs:b.Sz n) (hu:1<=u) (hv:1<=v) (mW:Sm m (u + v)):(fo b way u v).Ok/\(fo b way u v).Sz (n + (n + m) + 1):=by
 refine u7 (way:=way) (ws:=[u,v]) hb hs ?_ (by simpa using mW) (by rw[qb];simp)
 intro w hw
 simp at hw
 omega
def liV (l:List Int):Val:=.lst (l.map .int)
def eA (ws:List Int) (i:Int):Int:=ws.getD i.toNat 0
def Inr (ws nums:List Int):Prop:=∀ i ∈ nums,0<=i/\i < (ws.length:Nat)
def wt (ws l:List Int):Int:=(l.map (eA ws)).sum
theorem K7 {ws:List Int}{i:Int} (h0:0<=i) (h1:i < (ws.length:Nat)):atI (ws.map Val.int) i=some (.int (eA ws i)):=by
 have hi:i.toNat < ws.length:=by omega
 refine nC h0 ?_
 rw[List.getElem?_map,List.getElem?_eq_getElem hi]
 unfold eA
 rw[List.getD_eq_getElem?_getD,List.getElem?_eq_getElem hi]
 rfl
theorem BS {ws:List Int}{i:Int} (h0:0<=i) (h1:i < (ws.length:Nat)):eA ws i ∈ ws:=by
 have hi:i.toNat < ws.length:=by omega
 unfold eA
 rw[List.getD_eq_getElem?_getD,List.getElem?_eq_getElem hi]
 exact List.getElem_mem hi
theorem tI {ws l:List Int} (hw:∀ w ∈ ws,1<=w) (hr:Inr ws l):(l.length:Int)<=wt ws l:=by
 have:=jM (l:=l.map (eA ws)) λw h=>by
  obtain⟨i,hi,rfl⟩:=List.mem_map.mp h
  exact hw _ (BS (hr i hi).1 (hr i hi).2)
 rw[List.length_map] at this
 exact this
theorem Bj (ws l r:List Int):wt ws (l++r)=wt ws l + wt ws r:=by unfold wt;rw[List.map_append,List.sum_append]
theorem Cd {l r:List Int} (h:l.Perm r):l.sum=r.sum:=by
 induction h with
 | nil=>rfl
 | cons x _ ih=>rw[List.sum_cons,List.sum_cons,ih]
 | swap x y l=>rw[List.sum_cons,List.sum_cons,List.sum_cons,List.sum_cons];omega
 | trans _ _ h1 h2=>rw[h1,h2]
theorem kE {ws l r:List Int} (h:l.Perm r):wt ws l=wt ws r:=Cd (h.map _)
def rst (nums l:List Int):List Int:=nums.filter λx=>!l.contains x
structure Lot (nums l:List Int):Prop where
 sub:l.Sublist nums
 ne:l ≠ []
 lt:l.length < nums.length
theorem Lot.mono {p q l:List Int} (h:Lot p l) (s:p.Sublist q):Lot q l:=⟨h.sub.trans s,h.ne,Nat.lt_of_lt_of_le h.lt s.length_le⟩
theorem Lot.more {p l:List Int} (h:Lot p l) (x:Int):Lot (p++[x]) (l++[x]):=⟨h.sub.append (List.Sublist.refl _),by simp,by have:=h.lt;simp;omega⟩
theorem Lot.self {p:List Int} (h:p ≠ []) (x:Int):Lot (p++[x]) p:=⟨List.sublist_append_left ..,h,by simp⟩
theorem o3 {l nums:List Int} (h:l.Sublist nums):nums.Nodup->(l++rst nums l).Perm nums:=by
 induction h with
 | slnil=>intro _;exact .nil
 |
  cons a s ih=>
  intro nd
  rw[List.nodup_cons] at nd
  rename_i l nums
  have ha:¬ a ∈ l:=λz=>nd.1 (s.subset z)
  have e:rst (a :: nums) l=a :: rst nums l:=by
   unfold rst
   rw[List.filter_cons_of_pos]
   simp [ha]
  rw[e]
  exact List.perm_middle.trans ((ih nd.2).cons a)
 |
  cons_cons a s ih=>
  intro nd
  rw[List.nodup_cons] at nd
  rename_i l nums
  have e:rst (a :: nums) (a :: l)=rst nums l:=by
   unfold rst
   rw[List.filter_cons_of_neg (by simp)]
   refine List.filter_congr λx hx=>?_
   have:x ≠ a:=λz=>nd.1 (z ▸ hx)
   simp [this]
  rw[e]
  exact (ih nd.2).cons a
theorem nF {l nums:List Int} (h:Lot nums l) (nd:nums.Nodup):Lot nums (rst nums l):=by
 have p:=(o3 h.sub nd).length_eq
 rw[List.length_append] at p
 have h1:=h.lt
 have h2:=List.length_pos_iff.mpr h.ne
 refine⟨List.filter_sublist,λz=>?_,by omega⟩
 rw[z,List.length_nil] at p
 omega
theorem Du {nums:List Int} (nd:nums.Nodup) (k:Nat):rst nums (nums.take k)=nums.drop k:=by
 have e:rst nums (nums.take k)=(nums.take k++nums.drop k).filter λx=>!(nums.take k).contains x:=by rw[List.take_append_drop];rfl
 rw[e,List.filter_append]
 have nd':(nums.take k++nums.drop k).Nodup:=by rw[List.take_append_drop];exact nd
 rw[List.nodup_append] at nd'
 have h1:(nums.take k).filter (λx=>!(nums.take k).contains x)=[]:=by
  rw[List.filter_eq_nil_iff]
  intro x hx
  simp [hx]
 have h2:(nums.drop k).filter (λx=>!(nums.take k).contains x)=nums.drop k:=by
  rw[List.filter_eq_self]
  intro x hx
  have:¬ x ∈ nums.take k:=λz=>nd'.2.2 x z x hx rfl
  simp [this]
 rw[h1,h2]
 rfl
def gK:List (List Int)->List Int->List (List Int)
 | L,[]=>L
 | L,x :: rest=>gK (L++L.map λl=>l++[x]) rest
def cG (kind:Str) (nums:List Int):List (List Int):=if kind = "order" then (List.range' 1 (nums.length - 1)).map λi=>nums.take i else match nums with
 | []=>[]
 | x :: rest=>(gK [[x]] rest).dropLast
theorem lG:∀ (rest p:List Int) (M:List (List Int)),p ≠ []->(∀ l ∈ M,Lot p l)->∃ M',gK (M++[p]) rest=M'++[p++rest]/\(∀ l ∈ M',Lot (p++rest) l)/\(rest ≠ []->M' ≠ [])/\(M ≠ []->M' ≠ [])
 | [],p,M,hp,hM=>⟨M,by unfold gK;rw[List.append_nil],by simpa using hM,λz=>absurd rfl z,λz=>z⟩
 |
  x :: rest,p,M,hp,hM=>by
  obtain⟨M',q1,q2,q3,q4⟩:=lG rest (p++[x]) (M++[p]++M.map λl=>l++[x]) (by simp) (λl hl=>by
   rcases List.mem_append.mp hl with hl | hl
   ·rcases List.mem_append.mp hl with hl | hl
    ·exact (hM l hl).mono (List.sublist_append_left ..)
    ·rw[List.mem_singleton] at hl;subst hl;exact .self hp x
   ·obtain⟨l',h',rfl⟩:=List.mem_map.mp hl
    exact (hM l' h').more x)
  refine⟨M',?_,by rw[List.append_assoc] at q2;exact q2,λ_=>q4 (by simp),λ_=>q4 (by simp)⟩
  unfold gK
  rw[<- show (M++[p]++(M.map λl=>l++[x]))++[p++[x]]=M++[p]++(M++[p]).map (λl=>l++[x]) by simp,q1]
  simp
theorem vg {kind:Str}{nums l:List Int} (h:l ∈ cG kind nums):Lot nums l:=by
 unfold cG at h
 split at h
 ·obtain⟨i,hi,rfl⟩:=List.mem_map.mp h
  rw[List.mem_range'_1] at hi
  refine⟨List.take_sublist ..,λz=>?_,by rw[List.length_take];omega⟩
  have:=congrArg List.length z
  rw[List.length_take,List.length_nil] at this
  omega
 ·split at h
  ·exact nomatch h
  ·rename_i x rest
   obtain⟨M',q1,q2,_,_⟩:=lG rest [x] [] (by simp) (λ_ z=>nomatch z)
   rw[List.nil_append] at q1
   rw[q1,List.dropLast_concat] at h
   exact q2 l h
theorem E1 {kind:Str}{nums:List Int} (h:2<=nums.length):cG kind nums ≠ []:=by
 unfold cG
 split
 ·intro z
  have:=congrArg List.length z
  rw[List.length_map,List.length_range',List.length_nil] at this
  omega
 ·split
  ·simp at h
  ·rename_i x rest
   obtain⟨M',q1,_,q3,_⟩:=lG rest [x] [] (by simp) (λ_ z=>nomatch z)
   rw[List.nil_append] at q1
   rw[q1,List.dropLast_concat]
   exact q3 (by rintro rfl;simp at h)
theorem sE:∀ (rest:List Int) (L:List (List Int)),(gK L rest).length=L.length * 2 ^ rest.length
 | [],L=>by simp [gK]
 |
  x :: rest,L=>by
  unfold gK
  rw[sE rest,List.length_append,List.length_map,List.length_cons,Nat.pow_succ,<- Nat.two_mul,Nat.mul_comm 2,Nat.mul_assoc,Nat.mul_comm 2]
theorem oM {kind:Str}{nums:List Int} (h:nums.length<=10):(cG kind nums).length<=1000:=by
 unfold cG
 split
 ·rw[List.length_map,List.length_range']
  omega
 ·split
  ·simp
  ·rename_i x rest
   rw[List.length_cons] at h
   rw[List.length_dropLast,sE]
   have:2 ^ rest.length<=2 ^ 9:=Nat.pow_le_pow_right (by decide) (by omega)
   simp
   omega
def cuV (c:Str×List Int×List Int):Val:=.tup [.str c.1,liV c.2.1,liV c.2.2]
def gW (nums l:List Int):List (Str×List Int×List Int):=[("across",l,rst nums l),("down",l,rst nums l)]
def jn (kind:Str) (nums:List Int):List (Str×List Int×List Int):=(cG kind nums).flatMap (gW nums)
def mx (x y:Rat):Rat:=if x < y then y else x
def fg (f:Bx->List Int->Rat) (ws:List Int) (b:Bx) (c:Str×List Int×List Int):Rat:=mx (f (eS b c.1 (wt ws c.2.1) (wt ws c.2.2)) c.2.1) (f (fo b c.1 (wt ws c.2.1) (wt ws c.2.2)) c.2.2)
def cF (o:Option Rat) (q:Rat):Option Rat:=match o with
 | none=>some q
 | some p=>if q < p then some q else some p
def bst (kind:Str) (ws:List Int):Nat->Bx->List Int->Rat
 | 0,b,_=>dC b
 | k + 1,b,nums=>if nums.length=1 then dC b else ((jn kind nums).foldl (λo c=>cF o (fg (bst kind ws k) ws b c)) none).getD 0
theorem yp (o:Option Rat) (q:Rat):∃ p,cF o q=some p:=by
 unfold cF
 split
 ·exact⟨_,rfl⟩
 ·split <;> exact⟨_,rfl⟩
theorem sg {α:Type} (f:α->Rat):∀ (l:List α) (p:Rat),∃ q,l.foldl (λo c=>cF o (f c)) (some p)=some q
 | [],p=>⟨p,rfl⟩
 |
  c :: l,p=>by
  obtain⟨q,e⟩:=yp (some p) (f c)
  rw[List.foldl_cons,e]
  exact sg f l q
theorem xi {α:Type} (f:α->Rat) {l:List α} (h:l ≠ []):∃ q,l.foldl (λo c=>cF o (f c)) none=some q:=by
 cases l with
 | nil=>exact absurd rfl h
 | cons c l=>rw[List.foldl_cons];exact sg f l _
structure CutOk (nums:List Int) (c:Str×List Int×List Int):Prop where
 way:c.1 = "across" \/ c.1 = "down"
 one:Lot nums c.2.1
 two:Lot nums c.2.2
 rest:c.2.2=rst nums c.2.1
theorem xB {kind:Str}{nums:List Int} (nd:nums.Nodup) {c:Str×List Int×List Int} (h:c ∈ jn kind nums):CutOk nums c:=by
 obtain⟨l,hl,hc⟩:=List.mem_flatMap.mp h
 have lo:=vg hl
 unfold gW at hc
 rcases List.mem_cons.mp hc with rfl | hc
 ·exact⟨.inl rfl,lo,nF lo nd,rfl⟩
 ·rw[List.mem_singleton] at hc
  subst hc
  exact⟨.inr rfl,lo,nF lo nd,rfl⟩
theorem xA {kind:Str}{nums:List Int} (h:2<=nums.length):jn kind nums ≠ []:=by
 have:=E1 (kind:=kind) h
 unfold jn
 cases e:cG kind nums with
 | nil=>exact absurd e this
 | cons l ls=>rw[List.flatMap_cons];unfold gW;simp
inductive Tr (ws:List Int):Bx->List Int->Val->Rat->Prop
 | leaf (b:Bx) (i:Int):Tr ws b [i] (.int i) (dC b)
 | node {b:Bx}{way:Str}{l r:List Int}{t1 t2:Val}{q1 q2:Rat} (hw:way = "across" \/ way = "down") (h1:Tr ws (eS b way (wt ws l) (wt ws r)) l t1 q1) (h2:Tr ws (fo b way (wt ws l) (wt ws r)) r t2 q2):Tr ws b (l++r) (.tup [.str way,.tup [t1,t2]]) (mx q1 q2)
theorem Tr.ne {ws:List Int}{b:Bx}{l:List Int}{t:Val}{q:Rat} (h:Tr ws b l t q):l ≠ []:=by
 induction h with
 | leaf=>simp
 | node _ _ _ ih _=>intro z;exact ih (List.append_eq_nil_iff.mp z).1
theorem Tr.flat {ws:List Int}{b:Bx}{l:List Int}{t:Val}{q:Rat} (h:Tr ws b l t q):flatV t=true:=by
 induction h with
 | leaf=>exact mS _
 | node _ _ _ ih1 ih2=>simp [mY,fH,gX,so,ih1,ih2]
end L3
set_option maxHeartbeats 4000000
namespace KK
open PySem PySem.Spec PyProof.Rows L2 L3
theorem vk:bootBuiltins "abs" = some (.builtin "abs"):=by decide
theorem zR:bootBuiltins "all" = some (.builtin "all"):=by decide
theorem A2:bootBuiltins "any" = some (.builtin "any"):=by decide
theorem qK:bootBuiltins "bool" = some (.type "bool"):=by decide
theorem uB:bootBuiltins "int" = some (.type "int"):=by decide
theorem aU:bootBuiltins "isinstance" = some (.builtin "isinstance"):=by decide
theorem cz:bootBuiltins "len" = some (.builtin "len"):=by decide
theorem nJ:bootBuiltins "list" = some (.type "list"):=by decide
theorem AY:bootBuiltins "str" = some (.type "str"):=by decide
theorem jC:bootBuiltins "sum" = some (.builtin "sum"):=by decide
theorem fQ:bootBuiltins "tuple" = some (.type "tuple"):=by decide
def top (i:Nat):Stmt:=PySem.Challenge.pw_weightrooms_k51_least_worst_in_order.main.body.getD i (.Pass ⟨0,0,0,0⟩)
abbrev lp:Stmt:=top 42
theorem wB:FnScope ["_law_script"] ["_law_script"] (aw lp):=⟨rfl,rfl,rfl,by decide,rfl,by decide,by decide⟩
abbrev ma:Stmt:=top 43
theorem eO:FnScope ["_law_feed_here", "_law_many", "_law_found", "_law_at", "_law_cell", "_law_number"] ["_law_feed_here", "_law_many"] (aw ma):=⟨rfl,rfl,rfl,by decide,rfl,by decide,by decide⟩
abbrev mM:Stmt:=top 45
theorem lq:FnScope ["_law_top", "_law_bottom", "_law_one", "_law_other"] ["_law_top", "_law_bottom"] (aw mM):=⟨rfl,rfl,rfl,by decide,rfl,by decide,by decide⟩
abbrev ky:Stmt:=top 44
theorem gG:FnScope ["_law_feed_here", "_law_pieces", "_law_number", "_law_k"] ["_law_feed_here", "_law_pieces"] (aw ky):=⟨rfl,rfl,rfl,by decide,rfl,by decide,by decide⟩
abbrev lY:Stmt:=top 50
theorem nV:FnScope ["_law_feed_here", "_law_far", "_law_way"] ["_law_feed_here", "_law_far"] (aw lY):=⟨rfl,rfl,rfl,by decide,rfl,by decide,by decide⟩
abbrev ji:Stmt:=top 51
theorem bO:FnScope ["_law_feed_here", "_law_most", "_law_far", "_law_many", "_law_wide", "_law_high", "_law_left", "_law_top", "_law_way", "_law_same", "_law_weights", "_law_k"] ["_law_feed_here", "_law_most"] (aw ji):=⟨rfl,rfl,rfl,by decide,rfl,by decide,by decide⟩
abbrev l8:Stmt:=top 9
theorem wu:FnScope ["thing"] ["thing"] (aw l8):=⟨rfl,rfl,rfl,by decide,rfl,by decide,by decide⟩
abbrev gc:Stmt:=top 10
theorem fG:FnScope ["one", "other"] ["one", "other"] (aw gc):=⟨rfl,rfl,rfl,by decide,rfl,by decide,by decide⟩
abbrev iY:Stmt:=top 11
theorem ik:FnScope ["thing", "top", "bottom"] ["thing"] (aw iY):=⟨rfl,rfl,rfl,by decide,rfl,by decide,by decide⟩
abbrev lZ:Stmt:=top 21
theorem Aj:FnScope ["thing"] ["thing"] (aw lZ):=⟨rfl,rfl,rfl,by decide,rfl,by decide,by decide⟩
abbrev ka:Stmt:=top 22
theorem vR:FnScope ["thing"] ["thing"] (aw ka):=⟨rfl,rfl,rfl,by decide,rfl,by decide,by decide⟩
abbrev kz:Stmt:=top 25
theorem ug:FnScope ["thing"] ["thing"] (aw kz):=⟨rfl,rfl,rfl,by decide,rfl,by decide,by decide⟩
abbrev eU:Stmt:=top 26
theorem oX:FnScope ["thing"] ["thing"] (aw eU):=⟨rfl,rfl,rfl,by decide,rfl,by decide,by decide⟩
abbrev jI:Stmt:=top 33
theorem sX:FnScope ["kind"] ["kind"] (aw jI):=⟨rfl,rfl,rfl,by decide,rfl,by decide,by decide⟩
abbrev ja:Stmt:=top 34
theorem qG:FnScope ["room", "weights", "kind"] ["room", "weights", "kind"] (aw ja):=⟨rfl,rfl,rfl,by decide,rfl,by decide,by decide⟩
abbrev mZ:Stmt:=top 16
theorem ze:FnScope ["one", "other"] ["one", "other"] (aw mZ):=⟨rfl,rfl,rfl,by decide,rfl,by decide,by decide⟩
abbrev mh:Stmt:=top 27
theorem wQ:FnScope ["box"] ["box"] (aw mh):=⟨rfl,rfl,rfl,by decide,rfl,by decide,by decide⟩
abbrev lj:Stmt:=top 12
theorem kq:FnScope ["top", "bottom", "divisor"] ["top", "bottom"] (aw lj):=⟨rfl,rfl,rfl,by decide,rfl,by decide,by decide⟩
abbrev vm:Stmt:=top 15
theorem Fx:FnScope ["one", "other"] ["one", "other"] (aw vm):=⟨rfl,rfl,rfl,by decide,rfl,by decide,by decide⟩
abbrev rp:Stmt:=top 28
theorem B0:FnScope ["box"] ["box"] (aw rp):=⟨rfl,rfl,rfl,by decide,rfl,by decide,by decide⟩
abbrev iQ:Stmt:=top 37
theorem jl:FnScope ["numbers", "kind", "lots", "number"] ["numbers", "kind"] (aw iQ):=⟨rfl,rfl,rfl,by decide,rfl,by decide,by decide⟩
abbrev jU:Stmt:=top 38
theorem jq:FnScope ["numbers", "kind", "cuts", "lot", "way"] ["numbers", "kind"] (aw jU):=⟨rfl,rfl,rfl,by decide,rfl,by decide,by decide⟩
abbrev oC:Stmt:=top 23
theorem zX:FnScope ["thing"] ["thing"] (aw oC):=⟨rfl,rfl,rfl,by decide,rfl,by decide,by decide⟩
abbrev ko:Stmt:=top 24
theorem vJ:FnScope ["way"] ["way"] (aw ko):=⟨rfl,rfl,rfl,by decide,rfl,by decide,by decide⟩
abbrev qJ:Stmt:=top 13
theorem C5:FnScope ["one", "other"] ["one", "other"] (aw qJ):=⟨rfl,rfl,rfl,by decide,rfl,by decide,by decide⟩
abbrev rM:Stmt:=top 14
theorem CC:FnScope ["one", "other"] ["one", "other"] (aw rM):=⟨rfl,rfl,rfl,by decide,rfl,by decide,by decide⟩
abbrev nZ:Stmt:=top 29
theorem fi:FnScope ["start", "length", "weights", "whole", "ahead", "found", "weight", "begin"] ["start", "length", "weights"] (aw nZ):=⟨rfl,rfl,rfl,by decide,rfl,by decide,by decide⟩
abbrev ju:Stmt:=top 30
theorem iO:FnScope ["box", "way", "weights", "left", "top", "wide", "high"] ["box", "way", "weights"] (aw ju):=⟨rfl,rfl,rfl,by decide,rfl,by decide,by decide⟩
abbrev iJ:Stmt:=top 40
theorem v8:FnScope ["numbers", "weights"] ["numbers", "weights"] (aw iJ):=⟨rfl,rfl,rfl,by decide,rfl,by decide,by decide⟩
abbrev ml:Stmt:=top 39
theorem iH:FnScope ["cut", "room", "weights", "way", "first", "second"] ["cut", "room", "weights"] (aw ml):=⟨rfl,rfl,rfl,by decide,rfl,by decide,by decide⟩
abbrev iV:Stmt:=top 17
theorem fq:FnScope ["fractions", "found", "one"] ["fractions"] (aw iV):=⟨rfl,rfl,rfl,by decide,rfl,by decide,by decide⟩
abbrev iE:Stmt:=top 36
theorem bR:FnScope ["room", "weights", "kind", "numbers", "best", "cut", "first", "second", "one", "other", "greatest"] ["room", "weights", "kind", "numbers"] (aw iE):=⟨rfl,rfl,rfl,by decide,rfl,by decide,by decide⟩
abbrev jc:Stmt:=top 35
theorem qN:FnScope ["room", "weights", "kind"] ["room", "weights", "kind"] (aw jc):=⟨rfl,rfl,rfl,by decide,rfl,by decide,by decide⟩
abbrev fB:Stmt:=top 58
theorem pL:FnScope ["_law_found"] ["_law_found"] (aw fB):=⟨rfl,rfl,rfl,by decide,rfl,by decide,by decide⟩
abbrev gy:Stmt:=top 56
theorem je:FnScope ["_law_tree", "_law_one", "_law_other"] ["_law_tree"] (aw gy):=⟨rfl,rfl,rfl,by decide,rfl,by decide,by decide⟩
abbrev mG:Stmt:=top 46
theorem yF:FnScope ["_law_one", "_law_other"] ["_law_one", "_law_other"] (aw mG):=⟨rfl,rfl,rfl,by decide,rfl,by decide,by decide⟩
abbrev kh:Stmt:=top 47
theorem uz:FnScope ["_law_one", "_law_other"] ["_law_one", "_law_other"] (aw kh):=⟨rfl,rfl,rfl,by decide,rfl,by decide,by decide⟩
abbrev nj:Stmt:=top 52
theorem cN:FnScope ["_law_box", "_law_way", "_law_weights", "_law_left", "_law_top", "_law_wide", "_law_high", "_law_boxes", "_law_done", "_law_weight", "_law_far", "_law_part"] ["_law_box", "_law_way", "_law_weights"] (aw nj):=⟨rfl,rfl,rfl,by decide,rfl,by decide,by decide⟩
abbrev gu:Stmt:=top 57
theorem dU:FnScope ["_law_box", "_law_tree", "_law_weights", "_law_boxes", "_law_sums", "_law_one", "_law_part"] ["_law_box", "_law_tree", "_law_weights"] (aw gu):=⟨rfl,rfl,rfl,by decide,rfl,by decide,by decide⟩
abbrev lJ:Stmt:=top 49
theorem wz:FnScope ["_law_one", "_law_other"] ["_law_one", "_law_other"] (aw lJ):=⟨rfl,rfl,rfl,by decide,rfl,by decide,by decide⟩
abbrev lR:Stmt:=top 48
theorem wW:FnScope ["_law_one", "_law_other"] ["_law_one", "_law_other"] (aw lR):=⟨rfl,rfl,rfl,by decide,rfl,by decide,by decide⟩
abbrev jZ:Stmt:=top 53
theorem uK:FnScope ["_law_box"] ["_law_box"] (aw jZ):=⟨rfl,rfl,rfl,by decide,rfl,by decide,by decide⟩
abbrev eZ:Stmt:=top 54
theorem fN:FnScope ["_law_numbers", "_law_kind", "_law_lots", "_law_number"] ["_law_numbers", "_law_kind"] (aw eZ):=⟨rfl,rfl,rfl,by decide,rfl,by decide,by decide⟩
abbrev dS:Stmt:=top 55
theorem bJ:FnScope ["_law_box", "_law_numbers", "_law_weights", "_law_kind", "_law_best", "_law_first", "_law_second", "_law_sums", "_law_way", "_law_one", "_law_other", "_law_shapes"] ["_law_box", "_law_numbers", "_law_weights", "_law_kind"] (aw dS):=⟨rfl,rfl,rfl,by decide,rfl,by decide,by decide⟩
abbrev gC:Stmt:=top 59
theorem j0:FnScope ["_law_room", "_law_weights", "_law_found", "_law_things_here", "_law_shapes"] ["_law_room", "_law_weights", "_law_found"] (aw gC):=⟨rfl,rfl,rfl,by decide,rfl,by decide,by decide⟩
abbrev tJ:Stmt:=top 60
theorem kC:FnScope ["_law_script", "_law_feed_here", "_law_room", "_law_weights", "_law_handed", "_law_found"] ["_law_script"] (aw tJ):=⟨rfl,rfl,rfl,by decide,rfl,by decide,by decide⟩
def kits:gx:=[((.b "NoneType"),(.b "bool"),false),((.b "bool"),(.b "bool"),true),((.b "int"),(.b "bool"),false),((.b "str"),(.b "bool"),false),((.b "tuple"),(.b "bool"),false),((.b "list"),(.b "bool"),false),((.b "dict"),(.b "bool"),false),((.b "NoneType"),(.b "int"),false),((.b "bool"),(.b "int"),true),((.b "int"),(.b "int"),true),((.b "str"),(.b "int"),false),((.b "tuple"),(.b "int"),false),((.b "list"),(.b "int"),false),((.b "dict"),(.b "int"),false),((.b "NoneType"),(.b "list"),false),((.b "bool"),(.b "list"),false),((.b "int"),(.b "list"),false),((.b "str"),(.b "list"),false),((.b "tuple"),(.b "list"),false),((.b "list"),(.b "list"),true),((.b "dict"),(.b "list"),false),((.b "NoneType"),(.b "str"),false),((.b "bool"),(.b "str"),false),((.b "int"),(.b "str"),false),((.b "str"),(.b "str"),true),((.b "tuple"),(.b "str"),false),((.b "list"),(.b "str"),false),((.b "dict"),(.b "str"),false),((.b "NoneType"),(.b "tuple"),false),((.b "bool"),(.b "tuple"),false),((.b "int"),(.b "tuple"),false),((.b "str"),(.b "tuple"),false),((.b "tuple"),(.b "tuple"),true),((.b "list"),(.b "tuple"),false),((.b "dict"),(.b "tuple"),false)]
def bY:List (Str×Int):=[("order",6),("any",5)]
def ie:D:=(.int 40)
def vT:D:=(.tup [(.str "across"),(.str "down")])
structure Txt (w:World) (K:W.Frag) (mg:Str->Option Value) (a_NoFraction:Addr) (a_NoBox:Addr) (a_NoWay:Addr) (a_NoWeights:Addr) (a_TooMany:Addr) (a_NoKind:Addr):Prop where
 g_MOST_THINGS:KDict w K mg "MOST_THINGS" bY
 g_MOST_WEIGHTS:GC K mg "MOST_WEIGHTS" ie
 m_NoBox:mg "NoBox" = some (.ref a_NoBox)
 m_NoFraction:mg "NoFraction" = some (.ref a_NoFraction)
 m_NoKind:mg "NoKind" = some (.ref a_NoKind)
 m_NoWay:mg "NoWay" = some (.ref a_NoWay)
 m_NoWeights:mg "NoWeights" = some (.ref a_NoWeights)
 m_TooMany:mg "TooMany" = some (.ref a_TooMany)
 g_WAYS:GC K mg "WAYS" vT
 n_abs:mg "abs" = none
 n_all:mg "all" = none
 n_any:mg "any" = none
 n_bool:mg "bool" = none
 n_int:mg "int" = none
 n_isinstance:mg "isinstance" = none
 n_len:mg "len" = none
 n_list:mg "list" = none
 n_range:mg "range" = none
 n_str:mg "str" = none
 n_sum:mg "sum" = none
 n_tuple:mg "tuple" = none
 n_zip:mg "zip" = none
 x_NoFraction:W.excIn K a_NoFraction fb "ValueError.__new__" = true
 x_NoBox:W.excIn K a_NoBox fb "ValueError.__new__" = true
 x_NoWay:W.excIn K a_NoWay fb "ValueError.__new__" = true
 x_NoWeights:W.excIn K a_NoWeights fb "ValueError.__new__" = true
 x_TooMany:W.excIn K a_TooMany fb "ValueError.__new__" = true
 x_NoKind:W.excIn K a_NoKind fb "ValueError.__new__" = true
 kits:KitsOk K mg kits
section
variable {P:Program}{w:World}{K:W.Frag}{mg:Str->Option Value}{base:Heap}{a_NoFraction a_NoBox a_NoWay a_NoWeights a_TooMany a_NoKind:Addr}
def gZ:PEx:=tT ie (.int 40) (λ_ _=>.int _)
theorem pf (e:E3):gZ.G e=.ok (.val (.int 40)) e:=rfl
def kP:PEx:=tT vT (.tup [(.str "across"),(.str "down")]) (λ_ _=>.tup (.cons (.str _) (.cons (.str _) .nil)))
theorem EK (e:E3):kP.G e=.ok (.val (.tup [(.str "across"),(.str "down")])) e:=rfl
def l9:PSt:=
 (aK (zm ["cells", "at", "left"] (ag (pFn mQ (ag (pSl (ah 0) oN (oS (av 63))) ao)) (ag (av 0) (ag (av 0) ao)))))
def eK:PFn:=fnP [false] 1 l9
theorem wU:eK.ms=[false]:=rfl
theorem vQ (T:Txt w K mg a_NoFraction a_NoBox a_NoWay a_NoWeights a_TooMany a_NoKind) (D:Def K mg "_law_feed" lp)  : Callee P w K mg base "_law_feed" (0 + 1) ["_law_script"] (spD K mg 1 eK.F):=by
 unfold eK l9
 exact okP D wB (λ_ _ _ _ _ _=>ar1 λ_=>rfl) λf cdv A outer s H E hr=>
  (au (aC (EH (oy (mT (vj (K:=K) rfl) rD rfl T.n_list nJ (aa (eW rfl (af 0) gh (gk aj)) ai)) (oy aj (oy aj EC))))))
def lB:PSt:=
 (aB (xIf (qOf (pOp bGt (pOp iX (ah 0) (bI "left")) (av 0))) (aB (aW false 2 (pOp dh (pOp iX (ah 0) (bI "left")) (ah 1)))
  (aB (tZ 0 seD (bI "left") (pOp ku (pOp iX (ah 0) (bI "left")) (ah 1)))
  (aK (ah 2)))) xNx)
  (aB (aW false 3 (pOp iX (ah 0) (bI "at")))
  (aB (tZ 0 seD (bI "at") (pOp bQ (ah 3) (av 1)))
  (aB (aW false 4 (ah 3))
  (aB (xIf (qOf (pOp bGt (pFn cP (ag (pOp iX (ah 0) (bI "cells")) ao)) (av 0))) (aW false 4 (pOp bIx (pOp iX (ah 0) (bI "cells")) (pOp dh (ah 3) (pFn cP (ag (pOp iX (ah 0) (bI "cells")) ao))))) xNx)
  (aB (xIf (qAn (qOf (pOp bGe (ah 4) (pOp rQ (av 10) (av 18)))) (qOf (pOp bLt (ah 3) (pFn cP (ag (pOp iX (ah 0) (bI "cells")) ao))))) (aB (tZ 0 seD (bI "left") (pOp ku (ah 4) (ah 1)))
  (aK (pOp dh (ah 4) (ah 1)))) xNx)
  (aB (aW false 5 (pOp dh (pOp bD (pOp bQ (pOp bQ (pOp bQ (pOp dh (ah 4) (av 1000003)) (pOp bD (pOp bD (av 61) (ah 3)) (ah 3))) (pOp bD (av 7) (ah 3))) (av 1)) (av 48271)) (av 999983)))
  (aK (pOp dh (pOp ku (pOp dh (pOp bD (pOp dh (pOp bQ (pOp bD (ah 5) (av 69623)) (pOp bD (av 7919) (ah 3))) (av 1999993)) (av 16811)) (av 524287)) (av 5)) (ah 1))))))))))
def aR:PFn:=fnP [true,false] 6 lB
theorem wI:aR.ms=[true,false]:=rfl
theorem vZ (T:Txt w K mg a_NoFraction a_NoBox a_NoWay a_NoWeights a_TooMany a_NoKind) (D:Def K mg "_law_draw" ma)  : Callee P w K mg base "_law_draw" (0 + 1) ["_law_feed_here", "_law_many"] (spD K mg 2 aR.F):=by
 unfold aR lB
 exact okP D eO (λ_ _ _ _ _ _=>ar2 λ_ _=>rfl) λf cdv A outer s H E hr=>
  (aq (aQ (aO lT l7 (gm (gz hr) (af 0) aX (λ_ _=>rfl)) aj (aM _)) (aq (aN (i:=2) eO.nd rfl (by trivial) (aF du d8 (gm (gz hr) (af 0) aX (λ_ _=>rfl)) (af 1)))
   (aq (rA (aF fX jy (gm (gz hr) (af 0) aX (λ_ _=>rfl)) (af 1)) (af 0) aX (og (gz hr)) rm)
   (au (aC (af 2))))) aH)
   (aq (aN (i:=3) eO.nd rfl (by trivial) (gm (gz hr) (af 0) aX (λ_ _=>rfl)))
   (aq (rA (aF (bj (K:=K) rfl) br (af 3) aj) (af 0) aX (og (gz hr)) rm)
   (aq (aN (i:=4) eO.nd rfl (by trivial) (af 3))
   (aq (aQ (aO lT l7 (aD (dg (K:=K) rfl) cq rfl T.n_len cz (aa (gm (gz hr) (af 0) aX (λ_ _=>rfl)) ai)) aj (aM _)) (au (aN (i:=4) eO.nd rfl (by trivial) (az (ixK (K:=K) rfl) aA (gm (gz hr) (af 0) aX (λ_ _=>rfl)) (aF du d8 (af 3) (aD (dg (K:=K) rfl) cq rfl T.n_len cz (aa (gm (gz hr) (af 0) aX (λ_ _=>rfl)) ai))) (λ_ _=>rfl)))) aH)
   (aq (aQ (ZW.dt (vb (aO ym yM (af 4) (aF Bl A1 aj aj) (aM _)) (rL (aO pX qc (af 3) (aD (dg (K:=K) rfl) cq rfl T.n_len cz (aa (gm (gz hr) (af 0) aX (λ_ _=>rfl)) ai)) (aM _))))) (aq (rA (aF fX jy (af 4) (af 1)) (af 0) aX (og (gz hr)) rm)
   (au (aC (aF du d8 (af 4) (af 1))))) aH)
   (aq (aN (i:=5) eO.nd rfl (by trivial) (aF du d8 (aF bp bq (aF (bj (K:=K) rfl) br (aF (bj (K:=K) rfl) br (aF (bj (K:=K) rfl) br (aF du d8 (af 4) aj) (aF bp bq (aF bp bq aj (af 3)) (af 3))) (aF bp bq aj (af 3))) aj) aj) aj))
   (au (aC (aF du d8 (aF fX jy (aF du d8 (aF bp bq (aF du d8 (aF (bj (K:=K) rfl) br (aF bp bq (af 5) aj) (aF bp bq aj (af 3))) aj) aj) aj) aj) (af 1)))))))))))
def gE:PSt:=
 (jz 2 3 (ag (ah 3) (ag (pOp dh (ah 2) (ah 3)) ao)))
def mV:PSt:=
 (aB (jz 2 3 (ag (pFn pK (ag (ah 0) ao)) (ag (ah 1) ao)))
  (aB (xWh (qOf (pOp bGt (ah 3) (av 0))) (gE))
  (aK (d7 (ag (pOp ku (ah 0) (ah 2)) (ag (pOp ku (ah 1) (ah 2)) ao))))))
def aZ:PFn:=fnP [false,false] 4 mV
theorem yc:aZ.ms=[false,false]:=rfl
theorem wL (T:Txt w K mg a_NoFraction a_NoBox a_NoWay a_NoWeights a_TooMany a_NoKind) (D:Def K mg "_law_low" mM)  : Callee P w K mg base "_law_low" (0 + 1) ["_law_top", "_law_bottom"] (spD K mg 2 aZ.F):=by
 unfold aZ mV gE
 exact okP D lq (λ_ _ _ _ _ _=>ar2 λ_ _=>rfl) λf cdv A outer s H E hr=>
  (aq (gO (i:=2) (j:=3) rfl lq.nd rfl rfl (by decide) rfl rfl (aa (aD oG uq rfl T.n_abs vk (aa (af 0) ai)) (aa (af 1) ai)) rfl)
   (aq (uA gb (aO lT l7 (af 3) aj (aM _)) (au (gO (i:=2) (j:=3) rfl lq.nd rfl rfl (by decide) rfl rfl (aa (af 3) (aa (aF du d8 (af 2) (af 3)) ai)) rfl)))
   (au (aC (dc (aa (aF fX jy (af 0) (af 2)) (aa (aF fX jy (af 1) (af 2)) ai)))))))
def jJ:PSt:=
 (aW false 2 (pOp bQ (pOp bD (ah 2) (av 100000)) (ax aR (ag (ah 0) (ag (av 100000) ao)))))
def kc:PSt:=
 (aB (aW false 2 (av 0))
  (aB (fY (qa (ag (ah 1) ao)) (gtN 3) (jJ))
  (aK (ah 2))))
def b8:PFn:=fnP [true,false] 4 kc
theorem uc:b8.ms=[true,false]:=rfl
theorem sZ (T:Txt w K mg a_NoFraction a_NoBox a_NoWay a_NoWeights a_TooMany a_NoKind) (D:Def K mg "_law_great" ky) (c_law_draw:Callee P w K mg base "_law_draw" 1 ["_law_feed_here", "_law_many"] (spD K mg 2 aR.F)):Callee P w K mg base "_law_great" (1 + 1) ["_law_feed_here", "_law_pieces"] (spD K mg 2 b8.F):=by
 unfold b8 kc jJ
 exact okP D gG (λ_ _ _ _ _ _=>ar2 λ_ _=>rfl) λf cdv A outer s H E hr=>
  (aq (aN (i:=2) gG.nd rfl (by trivial) aj)
   (aq (eh gb rfl (nc rfl T.n_range (aa (af 1) ai)) (aE (i:=3) gG.nd rfl (by trivial)) (au (aN (i:=2) gG.nd rfl (by trivial) (aF (bj (K:=K) rfl) br (aF bp bq (af 2) aj) (ar c_law_draw (hr.mono (by omega)) rfl (ak ay) (aa (af 0) (aa aj ai)))))))
   (au (aC (af 2)))))
def mf:PSt:=
 (aB (aW false 2 (ax aR (ag (ah 0) (ag (av 5) ao))))
  (aB (xIf (qOf (pOp bLt (ah 2) (av 2))) (aK (d7 (ag (pOp bQ (av 1) (ax aR (ag (ah 0) (ag (av 12) ao)))) (ag (av 1) ao)))) xNx)
  (aB (xIf (qOf (pOp bEq (ah 2) (av 2))) (aK (d7 (ag (av 1) (ag (av 1) ao)))) xNx)
  (aB (xIf (qOf (pOp bEq (ah 2) (av 3))) (aK (ax aZ (ag (pOp bQ (av 1) (ax aR (ag (ah 0) (ag (av 60) ao)))) (ag (pOp bQ (av 1) (ax aR (ag (ah 0) (ag (av 12) ao)))) ao)))) xNx)
  (aK (ax aZ (ag (pOp bQ (av 1) (pOp dh (ax b8 (ag (ah 0) (ag (av 6) ao))) (ah 1))) (ag (pOp bQ (av 1) (pOp dh (ax b8 (ag (ah 0) (ag (av 6) ao))) (ah 1))) ao))))))))
def dM:PFn:=fnP [true,false] 3 mf
theorem wX:dM.ms=[true,false]:=rfl
theorem uT (T:Txt w K mg a_NoFraction a_NoBox a_NoWay a_NoWeights a_TooMany a_NoKind) (D:Def K mg "_law_side" lY) (c_law_draw:Callee P w K mg base "_law_draw" 1 ["_law_feed_here", "_law_many"] (spD K mg 2 aR.F)) (am:Callee P w K mg base "_law_low" 1 ["_law_top", "_law_bottom"] (spD K mg 2 aZ.F)) (ge:Callee P w K mg base "_law_great" 2 ["_law_feed_here", "_law_pieces"] (spD K mg 2 b8.F)):Callee P w K mg base "_law_side" (2 + 1) ["_law_feed_here", "_law_far"] (spD K mg 2 dM.F):=by
 unfold dM mf
 exact okP D nV (λ_ _ _ _ _ _=>ar2 λ_ _=>rfl) λf cdv A outer s H E hr=>
  (aq (aN (i:=2) nV.nd rfl (by trivial) (ar c_law_draw (hr.mono (by omega)) rfl (ak ay) (aa (af 0) (aa aj ai))))
   (aq (aQ (aO pX qc (af 2) aj (aM _)) (au (aC (dc (aa (aF (bj (K:=K) rfl) br aj (ar c_law_draw (hr.mono (by omega)) rfl (ak ay) (aa (af 0) (aa aj ai)))) (aa aj ai))))) aH)
   (aq (aQ (aO (fC (K:=K) rfl hr.units) dY (af 2) aj (aM _)) (au (aC (dc (aa aj (aa aj ai))))) aH)
   (aq (aQ (aO (fC (K:=K) rfl hr.units) dY (af 2) aj (aM _)) (au (aC (ar am (hr.mono (by omega)) rfl (ak ay) (aa (aF (bj (K:=K) rfl) br aj (ar c_law_draw (hr.mono (by omega)) rfl (ak ay) (aa (af 0) (aa aj ai)))) (aa (aF (bj (K:=K) rfl) br aj (ar c_law_draw (hr.mono (by omega)) rfl (ak ay) (aa (af 0) (aa aj ai)))) ai))))) aH)
   (au (aC (ar am (hr.mono (by omega)) rfl (ak ay) (aa (aF (bj (K:=K) rfl) br aj (aF du d8 (ar ge (hr.mono (by omega)) rfl (ak ay) (aa (af 0) (aa aj ai))) (af 1))) (aa (aF (bj (K:=K) rfl) br aj (aF du d8 (ar ge (hr.mono (by omega)) rfl (ak ay) (aa (af 0) (aa aj ai))) (af 1))) ai)))))))))
def bS:PSt:=
 (dX (oz 10 fR (ag (pOp bIx (dH (ag (ah 9) (ag (pOp bQ (av 1) (ax aR (ag (ah 0) (ag (av 3) ao)))) (ag (pOp BU (av 1) (ah 11)) (ag (pOp bQ (av 1) (pOp dh (ax b8 (ag (ah 0) (ag (av 6) ao))) (ah 2))) ao))))) (ah 8)) ao)))
def gH:PSt:=
 (aB (jz 2 3 (ag (av 60) (ag (pOp bQ (av 1) (ax aR (ag (ah 0) (ag (ah 1) ao)))) ao)))
  (aB (xIf (qOf (pOp bEq (ax aR (ag (ah 0) (ag (av 5) ao))) (av 0))) (jz 2 3 (ag (pOp zB (pOp rQ (av 10) (av 30)) (av 1)) (ag (pOp bQ (av 1) (ax aR (ag (ah 0) (ag (av 3) ao)))) ao))) xNx)
  (aB (jz 4 5 (ag (ax dM (ag (ah 0) (ag (ah 2) ao))) (ag (ax dM (ag (ah 0) (ag (ah 2) ao))) ao)))
  (aB (xIf (qOf (pOp bEq (ax aR (ag (ah 0) (ag (av 5) ao))) (av 0))) (aW false 5 (ah 4)) xNx)
  (aB (iI (pLC (qa (ag (av 2) ao)) [none,some 0] (by decide) (gtN 0) qY (ax aZ (ag (pOp zB (ax aR (ag (ah 1) (ag (av 41) ao))) (av 20)) (ag (pOp bQ (av 1) (ax aR (ag (ah 1) (ag (av 9) ao)))) ao)))) (gtX (gtU 2 (bL (gtN 6) (bL (gtN 7) fS)))))
  (aB (aW false 8 (ax aR (ag (ah 0) (ag (av 4) ao))))
  (aB (aW false 9 (pOp bQ (av 1) (ax aR (ag (ah 0) (ag (av 60) ao)))))
  (aB (aW true 10 (dH ao))
  (aB (fY (qa (ag (ah 3) ao)) (gtN 11) (bS))
  (aK (d7 (ag (d7 (ag (ah 6) (ag (ah 7) (ag (ah 4) (ag (ah 5) ao))))) (ag (ah 10) ao)))))))))))))
def fA:PFn:=fnP [true,false] 12 gH
theorem wA:fA.ms=[true,false]:=rfl
theorem vF (T:Txt w K mg a_NoFraction a_NoBox a_NoWay a_NoWeights a_TooMany a_NoKind) (D:Def K mg "_law_case" ji) (c_law_draw:Callee P w K mg base "_law_draw" 1 ["_law_feed_here", "_law_many"] (spD K mg 2 aR.F)) (ol:Callee P w K mg base "_law_side" 3 ["_law_feed_here", "_law_far"] (spD K mg 2 dM.F)) (am:Callee P w K mg base "_law_low" 1 ["_law_top", "_law_bottom"] (spD K mg 2 aZ.F)) (ge:Callee P w K mg base "_law_great" 2 ["_law_feed_here", "_law_pieces"] (spD K mg 2 b8.F)):Callee P w K mg base "_law_case" (3 + 1) ["_law_feed_here", "_law_most"] (spD K mg 2 fA.F):=by
 unfold fA gH bS
 exact okP D bO (λ_ _ _ _ _ _=>ar2 λ_ _=>rfl) λf cdv A outer s H E hr=>
  (aq (gO (i:=2) (j:=3) rfl bO.nd rfl rfl (by decide) rfl rfl (aa aj (aa (aF (bj (K:=K) rfl) br aj (ar c_law_draw (hr.mono (by omega)) rfl (ak ay) (aa (af 0) (aa (af 1) ai)))) ai)) rfl)
   (aq (aQ (aO (fC (K:=K) rfl hr.units) dY (ar c_law_draw (hr.mono (by omega)) rfl (ak ay) (aa (af 0) (aa aj ai))) aj (aM _)) (au (gO (i:=2) (j:=3) rfl bO.nd rfl rfl (by decide) rfl rfl (aa (aF A0 Bi (aF Bl A1 aj aj) aj) (aa (aF (bj (K:=K) rfl) br aj (ar c_law_draw (hr.mono (by omega)) rfl (ak ay) (aa (af 0) (aa aj ai)))) ai)) rfl)) aH)
   (aq (gO (i:=4) (j:=5) rfl bO.nd rfl rfl (by decide) rfl rfl (aa (ar ol (hr.mono (by omega)) rfl (ak ay) (aa (af 0) (aa (af 2) ai))) (aa (ar ol (hr.mono (by omega)) rfl (ak ay) (aa (af 0) (aa (af 2) ai))) ai)) rfl)
   (aq (aQ (aO (fC (K:=K) rfl hr.units) dY (ar c_law_draw (hr.mono (by omega)) rfl (ak ay) (aa (af 0) (aa aj ai))) aj (aM _)) (au (aN (i:=5) bO.nd rfl (by trivial) (af 4))) aH)
   (aq (gj (eL ["_law_feed_here", "_law_most", "_law_far", "_law_many", "_law_wide", "_law_high", "_law_left", "_law_top", "_law_way", "_law_same", "_law_weights", "_law_k"] (aw ji).names ["_law_k", "_law_feed_here"] [none,some 0] rfl (nc rfl T.n_range (aa aj ai)) (λ_ _ _ _ _=>(aE (i:=0) (show List.Nodup (["_law_k", "_law_feed_here"]:List Str) from by decide) rfl (by trivial))) (λ_ _ _ _ _=>(ar am (hr.mono (by omega)) rfl fj (aa (aF A0 Bi (ar c_law_draw (hr.mono (by omega)) rfl fj (aa (af 1) (aa aj ai))) aj) (aa (aF (bj (K:=K) rfl) br aj (ar c_law_draw (hr.mono (by omega)) rfl fj (aa (af 1) (aa aj ai)))) ai))))) (ZG.weak (pA rfl rfl (aT (aE (i:=6) bO.nd rfl (by trivial)) (aT (aE (i:=7) bO.nd rfl (by trivial)) ek)))))
   (aq (aN (i:=8) bO.nd rfl (by trivial) (ar c_law_draw (hr.mono (by omega)) rfl (ak ay) (aa (af 0) (aa aj ai))))
   (aq (aN (i:=9) bO.nd rfl (by trivial) (aF (bj (K:=K) rfl) br aj (ar c_law_draw (hr.mono (by omega)) rfl (ak ay) (aa (af 0) (aa aj ai)))))
   (aq (aN (i:=10) bO.nd rfl (by trivial) (cn ai))
   (aq (eh gb rfl (nc rfl T.n_range (aa (af 3) ai)) (aE (i:=11) bO.nd rfl (by trivial)) (au (cX (mU rfl PySem.F.slot_list_append PySem.F.type_list_append iN iL (af 10) (aa (az (ixK (K:=K) rfl) aA (cn (aa (af 9) (aa (aF (bj (K:=K) rfl) br aj (ar c_law_draw (hr.mono (by omega)) rfl (ak ay) (aa (af 0) (aa aj ai)))) (aa (aF Ik Jl aj (af 11)) (aa (aF (bj (K:=K) rfl) br aj (aF du d8 (ar ge (hr.mono (by omega)) rfl (ak ay) (aa (af 0) (aa aj ai))) (af 2))) ai))))) (af 8) (λ_ _=>rfl)) ai)))))
   (au (aC (dc (aa (dc (aa (af 6) (aa (af 7) (aa (af 4) (aa (af 5) ai))))) (aa (af 10) ai))))))))))))))
def kU:PSt:=
 (aK (oA (pFn (bM kits) (ag (ah 0) (ag (pTy "int") ao))) (uX (pFn (bM kits) (ag (ah 0) (ag (pTy "bool") ao))))))
def cL:PFn:=fnP [false] 1 kU
theorem wg:cL.ms=[false]:=rfl
theorem vS (T:Txt w K mg a_NoFraction a_NoBox a_NoWay a_NoWeights a_TooMany a_NoKind) (D:Def K mg "is_whole" l8)  : Callee P w K mg base "is_whole" (0 + 1) ["thing"] (spD K mg 1 cL.F):=by
 unfold cL kU
 exact okP D wu (λ_ _ _ _ _ _=>ar1 λ_=>rfl) λf cdv A outer s H E hr=>
  (au (aC (mF (aD (dZ (K:=K) rfl) (da T.kits) rfl T.n_isinstance aU (aa (af 0) (aa (d6 rfl T.n_int uB) ai))) (kQ (vy (aD (dZ (K:=K) rfl) (da T.kits) rfl T.n_isinstance aU (aa (af 0) (aa (d6 rfl T.n_bool qK) ai))))))))
def c8:PSt:=
 (jz 0 1 (ag (ah 1) (ag (pOp dh (ah 0) (ah 1)) ao)))
def fZ:PSt:=
 (aB (jz 0 1 (ag (pFn pK (ag (ah 0) ao)) (ag (pFn pK (ag (ah 1) ao)) ao)))
  (aB (xWh (qOf (pOp bNe (ah 1) (av 0))) (c8))
  (aK (ah 0))))
def bu:PFn:=fnP [false,false] 2 fZ
theorem nR:bu.ms=[false,false]:=rfl
theorem mR (T:Txt w K mg a_NoFraction a_NoBox a_NoWay a_NoWeights a_TooMany a_NoKind) (D:Def K mg "common_divisor" gc)  : Callee P w K mg base "common_divisor" (0 + 1) ["one", "other"] (spD K mg 2 bu.F):=by
 unfold bu fZ c8
 exact okP D fG (λ_ _ _ _ _ _=>ar2 λ_ _=>rfl) λf cdv A outer s H E hr=>
  (aq (gO (i:=0) (j:=1) rfl fG.nd rfl rfl (by decide) rfl rfl (aa (aD oG uq rfl T.n_abs vk (aa (af 0) ai)) (aa (aD oG uq rfl T.n_abs vk (aa (af 1) ai)) ai)) rfl)
   (aq (uA gb (aO (lA (K:=K) rfl hr.units) jj (af 1) aj (aM _)) (au (gO (i:=0) (j:=1) rfl fG.nd rfl rfl (by decide) rfl rfl (aa (af 1) (aa (aF du d8 (af 0) (af 1)) ai)) rfl)))
   (au (aC (af 0)))))
def jf:PSt:=
 (aB (xIf (qO (qNo (qOf (pFn (bM kits) (ag (ah 0) (ag (pTy "tuple") ao))))) (qOf (pOp bNe (pFn cP (ag (ah 0) ao)) (av 2)))) (aK (pBl false)) xNx)
  (aB (iI (ah 0) (gtX (gtT 2 (bL (gtN 1) (bL (gtN 2) fS)))))
  (aB (xIf (qO (qNo (qOf (ax cL (ag (ah 1) ao)))) (qNo (qOf (ax cL (ag (ah 2) ao))))) (aK (pBl false)) xNx)
  (aK (oA (pOp bGe (ah 2) (av 1)) (pOp bEq (ax bu (ag (ah 1) (ag (ah 2) ao))) (av 1)))))))
def cC:PFn:=fnP [false] 3 jf
theorem rO:cC.ms=[false]:=rfl
theorem pj (T:Txt w K mg a_NoFraction a_NoBox a_NoWay a_NoWeights a_TooMany a_NoKind) (D:Def K mg "is_fraction" iY) (g_:Callee P w K mg base "is_whole" 1 ["thing"] (spD K mg 1 cL.F)) (c_:Callee P w K mg base "common_divisor" 1 ["one", "other"] (spD K mg 2 bu.F)):Callee P w K mg base "is_fraction" (1 + 1) ["thing"] (spD K mg 1 cC.F):=by
 unfold cC jf
 exact okP D ik (λ_ _ _ _ _ _=>ar1 λ_=>rfl) λf cdv A outer s H E hr=>
  (aq (aQ (ZW.dt (dN (cm (bf (aD (dZ (K:=K) rfl) (da T.kits) rfl T.n_isinstance aU (aa (af 0) (aa (d6 rfl T.n_tuple fQ) ai))))) (dF (aO (lA (K:=K) rfl hr.units) jj (aD (dg (K:=K) rfl) cq rfl T.n_len cz (aa (af 0) ai)) aj (aM _))))) (au (aC jk)) aH)
   (aq (gj (af 0) (ZG.weak (jB rfl rfl (aT (aE (i:=1) ik.nd rfl (by trivial)) (aT (aE (i:=2) ik.nd rfl (by trivial)) ek)))))
   (aq (aQ (ZW.dt (dN (cm (bf (ar g_ (hr.mono (by omega)) rfl (ak ay) (aa (af 1) ai)))) (dF (cm (bf (ar g_ (hr.mono (by omega)) rfl (ak ay) (aa (af 2) ai))))))) (au (aC jk)) aH)
   (au (aC (mF (fL ym yM (af 2) aj (aM _)) (kQ (fL (fC (K:=K) rfl hr.units) dY (ar c_ (hr.mono (by omega)) rfl (ak ay) (aa (af 1) (aa (af 2) ai))) aj (aM _)))))))))
def oJ:PSt:=
 (aB (xIf (qO (qNo (qOf (pFn (bM kits) (ag (ah 0) (ag (pTy "tuple") ao))))) (qOf (pOp bNe (pFn cP (ag (ah 0) ao)) (av 4)))) (aK (pBl false)) xNx)
  (aB (xIf (qNo (qOf (pFn tj (ag (pLC (bt (ah 0)) [none] (by decide) (gtN 0) qY (ax cC (ag (ah 0) ao))) ao)))) (aK (pBl false)) xNx)
  (aK (oA (pOp bGt (pOp bIx (pOp bIx (ah 0) (av 2)) (av 0)) (av 0)) (pOp bGt (pOp bIx (pOp bIx (ah 0) (av 3)) (av 0)) (av 0))))))
def fW:PFn:=fnP [false] 1 oJ
theorem Ad:fW.ms=[false]:=rfl
theorem ye (T:Txt w K mg a_NoFraction a_NoBox a_NoWay a_NoWeights a_TooMany a_NoKind) (D:Def K mg "is_box" lZ) (m_:Callee P w K mg base "is_fraction" 2 ["thing"] (spD K mg 1 cC.F)):Callee P w K mg base "is_box" (2 + 1) ["thing"] (spD K mg 1 fW.F):=by
 unfold fW oJ
 exact okP D Aj (λ_ _ _ _ _ _=>ar1 λ_=>rfl) λf cdv A outer s H E hr=>
  (aq (aQ (ZW.dt (dN (cm (bf (aD (dZ (K:=K) rfl) (da T.kits) rfl T.n_isinstance aU (aa (af 0) (aa (d6 rfl T.n_tuple fQ) ai))))) (dF (aO (lA (K:=K) rfl hr.units) jj (aD (dg (K:=K) rfl) cq rfl T.n_len cz (aa (af 0) ai)) aj (aM _))))) (au (aC jk)) aH)
   (aq (aQ (cm (bf (aD (allK (K:=K) rfl rfl) A6 rfl T.n_all zR (aa (eL ["thing"] (aw lZ).names ["part"] [none] rfl (bo rfl (af 0)) (λ_ _ _ _ _=>(aE (i:=0) (show List.Nodup (["part"]:List Str) from by decide) rfl (by trivial))) (λ_ _ _ _ _=>(ar m_ (hr.mono (by omega)) rfl fj (aa (af 0) ai)))) ai)))) (au (aC jk)) aH)
   (au (aC (mF (fL lT l7 (az (ixK (K:=K) rfl) aA (az (ixK (K:=K) rfl) aA (af 0) aj (λ_ _=>rfl)) aj (λ_ _=>rfl)) aj (aM _)) (kQ (fL lT l7 (az (ixK (K:=K) rfl) aA (az (ixK (K:=K) rfl) aA (af 0) aj (λ_ _=>rfl)) aj (λ_ _=>rfl)) aj (aM _))))))))
def ke:PSt:=
 (xIf (qNo (qOf (ax fW (ag (ah 0) ao)))) (fI "NoBox" (ag (bI "this is no box") ao)) xNx)
def bx:PFn:=fnP [false] 1 ke
theorem wc:bx.ms=[false]:=rfl
theorem sV (T:Txt w K mg a_NoFraction a_NoBox a_NoWay a_NoWeights a_TooMany a_NoKind) (D:Def K mg "check_box" ka) (c_is_box:Callee P w K mg base "is_box" 3 ["thing"] (spD K mg 1 fW.F)):Callee P w K mg base "check_box" (3 + 1) ["thing"] (spD K mg 1 bx.F):=by
 unfold bx ke
 exact okP D vR (λ_ _ _ _ _ _=>ar1 λ_=>rfl) λf cdv A outer s H E hr=>
  (au (aQ (cm (bf (ar c_is_box (hr.mono (by omega)) rfl (ak ay) (aa (af 0) ai)))) (au (fm rfl rz1 rfl T.m_NoBox T.x_NoBox (aa aX ai))) aH))
def kf:PSt:=
 (aK (oA (ax cL (ag (ah 0) ao)) (pOp bGe (ah 0) (av 1))))
def dm:PFn:=fnP [false] 1 kf
theorem vO:dm.ms=[false]:=rfl
theorem sN (T:Txt w K mg a_NoFraction a_NoBox a_NoWay a_NoWeights a_TooMany a_NoKind) (D:Def K mg "is_weight" kz) (g_:Callee P w K mg base "is_whole" 1 ["thing"] (spD K mg 1 cL.F)):Callee P w K mg base "is_weight" (1 + 1) ["thing"] (spD K mg 1 dm.F):=by
 unfold dm kf
 exact okP D ug (λ_ _ _ _ _ _=>ar1 λ_=>rfl) λf cdv A outer s H E hr=>
  (au (aC (mF (ar g_ (hr.mono (by omega)) rfl (ak ay) (aa (af 0) ai)) (kQ (fL ym yM (af 0) aj (aM _))))))
def gv:PSt:=
 (aB (xIf (qO (qNo (qOf (pFn (bM kits) (ag (ah 0) (ag (pTy "list") ao))))) (qOf (pOp bEq (pFn cP (ag (ah 0) ao)) (av 0)))) (fI "NoWeights" (ag (bI "this is no list of weights") ao)) xNx)
  (aB (xIf (qNo (qOf (pFn tj (ag (pLC (bt (ah 0)) [none] (by decide) (gtN 0) qY (ax dm (ag (ah 0) ao))) ao)))) (fI "NoWeights" (ag (bI "a weight is a whole number from 1 on") ao)) xNx)
  (xIf (qOf (pOp bGt (pFn cP (ag (ah 0) ao)) gZ)) (fI "TooMany" (ag (bI "these are more weights than forty") ao)) xNx)))
def bh:PFn:=fnP [false] 1 gv
theorem oZ:bh.ms=[false]:=rfl
theorem nQ (T:Txt w K mg a_NoFraction a_NoBox a_NoWay a_NoWeights a_TooMany a_NoKind) (D:Def K mg "check_weights" eU) (ss:Callee P w K mg base "is_weight" 2 ["thing"] (spD K mg 1 dm.F)):Callee P w K mg base "check_weights" (2 + 1) ["thing"] (spD K mg 1 bh.F):=by
 unfold bh gv gZ
 exact okP D oX (λ_ _ _ _ _ _=>ar1 λ_=>rfl) λf cdv A outer s H E hr=>
  (aq (aQ (ZW.dt (dN (cm (bf (aD (dZ (K:=K) rfl) (da T.kits) rfl T.n_isinstance aU (aa (af 0) (aa (d6 rfl T.n_list nJ) ai))))) (dF (aO (fC (K:=K) rfl hr.units) dY (aD (dg (K:=K) rfl) cq rfl T.n_len cz (aa (af 0) ai)) aj (aM _))))) (au (fm rfl rz1 rfl T.m_NoWeights T.x_NoWeights (aa aX ai))) aH)
   (aq (aQ (cm (bf (aD (allK (K:=K) rfl rfl) A6 rfl T.n_all zR (aa (eL ["thing"] (aw eU).names ["weight"] [none] rfl (bo rfl (af 0)) (λ_ _ _ _ _=>(aE (i:=0) (show List.Nodup (["weight"]:List Str) from by decide) rfl (by trivial))) (λ_ _ _ _ _=>(ar ss (hr.mono (by omega)) rfl fj (aa (af 0) ai)))) ai)))) (au (fm rfl rz1 rfl T.m_NoWeights T.x_NoWeights (aa aX ai))) aH)
   (au (aQ (aO lT l7 (aD (dg (K:=K) rfl) cq rfl T.n_len cz (aa (af 0) ai)) (yj rfl T.g_MOST_WEIGHTS) (aM _)) (au (fm rfl rz1 rfl T.m_TooMany T.x_TooMany (aa aX ai))) aH))))
def jE:PSt:=
 (xIf (qO (qNo (qOf (pFn (bM kits) (ag (ah 0) (ag (pTy "str") ao))))) (qOf (pOp (zf "MOST_THINGS" bY) (ah 0) (yZ "MOST_THINGS")))) (fI "NoKind" (ag (bI "this is no kind of trees") ao)) xNx)
def dD:PFn:=fnP [false] 1 jE
theorem sU:dD.ms=[false]:=rfl
theorem qP (T:Txt w K mg a_NoFraction a_NoBox a_NoWay a_NoWeights a_TooMany a_NoKind) (D:Def K mg "check_kind" jI)  : Callee P w K mg base "check_kind" (0 + 1) ["kind"] (spD K mg 1 dD.F):=by
 unfold dD jE
 exact okP D sX (λ_ _ _ _ _ _=>ar1 λ_=>rfl) λf cdv A outer s H E hr=>
  (au (aQ (ZW.dt (dN (cm (bf (aD (dZ (K:=K) rfl) (da T.kits) rfl T.n_isinstance aU (aa (af 0) (aa (d6 rfl T.n_str AY) ai))))) (dF (aO (Gg rfl rfl rfl T.g_MOST_THINGS) F7 (af 0) (AR rfl T.g_MOST_THINGS.ex) (by with_unfolding_all rfl))))) (au (fm rfl rz1 rfl T.m_NoKind T.x_NoKind (aa aX ai))) aH))
def jb:PSt:=
 (aB (dX (ax bx (ag (ah 0) ao)))
  (aB (dX (ax bh (ag (ah 1) ao)))
  (aB (dX (ax dD (ag (ah 2) ao)))
  (xIf (qOf (pOp bGt (pFn cP (ag (ah 1) ao)) (pOp (tH "MOST_THINGS" bY) (yZ "MOST_THINGS") (ah 2)))) (fI "TooMany" (ag (bI "these are more things than the kind is asked of") ao)) xNx))))
def cZ:PFn:=fnP [false,false,false] 3 jb
theorem rB:cZ.ms=[false,false,false]:=rfl
theorem qf (T:Txt w K mg a_NoFraction a_NoBox a_NoWay a_NoWeights a_TooMany a_NoKind) (D:Def K mg "check_asked" ja) (d_:Callee P w K mg base "check_box" 4 ["thing"] (spD K mg 1 bx.F)) (dl:Callee P w K mg base "check_weights" 3 ["thing"] (spD K mg 1 bh.F)) (on:Callee P w K mg base "check_kind" 1 ["kind"] (spD K mg 1 dD.F)):Callee P w K mg base "check_asked" (4 + 1) ["room", "weights", "kind"] (spD K mg 3 cZ.F):=by
 unfold cZ jb
 exact okP D qG (λ_ _ _ _ _ _=>ar3 λ_ _ _=>rfl) λf cdv A outer s H E hr=>
  (aq (cX (ar d_ (hr.mono (by omega)) rfl (ak ay) (aa (af 0) ai)))
   (aq (cX (ar dl (hr.mono (by omega)) rfl (ak ay) (aa (af 1) ai)))
   (aq (cX (ar on (hr.mono (by omega)) rfl (ak ay) (aa (af 2) ai)))
   (au (aQ (aO lT l7 (aD (dg (K:=K) rfl) cq rfl T.n_len cz (aa (af 1) ai)) (az (EE rfl rfl rfl T.g_MOST_THINGS) FA (AR rfl T.g_MOST_THINGS.ex) (af 2) (λ_ _=>rfl)) (aM _)) (au (fm rfl rz1 rfl T.m_TooMany T.x_TooMany (aa aX ai))) aH)))))
def mP:PSt:=
 (aK (pOp bLt (pOp bD (pOp bIx (ah 0) (av 0)) (pOp bIx (ah 1) (av 1))) (pOp bD (pOp bIx (ah 1) (av 0)) (pOp bIx (ah 0) (av 1)))))
def bX:PFn:=fnP [false,false] 2 mP
theorem zy:bX.ms=[false,false]:=rfl
theorem wG (T:Txt w K mg a_NoFraction a_NoBox a_NoWay a_NoWeights a_TooMany a_NoKind) (D:Def K mg "is_less" mZ)  : Callee P w K mg base "is_less" (0 + 1) ["one", "other"] (spD K mg 2 bX.F):=by
 unfold bX mP
 exact okP D ze (λ_ _ _ _ _ _=>ar2 λ_ _=>rfl) λf cdv A outer s H E hr=>
  (au (aC (fL pX qc (aF bp bq (az (ixK (K:=K) rfl) aA (af 0) aj (λ_ _=>rfl)) (az (ixK (K:=K) rfl) aA (af 1) aj (λ_ _=>rfl))) (aF bp bq (az (ixK (K:=K) rfl) aA (af 1) aj (λ_ _=>rfl)) (az (ixK (K:=K) rfl) aA (af 0) aj (λ_ _=>rfl))) (aM _))))
def kY:PSt:=
 (aB (dX (ax bx (ag (ah 0) ao)))
  (aB (xIf (qOf (ax bX (ag (pOp bIx (ah 0) (av 2)) (ag (pOp bIx (ah 0) (av 3)) ao)))) (aK (bI "down")) xNx)
  (aK (bI "across"))))
def eG:PFn:=fnP [false] 1 kY
theorem wM:eG.ms=[false]:=rfl
theorem vv (T:Txt w K mg a_NoFraction a_NoBox a_NoWay a_NoWeights a_TooMany a_NoKind) (D:Def K mg "long_way" mh) (d_:Callee P w K mg base "check_box" 4 ["thing"] (spD K mg 1 bx.F)) (ci:Callee P w K mg base "is_less" 1 ["one", "other"] (spD K mg 2 bX.F)):Callee P w K mg base "long_way" (4 + 1) ["box"] (spD K mg 1 eG.F):=by
 unfold eG kY
 exact okP D wQ (λ_ _ _ _ _ _=>ar1 λ_=>rfl) λf cdv A outer s H E hr=>
  (aq (cX (ar d_ (hr.mono (by omega)) rfl (ak ay) (aa (af 0) ai)))
   (aq (aQ (bf (ar ci (hr.mono (by omega)) rfl (ak ay) (aa (az (ixK (K:=K) rfl) aA (af 0) aj (λ_ _=>rfl)) (aa (az (ixK (K:=K) rfl) aA (af 0) aj (λ_ _=>rfl)) ai)))) (au (aC aX)) aH)
   (au (aC aX))))
def lN:PSt:=
 (aB (xIf (qOf (pOp bEq (ah 1) (av 0))) (fI "NoFraction" (ag (bI "a fraction has no bottom of 0") ao)) xNx)
  (aB (aW false 2 (ax bu (ag (ah 0) (ag (ah 1) ao))))
  (aB (xIf (qOf (pOp bLt (ah 1) (av 0))) (aW false 2 (pUn uD (ah 2))) xNx)
  (aK (d7 (ag (pOp ku (ah 0) (ah 2)) (ag (pOp ku (ah 1) (ah 2)) ao)))))))
def bz:PFn:=fnP [false,false] 3 lN
theorem wN:bz.ms=[false,false]:=rfl
theorem uV (T:Txt w K mg a_NoFraction a_NoBox a_NoWay a_NoWeights a_TooMany a_NoKind) (D:Def K mg "fraction" lj) (c_:Callee P w K mg base "common_divisor" 1 ["one", "other"] (spD K mg 2 bu.F)):Callee P w K mg base "fraction" (1 + 1) ["top", "bottom"] (spD K mg 2 bz.F):=by
 unfold bz lN
 exact okP D kq (λ_ _ _ _ _ _=>ar2 λ_ _=>rfl) λf cdv A outer s H E hr=>
  (aq (aQ (aO (fC (K:=K) rfl hr.units) dY (af 1) aj (aM _)) (au (fm rfl rz1 rfl T.m_NoFraction T.x_NoFraction (aa aX ai))) aH)
   (aq (aN (i:=2) kq.nd rfl (by trivial) (ar c_ (hr.mono (by omega)) rfl (ak ay) (aa (af 0) (aa (af 1) ai))))
   (aq (aQ (aO pX qc (af 1) aj (aM _)) (au (aN (i:=2) kq.nd rfl (by trivial) (yy vx uM (af 2)))) aH)
   (au (aC (dc (aa (aF fX jy (af 0) (af 2)) (aa (aF fX jy (af 1) (af 2)) ai))))))))
def wa:PSt:=
 (aK (ax bz (ag (pOp bD (pOp bIx (ah 0) (av 0)) (pOp bIx (ah 1) (av 1))) (ag (pOp bD (pOp bIx (ah 0) (av 1)) (pOp bIx (ah 1) (av 0))) ao))))
def iK:PFn:=fnP [false,false] 2 wa
theorem Gi:iK.ms=[false,false]:=rfl
theorem CI (T:Txt w K mg a_NoFraction a_NoBox a_NoWay a_NoWeights a_TooMany a_NoKind) (D:Def K mg "over" vm) (a_:Callee P w K mg base "fraction" 2 ["top", "bottom"] (spD K mg 2 bz.F)):Callee P w K mg base "over" (2 + 1) ["one", "other"] (spD K mg 2 iK.F):=by
 unfold iK wa
 exact okP D Fx (λ_ _ _ _ _ _=>ar2 λ_ _=>rfl) λf cdv A outer s H E hr=>
  (au (aC (ar a_ (hr.mono (by omega)) rfl (ak ay) (aa (aF bp bq (az (ixK (K:=K) rfl) aA (af 0) aj (λ_ _=>rfl)) (az (ixK (K:=K) rfl) aA (af 1) aj (λ_ _=>rfl))) (aa (aF bp bq (az (ixK (K:=K) rfl) aA (af 0) aj (λ_ _=>rfl)) (az (ixK (K:=K) rfl) aA (af 1) aj (λ_ _=>rfl))) ai)))))
def qU:PSt:=
 (aB (xIf (qOf (pOp bEq (ax eG (ag (ah 0) ao)) (bI "across"))) (aK (ax iK (ag (pOp bIx (ah 0) (av 2)) (ag (pOp bIx (ah 0) (av 3)) ao)))) xNx)
  (aK (ax iK (ag (pOp bIx (ah 0) (av 3)) (ag (pOp bIx (ah 0) (av 2)) ao)))))
def gp:PFn:=fnP [false] 1 qU
theorem BQ:gp.ms=[false]:=rfl
theorem AJ (T:Txt w K mg a_NoFraction a_NoBox a_NoWay a_NoWeights a_TooMany a_NoKind) (D:Def K mg "shape" rp) (t_:Callee P w K mg base "long_way" 5 ["box"] (spD K mg 1 eG.F)) (c_over:Callee P w K mg base "over" 3 ["one", "other"] (spD K mg 2 iK.F)):Callee P w K mg base "shape" (5 + 1) ["box"] (spD K mg 1 gp.F):=by
 unfold gp qU
 exact okP D B0 (λ_ _ _ _ _ _=>ar1 λ_=>rfl) λf cdv A outer s H E hr=>
  (aq (aQ (aO (fC (K:=K) rfl hr.units) dY (ar t_ (hr.mono (by omega)) rfl (ak ay) (aa (af 0) ai)) aX (aM _)) (au (aC (ar c_over (hr.mono (by omega)) rfl (ak ay) (aa (az (ixK (K:=K) rfl) aA (af 0) aj (λ_ _=>rfl)) (aa (az (ixK (K:=K) rfl) aA (af 0) aj (λ_ _=>rfl)) ai))))) aH)
   (au (aC (ar c_over (hr.mono (by omega)) rfl (ak ay) (aa (az (ixK (K:=K) rfl) aA (af 0) aj (λ_ _=>rfl)) (aa (az (ixK (K:=K) rfl) aA (af 0) aj (λ_ _=>rfl)) ai))))))
def lC:PSt:=
 (aW false 2 (pOp bQ (ah 2) (pLC (bt (ah 2)) [none,some 3] (by decide) (gtN 0) qY (pOp bQ (ah 0) (dH (ag (ah 1) ao))))))
def jW:PSt:=
 (aB (xIf (qOf (pOp bEq (ah 1) (bI "order"))) (aK (pLC (tG (ag (av 1) (ag (pFn cP (ag (ah 0) ao)) ao))) [none,some 0] (by decide) (gtN 0) qY (pSl (ah 1) oN (oS (ah 0))))) xNx)
  (aB (aW false 2 (dH (ag (pSl (ah 0) oN (oS (av 1))) ao)))
  (aB (fY (bt (pSl (ah 0) (oS (av 1)) oN)) (gtN 3) (lC))
  (aK (pSl (ah 2) oN (oS (pUn uD (av 1))))))))
def dn:PFn:=fnP [false,false] 4 jW
theorem yb:dn.ms=[false,false]:=rfl
theorem wq (T:Txt w K mg a_NoFraction a_NoBox a_NoWay a_NoWeights a_TooMany a_NoKind) (D:Def K mg "lots_of" iQ)  : Callee P w K mg base "lots_of" (0 + 1) ["numbers", "kind"] (spD K mg 2 dn.F):=by
 unfold dn jW lC
 exact okP D jl (λ_ _ _ _ _ _=>ar2 λ_ _=>rfl) λf cdv A outer s H E hr=>
  (aq (aQ (aO (fC (K:=K) rfl hr.units) dY (af 1) aX (aM _)) (au (aC (eL ["numbers", "kind", "lots", "number"] (aw iQ).names ["many", "numbers"] [none,some 0] rfl (rS rfl T.n_range (aa aj (aa (aD (dg (K:=K) rfl) cq rfl T.n_len cz (aa (af 0) ai)) ai))) (λ_ _ _ _ _=>(aE (i:=0) (show List.Nodup (["many", "numbers"]:List Str) from by decide) rfl (by trivial))) (λ_ _ _ _ _=>(eW rfl (af 1) gh (gk (af 0))))))) aH)
   (aq (aN (i:=2) jl.nd rfl (by trivial) (cn (aa (eW rfl (af 0) gh (gk aj)) ai)))
   (aq (eh gb rfl (bo rfl (eW rfl (af 0) (gk aj) gh)) (aE (i:=3) jl.nd rfl (by trivial)) (au (aN (i:=2) jl.nd rfl (by trivial) (aF (bj (K:=K) rfl) br (af 2) (eL ["numbers", "kind", "lots", "number"] (aw iQ).names ["lot", "number"] [none,some 3] rfl (bo rfl (af 2)) (λ_ _ _ _ _=>(aE (i:=0) (show List.Nodup (["lot", "number"]:List Str) from by decide) rfl (by trivial))) (λ_ _ _ _ _=>(aF (bj (K:=K) rfl) br (af 0) (cn (aa (af 1) ai)))))))))
   (au (aC (eW rfl (af 2) gh (gk (yy vx uM aj))))))))
def jo:PSt:=
 (dX (oz 2 fR (ag (d7 (ag (ah 4) (ag (pFn mQ (ag (ah 3) ao)) (ag (pLC (bt (ah 0)) [none,some 3] (by decide) (gtN 0) (qOf (pOp lF (ah 0) (ah 1))) (ah 0)) ao)))) ao)))
def gD:PSt:=
 (fY (bt kP) (gtN 4) (jo))
def mD:PSt:=
 (aB (aW true 2 (dH ao))
  (aB (fY (bt (ax dn (ag (ah 0) (ag (ah 1) ao)))) (gtN 3) (gD))
  (aK (ah 2))))
def eu:PFn:=fnP [false,false] 5 mD
theorem zk:eu.ms=[false,false]:=rfl
theorem wx (T:Txt w K mg a_NoFraction a_NoBox a_NoWay a_NoWeights a_TooMany a_NoKind) (D:Def K mg "cuts_of" jU) (c_lots_of:Callee P w K mg base "lots_of" 1 ["numbers", "kind"] (spD K mg 2 dn.F)):Callee P w K mg base "cuts_of" (1 + 1) ["numbers", "kind"] (spD K mg 2 eu.F):=by
 unfold eu mD gD jo kP
 exact okP D jq (λ_ _ _ _ _ _=>ar2 λ_ _=>rfl) λf cdv A outer s H E hr=>
  (aq (aN (i:=2) jq.nd rfl (by trivial) (cn ai))
   (aq (eh gb rfl (bo rfl (ar c_lots_of (hr.mono (by omega)) rfl (ak ay) (aa (af 0) (aa (af 1) ai)))) (aE (i:=3) jq.nd rfl (by trivial)) (au (eh gb rfl (bo rfl (yj rfl T.g_WAYS)) (aE (i:=4) jq.nd rfl (by trivial)) (au (cX (mU rfl PySem.F.slot_list_append PySem.F.type_list_append iN iL (af 2) (aa (dc (aa (af 4) (aa (mT (vj (K:=K) rfl) rD rfl T.n_list nJ (aa (af 3) ai)) (aa (EJ ["numbers", "kind", "cuts", "lot", "way"] (aw jU).names ["number", "lot"] [none,some 3] rfl (bo rfl (af 0)) (λ_ _ _ _ _=>(aE (i:=0) (show List.Nodup (["number", "lot"]:List Str) from by decide) rfl (by trivial))) (λ_ _ _ _ _=>(aO (uP (K:=K) rfl) tQ (af 0) (af 1) (by with_unfolding_all rfl))) (λ_ _ _ _ _=>(af 0))) ai)))) ai)))))))
   (au (aC (af 2)))))
def om:PSt:=
 (aK (oA (pFn (bM kits) (ag (ah 0) (ag (pTy "str") ao))) (pOp bIn (ah 0) kP)))
def fU:PFn:=fnP [false] 1 om
theorem As:fU.ms=[false]:=rfl
theorem zx (T:Txt w K mg a_NoFraction a_NoBox a_NoWay a_NoWeights a_TooMany a_NoKind) (D:Def K mg "is_way" oC)  : Callee P w K mg base "is_way" (0 + 1) ["thing"] (spD K mg 1 fU.F):=by
 unfold fU om kP
 exact okP D zX (λ_ _ _ _ _ _=>ar1 λ_=>rfl) λf cdv A outer s H E hr=>
  (au (aC (mF (aD (dZ (K:=K) rfl) (da T.kits) rfl T.n_isinstance aU (aa (af 0) (aa (d6 rfl T.n_str AY) ai))) (kQ (fL (inK (K:=K) rfl) KZ (af 0) (yj rfl T.g_WAYS) (by with_unfolding_all rfl))))))
def km:PSt:=
 (xIf (qNo (qOf (ax fU (ag (ah 0) ao)))) (fI "NoWay" (ag (bI "this is no way") ao)) xNx)
def dQ:PFn:=fnP [false] 1 km
theorem u5:dQ.ms=[false]:=rfl
theorem sP (T:Txt w K mg a_NoFraction a_NoBox a_NoWay a_NoWeights a_TooMany a_NoKind) (D:Def K mg "check_way" ko) (c_is_way:Callee P w K mg base "is_way" 1 ["thing"] (spD K mg 1 fU.F)):Callee P w K mg base "check_way" (1 + 1) ["way"] (spD K mg 1 dQ.F):=by
 unfold dQ km
 exact okP D vJ (λ_ _ _ _ _ _=>ar1 λ_=>rfl) λf cdv A outer s H E hr=>
  (au (aQ (cm (bf (ar c_is_way (hr.mono (by omega)) rfl (ak ay) (aa (af 0) ai)))) (au (fm rfl rz1 rfl T.m_NoWay T.x_NoWay (aa aX ai))) aH))
def qt:PSt:=
 (aK (ax bz (ag (pOp bQ (pOp bD (pOp bIx (ah 0) (av 0)) (pOp bIx (ah 1) (av 1))) (pOp bD (pOp bIx (ah 1) (av 0)) (pOp bIx (ah 0) (av 1)))) (ag (pOp bD (pOp bIx (ah 0) (av 1)) (pOp bIx (ah 1) (av 1))) ao))))
def hX:PFn:=fnP [false,false] 2 qt
theorem Bq:hX.ms=[false,false]:=rfl
theorem z9 (T:Txt w K mg a_NoFraction a_NoBox a_NoWay a_NoWeights a_TooMany a_NoKind) (D:Def K mg "added" qJ) (a_:Callee P w K mg base "fraction" 2 ["top", "bottom"] (spD K mg 2 bz.F)):Callee P w K mg base "added" (2 + 1) ["one", "other"] (spD K mg 2 hX.F):=by
 unfold hX qt
 exact okP D C5 (λ_ _ _ _ _ _=>ar2 λ_ _=>rfl) λf cdv A outer s H E hr=>
  (au (aC (ar a_ (hr.mono (by omega)) rfl (ak ay) (aa (aF (bj (K:=K) rfl) br (aF bp bq (az (ixK (K:=K) rfl) aA (af 0) aj (λ_ _=>rfl)) (az (ixK (K:=K) rfl) aA (af 1) aj (λ_ _=>rfl))) (aF bp bq (az (ixK (K:=K) rfl) aA (af 1) aj (λ_ _=>rfl)) (az (ixK (K:=K) rfl) aA (af 0) aj (λ_ _=>rfl)))) (aa (aF bp bq (az (ixK (K:=K) rfl) aA (af 0) aj (λ_ _=>rfl)) (az (ixK (K:=K) rfl) aA (af 1) aj (λ_ _=>rfl))) ai)))))
def rF:PSt:=
 (aK (ax bz (ag (pOp bD (pOp bIx (ah 0) (av 0)) (pOp bIx (ah 1) (av 0))) (ag (pOp bD (pOp bIx (ah 0) (av 1)) (pOp bIx (ah 1) (av 1))) ao))))
def gf:PFn:=fnP [false,false] 2 rF
theorem BO:gf.ms=[false,false]:=rfl
theorem Al (T:Txt w K mg a_NoFraction a_NoBox a_NoWay a_NoWeights a_TooMany a_NoKind) (D:Def K mg "times" rM) (a_:Callee P w K mg base "fraction" 2 ["top", "bottom"] (spD K mg 2 bz.F)):Callee P w K mg base "times" (2 + 1) ["one", "other"] (spD K mg 2 gf.F):=by
 unfold gf rF
 exact okP D CC (λ_ _ _ _ _ _=>ar2 λ_ _=>rfl) λf cdv A outer s H E hr=>
  (au (aC (ar a_ (hr.mono (by omega)) rfl (ak ay) (aa (aF bp bq (az (ixK (K:=K) rfl) aA (af 0) aj (λ_ _=>rfl)) (az (ixK (K:=K) rfl) aA (af 1) aj (λ_ _=>rfl))) (aa (aF bp bq (az (ixK (K:=K) rfl) aA (af 0) aj (λ_ _=>rfl)) (az (ixK (K:=K) rfl) aA (af 1) aj (λ_ _=>rfl))) ai)))))
def iP:PSt:=
 (aB (aW false 7 (ax hX (ag (ah 0) (ag (ax gf (ag (ah 1) (ag (ax bz (ag (ah 4) (ag (ah 3) ao))) ao))) ao))))
  (aB (dX (oz 5 fR (ag (d7 (ag (ah 7) (ag (ax gf (ag (ah 1) (ag (ax bz (ag (ah 6) (ag (ah 3) ao))) ao))) ao))) ao)))
  (CU 4 Cy (ah 6))))
def oK:PSt:=
 (aB (aW false 3 (pFn gw (ag (ah 2) ao)))
  (aB (aW false 4 (av 0))
  (aB (aW true 5 (dH ao))
  (aB (fY (bt (ah 2)) (gtN 6) (iP))
  (aK (ah 5))))))
def eX:PFn:=fnP [false,false,false] 8 oK
theorem zU:eX.ms=[false,false,false]:=rfl
theorem yt (T:Txt w K mg a_NoFraction a_NoBox a_NoWay a_NoWeights a_TooMany a_NoKind) (D:Def K mg "shares" nZ) (c_added:Callee P w K mg base "added" 3 ["one", "other"] (spD K mg 2 hX.F)) (c_times:Callee P w K mg base "times" 3 ["one", "other"] (spD K mg 2 gf.F)) (a_:Callee P w K mg base "fraction" 2 ["top", "bottom"] (spD K mg 2 bz.F)):Callee P w K mg base "shares" (3 + 1) ["start", "length", "weights"] (spD K mg 3 eX.F):=by
 unfold eX oK iP
 exact okP D fi (λ_ _ _ _ _ _=>ar3 λ_ _ _=>rfl) λf cdv A outer s H E hr=>
  (aq (aN (i:=3) fi.nd rfl (by trivial) (aD (fc (K:=K) rfl rfl) jK rfl T.n_sum jC (aa (af 2) ai)))
   (aq (aN (i:=4) fi.nd rfl (by trivial) aj)
   (aq (aN (i:=5) fi.nd rfl (by trivial) (cn ai))
   (aq (eh gb rfl (bo rfl (af 2)) (aE (i:=6) fi.nd rfl (by trivial)) (aq (aN (i:=7) fi.nd rfl (by trivial) (ar c_added (hr.mono (by omega)) rfl (ak ay) (aa (af 0) (aa (ar c_times (hr.mono (by omega)) rfl (ak ay) (aa (af 1) (aa (ar a_ (hr.mono (by omega)) rfl (ak ay) (aa (af 4) (aa (af 3) ai))) ai))) ai))))
   (aq (cX (mU rfl PySem.F.slot_list_append PySem.F.type_list_append iN iL (af 5) (aa (dc (aa (af 7) (aa (ar c_times (hr.mono (by omega)) rfl (ak ay) (aa (af 1) (aa (ar a_ (hr.mono (by omega)) rfl (ak ay) (aa (af 6) (aa (af 3) ai))) ai))) ai))) ai)))
   (au (JU (i:=4) fi.nd rfl (by trivial) (af 6) JZ Gm)))))
   (au (aC (af 5)))))))
def oi:PSt:=
 (aB (dX (ax bx (ag (ah 0) ao)))
  (aB (dX (ax dQ (ag (ah 1) ao)))
  (aB (dX (ax bh (ag (ah 2) ao)))
  (aB (iI (ah 0) (gtX (gtT 4 (bL (gtN 3) (bL (gtN 4) (bL (gtN 5) (bL (gtN 6) fS)))))))
  (aB (xIf (qOf (pOp bEq (ah 1) (bI "across"))) (aK (pLC (bt (ax eX (ag (ah 3) (ag (ah 5) (ag (ah 2) ao))))) [none,none,some 4,some 6] (by decide) (gtT 2 (bL (gtN 0) (bL (gtN 1) fS))) qY (d7 (ag (ah 0) (ag (ah 2) (ag (ah 1) (ag (ah 3) ao))))))) xNx)
  (aK (pLC (bt (ax eX (ag (ah 4) (ag (ah 6) (ag (ah 2) ao))))) [none,none,some 3,some 5] (by decide) (gtT 2 (bL (gtN 0) (bL (gtN 1) fS))) qY (d7 (ag (ah 2) (ag (ah 0) (ag (ah 3) (ag (ah 1) ao))))))))))))
def eY:PFn:=fnP [false,false,false] 7 oi
theorem AK:eY.ms=[false,false,false]:=rfl
theorem yn (T:Txt w K mg a_NoFraction a_NoBox a_NoWay a_NoWeights a_TooMany a_NoKind) (D:Def K mg "parted" ju) (d_:Callee P w K mg base "check_box" 4 ["thing"] (spD K mg 1 bx.F)) (o_:Callee P w K mg base "check_way" 2 ["way"] (spD K mg 1 dQ.F)) (dl:Callee P w K mg base "check_weights" 3 ["thing"] (spD K mg 1 bh.F)) (c_shares:Callee P w K mg base "shares" 4 ["start", "length", "weights"] (spD K mg 3 eX.F)):Callee P w K mg base "parted" (4 + 1) ["box", "way", "weights"] (spD K mg 3 eY.F):=by
 unfold eY oi
 exact okP D iO (λ_ _ _ _ _ _=>ar3 λ_ _ _=>rfl) λf cdv A outer s H E hr=>
  (aq (cX (ar d_ (hr.mono (by omega)) rfl (ak ay) (aa (af 0) ai)))
   (aq (cX (ar o_ (hr.mono (by omega)) rfl (ak ay) (aa (af 1) ai)))
   (aq (cX (ar dl (hr.mono (by omega)) rfl (ak ay) (aa (af 2) ai)))
   (aq (gj (af 0) (ZG.weak (jB rfl rfl (aT (aE (i:=3) iO.nd rfl (by trivial)) (aT (aE (i:=4) iO.nd rfl (by trivial)) (aT (aE (i:=5) iO.nd rfl (by trivial)) (aT (aE (i:=6) iO.nd rfl (by trivial)) ek)))))))
   (aq (aQ (aO (fC (K:=K) rfl hr.units) dY (af 1) aX (aM _)) (au (aC (eL ["box", "way", "weights", "left", "top", "wide", "high"] (aw ju).names ["begin", "length", "top", "high"] [none,none,some 4,some 6] rfl (bo rfl (ar c_shares (hr.mono (by omega)) rfl (ak ay) (aa (af 3) (aa (af 5) (aa (af 2) ai))))) (λ_ _ _ _ _=>(jB rfl rfl (aT (aE (i:=0) (show List.Nodup (["begin", "length", "top", "high"]:List Str) from by decide) rfl (by trivial)) (aT (aE (i:=1) (show List.Nodup (["begin", "length", "top", "high"]:List Str) from by decide) rfl (by trivial)) ek)))) (λ_ _ _ _ _=>(dc (aa (af 0) (aa (af 2) (aa (af 1) (aa (af 3) ai))))))))) aH)
   (au (aC (eL ["box", "way", "weights", "left", "top", "wide", "high"] (aw ju).names ["begin", "length", "left", "wide"] [none,none,some 3,some 5] rfl (bo rfl (ar c_shares (hr.mono (by omega)) rfl (ak ay) (aa (af 4) (aa (af 6) (aa (af 2) ai))))) (λ_ _ _ _ _=>(jB rfl rfl (aT (aE (i:=0) (show List.Nodup (["begin", "length", "left", "wide"]:List Str) from by decide) rfl (by trivial)) (aT (aE (i:=1) (show List.Nodup (["begin", "length", "left", "wide"]:List Str) from by decide) rfl (by trivial)) ek)))) (λ_ _ _ _ _=>(dc (aa (af 2) (aa (af 0) (aa (af 3) (aa (af 1) ai))))))))))))))
def j5:PSt:=
 (aK (pFn gw (ag (pLC (bt (ah 0)) [none,some 1] (by decide) (gtN 0) qY (pOp bIx (ah 1) (ah 0))) ao)))
def cR:PFn:=fnP [false,false] 2 j5
theorem uJ:cR.ms=[false,false]:=rfl
theorem sW (T:Txt w K mg a_NoFraction a_NoBox a_NoWay a_NoWeights a_TooMany a_NoKind) (D:Def K mg "weight_of" iJ)  : Callee P w K mg base "weight_of" (0 + 1) ["numbers", "weights"] (spD K mg 2 cR.F):=by
 unfold cR j5
 exact okP D v8 (λ_ _ _ _ _ _=>ar2 λ_ _=>rfl) λf cdv A outer s H E hr=>
  (au (aC (aD (fc (K:=K) rfl rfl) jK rfl T.n_sum jC (aa (eL ["numbers", "weights"] (aw iJ).names ["number", "weights"] [none,some 1] rfl (bo rfl (af 0)) (λ_ _ _ _ _=>(aE (i:=0) (show List.Nodup (["number", "weights"]:List Str) from by decide) rfl (by trivial))) (λ_ _ _ _ _=>(az (ixK (K:=K) rfl) aA (af 1) (af 0) (λ_ _=>rfl)))) ai))))
def mm:PSt:=
 (aB (iI (ah 0) (gtX (gtT 3 (bL (gtN 3) (bL (gtN 4) (bL (gtN 5) fS))))))
  (aK (ax eY (ag (ah 1) (ag (ah 3) (ag (dH (ag (ax cR (ag (ah 4) (ag (ah 2) ao))) (ag (ax cR (ag (ah 5) (ag (ah 2) ao))) ao))) ao))))))
def dk:PFn:=fnP [false,false,false] 6 mm
theorem wF:dk.ms=[false,false,false]:=rfl
theorem vH (T:Txt w K mg a_NoFraction a_NoBox a_NoWay a_NoWeights a_TooMany a_NoKind) (D:Def K mg "parts_by" ml) (c_parted:Callee P w K mg base "parted" 5 ["box", "way", "weights"] (spD K mg 3 eY.F)) (l_:Callee P w K mg base "weight_of" 1 ["numbers", "weights"] (spD K mg 2 cR.F)):Callee P w K mg base "parts_by" (5 + 1) ["cut", "room", "weights"] (spD K mg 3 dk.F):=by
 unfold dk mm
 exact okP D iH (λ_ _ _ _ _ _=>ar3 λ_ _ _=>rfl) λf cdv A outer s H E hr=>
  (aq (gj (af 0) (ZG.weak (jB rfl rfl (aT (aE (i:=3) iH.nd rfl (by trivial)) (aT (aE (i:=4) iH.nd rfl (by trivial)) (aT (aE (i:=5) iH.nd rfl (by trivial)) ek))))))
   (au (aC (ar c_parted (hr.mono (by omega)) rfl (ak ay) (aa (af 1) (aa (af 3) (aa (cn (aa (ar l_ (hr.mono (by omega)) rfl (ak ay) (aa (af 4) (aa (af 2) ai))) (aa (ar l_ (hr.mono (by omega)) rfl (ak ay) (aa (af 5) (aa (af 2) ai))) ai))) ai)))))))
def ir:PSt:=
 (xIf (qOf (ax bX (ag (ah 1) (ag (ah 2) ao)))) (aW false 1 (ah 2)) xNx)
def jd:PSt:=
 (aB (aW false 1 (pOp bIx (ah 0) (av 0)))
  (aB (fY (bt (ah 0)) (gtN 2) (ir))
  (aK (ah 1))))
def cD:PFn:=fnP [false] 3 jd
theorem qL:cD.ms=[false]:=rfl
theorem ph (T:Txt w K mg a_NoFraction a_NoBox a_NoWay a_NoWeights a_TooMany a_NoKind) (D:Def K mg "greatest_of" iV) (ci:Callee P w K mg base "is_less" 1 ["one", "other"] (spD K mg 2 bX.F)):Callee P w K mg base "greatest_of" (1 + 1) ["fractions"] (spD K mg 1 cD.F):=by
 unfold cD jd ir
 exact okP D fq (λ_ _ _ _ _ _=>ar1 λ_=>rfl) λf cdv A outer s H E hr=>
  (aq (aN (i:=1) fq.nd rfl (by trivial) (az (ixK (K:=K) rfl) aA (af 0) aj (λ_ _=>rfl)))
   (aq (eh gb rfl (bo rfl (af 0)) (aE (i:=2) fq.nd rfl (by trivial)) (au (aQ (bf (ar ci (hr.mono (by omega)) rfl (ak ay) (aa (af 1) (aa (af 2) ai)))) (au (aN (i:=1) fq.nd rfl (by trivial) (af 2))) aH)))
   (au (aC (af 1)))))
def dG (s:PFx [false,false,false,false]):PSt:=
 (aB (iI (ax dk (ag (ah 5) (ag (ah 0) (ag (ah 1) ao)))) (gtX (gtU 2 (bL (gtN 6) (bL (gtN 7) fS)))))
  (aB (aW false 8 (ax s.fn (ag (ah 6) (ag (ah 1) (ag (ah 2) (ag (pOp bIx (ah 5) (av 1)) ao))))))
  (aB (xIf (qAn (qOf (pOp Cn (ah 4) iw)) (qNo (qOf (ax bX (ag (pOp bIx (ah 8) (av 0)) (ag (pOp bIx (ah 4) (av 0)) ao)))))) xCt xNx)
  (aB (aW false 9 (ax s.fn (ag (ah 7) (ag (ah 1) (ag (ah 2) (ag (pOp bIx (ah 5) (av 2)) ao))))))
  (aB (aW false 10 (ax cD (ag (dH (ag (pOp bIx (ah 8) (av 0)) (ag (pOp bIx (ah 9) (av 0)) ao))) ao)))
  (xIf (qO (qOf (pOp bIs (ah 4) iw)) (qOf (ax bX (ag (ah 10) (ag (pOp bIx (ah 4) (av 0)) ao))))) (aW false 4 (d7 (ag (ah 10) (ag (d7 (ag (pOp bIx (ah 5) (av 0)) (ag (d7 (ag (pOp bIx (ah 8) (av 1)) (ag (pOp bIx (ah 9) (av 1)) ao))) ao))) ao)))) xNx))))))
def eN (s:PFx [false,false,false,false]):PSt:=
 (aB (xIf (qOf (pOp bEq (pFn cP (ag (ah 3) ao)) (av 1))) (aK (d7 (ag (ax gp (ag (ah 0) ao)) (ag (pOp bIx (ah 3) (av 0)) ao)))) xNx)
  (aB (aW false 4 iw)
  (aB (fY (bt (ax eu (ag (ah 3) (ag (ah 2) ao)))) (gtN 5) (dG s))
  (aK (ah 4)))))
def cc:Nat->PFx [false,false,false,false]
 | 0=>PFx.none [false,false,false,false]
 | n + 1=>PFx.of [false,false,false,false] 11 (eN (cc n))
theorem sM {n:Nat} (T:Txt w K mg a_NoFraction a_NoBox a_NoWay a_NoWeights a_TooMany a_NoKind) (D:Def K mg "best_tree" iE) (sB:Callee P w K mg base "shape" 6 ["box"] (spD K mg 1 gp.F)) (j':Callee P w K mg base "cuts_of" 2 ["numbers", "kind"] (spD K mg 2 eu.F)) (i_:Callee P w K mg base "parts_by" 6 ["cut", "room", "weights"] (spD K mg 3 dk.F)) (ii:Callee P w K mg base "best_tree" (8 + n) ["room", "weights", "kind", "numbers"] (spD K mg 4 (cc n).F)) (ci:Callee P w K mg base "is_less" 1 ["one", "other"] (spD K mg 2 bX.F)) (f_:Callee P w K mg base "greatest_of" 2 ["fractions"] (spD K mg 1 cD.F)):Callee P w K mg base "best_tree" (8 + n + 1) ["room", "weights", "kind", "numbers"] (spD K mg 4 (cc (n + 1)).F):=by
 show Callee P w K mg base _ _ _ (spD K mg _ (PFx.of [false,false,false,false] 11 (eN (cc n))).F)
 unfold eN dG
 exact okX D bR (λ_ _ _ _ _ _=>ar4 λ_ _ _ _=>rfl) λf cdv A outer s H E hr=>
  (aq (aQ (aO (fC (K:=K) rfl hr.units) dY (aD (dg (K:=K) rfl) cq rfl T.n_len cz (aa (af 3) ai)) aj (aM _)) (au (aC (dc (aa (ar sB (hr.mono (by omega)) rfl (ak ay) (aa (af 0) ai)) (aa (az (ixK (K:=K) rfl) aA (af 3) aj (λ_ _=>rfl)) ai))))) aH)
   (aq (aN (i:=4) bR.nd rfl (by trivial) e8)
   (aq (eh gb rfl (bo rfl (ar j' (hr.mono (by omega)) rfl (ak ay) (aa (af 3) (aa (af 2) ai)))) (aE (i:=5) bR.nd rfl (by trivial)) (aq (gj (ar i_ (hr.mono (by omega)) rfl (ak ay) (aa (af 5) (aa (af 0) (aa (af 1) ai)))) (ZG.weak (pA rfl rfl (aT (aE (i:=6) bR.nd rfl (by trivial)) (aT (aE (i:=7) bR.nd rfl (by trivial)) ek)))))
   (aq (aN (i:=8) bR.nd rfl (by trivial) (ar ii (hr.mono (by omega)) rfl (ak ay) (aa (af 6) (aa (af 1) (aa (af 2) (aa (az (ixK (K:=K) rfl) aA (af 5) aj (λ_ _=>rfl)) ai))))))
   (aq (aQ (ZW.dt (vb (aO E2 IU (af 4) e8 (aM _)) (rL (cm (bf (ar ci (hr.mono (by omega)) rfl (ak ay) (aa (az (ixK (K:=K) rfl) aA (af 8) aj (λ_ _=>rfl)) (aa (az (ixK (K:=K) rfl) aA (af 4) aj (λ_ _=>rfl)) ai)))))))) (au wJ) aH)
   (aq (aN (i:=9) bR.nd rfl (by trivial) (ar ii (hr.mono (by omega)) rfl (ak ay) (aa (af 7) (aa (af 1) (aa (af 2) (aa (az (ixK (K:=K) rfl) aA (af 5) aj (λ_ _=>rfl)) ai))))))
   (aq (aN (i:=10) bR.nd rfl (by trivial) (ar f_ (hr.mono (by omega)) rfl (ak ay) (aa (cn (aa (az (ixK (K:=K) rfl) aA (af 8) aj (λ_ _=>rfl)) (aa (az (ixK (K:=K) rfl) aA (af 9) aj (λ_ _=>rfl)) ai))) ai)))
   (au (aQ (ZW.dt (dN (aO m7 pw (af 4) e8 (aM _)) (dF (bf (ar ci (hr.mono (by omega)) rfl (ak ay) (aa (af 10) (aa (az (ixK (K:=K) rfl) aA (af 4) aj (λ_ _=>rfl)) ai))))))) (au (aN (i:=4) bR.nd rfl (by trivial) (dc (aa (af 10) (aa (dc (aa (az (ixK (K:=K) rfl) aA (af 5) aj (λ_ _=>rfl)) (aa (dc (aa (az (ixK (K:=K) rfl) aA (af 8) aj (λ_ _=>rfl)) (aa (az (ixK (K:=K) rfl) aA (af 9) aj (λ_ _=>rfl)) ai))) ai))) ai))))) aH))))))))
   (au (aC (af 4))))))
theorem kO (T:Txt w K mg a_NoFraction a_NoBox a_NoWay a_NoWeights a_TooMany a_NoKind) (D:Def K mg "best_tree" iE) (sB:Callee P w K mg base "shape" 6 ["box"] (spD K mg 1 gp.F)) (j':Callee P w K mg base "cuts_of" 2 ["numbers", "kind"] (spD K mg 2 eu.F)) (i_:Callee P w K mg base "parts_by" 6 ["cut", "room", "weights"] (spD K mg 3 dk.F)) (ci:Callee P w K mg base "is_less" 1 ["one", "other"] (spD K mg 2 bX.F)) (f_:Callee P w K mg base "greatest_of" 2 ["fractions"] (spD K mg 1 cD.F)):∀ n,Callee P w K mg base "best_tree" (8 + n) ["room", "weights", "kind", "numbers"] (spD K mg 4 (cc n).F)
 | 0=>ok0 D bR (λ_ _ _ _ _ _=>ar4 λ_ _ _ _=>rfl)
 | n + 1=>sM T D sB j' i_ (kO T D sB j' i_ ci f_ n) ci f_
def iZ:PSt:=
 (aB (dX (ax cZ (ag (ah 0) (ag (ah 1) (ag (ah 2) ao)))))
  (aK (ax (cc 7).fn (ag (ah 0) (ag (ah 1) (ag (ah 2) (ag (pFn lX (ag (pFn cP (ag (ah 1) ao)) ao)) ao)))))))
def cB:PFn:=fnP [false,false,false] 3 iZ
theorem qS:cB.ms=[false,false,false]:=rfl
theorem pv (T:Txt w K mg a_NoFraction a_NoBox a_NoWay a_NoWeights a_TooMany a_NoKind) (D:Def K mg "least_worst" jc) (mk:Callee P w K mg base "check_asked" 5 ["room", "weights", "kind"] (spD K mg 3 cZ.F)) (ii:Callee P w K mg base "best_tree" 15 ["room", "weights", "kind", "numbers"] (spD K mg 4 (cc 7).F)):Callee P w K mg base "least_worst" (15 + 1) ["room", "weights", "kind"] (spD K mg 3 cB.F):=by
 unfold cB iZ
 exact okP D qN (λ_ _ _ _ _ _=>ar3 λ_ _ _=>rfl) λf cdv A outer s H E hr=>
  (aq (cX (ar mk (hr.mono (by omega)) rfl (ak ay) (aa (af 0) (aa (af 1) (aa (af 2) ai)))))
   (au (aC (ar ii (hr.mono (by omega)) rfl (ak ay) (aa (af 0) (aa (af 1) (aa (af 2) (aa (vK rfl rfl T.n_list rfl T.n_range (aa (aD (dg (K:=K) rfl) cq rfl T.n_len cz (aa (af 1) ai)) ai)) ai))))))))
def hE:PSt:=
 (aB (xIf (qO (qNo (qOf (pFn (bM kits) (ag (ah 0) (ag (pTy "tuple") ao))))) (qOf (pOp bNe (pFn cP (ag (ah 0) ao)) (av 2)))) (aK (pBl false)) xNx)
  (aK (uX (pFn tK (ag (pLC (bt (ah 0)) [none] (by decide) (gtN 0) qY (pOr (pFn (bM kits) (ag (ah 0) (ag (pTy "bool") ao))) (uX (pFn (bM kits) (ag (ah 0) (ag (pTy "int") ao)))))) ao)))))
def cJ:PFn:=fnP [false] 1 hE
theorem pq:cJ.ms=[false]:=rfl
theorem oR (T:Txt w K mg a_NoFraction a_NoBox a_NoWay a_NoWeights a_TooMany a_NoKind) (D:Def K mg "_law_fraction" fB)  : Callee P w K mg base "_law_fraction" (0 + 1) ["_law_found"] (spD K mg 1 cJ.F):=by
 unfold cJ hE
 exact okP D pL (λ_ _ _ _ _ _=>ar1 λ_=>rfl) λf cdv A outer s H E hr=>
  (aq (aQ (ZW.dt (dN (cm (bf (aD (dZ (K:=K) rfl) (da T.kits) rfl T.n_isinstance aU (aa (af 0) (aa (d6 rfl T.n_tuple fQ) ai))))) (dF (aO (lA (K:=K) rfl hr.units) jj (aD (dg (K:=K) rfl) cq rfl T.n_len cz (aa (af 0) ai)) aj (aM _))))) (au (aC jk)) aH)
   (au (aC (vy (aD (anyK (K:=K) rfl rfl) AV rfl T.n_any A2 (aa (eL ["_law_found"] (aw fB).names ["_law_one"] [none] rfl (bo rfl (af 0)) (λ_ _ _ _ _=>(aE (i:=0) (show List.Nodup (["_law_one"]:List Str) from by decide) rfl (by trivial))) (λ_ _ _ _ _=>(Mg (aD (dZ (K:=K) rfl) (da T.kits) rfl T.n_isinstance aU (aa (af 0) (aa (d6 rfl T.n_bool qK) ai))) (kQ (vy (aD (dZ (K:=K) rfl) (da T.kits) rfl T.n_isinstance aU (aa (af 0) (aa (d6 rfl T.n_int uB) ai)))))))) ai))))))
def dE (s:PFx [false]):PSt:=
 (aB (xIf (qAn (qOf (pFn (bM kits) (ag (ah 0) (ag (pTy "int") ao)))) (qNo (qOf (pFn (bM kits) (ag (ah 0) (ag (pTy "bool") ao)))))) (aK (dH (ag (ah 0) ao))) xNx)
  (aB (xIf (qO (qNo (qOf (pFn (bM kits) (ag (ah 0) (ag (pTy "tuple") ao))))) (qO (qOf (pOp bNe (pFn cP (ag (ah 0) ao)) (av 2))) (qOf (pOp lF (pOp bIx (ah 0) (av 0)) (dH (ag (bI "across") (ag (bI "down") ao))))))) (aK iw) xNx)
  (aB (xIf (qO (qNo (qOf (pFn (bM kits) (ag (pOp bIx (ah 0) (av 1)) (ag (pTy "tuple") ao))))) (qOf (pOp bNe (pFn cP (ag (pOp bIx (ah 0) (av 1)) ao)) (av 2)))) (aK iw) xNx)
  (aB (jz 1 2 (ag (ax s.fn (ag (pOp bIx (pOp bIx (ah 0) (av 1)) (av 0)) ao)) (ag (ax s.fn (ag (pOp bIx (pOp bIx (ah 0) (av 1)) (av 1)) ao)) ao)))
  (aB (xIf (qO (qOf (pOp bIs (ah 1) iw)) (qOf (pOp bIs (ah 2) iw))) (aK iw) xNx)
  (aK (pOp bQ (ah 1) (ah 2))))))))
def aY:Nat->PFx [false]
 | 0=>PFx.none [false]
 | n + 1=>PFx.of [false] 3 (dE (aY n))
theorem qD {n:Nat} (T:Txt w K mg a_NoFraction a_NoBox a_NoWay a_NoWeights a_TooMany a_NoKind) (D:Def K mg "_law_things" gy) (ap:Callee P w K mg base "_law_things" (2 + n) ["_law_tree"] (spD K mg 1 (aY n).F)):Callee P w K mg base "_law_things" (2 + n + 1) ["_law_tree"] (spD K mg 1 (aY (n + 1)).F):=by
 show Callee P w K mg base _ _ _ (spD K mg _ (PFx.of [false] 3 (dE (aY n))).F)
 unfold dE
 exact okX D je (λ_ _ _ _ _ _=>ar1 λ_=>rfl) λf cdv A outer s H E hr=>
  (aq (aQ (ZW.dt (vb (bf (aD (dZ (K:=K) rfl) (da T.kits) rfl T.n_isinstance aU (aa (af 0) (aa (d6 rfl T.n_int uB) ai)))) (rL (cm (bf (aD (dZ (K:=K) rfl) (da T.kits) rfl T.n_isinstance aU (aa (af 0) (aa (d6 rfl T.n_bool qK) ai)))))))) (au (aC (cn (aa (af 0) ai)))) aH)
   (aq (aQ (ZW.dt (dN (cm (bf (aD (dZ (K:=K) rfl) (da T.kits) rfl T.n_isinstance aU (aa (af 0) (aa (d6 rfl T.n_tuple fQ) ai))))) (dN (aO (lA (K:=K) rfl hr.units) jj (aD (dg (K:=K) rfl) cq rfl T.n_len cz (aa (af 0) ai)) aj (aM _)) (dF (aO (uP (K:=K) rfl) tQ (az (ixK (K:=K) rfl) aA (af 0) aj (λ_ _=>rfl)) (cn (aa aX (aa aX ai))) (by with_unfolding_all rfl)))))) (au (aC e8)) aH)
   (aq (aQ (ZW.dt (dN (cm (bf (aD (dZ (K:=K) rfl) (da T.kits) rfl T.n_isinstance aU (aa (az (ixK (K:=K) rfl) aA (af 0) aj (λ_ _=>rfl)) (aa (d6 rfl T.n_tuple fQ) ai))))) (dF (aO (lA (K:=K) rfl hr.units) jj (aD (dg (K:=K) rfl) cq rfl T.n_len cz (aa (az (ixK (K:=K) rfl) aA (af 0) aj (λ_ _=>rfl)) ai)) aj (aM _))))) (au (aC e8)) aH)
   (aq (gO (i:=1) (j:=2) rfl je.nd rfl rfl (by decide) rfl rfl (aa (ar ap (hr.mono (by omega)) rfl (ak ay) (aa (az (ixK (K:=K) rfl) aA (az (ixK (K:=K) rfl) aA (af 0) aj (λ_ _=>rfl)) aj (λ_ _=>rfl)) ai)) (aa (ar ap (hr.mono (by omega)) rfl (ak ay) (aa (az (ixK (K:=K) rfl) aA (az (ixK (K:=K) rfl) aA (af 0) aj (λ_ _=>rfl)) aj (λ_ _=>rfl)) ai)) ai)) rfl)
   (aq (aQ (ZW.dt (dN (aO m7 pw (af 1) e8 (aM _)) (dF (aO m7 pw (af 2) e8 (aM _))))) (au (aC e8)) aH)
   (au (aC (aF (bj (K:=K) rfl) br (af 1) (af 2)))))))))
theorem jT (T:Txt w K mg a_NoFraction a_NoBox a_NoWay a_NoWeights a_TooMany a_NoKind) (D:Def K mg "_law_things" gy)  : ∀ n,Callee P w K mg base "_law_things" (2 + n) ["_law_tree"] (spD K mg 1 (aY n).F)
 | 0=>ok0 D je (λ_ _ _ _ _ _=>ar1 λ_=>rfl)
 | n + 1=>qD T D (jT T D n)
def mL:PSt:=
 (aK (ax aZ (ag (pOp bQ (pOp bD (pOp bIx (ah 0) (av 0)) (pOp bIx (ah 1) (av 1))) (pOp bD (pOp bIx (ah 1) (av 0)) (pOp bIx (ah 0) (av 1)))) (ag (pOp bD (pOp bIx (ah 0) (av 1)) (pOp bIx (ah 1) (av 1))) ao))))
def er:PFn:=fnP [false,false] 2 mL
theorem zg:er.ms=[false,false]:=rfl
theorem wk (T:Txt w K mg a_NoFraction a_NoBox a_NoWay a_NoWeights a_TooMany a_NoKind) (D:Def K mg "_law_add" mG) (am:Callee P w K mg base "_law_low" 1 ["_law_top", "_law_bottom"] (spD K mg 2 aZ.F)):Callee P w K mg base "_law_add" (1 + 1) ["_law_one", "_law_other"] (spD K mg 2 er.F):=by
 unfold er mL
 exact okP D yF (λ_ _ _ _ _ _=>ar2 λ_ _=>rfl) λf cdv A outer s H E hr=>
  (au (aC (ar am (hr.mono (by omega)) rfl (ak ay) (aa (aF (bj (K:=K) rfl) br (aF bp bq (az (ixK (K:=K) rfl) aA (af 0) aj (λ_ _=>rfl)) (az (ixK (K:=K) rfl) aA (af 1) aj (λ_ _=>rfl))) (aF bp bq (az (ixK (K:=K) rfl) aA (af 1) aj (λ_ _=>rfl)) (az (ixK (K:=K) rfl) aA (af 0) aj (λ_ _=>rfl)))) (aa (aF bp bq (az (ixK (K:=K) rfl) aA (af 0) aj (λ_ _=>rfl)) (az (ixK (K:=K) rfl) aA (af 1) aj (λ_ _=>rfl))) ai)))))
def j8:PSt:=
 (aK (ax aZ (ag (pOp bD (pOp bIx (ah 0) (av 0)) (pOp bIx (ah 1) (av 0))) (ag (pOp bD (pOp bIx (ah 0) (av 1)) (pOp bIx (ah 1) (av 1))) ao))))
def ck:PFn:=fnP [false,false] 2 j8
theorem vD:ck.ms=[false,false]:=rfl
theorem sS (T:Txt w K mg a_NoFraction a_NoBox a_NoWay a_NoWeights a_TooMany a_NoKind) (D:Def K mg "_law_times" kh) (am:Callee P w K mg base "_law_low" 1 ["_law_top", "_law_bottom"] (spD K mg 2 aZ.F)):Callee P w K mg base "_law_times" (1 + 1) ["_law_one", "_law_other"] (spD K mg 2 ck.F):=by
 unfold ck j8
 exact okP D uz (λ_ _ _ _ _ _=>ar2 λ_ _=>rfl) λf cdv A outer s H E hr=>
  (au (aC (ar am (hr.mono (by omega)) rfl (ak ay) (aa (aF bp bq (az (ixK (K:=K) rfl) aA (af 0) aj (λ_ _=>rfl)) (az (ixK (K:=K) rfl) aA (af 1) aj (λ_ _=>rfl))) (aa (aF bp bq (az (ixK (K:=K) rfl) aA (af 0) aj (λ_ _=>rfl)) (az (ixK (K:=K) rfl) aA (af 1) aj (λ_ _=>rfl))) ai)))))
def eI:PSt:=
 (aB (jz 10 11 (ag (ax aZ (ag (ah 8) (ag (pFn gw (ag (ah 2) ao)) ao))) (ag (ax aZ (ag (ah 9) (ag (pFn gw (ag (ah 2) ao)) ao))) ao)))
  (aB (xIf (qOf (pOp bEq (ah 1) (bI "across"))) (dX (oz 7 fR (ag (d7 (ag (ax er (ag (ah 3) (ag (ax ck (ag (ah 5) (ag (ah 10) ao))) ao))) (ag (ah 4) (ag (ax ck (ag (ah 5) (ag (ah 11) ao))) (ag (ah 6) ao))))) ao))) (dX (oz 7 fR (ag (d7 (ag (ah 3) (ag (ax er (ag (ah 4) (ag (ax ck (ag (ah 6) (ag (ah 10) ao))) ao))) (ag (ah 5) (ag (ax ck (ag (ah 6) (ag (ah 11) ao))) ao))))) ao))))
  (aW false 8 (pOp bQ (ah 8) (ah 9)))))
def ng:PSt:=
 (aB (iI (ah 0) (gtX (gtT 4 (bL (gtN 3) (bL (gtN 4) (bL (gtN 5) (bL (gtN 6) fS)))))))
  (aB (aW true 7 (dH ao))
  (aB (aW false 8 (av 0))
  (aB (fY (bt (ah 2)) (gtN 9) (eI))
  (aK (ah 7))))))
def cT:PFn:=fnP [false,false,false] 12 ng
theorem yQ:cT.ms=[false,false,false]:=rfl
theorem wV (T:Txt w K mg a_NoFraction a_NoBox a_NoWay a_NoWeights a_TooMany a_NoKind) (D:Def K mg "_law_cut" nj) (am:Callee P w K mg base "_law_low" 1 ["_law_top", "_law_bottom"] (spD K mg 2 aZ.F)) (sK:Callee P w K mg base "_law_add" 2 ["_law_one", "_law_other"] (spD K mg 2 er.F)) (h_:Callee P w K mg base "_law_times" 2 ["_law_one", "_law_other"] (spD K mg 2 ck.F)):Callee P w K mg base "_law_cut" (2 + 1) ["_law_box", "_law_way", "_law_weights"] (spD K mg 3 cT.F):=by
 unfold cT ng eI
 exact okP D cN (λ_ _ _ _ _ _=>ar3 λ_ _ _=>rfl) λf cdv A outer s H E hr=>
  (aq (gj (af 0) (ZG.weak (jB rfl rfl (aT (aE (i:=3) cN.nd rfl (by trivial)) (aT (aE (i:=4) cN.nd rfl (by trivial)) (aT (aE (i:=5) cN.nd rfl (by trivial)) (aT (aE (i:=6) cN.nd rfl (by trivial)) ek)))))))
   (aq (aN (i:=7) cN.nd rfl (by trivial) (cn ai))
   (aq (aN (i:=8) cN.nd rfl (by trivial) aj)
   (aq (eh gb rfl (bo rfl (af 2)) (aE (i:=9) cN.nd rfl (by trivial)) (aq (gO (i:=10) (j:=11) rfl cN.nd rfl rfl (by decide) rfl rfl (aa (ar am (hr.mono (by omega)) rfl (ak ay) (aa (af 8) (aa (aD (fc (K:=K) rfl rfl) jK rfl T.n_sum jC (aa (af 2) ai)) ai))) (aa (ar am (hr.mono (by omega)) rfl (ak ay) (aa (af 9) (aa (aD (fc (K:=K) rfl rfl) jK rfl T.n_sum jC (aa (af 2) ai)) ai))) ai)) rfl)
   (aq (aQ (aO (fC (K:=K) rfl hr.units) dY (af 1) aX (aM _)) (au (cX (mU rfl PySem.F.slot_list_append PySem.F.type_list_append iN iL (af 7) (aa (dc (aa (ar sK (hr.mono (by omega)) rfl (ak ay) (aa (af 3) (aa (ar h_ (hr.mono (by omega)) rfl (ak ay) (aa (af 5) (aa (af 10) ai))) ai))) (aa (af 4) (aa (ar h_ (hr.mono (by omega)) rfl (ak ay) (aa (af 5) (aa (af 11) ai))) (aa (af 6) ai))))) ai)))) (au (cX (mU rfl PySem.F.slot_list_append PySem.F.type_list_append iN iL (af 7) (aa (dc (aa (af 3) (aa (ar sK (hr.mono (by omega)) rfl (ak ay) (aa (af 4) (aa (ar h_ (hr.mono (by omega)) rfl (ak ay) (aa (af 6) (aa (af 10) ai))) ai))) (aa (af 5) (aa (ar h_ (hr.mono (by omega)) rfl (ak ay) (aa (af 6) (aa (af 11) ai))) ai))))) ai)))))
   (au (aN (i:=8) cN.nd rfl (by trivial) (aF (bj (K:=K) rfl) br (af 8) (af 9)))))))
   (au (aC (af 7)))))))
def j7 (s:PFx [false,false,false]):PSt:=
 (aW false 3 (pOp bQ (ah 3) (ax s.fn (ag (ah 6) (ag (ah 5) (ag (ah 2) ao))))))
def eE (s:PFx [false,false,false]):PSt:=
 (aB (xIf (qNo (qOf (pFn (bM kits) (ag (ah 1) (ag (pTy "tuple") ao))))) (aK (dH (ag (ah 0) ao))) xNx)
  (aB (aW false 3 (dH ao))
  (aB (aW false 4 (pLC (bt (pOp bIx (ah 1) (av 1))) [none,some 2] (by decide) (gtN 0) qY (pFn gw (ag (pLC (bt (ax (aY 7).fn (ag (ah 0) ao))) [none,some 1] (by decide) (gtN 0) qY (pOp bIx (ah 1) (ah 0))) ao))))
  (aB (fY (zt (ag (pOp bIx (ah 1) (av 1)) (ag (ax cT (ag (ah 0) (ag (pOp bIx (ah 1) (av 0)) (ag (ah 4) ao)))) ao))) (gtX (gtT 2 (bL (gtN 5) (bL (gtN 6) fS)))) (j7 s))
  (aK (ah 3))))))
def cM:Nat->PFx [false,false,false]
 | 0=>PFx.none [false,false,false]
 | n + 1=>PFx.of [false,false,false] 7 (eE (cM n))
theorem vU {n:Nat} (T:Txt w K mg a_NoFraction a_NoBox a_NoWay a_NoWeights a_TooMany a_NoKind) (D:Def K mg "_law_laid" gu) (ap:Callee P w K mg base "_law_things" 9 ["_law_tree"] (spD K mg 1 (aY 7).F)) (dL:Callee P w K mg base "_law_cut" 3 ["_law_box", "_law_way", "_law_weights"] (spD K mg 3 cT.F)) (li:Callee P w K mg base "_law_laid" (11 + n) ["_law_box", "_law_tree", "_law_weights"] (spD K mg 3 (cM n).F)):Callee P w K mg base "_law_laid" (11 + n + 1) ["_law_box", "_law_tree", "_law_weights"] (spD K mg 3 (cM (n + 1)).F):=by
 show Callee P w K mg base _ _ _ (spD K mg _ (PFx.of [false,false,false] 7 (eE (cM n))).F)
 unfold eE j7
 exact okX D dU (λ_ _ _ _ _ _=>ar3 λ_ _ _=>rfl) λf cdv A outer s H E hr=>
  (aq (aQ (cm (bf (aD (dZ (K:=K) rfl) (da T.kits) rfl T.n_isinstance aU (aa (af 1) (aa (d6 rfl T.n_tuple fQ) ai))))) (au (aC (cn (aa (af 0) ai)))) aH)
   (aq (aN (i:=3) dU.nd rfl (by trivial) (cn ai))
   (aq (DD (iT:=4) ["_law_box", "_law_tree", "_law_weights", "_law_boxes", "_law_sums", "_law_one", "_law_part"] (aw gu).names ["_law_one", "_law_weights"] [none,some 2] rfl dU.nd rfl (by trivial) (bo rfl (az (ixK (K:=K) rfl) aA (af 1) aj (λ_ _=>rfl))) (λ_ _ _ _ _=>(aE (i:=0) (show List.Nodup (["_law_one", "_law_weights"]:List Str) from by decide) rfl (by trivial))) (λ_ _ _ _ _=>(aD (fc (K:=K) rfl rfl) jK rfl T.n_sum jC (aa (eL ["_law_one", "_law_weights"] [(PySem.Str.ofString ".0",PySem.NameKind.local),(PySem.Str.ofString "_law_one",PySem.NameKind.local),(PySem.Str.ofString "sum",PySem.NameKind.globalImplicit),(PySem.Str.ofString "_law_things",PySem.NameKind.globalImplicit),(PySem.Str.ofString "_law_weights",PySem.NameKind.cell)] ["_law_k", "_law_weights"] [none,some 1] rfl (bo rfl (ar ap (hr.mono (by omega)) rfl fj (aa (af 0) ai))) (λ_ _ _ _ _=>(aE (i:=0) (show List.Nodup (["_law_k", "_law_weights"]:List Str) from by decide) rfl (by trivial))) (λ_ _ _ _ _=>(az (ixK (K:=K) rfl) aA (af 1) (af 0) (λ_ _=>rfl)))) ai))))
   (aq (eh gb rfl (Hl rfl rfl T.n_zip (aa (az (ixK (K:=K) rfl) aA (af 1) aj (λ_ _=>rfl)) (aa (ar dL (hr.mono (by omega)) rfl (ak ay) (aa (af 0) (aa (az (ixK (K:=K) rfl) aA (af 1) aj (λ_ _=>rfl)) (aa (af 4) ai)))) ai))) (ZG.weak (jB rfl rfl (aT (aE (i:=5) dU.nd rfl (by trivial)) (aT (aE (i:=6) dU.nd rfl (by trivial)) ek)))) (au (aN (i:=3) dU.nd rfl (by trivial) (aF (bj (K:=K) rfl) br (af 3) (ar li (hr.mono (by omega)) rfl (ak ay) (aa (af 6) (aa (af 5) (aa (af 2) ai))))))))
   (au (aC (af 3)))))))
theorem my (T:Txt w K mg a_NoFraction a_NoBox a_NoWay a_NoWeights a_TooMany a_NoKind) (D:Def K mg "_law_laid" gu) (ap:Callee P w K mg base "_law_things" 9 ["_law_tree"] (spD K mg 1 (aY 7).F)) (dL:Callee P w K mg base "_law_cut" 3 ["_law_box", "_law_way", "_law_weights"] (spD K mg 3 cT.F)):∀ n,Callee P w K mg base "_law_laid" (11 + n) ["_law_box", "_law_tree", "_law_weights"] (spD K mg 3 (cM n).F)
 | 0=>ok0 D dU (λ_ _ _ _ _ _=>ar3 λ_ _ _=>rfl)
 | n + 1=>vU T D ap dL (my T D ap dL n)
def lM:PSt:=
 (aK (pOp bLt (pOp bD (pOp bIx (ah 0) (av 0)) (pOp bIx (ah 1) (av 1))) (pOp bD (pOp bIx (ah 1) (av 0)) (pOp bIx (ah 0) (av 1)))))
def bA:PFn:=fnP [false,false] 2 lM
theorem wK:bA.ms=[false,false]:=rfl
theorem wd (T:Txt w K mg a_NoFraction a_NoBox a_NoWay a_NoWeights a_TooMany a_NoKind) (D:Def K mg "_law_less" lJ)  : Callee P w K mg base "_law_less" (0 + 1) ["_law_one", "_law_other"] (spD K mg 2 bA.F):=by
 unfold bA lM
 exact okP D wz (λ_ _ _ _ _ _=>ar2 λ_ _=>rfl) λf cdv A outer s H E hr=>
  (au (aC (fL pX qc (aF bp bq (az (ixK (K:=K) rfl) aA (af 0) aj (λ_ _=>rfl)) (az (ixK (K:=K) rfl) aA (af 1) aj (λ_ _=>rfl))) (aF bp bq (az (ixK (K:=K) rfl) aA (af 1) aj (λ_ _=>rfl)) (az (ixK (K:=K) rfl) aA (af 0) aj (λ_ _=>rfl))) (aM _))))
def lu:PSt:=
 (aK (ax aZ (ag (pOp bD (pOp bIx (ah 0) (av 0)) (pOp bIx (ah 1) (av 1))) (ag (pOp bD (pOp bIx (ah 0) (av 1)) (pOp bIx (ah 1) (av 0))) ao))))
def dP:PFn:=fnP [false,false] 2 lu
theorem wH:dP.ms=[false,false]:=rfl
theorem vo (T:Txt w K mg a_NoFraction a_NoBox a_NoWay a_NoWeights a_TooMany a_NoKind) (D:Def K mg "_law_over" lR) (am:Callee P w K mg base "_law_low" 1 ["_law_top", "_law_bottom"] (spD K mg 2 aZ.F)):Callee P w K mg base "_law_over" (1 + 1) ["_law_one", "_law_other"] (spD K mg 2 dP.F):=by
 unfold dP lu
 exact okP D wW (λ_ _ _ _ _ _=>ar2 λ_ _=>rfl) λf cdv A outer s H E hr=>
  (au (aC (ar am (hr.mono (by omega)) rfl (ak ay) (aa (aF bp bq (az (ixK (K:=K) rfl) aA (af 0) aj (λ_ _=>rfl)) (az (ixK (K:=K) rfl) aA (af 1) aj (λ_ _=>rfl))) (aa (aF bp bq (az (ixK (K:=K) rfl) aA (af 0) aj (λ_ _=>rfl)) (az (ixK (K:=K) rfl) aA (af 1) aj (λ_ _=>rfl))) ai)))))
def kd:PSt:=
 (aB (xIf (qOf (ax bA (ag (pOp bIx (ah 0) (av 2)) (ag (pOp bIx (ah 0) (av 3)) ao)))) (aK (ax dP (ag (pOp bIx (ah 0) (av 3)) (ag (pOp bIx (ah 0) (av 2)) ao)))) xNx)
  (aK (ax dP (ag (pOp bIx (ah 0) (av 2)) (ag (pOp bIx (ah 0) (av 3)) ao)))))
def bU:PFn:=fnP [false] 1 kd
theorem ui:bU.ms=[false]:=rfl
theorem sO (T:Txt w K mg a_NoFraction a_NoBox a_NoWay a_NoWeights a_TooMany a_NoKind) (D:Def K mg "_law_shape" jZ) (be:Callee P w K mg base "_law_less" 1 ["_law_one", "_law_other"] (spD K mg 2 bA.F)) (n_:Callee P w K mg base "_law_over" 2 ["_law_one", "_law_other"] (spD K mg 2 dP.F)):Callee P w K mg base "_law_shape" (2 + 1) ["_law_box"] (spD K mg 1 bU.F):=by
 unfold bU kd
 exact okP D uK (λ_ _ _ _ _ _=>ar1 λ_=>rfl) λf cdv A outer s H E hr=>
  (aq (aQ (bf (ar be (hr.mono (by omega)) rfl (ak ay) (aa (az (ixK (K:=K) rfl) aA (af 0) aj (λ_ _=>rfl)) (aa (az (ixK (K:=K) rfl) aA (af 0) aj (λ_ _=>rfl)) ai)))) (au (aC (ar n_ (hr.mono (by omega)) rfl (ak ay) (aa (az (ixK (K:=K) rfl) aA (af 0) aj (λ_ _=>rfl)) (aa (az (ixK (K:=K) rfl) aA (af 0) aj (λ_ _=>rfl)) ai))))) aH)
   (au (aC (ar n_ (hr.mono (by omega)) rfl (ak ay) (aa (az (ixK (K:=K) rfl) aA (af 0) aj (λ_ _=>rfl)) (aa (az (ixK (K:=K) rfl) aA (af 0) aj (λ_ _=>rfl)) ai))))))
def iW:PSt:=
 (aW false 2 (pOp bQ (ah 2) (pLC (bt (ah 2)) [none,some 3] (by decide) (gtN 0) qY (pOp bQ (ah 0) (dH (ag (ah 1) ao))))))
def gY:PSt:=
 (aB (xIf (qOf (pOp bEq (ah 1) (bI "order"))) (aK (pLC (tG (ag (av 1) (ag (pFn cP (ag (ah 0) ao)) ao))) [none,some 0] (by decide) (gtN 0) qY (pSl (ah 1) oN (oS (ah 0))))) xNx)
  (aB (aW false 2 (dH (ag (dH (ag (pOp bIx (ah 0) (av 0)) ao)) ao)))
  (aB (fY (bt (pSl (ah 0) (oS (av 1)) oN)) (gtN 3) (iW))
  (aK (pSl (ah 2) oN (oS (pUn uD (av 1))))))))
def bG:PFn:=fnP [false,false] 4 gY
theorem sR:bG.ms=[false,false]:=rfl
theorem qR (T:Txt w K mg a_NoFraction a_NoBox a_NoWay a_NoWeights a_TooMany a_NoKind) (D:Def K mg "_law_firsts" eZ)  : Callee P w K mg base "_law_firsts" (0 + 1) ["_law_numbers", "_law_kind"] (spD K mg 2 bG.F):=by
 unfold bG gY iW
 exact okP D fN (λ_ _ _ _ _ _=>ar2 λ_ _=>rfl) λf cdv A outer s H E hr=>
  (aq (aQ (aO (fC (K:=K) rfl hr.units) dY (af 1) aX (aM _)) (au (aC (eL ["_law_numbers", "_law_kind", "_law_lots", "_law_number"] (aw eZ).names ["_law_k", "_law_numbers"] [none,some 0] rfl (rS rfl T.n_range (aa aj (aa (aD (dg (K:=K) rfl) cq rfl T.n_len cz (aa (af 0) ai)) ai))) (λ_ _ _ _ _=>(aE (i:=0) (show List.Nodup (["_law_k", "_law_numbers"]:List Str) from by decide) rfl (by trivial))) (λ_ _ _ _ _=>(eW rfl (af 1) gh (gk (af 0))))))) aH)
   (aq (aN (i:=2) fN.nd rfl (by trivial) (cn (aa (cn (aa (az (ixK (K:=K) rfl) aA (af 0) aj (λ_ _=>rfl)) ai)) ai)))
   (aq (eh gb rfl (bo rfl (eW rfl (af 0) (gk aj) gh)) (aE (i:=3) fN.nd rfl (by trivial)) (au (aN (i:=2) fN.nd rfl (by trivial) (aF (bj (K:=K) rfl) br (af 2) (eL ["_law_numbers", "_law_kind", "_law_lots", "_law_number"] (aw eZ).names ["_law_lot", "_law_number"] [none,some 3] rfl (bo rfl (af 2)) (λ_ _ _ _ _=>(aE (i:=0) (show List.Nodup (["_law_lot", "_law_number"]:List Str) from by decide) rfl (by trivial))) (λ_ _ _ _ _=>(aF (bj (K:=K) rfl) br (af 0) (cn (aa (af 1) ai)))))))))
   (au (aC (eW rfl (af 2) gh (gk (yy vx uM aj))))))))
def fh (s:PFx [false,false,false,false]):PSt:=
 (aB (iI (ax cT (ag (ah 0) (ag (ah 8) (ag (ah 7) ao)))) (gtX (gtU 2 (bL (gtN 9) (bL (gtN 10) fS)))))
  (aB (aW true 11 (dH (ag (ax s.fn (ag (ah 9) (ag (ah 5) (ag (ah 2) (ag (ah 3) ao))))) (ag (ax s.fn (ag (ah 10) (ag (ah 6) (ag (ah 2) (ag (ah 3) ao))))) ao))))
  (aB (xIf (qOf (ax bA (ag (pOp bIx (ah 11) (av 0)) (ag (pOp bIx (ah 11) (av 1)) ao)))) (dX (yR 11 mX)) xNx)
  (xIf (qO (qOf (pOp bIs (ah 4) iw)) (qOf (ax bA (ag (pOp bIx (ah 11) (av 0)) (ag (ah 4) ao))))) (aW false 4 (pOp bIx (ah 11) (av 0))) xNx))))
def gq (s:PFx [false,false,false,false]):PSt:=
 (aB (aW false 6 (pLC (bt (ah 1)) [none,some 5] (by decide) (gtN 0) (qOf (pOp lF (ah 0) (ah 1))) (ah 0)))
  (aB (aW false 7 (dH (ag (pFn gw (ag (pLC (bt (ah 5)) [none,some 2] (by decide) (gtN 0) qY (pOp bIx (ah 1) (ah 0))) ao)) (ag (pFn gw (ag (pLC (bt (ah 6)) [none,some 2] (by decide) (gtN 0) qY (pOp bIx (ah 1) (ah 0))) ao)) ao))))
  (fY (bt (dH (ag (bI "across") (ag (bI "down") ao)))) (gtN 8) (fh s))))
def eP (s:PFx [false,false,false,false]):PSt:=
 (aB (xIf (qOf (pOp bEq (pFn cP (ag (ah 1) ao)) (av 1))) (aK (ax bU (ag (ah 0) ao))) xNx)
  (aB (aW false 4 iw)
  (aB (fY (bt (ax bG (ag (ah 1) (ag (ah 3) ao)))) (gtN 5) (gq s))
  (aK (ah 4)))))
def bP:Nat->PFx [false,false,false,false]
 | 0=>PFx.none [false,false,false,false]
 | n + 1=>PFx.of [false,false,false,false] 12 (eP (bP n))
theorem sQ {n:Nat} (T:Txt w K mg a_NoFraction a_NoBox a_NoWay a_NoWeights a_TooMany a_NoKind) (D:Def K mg "_law_least" dS) (e_:Callee P w K mg base "_law_shape" 3 ["_law_box"] (spD K mg 1 bU.F)) (gl:Callee P w K mg base "_law_firsts" 1 ["_law_numbers", "_law_kind"] (spD K mg 2 bG.F)) (dL:Callee P w K mg base "_law_cut" 3 ["_law_box", "_law_way", "_law_weights"] (spD K mg 3 cT.F)) (im:Callee P w K mg base "_law_least" (5 + n) ["_law_box", "_law_numbers", "_law_weights", "_law_kind"] (spD K mg 4 (bP n).F)) (be:Callee P w K mg base "_law_less" 1 ["_law_one", "_law_other"] (spD K mg 2 bA.F)):Callee P w K mg base "_law_least" (5 + n + 1) ["_law_box", "_law_numbers", "_law_weights", "_law_kind"] (spD K mg 4 (bP (n + 1)).F):=by
 show Callee P w K mg base _ _ _ (spD K mg _ (PFx.of [false,false,false,false] 12 (eP (bP n))).F)
 unfold eP gq fh
 exact okX D bJ (λ_ _ _ _ _ _=>ar4 λ_ _ _ _=>rfl) λf cdv A outer s H E hr=>
  (aq (aQ (aO (fC (K:=K) rfl hr.units) dY (aD (dg (K:=K) rfl) cq rfl T.n_len cz (aa (af 1) ai)) aj (aM _)) (au (aC (ar e_ (hr.mono (by omega)) rfl (ak ay) (aa (af 0) ai)))) aH)
   (aq (aN (i:=4) bJ.nd rfl (by trivial) e8)
   (aq (eh gb rfl (bo rfl (ar gl (hr.mono (by omega)) rfl (ak ay) (aa (af 1) (aa (af 3) ai)))) (aE (i:=5) bJ.nd rfl (by trivial)) (aq (F4 (iT:=6) ["_law_box", "_law_numbers", "_law_weights", "_law_kind", "_law_best", "_law_first", "_law_second", "_law_sums", "_law_way", "_law_one", "_law_other", "_law_shapes"] (aw dS).names ["_law_number", "_law_first"] [none,some 5] rfl bJ.nd rfl (by trivial) (bo rfl (af 1)) (λ_ _ _ _ _=>(aE (i:=0) (show List.Nodup (["_law_number", "_law_first"]:List Str) from by decide) rfl (by trivial))) (λ_ _ _ _ _=>(aO (uP (K:=K) rfl) tQ (af 0) (af 1) (by with_unfolding_all rfl))) (λ_ _ _ _ _=>(af 0)))
   (aq (aN (i:=7) bJ.nd rfl (by trivial) (cn (aa (aD (fc (K:=K) rfl rfl) jK rfl T.n_sum jC (aa (eL ["_law_box", "_law_numbers", "_law_weights", "_law_kind", "_law_best", "_law_first", "_law_second", "_law_sums", "_law_way", "_law_one", "_law_other", "_law_shapes"] (aw dS).names ["_law_k", "_law_weights"] [none,some 2] rfl (bo rfl (af 5)) (λ_ _ _ _ _=>(aE (i:=0) (show List.Nodup (["_law_k", "_law_weights"]:List Str) from by decide) rfl (by trivial))) (λ_ _ _ _ _=>(az (ixK (K:=K) rfl) aA (af 1) (af 0) (λ_ _=>rfl)))) ai)) (aa (aD (fc (K:=K) rfl rfl) jK rfl T.n_sum jC (aa (eL ["_law_box", "_law_numbers", "_law_weights", "_law_kind", "_law_best", "_law_first", "_law_second", "_law_sums", "_law_way", "_law_one", "_law_other", "_law_shapes"] (aw dS).names ["_law_k", "_law_weights"] [none,some 2] rfl (bo rfl (af 6)) (λ_ _ _ _ _=>(aE (i:=0) (show List.Nodup (["_law_k", "_law_weights"]:List Str) from by decide) rfl (by trivial))) (λ_ _ _ _ _=>(az (ixK (K:=K) rfl) aA (af 1) (af 0) (λ_ _=>rfl)))) ai)) ai))))
   (au (eh gb rfl (bo rfl (cn (aa aX (aa aX ai)))) (aE (i:=8) bJ.nd rfl (by trivial)) (aq (gj (ar dL (hr.mono (by omega)) rfl (ak ay) (aa (af 0) (aa (af 8) (aa (af 7) ai)))) (ZG.weak (pA rfl rfl (aT (aE (i:=9) bJ.nd rfl (by trivial)) (aT (aE (i:=10) bJ.nd rfl (by trivial)) ek)))))
   (aq (aN (i:=11) bJ.nd rfl (by trivial) (cn (aa (ar im (hr.mono (by omega)) rfl (ak ay) (aa (af 9) (aa (af 5) (aa (af 2) (aa (af 3) ai))))) (aa (ar im (hr.mono (by omega)) rfl (ak ay) (aa (af 10) (aa (af 6) (aa (af 2) (aa (af 3) ai))))) ai))))
   (aq (aQ (bf (ar be (hr.mono (by omega)) rfl (ak ay) (aa (az (ixK (K:=K) rfl) aA (af 11) aj (λ_ _=>rfl)) (aa (az (ixK (K:=K) rfl) aA (af 11) aj (λ_ _=>rfl)) ai)))) (au (cX (FJ rfl PySem.F.slot_list_reverse PySem.F.type_list_reverse yh yK (af 11)))) aH)
   (au (aQ (ZW.dt (dN (aO m7 pw (af 4) e8 (aM _)) (dF (bf (ar be (hr.mono (by omega)) rfl (ak ay) (aa (az (ixK (K:=K) rfl) aA (af 11) aj (λ_ _=>rfl)) (aa (af 4) ai))))))) (au (aN (i:=4) bJ.nd rfl (by trivial) (az (ixK (K:=K) rfl) aA (af 11) aj (λ_ _=>rfl)))) aH))))))))))
   (au (aC (af 4))))))
theorem kH (T:Txt w K mg a_NoFraction a_NoBox a_NoWay a_NoWeights a_TooMany a_NoKind) (D:Def K mg "_law_least" dS) (e_:Callee P w K mg base "_law_shape" 3 ["_law_box"] (spD K mg 1 bU.F)) (gl:Callee P w K mg base "_law_firsts" 1 ["_law_numbers", "_law_kind"] (spD K mg 2 bG.F)) (dL:Callee P w K mg base "_law_cut" 3 ["_law_box", "_law_way", "_law_weights"] (spD K mg 3 cT.F)) (be:Callee P w K mg base "_law_less" 1 ["_law_one", "_law_other"] (spD K mg 2 bA.F)):∀ n,Callee P w K mg base "_law_least" (5 + n) ["_law_box", "_law_numbers", "_law_weights", "_law_kind"] (spD K mg 4 (bP n).F)
 | 0=>ok0 D bJ (λ_ _ _ _ _ _=>ar4 λ_ _ _ _=>rfl)
 | n + 1=>sQ T D e_ gl dL (kH T D e_ gl dL be n) be
def lz:PSt:=
 (aB (xIf (qO (qNo (qOf (pFn (bM kits) (ag (ah 2) (ag (pTy "tuple") ao))))) (qO (qOf (pOp bNe (pFn cP (ag (ah 2) ao)) (av 2))) (qNo (qOf (ax cJ (ag (pOp bIx (ah 2) (av 0)) ao)))))) (aK (pBl false)) xNx)
  (aB (aW false 3 (ax (aY 7).fn (ag (pOp bIx (ah 2) (av 1)) ao)))
  (aB (xIf (qO (qOf (pOp bIs (ah 3) iw)) (qOf (pOp bNe (ah 3) (pFn lX (ag (pFn cP (ag (ah 1) ao)) ao))))) (aK (pBl false)) xNx)
  (aB (aW false 4 (pLC (bt (ax (cM 7).fn (ag (ah 0) (ag (pOp bIx (ah 2) (av 1)) (ag (ah 1) ao))))) [none] (by decide) (gtN 0) qY (ax bU (ag (ah 0) ao))))
  (aB (xIf (qO (qOf (pOp yX (pOp bIx (ah 2) (av 0)) (ah 4))) (qOf (pFn tK (ag (pLC (bt (ah 4)) [none,some 2] (by decide) (gtN 0) qY (ax bA (ag (pOp bIx (ah 1) (av 0)) (ag (ah 0) ao)))) ao)))) (aK (pBl false)) xNx)
  (aK (pOp bEq (pOp bIx (ah 2) (av 0)) (ax (bP 7).fn (ag (ah 0) (ag (pFn lX (ag (pFn cP (ag (ah 1) ao)) ao)) (ag (ah 1) (ag (bI "order") ao))))))))))))
def eJ:PFn:=fnP [false,false,false] 5 lz
theorem wC:eJ.ms=[false,false,false]:=rfl
theorem u6 (T:Txt w K mg a_NoFraction a_NoBox a_NoWay a_NoWeights a_TooMany a_NoKind) (D:Def K mg "_law_good" gC) (le:Callee P w K mg base "_law_fraction" 1 ["_law_found"] (spD K mg 1 cJ.F)) (ap:Callee P w K mg base "_law_things" 9 ["_law_tree"] (spD K mg 1 (aY 7).F)) (li:Callee P w K mg base "_law_laid" 18 ["_law_box", "_law_tree", "_law_weights"] (spD K mg 3 (cM 7).F)) (e_:Callee P w K mg base "_law_shape" 3 ["_law_box"] (spD K mg 1 bU.F)) (be:Callee P w K mg base "_law_less" 1 ["_law_one", "_law_other"] (spD K mg 2 bA.F)) (im:Callee P w K mg base "_law_least" 12 ["_law_box", "_law_numbers", "_law_weights", "_law_kind"] (spD K mg 4 (bP 7).F)):Callee P w K mg base "_law_good" (18 + 1) ["_law_room", "_law_weights", "_law_found"] (spD K mg 3 eJ.F):=by
 unfold eJ lz
 exact okP D j0 (λ_ _ _ _ _ _=>ar3 λ_ _ _=>rfl) λf cdv A outer s H E hr=>
  (aq (aQ (ZW.dt (dN (cm (bf (aD (dZ (K:=K) rfl) (da T.kits) rfl T.n_isinstance aU (aa (af 2) (aa (d6 rfl T.n_tuple fQ) ai))))) (dN (aO (lA (K:=K) rfl hr.units) jj (aD (dg (K:=K) rfl) cq rfl T.n_len cz (aa (af 2) ai)) aj (aM _)) (dF (cm (bf (ar le (hr.mono (by omega)) rfl (ak ay) (aa (az (ixK (K:=K) rfl) aA (af 2) aj (λ_ _=>rfl)) ai)))))))) (au (aC jk)) aH)
   (aq (aN (i:=3) j0.nd rfl (by trivial) (ar ap (hr.mono (by omega)) rfl (ak ay) (aa (az (ixK (K:=K) rfl) aA (af 2) aj (λ_ _=>rfl)) ai)))
   (aq (aQ (ZW.dt (dN (aO m7 pw (af 3) e8 (aM _)) (dF (aO (lA (K:=K) rfl hr.units) jj (af 3) (vK rfl rfl T.n_list rfl T.n_range (aa (aD (dg (K:=K) rfl) cq rfl T.n_len cz (aa (af 1) ai)) ai)) (aM _))))) (au (aC jk)) aH)
   (aq (DD (iT:=4) ["_law_room", "_law_weights", "_law_found", "_law_things_here", "_law_shapes"] (aw gC).names ["_law_box"] [none] rfl j0.nd rfl (by trivial) (bo rfl (ar li (hr.mono (by omega)) rfl (ak ay) (aa (af 0) (aa (az (ixK (K:=K) rfl) aA (af 2) aj (λ_ _=>rfl)) (aa (af 1) ai))))) (λ_ _ _ _ _=>(aE (i:=0) (show List.Nodup (["_law_box"]:List Str) from by decide) rfl (by trivial))) (λ_ _ _ _ _=>(ar e_ (hr.mono (by omega)) rfl fj (aa (af 0) ai))))
   (aq (aQ (ZW.dt (dN (aO (Ln (K:=K) rfl hr.u100) Fo (az (ixK (K:=K) rfl) aA (af 2) aj (λ_ _=>rfl)) (af 4) (by with_unfolding_all rfl)) (dF (bf (aD (anyK (K:=K) rfl rfl) AV rfl T.n_any A2 (aa (eL ["_law_room", "_law_weights", "_law_found", "_law_things_here", "_law_shapes"] (aw gC).names ["_law_one", "_law_found"] [none,some 2] rfl (bo rfl (af 4)) (λ_ _ _ _ _=>(aE (i:=0) (show List.Nodup (["_law_one", "_law_found"]:List Str) from by decide) rfl (by trivial))) (λ_ _ _ _ _=>(ar be (hr.mono (by omega)) rfl fj (aa (az (ixK (K:=K) rfl) aA (af 1) aj (λ_ _=>rfl)) (aa (af 0) ai))))) ai)))))) (au (aC jk)) aH)
   (au (aC (fL (fC (K:=K) rfl hr.units) dY (az (ixK (K:=K) rfl) aA (af 2) aj (λ_ _=>rfl)) (ar im (hr.mono (by omega)) rfl (ak ay) (aa (af 0) (aa (vK rfl rfl T.n_list rfl T.n_range (aa (aD (dg (K:=K) rfl) cq rfl T.n_len cz (aa (af 1) ai)) ai)) (aa (af 1) (aa aX ai))))) (aM _)))))))))
def za:PSt:=
 (aB (aW true 1 (ax eK (ag (ah 0) ao)))
  (aB (iI (ax fA (ag (ah 1) (ag (av 6) ao))) (gtX (gtU 2 (bL (gtN 2) (bL (gtN 3) fS)))))
  (aB (aW false 4 (pFn mQ (ag (ah 3) ao)))
  (aB (aW false 5 (ax cB (ag (ah 2) (ag (ah 4) (ag (bI "order") ao)))))
  (aB (xIf (qO (qOf (pOp bNe (ah 4) (ah 3))) (qNo (qOf (ax eJ (ag (ah 2) (ag (ah 3) (ag (ah 5) ao))))))) (aK (pBl false)) xNx)
  (aK (pOp bEq (pOp bIx (ax cB (ag (ah 2) (ag (ah 3) (ag (bI "order") ao)))) (av 0)) (pOp bIx (ah 5) (av 0)))))))))
def pC:PFn:=fnP [false] 6 za
theorem FE (T:Txt w K mg a_NoFraction a_NoBox a_NoWay a_NoWeights a_TooMany a_NoKind) (D:Def K mg "law" tJ) (u8:Callee P w K mg base "_law_feed" 1 ["_law_script"] (spD K mg 1 eK.F)) (ul:Callee P w K mg base "_law_case" 4 ["_law_feed_here", "_law_most"] (spD K mg 2 fA.F)) (c_least_worst:Callee P w K mg base "least_worst" 16 ["room", "weights", "kind"] (spD K mg 3 cB.F)) (ut:Callee P w K mg base "_law_good" 19 ["_law_room", "_law_weights", "_law_found"] (spD K mg 3 eJ.F)):Callee P w K mg base "law" (19 + 1) ["_law_script"] (spD K mg 1 pC.F):=by
 unfold pC za
 exact okP D kC (λ_ _ _ _ _ _=>ar1 λ_=>rfl) λf cdv A outer s H E hr=>
  (aq (aN (i:=1) kC.nd rfl (by trivial) (ar u8 (hr.mono (by omega)) rfl (ak ay) (aa (af 0) ai)))
   (aq (gj (ar ul (hr.mono (by omega)) rfl (ak ay) (aa (af 1) (aa aj ai))) (ZG.weak (pA rfl rfl (aT (aE (i:=2) kC.nd rfl (by trivial)) (aT (aE (i:=3) kC.nd rfl (by trivial)) ek)))))
   (aq (aN (i:=4) kC.nd rfl (by trivial) (mT (vj (K:=K) rfl) rD rfl T.n_list nJ (aa (af 3) ai)))
   (aq (aN (i:=5) kC.nd rfl (by trivial) (ar c_least_worst (hr.mono (by omega)) rfl (ak ay) (aa (af 2) (aa (af 4) (aa aX ai)))))
   (aq (aQ (ZW.dt (dN (aO (lA (K:=K) rfl hr.units) jj (af 4) (af 3) (aM _)) (dF (cm (bf (ar ut (hr.mono (by omega)) rfl (ak ay) (aa (af 2) (aa (af 3) (aa (af 5) ai))))))))) (au (aC jk)) aH)
   (au (aC (fL (fC (K:=K) rfl hr.units) dY (az (ixK (K:=K) rfl) aA (ar c_least_worst (hr.mono (by omega)) rfl (ak ay) (aa (af 2) (aa (af 3) (aa aX ai)))) aj (λ_ _=>rfl)) (az (ixK (K:=K) rfl) aA (af 5) aj (λ_ _=>rfl)) (aM _)))))))))
end
def fdD (cs:List Int) (a l:Int):Val:=.dct [(.inr "cells",.lst (cs.map .int)),(.inr "at",.int a),(.inr "left",.int l)]
def Fd (n:Nat) (v:Val):Prop:=∃ cs a l,v=fdD cs a l/\0<=a/\a<=n
theorem Fd.mono {n m:Nat}{v:Val} (h:Fd n v) (q:n<=m):Fd m v:=by
 obtain⟨cs,a,l,e,h0,h1⟩:=h
 exact⟨cs,a,l,e,h0,by omega⟩
theorem jG (cs:List Int) (a l:Int):iX.G (fdD cs a l) (.str "cells")=.val (.lst (cs.map .int)):=rfl
theorem pJ (cs:List Int) (a l:Int):iX.G (fdD cs a l) (.str "at")=.val (.int a):=rfl
theorem kG (cs:List Int) (a l:Int):iX.G (fdD cs a l) (.str "left")=.val (.int l):=rfl
theorem kD (cs:List Int) (a l x:Int):seD.G (fdD cs a l) (.str "at") (.int x)=some (fdD cs x l):=rfl
theorem jD (cs:List Int) (a l x:Int):seD.G (fdD cs a l) (.str "left") (.int x)=some (fdD cs a x):=rfl
theorem tE:rQ.G (.int 10) (.int 18)=.val (.int (10 ^ 18)):=Ec ⟨by decide,by decide,by decide⟩
theorem fP {a m:Int} (h:0 < m):0<=a.fmod m/\a.fmod m < m:=⟨Int.fmod_nonneg_of_pos a h,Int.fmod_lt_of_pos a h⟩
set_option hygiene false in
local macro_rules | `(tactic| simp![$args,*])=>`(tactic| simp only[jg,Lq,Kz,K3,Ls,Gr,jO,LA,B6,yH,Iy,JA,HQ,GJ,Ji,JJ,I0,HW,ER,BF,Jq,IQ,IH,A9,FW,G1,Ml,MC,v_bl,KU,Mu,v_ty,MK,v_un,v_op,Lr,GS,v_fn,Lu,Lf,Lx,y_or,Mo,c_of,c_an,c_o,c_no,c_y,x_nx,x_ct,Lj,FN,FG,Et,G9,Ee,x_if,LR,Mc,Lg,Ew,C2,CW,g_n,g_sn,g_sc,g_t,g_x,Kb,Ky,L6,LN,En,Kv,Lo,MP,KA,Ki,Hy,G5,K4,Gs,CV,Md,Mp,Hc,J3,J2,Ib,Kl,MN,LZ,kF,v_lc,GG,Gp,JF,o_n,o_s,v_sl,Ms,fx_G,LH,K9,k_lt,k_gt,k_ge,LO,Lc,k_ix,GZ,zD,k_eq,k_ne,LG,k_is,Mj,Kp,KI,Mv,LP,IS,Bp,sy,tS,List.getElem?_cons_zero,List.getElem?_cons_succ,List.set_cons_zero,List.set_cons_succ,List.length_cons,List.length_nil,Option.bind_some,Option.map_some,Option.isSome_some,if_true,if_false,Bool.not_true,Bool.not_false,Bool.and_true,Bool.true_and,Bool.false_and,Bool.or_true,Bool.true_or,Bool.or_false,Nat.reduceLeDiff,Nat.reduceLT,Nat.reduceAdd,Nat.reduceSub,Nat.zero_add,Nat.add_zero,Nat.sub_self,List.cons_append,List.nil_append,List.append_nil,List.replicate,reduceCtorEq,decide_false,Bool.false_eq_true,List.all_cons,List.all_nil,List.isEmpty_nil,List.map_cons,List.map_nil,Int.reduceBEq,Int.reduceLT,Int.reduceAdd,Int.reduceSub,Int.reduceMul,Int.cast_ofNat_Int,Hr,Fg,IK,Iw,FK,Dm,JY,zY,Gk,Hu,Ft,zE,Fy,Je,B9,GD,F8,JT,BI,Jn,Jx,Gj,KW,L5,Kx,Mq,zP,zH,AO,gX,fH,mS,BM,so,AM,mY,ati0,ati1,ati2,ati3,bT,Jz,GP,Int.reduceNeg,Ek,JN,g_u,g_uL,zT,KR,wU,wI,yc,uc,wX,wA,wg,nR,rO,Ad,wc,vO,oZ,sU,rB,zy,wM,wN,Gi,BQ,yb,zk,As,u5,Bq,BO,zU,AK,uJ,wF,qL,qS,pq,zg,vD,yQ,wK,wH,ui,sR,wC,pf,EK,$args,*])
theorem FQ {ns:List Int} (hl:ns.length<=63):∃ v,eK.G [.kl (ns.map .int)]=.ok (.new v) []/\Fd 0 v:=by
 refine⟨fdD ns 0 0,?_,ns,0,0,rfl,by omega,by omega⟩
 unfold eK
 rw[bc]
 unfold l9
 have e:aSl (.kl (ns.map Val.int)) none (some 63)=.new (.lst (ns.map Val.int)):=by
  have:=L9 (ns.map Val.int) none (some ((63:Nat):Int))
  rw[uj,List.take_of_length_le (by rw[List.length_map];exact hl)] at this
  exact this
 have c:Val.items (.lst (ns.map Val.int))=some (ns.map Val.int):=rfl
 simp![zT,e,c]
 rfl
theorem bw {n:Nat}{v:Val}{m:Int} (f:Fd n v) (hn:n<=1000000000) (h0:0 < m) (hm:Sm 8000 m):∃ r v',aR.G [v,.int m]=.ok (.val (.int r)) [v']/\Fd (n + 1) v'/\0<=r/\r < m:=by
 obtain⟨cs,a,l,rfl,a0,a1⟩:=f
 have m0:m ≠ 0:=by omega
 have d1:=λi=>iF (i:=i) m0
 have d2:=λi=>nr (i:=i) (CDivB.of m0 hm)
 unfold aR
 rw[bc]
 unfold lB
 have x1:bD.G (.int 61) (.int a)=.val (.int (61 * a)):=bN (CMulA.left (by decide) (by decide))
 have x2:bD.G (.int (61 * a)) (.int a)=.val (.int (61 * a * a)):=bN (CMulA.right (by omega) (by omega))
 have x3:bD.G (.int 7) (.int a)=.val (.int (7 * a)):=bN (CMulA.left (by decide) (by decide))
 have x4:∀ x:Int,bD.G (.int x) (.int 48271)=.val (.int (x * 48271)):=λx=>bN (CMulA.right (by decide) (by decide))
 have x5:∀ x:Int,bD.G (.int x) (.int 69623)=.val (.int (x * 69623)):=λx=>bN (CMulA.right (by decide) (by decide))
 have x6:bD.G (.int 7919) (.int a)=.val (.int (7919 * a)):=bN (CMulA.left (by decide) (by decide))
 have x7:∀ x:Int,bD.G (.int x) (.int 16811)=.val (.int (x * 16811)):=λx=>bN (CMulA.right (by decide) (by decide))
 have y1:∀ x:Int,dh.G (.int x) (.int 1000003)=.val (.int (x.fmod 1000003)):=λx=>iF (by decide)
 have y2:∀ x:Int,dh.G (.int x) (.int 999983)=.val (.int (x.fmod 999983)):=λx=>iF (by decide)
 have y3:∀ x:Int,dh.G (.int x) (.int 1999993)=.val (.int (x.fmod 1999993)):=λx=>iF (by decide)
 have y4:∀ x:Int,dh.G (.int x) (.int 524287)=.val (.int (x.fmod 524287)):=λx=>iF (by decide)
 have y5:∀ x:Int,ku.G (.int x) (.int 5)=.val (.int (x.fdiv 5)):=λx=>nr (CDivB.of (by decide) (sm8 (by decide)))
 by_cases hc:0 < l
 ·have hc':decide (0 < l)=true:=decide_eq_true hc
  refine⟨l.fmod m,fdD cs a (l.fdiv m),?_,⟨cs,a,_,rfl,a0,by omega⟩,fP h0⟩
  simp![hc',d1,d2,jG,pJ,kG,kD,jD]
 ·have hc':decide (0 < l)=false:=decide_eq_false hc
  have fin:∀ x:Int,∃ r v',(R3F.ok (Rt.val (.int (x.fmod m))) [fdD cs (a + 1) l]:R3F)=.ok (.val (.int r)) [v']/\Fd (n + 1) v'/\0<=r/\r < m:=λx=>⟨_,_,rfl,⟨cs,_,_,rfl,by omega,by omega⟩,fP h0⟩
  have z18:((10:Int) ^ 18)=1000000000000000000:=by decide
  by_cases hl:0 < cs.length
  ·have r:=fP (a:=a) (m:=(cs.length:Nat)) (by omega)
   have hi:(a.fmod (cs.length:Nat)).toNat < cs.length:=by omega
   have at1:atI (cs.map Val.int) (a.fmod (cs.length:Nat))=some (.int cs[(a.fmod (cs.length:Nat)).toNat]):=nC r.1 (by rw[List.getElem?_map,List.getElem?_eq_getElem hi];rfl)
   have l1:decide ((0:Int) < ((cs.length:Nat):Int))=true:=decide_eq_true (by omega)
   have e1:dh.G (.int a) (.int (cs.length:Nat))=.val (.int (a.fmod (cs.length:Nat))):=iF (by omega)
   by_cases hb:(10 ^ 18:Int)<=cs[(a.fmod (cs.length:Nat)).toNat]
   ·have hb':=decide_eq_true hb
    by_cases ha:a < (cs.length:Nat)
    ·have ha':=decide_eq_true ha
     refine⟨(cs[(a.fmod (cs.length:Nat)).toNat]).fmod m,fdD cs (a + 1) ((cs[(a.fmod (cs.length:Nat)).toNat]).fdiv m),?_,⟨cs,_,_,rfl,by omega,by omega⟩,fP h0⟩
     simp![hc',d1,d2,jG,pJ,kG,kD,jD,List.length_map,l1,e1,at1,tE,hb',ha']
    ·have ha':=decide_eq_false ha
     simp![hc',d1,d2,jG,pJ,kG,kD,jD,List.length_map,l1,e1,at1,tE,hb',ha',x1,x2,x3,x4,x5,x6,x7,y1,y2,y3,y4,y5]
     exact fin _
   ·have hb':=decide_eq_false hb
    simp![hc',d1,d2,jG,pJ,kG,kD,jD,List.length_map,l1,e1,at1,tE,hb',x1,x2,x3,x4,x5,x6,x7,y1,y2,y3,y4,y5]
    exact fin _
  ·have l1:decide ((0:Int) < ((cs.length:Nat):Int))=false:=decide_eq_false (by omega)
   have hb':decide ((10 ^ 18:Int)<=a)=false:=decide_eq_false (by rw[z18];omega)
   simp![hc',d1,d2,jG,pJ,kG,kD,jD,List.length_map,l1,tE,hb',x1,x2,x3,x4,x5,x6,x7,y1,y2,y3,y4,y5]
   exact fin _
theorem LS:kr [.int 6]=some [.int 0,.int 1,.int 2,.int 3,.int 4,.int 5]:=qr (i:=6) (by decide) (by decide)
theorem uC {n:Nat}{v:Val} (f:Fd n v) (hn:n<=900000000):∃ r v',b8.G [v,.int 6]=.ok (.val (.int r)) [v']/\Fd (n + 6) v'/\0<=r:=by
 have s:Sm 8000 100000:=sm8 (by decide)
 obtain⟨r1,v1,e1,f1,a1,_⟩:=bw (m:=100000) f (by omega) (by decide) s
 obtain⟨r2,v2,e2,f2,a2,_⟩:=bw (m:=100000) f1 (by omega) (by decide) s
 obtain⟨r3,v3,e3,f3,a3,_⟩:=bw (m:=100000) f2 (by omega) (by decide) s
 obtain⟨r4,v4,e4,f4,a4,_⟩:=bw (m:=100000) f3 (by omega) (by decide) s
 obtain⟨r5,v5,e5,f5,a5,_⟩:=bw (m:=100000) f4 (by omega) (by decide) s
 obtain⟨r6,v6,e6,f6,a6,_⟩:=bw (m:=100000) f5 (by omega) (by decide) s
 have c6:∀ x:Int,bD.G (.int x) (.int 100000)=.val (.int (x * 100000)):=λx=>bN (CMulA.right (by decide) (by decide))
 refine⟨((((((0 * 100000 + r1) * 100000 + r2) * 100000 + r3) * 100000 + r4) * 100000 + r5) * 100000 + r6),v6,?_,f6.mono (by omega),by omega⟩
 unfold b8
 rw[bc]
 unfold kc jJ
 simp![LS,bK,c6,e1,e2,e3,e4,e5,e6]
theorem xC (a:Int):(if a < 0 then -a else a)=((a.natAbs:Nat):Int):=by split <;> omega
theorem vP:∀ (n one bn:Nat),bn<=n->(xWh (qOf (pOp bNe (ah 1) (av 0))) c8).G [.sh (.int (one:Nat)),.sh (.int (bn:Nat))]=.nx [.sh (.int (Nat.gcd one bn:Nat)),.sh (.int 0)]
 |
  n,one,0,_=>by
  rw[zi]
  simp![jg]
  rw[Nat.gcd_zero_right]
  try rfl
 | 0,one,bn + 1,hl=>absurd hl (by omega)
 |
  n + 1,one,bn + 1,hl=>by
  rw[zi]
  have e:((((bn + 1:Nat):Int) == 0))=false:=by rw[beq_eq_false_iff_ne];omega
  have e1:dh.G (.int (one:Nat)) (.int ((bn + 1:Nat):Int))=.val (.int (((one:Nat):Int).fmod ((bn + 1:Nat):Int))):=iF (by omega)
  have e2:((one:Nat):Int).fmod ((bn + 1:Nat):Int)=((one % (bn + 1):Nat):Int):=by
   rw[Int.fmod_eq_emod_of_nonneg _ (by omega)];rfl
  have ih:=vP n (bn + 1) (one % (bn + 1)) (by have:=Nat.mod_lt one (show bn + 1 > 0 by omega);omega)
  rw[Fr.euc] at ih
  rw[e2] at e1
  have bb:c8.G [.sh (.int (one:Nat)),.sh (.int ((bn + 1:Nat):Int))]=.nx [.sh (.int ((bn + 1:Nat):Int)),.sh (.int ((one % (bn + 1):Nat):Int))]:=by
   unfold c8
   simp![e1]
  simp![e,bb,ih]
theorem dW (a b:Int):bu.G [.int a,.int b]=.ok (.val (.int (Int.gcd a b:Nat))) []:=by
 unfold bu
 rw[bc]
 unfold fZ
 have:=vP b.natAbs a.natAbs b.natAbs (Nat.le_refl _)
 simp![xC,this]
 rfl
theorem fM {a b:Int} (hb:b ≠ 0) (hs:Sm 8000 b):bz.G [.int a,.int b]=.ok (.val (fV ((a:Rat) / (b:Rat)))) []:=by
 unfold bz
 rw[bc]
 unfold lN
 have e:(b == 0)=false:=by rw[beq_eq_false_iff_ne];exact hb
 have c:∀ x,CDivB x (Fr.dv a b):=λx=>CDivB.of (Fr.dv_ne hb) (hs.of_le (by
  rw[Fr.dv_abs]
  exact Nat.le_of_dvd (by omega) (Nat.gcd_dvd_right a.natAbs b.natAbs)))
 have k1:=nr (c a)
 have k2:=nr (c b)
 have hh:=pZ (a:=a) hb
 have fin:Val.tup [.int (a.fdiv (Fr.dv a b)),.int (b.fdiv (Fr.dv a b))]=fV ((a:Rat) / (b:Rat)):=by
  unfold fV
  rw[<- hh.1,<- hh.2]
  rfl
 by_cases hn:b < 0
 ·have hd:Fr.dv a b=-((Int.gcd a b:Nat):Int):=by unfold Fr.dv;rw[if_pos hn]
  rw[hd] at k1 k2 fin
  simp![e,dW,decide_eq_true hn,k1,k2,fin]
 ·have hd:Fr.dv a b=((Int.gcd a b:Nat):Int):=by unfold Fr.dv;rw[if_neg hn]
  rw[hd] at k1 k2 fin
  simp![e,dW,decide_eq_false hn,k1,k2,fin]
theorem BW {p q:Rat}{n m:Nat} (hp:Sz n p) (hq:Sz m q) (h:n + m<=8000):hX.G [fV p,fV q]=.ok (.val (fV (p + q))) []:=by
 have c1:=bN (CMulA.of hp.top hq.bot (by omega) (by omega))
 have c2:=bN (CMulA.of hq.top hp.bot (by omega) (by omega))
 have c3:=bN (CMulA.of hp.bot hq.bot (by omega) (by omega))
 have fe:=fM (a:=p.num * q.den + q.num * p.den) (b:=p.den * q.den) (Int.mul_ne_zero (de p) (de q)) ((hp.bot.mul hq.bot).mono h)
 rw[<- qh] at fe
 unfold hX
 rw[bc]
 unfold qt
 rw[show fV p=.tup [.int p.num,.int p.den] from rfl,show fV q=.tup [.int q.num,.int q.den] from rfl]
 simp![c1,c2,c3,fe]
theorem tU {p q:Rat}{n m:Nat} (hp:Sz n p) (hq:Sz m q) (h:n + m<=8000):gf.G [fV p,fV q]=.ok (.val (fV (p * q))) []:=by
 have c1:=bN (CMulA.of hp.top hq.top (by omega) (by omega))
 have c2:=bN (CMulA.of hp.bot hq.bot (by omega) (by omega))
 have fe:=fM (a:=p.num * q.num) (b:=p.den * q.den) (Int.mul_ne_zero (de p) (de q)) ((hp.bot.mul hq.bot).mono h)
 rw[<- rH] at fe
 unfold gf
 rw[bc]
 unfold rF
 rw[show fV p=.tup [.int p.num,.int p.den] from rfl,show fV q=.tup [.int q.num,.int q.den] from rfl]
 simp![c1,c2,fe]
theorem gP {p q:Rat}{n m:Nat} (hp:Sz n p) (hq:Sz m q) (h1:n<=100000) (h2:m<=100000):bX.G [fV p,fV q]=.ok (.val (.bl (decide (p < q)))) []:=by
 have c1:=bN (CMulA.of hp.top hq.bot h1 h2)
 have c2:=bN (CMulA.of hq.top hp.bot h2 h1)
 unfold bX
 rw[bc]
 unfold mP
 rw[show fV p=.tup [.int p.num,.int p.den] from rfl,show fV q=.tup [.int q.num,.int q.den] from rfl]
 simp![c1,c2]
 rw[show decide (p.num * (q.den:Int) < q.num * (p.den:Int))=decide (p < q) from decide_eq_decide.mpr (Az p q).symm]
theorem nB {v:Val} (hk:knV v=true):(bM kits).G [v,.ty "tuple"]=.val (.bl (gM v)):=by
 cases v <;> first | rfl | cases hk
theorem kx {v:Val} (hk:knV v=true):cL.G [v]=.ok (.val (.bl (mr v))) []:=by
 unfold cL
 rw[bc]
 unfold kU
 cases v <;> first | rfl | cases hk
theorem uN (v:Val):gM v=false\/∃ xs,v=.tup xs:=by
 cases v <;> first | exact .inr ⟨_,rfl⟩ | exact .inl rfl
theorem oU (v:Val):mr v=false\/∃ i,v=.int i:=by
 cases v <;> first | exact .inr ⟨_,rfl⟩ | exact .inl rfl
theorem KG {v:Val} (h:gM v=false):bg v=false:=by
 cases v <;> first | rfl | cases h
theorem LU {v:Val} (h:gM v=false):iD v=false:=by
 cases v <;> first | rfl | cases h
theorem GL {a b:Val} (h:mr a=false):bg (.tup [a,b])=false:=by
 cases a <;> first | rfl | cases h
theorem GV {i:Int}{b:Val} (h:mr b=false):bg (.tup [.int i,b])=false:=by
 cases b <;> first | rfl | cases h
theorem KO {xs:List Val} (hl:xs.length ≠ 2):bg (.tup xs)=false:=by
 unfold bg
 split
 ·rename_i e;injection e with e;subst e;exact absurd rfl hl
 ·rfl
theorem Kg {xs:List Val} (hl:xs.length ≠ 4):iD (.tup xs)=false:=by
 unfold iD
 split
 ·rename_i e;injection e with e;subst e;exact absurd rfl hl
 ·rfl
theorem DJ {k:Nat}{v:Val} (ha:kj k v=true) (h:gM v=false):knV v=true:=by
 cases v with
 | tup xs=>cases h
 | _=>cases k <;> exact ha
theorem qW {v:Val} (ha:kj 1 v=true):cC.G [v]=.ok (.val (.bl (bg v))) []:=by
 unfold cC
 rw[bc]
 unfold jf
 rcases uN v with ht | ⟨xs,rfl⟩
 ·have it:=nB (DJ ha ht)
  rw[ht] at it
  simp![it,KG ht]
 have it:=nB (v:=.tup xs) rfl
 by_cases hl:xs.length=2
 ·match xs,hl,ha with
  |
   [a,b],_,ha=>
   have ha':(knV a && (knV b && true))=true:=by simpa [kj] using ha
   simp only[Bool.and_eq_true] at ha'
   have w1:=kx ha'.1
   have w2:=kx ha'.2.1
   rcases oU a with h1 | ⟨i,rfl⟩
   ·rw[h1] at w1
    simp![it,gM,w1,GL h1]
   rcases oU b with h2 | ⟨j,rfl⟩
   ·rw[h2] at w2
    simp![it,gM,w1,mr,w2,GV h2]
   have f:bg (.tup [.int i,.int j])=(decide (1<=j) && decide (Int.gcd i j=1)):=rfl
   have g:((((Int.gcd i j:Nat):Int) == 1):Bool)=decide (Int.gcd i j=1):=by
    rw[Bool.eq_iff_iff,beq_iff_eq,decide_eq_true_eq];omega
   by_cases hj:1<=j
   ·simp![it,gM,w1,w2,mr,dW,decide_eq_true hj,f,g]
   ·simp![it,gM,w1,w2,mr,dW,decide_eq_false hj,f,g]
 ·have e:(((xs.length:Nat):Int) == 2)=false:=by rw[beq_eq_false_iff_ne];omega
  simp![it,gM,e,KO hl]
theorem rY {v:Val} (ha:kj 2 v=true):fW.G [v]=.ok (.val (.bl (iD v))) []:=by
 unfold fW
 rw[bc]
 unfold oJ
 rcases uN v with ht | ⟨xs,rfl⟩
 ·have it:=nB (DJ ha ht)
  rw[ht] at it
  simp![it,LU ht]
 have it:=nB (v:=.tup xs) rfl
 by_cases hl:xs.length=4
 ·match
   xs,hl,ha with
  |
   [a,b,c,d],_,ha=>
   have e1:iD (.tup [a,b,c,d])=(bg a && (bg b && (bg c && (bg d && (lE c && lE d))))):=rfl
   have bl4:∀ x y z w:Bool,iu [.bl x,.bl y,.bl z,.bl w]=some [x,y,z,w]:=λ_ _ _ _=>rfl
   obtain⟨e',⟨s',rfl,_⟩,lc⟩:=rj (g:=(gtN 0).G) (F:=(ax cC (ag (ah 0) ao)).G) (f:=λv=>.bl (bg v)) (λe=>∃ s,e=[s]/\s.pl=true) [a,b,c,d] [] [.no] ⟨.no,rfl,rfl⟩ (by
    rintro v hv e ⟨s,rfl,hs⟩
    have hv':kj 1 v=true:=List.all_eq_true.mp (by simpa [kj] using ha) v hv
    refine⟨[.sh v],.val (.bl (bg v)),[.sh v],?_,?_,rfl,⟨_,rfl,rfl⟩⟩
    ·simp![hs]
    ·simp![qW hv']) (by simp)
   have cy:cY=qY.G:=rfl
   rw[cy,List.nil_append] at lc
   simp only[List.map_cons,List.map_nil] at lc
   cases hA:(bg a && (bg b && (bg c && bg d))) with
   |
    true=>
    simp only[Bool.and_eq_true] at hA
    obtain⟨p,rfl⟩:=Bc hA.2.2.1
    obtain⟨q,rfl⟩:=Bc hA.2.2.2
    rw[hA.1,hA.2.1,hA.2.2.1,hA.2.2.2] at e1 lc
    have e2:iD (.tup [a,b,fV p,fV q])=(decide (0 < p.num) && decide (0 < q.num)):=by rw[e1];rfl
    rw[e2]
    have i1:(fV p).items=some [.int p.num,.int p.den]:=rfl
    have i2:(fV q).items=some [.int q.num,.int q.den]:=rfl
    by_cases hp:0 < p.num
    ·simp![it,gM,lc,bT,bl4,id,i1,i2,decide_eq_true hp]
    ·simp![it,gM,lc,bT,bl4,id,i1,decide_eq_false hp]
   |
    false=>
    have e2:iD (.tup [a,b,c,d])=false:=by
     rw[e1]
     revert hA
     generalize bg a=a',bg b=b',bg c=c',bg d=d',(lE c && lE d)=z
     revert a' b' c' d' z
     decide
    rw[e2]
    simp![it,gM,lc,bT,bl4,id,hA]
 ·have e:(((xs.length:Nat):Int) == 4)=false:=by rw[beq_eq_false_iff_ne];omega
  simp![it,gM,e,Kg hl]
theorem uQ {v:Val} (ha:kj 2 v=true):bx.G [v]=if iD v=true then .ok (.val .non) [] else .exc "NoBox" []:=by
 unfold bx
 rw[bc]
 unfold ke
 cases h:iD v with
 | true=>simp![rY ha,h]
 | false=>simp![rY ha,h]
theorem jN {b:Bx} (hb:b.Ok):bx.G [bV b]=.ok (.val .non) []:=by rw[uQ (Gn b),Dx hb];rfl
theorem KP {v:Val} (h:mr v=false):jS v=false:=by
 cases v <;> first | rfl | cases h
theorem BE (v:Val):lI v=false\/∃ xs,v=.lst xs:=by
 cases v <;> first | exact .inr ⟨_,rfl⟩ | exact .inl rfl
theorem ud {v:Val} (hk:knV v=true):dm.G [v]=.ok (.val (.bl (jS v))) []:=by
 have w:=kx hk
 unfold dm
 rw[bc]
 unfold kf
 rcases oU v with h | ⟨i,rfl⟩
 ·rw[h] at w
  simp![w,KP h]
 ·simp![w,mr];rfl
theorem xJ {v:Val} (hk:knV v=true):(bM kits).G [v,.ty "list"]=.val (.bl (lI v)):=by
 cases v <;> first | rfl | cases hk
def zo (v:Val):R3F:=match v with
 | .lst xs=>if xs=[] then .exc "NoWeights" [] else if xs.all jS=true then (if xs.length<=40 then .ok (.val .non) [] else .exc "TooMany" []) else .exc "NoWeights" []
 | _=>.exc "NoWeights" []
theorem Jp {v:Val} (h:lI v=false):zo v=.exc "NoWeights" []:=by
 cases v <;> first | rfl | cases h
def uS:Val->Bool
 | .lst xs=>decide (xs.length<=1000) && xs.all knV
 | v=>knV v
theorem FF {v:Val} (h:uS v=true) (hl:lI v=false):knV v=true:=by cases v <;> first | (cases hl;done) | exact h
theorem kZ (f:Val->Bool):∀ xs:List Val,iu (xs.map λv=>.bl (f v))=some (xs.map f)
 | []=>rfl
 | x :: xs=>by show (iu (xs.map λv=>.bl (f v))).map (f x :: ·)=_;rw[kZ f xs];rfl
theorem l6 (f:Val->Bool) (xs:List Val):(xs.map f).all id=xs.all f:=by rw[List.all_map];rfl
theorem nY {v:Val} (ha:uS v=true):bh.G [v]=zo v:=by
 unfold bh
 rw[bc]
 unfold gv
 rcases BE v with hv | ⟨xs,rfl⟩
 ·have il:=xJ (FF ha hv)
  rw[hv] at il
  rw[Jp hv]
  simp![il]
 ·have ha':xs.length<=1000/\xs.all knV=true:=by simpa [uS] using ha
  have il:=xJ (v:=.lst xs) rfl
  unfold zo
  dsimp only
  by_cases h0:xs=[]
  ·subst h0
   simp![il]
  ·have e0:(((xs.length:Nat):Int) == 0)=false:=by
    rw[beq_eq_false_iff_ne]
    intro z
    exact h0 (List.length_eq_zero_iff.mp (by omega))
   rw[if_neg h0]
   obtain⟨e',p',lc⟩:=rj (g:=(gtN 0).G) (F:=(ax dm (ag (ah 0) ao)).G) (f:=λv=>.bl (jS v)) (λe=>∃ s,e=[s]/\s.pl=true) xs [] [.no] ⟨.no,rfl,rfl⟩ (by
    rintro v hv e ⟨s,rfl,hs⟩
    refine⟨[.sh v],.val (.bl (jS v)),[.sh v],?_,?_,rfl,⟨_,rfl,rfl⟩⟩
    ·simp![hs]
    ·simp![ud (List.all_eq_true.mp ha'.2 v hv)]) (by simp;omega)
   obtain⟨s',rfl,_⟩:=p'
   have cy:cY=qY.G:=rfl
   rw[cy,List.nil_append] at lc
   have db:(xs.map λv=>Val.bl (jS v)).length<=16777216:=by rw[List.length_map];omega
   by_cases hw:xs.all jS=true
   ·rw[if_pos hw]
    by_cases h40:xs.length<=40
    ·have hd:decide ((40:Int) < ((xs.length:Nat):Int))=false:=decide_eq_false (by omega)
     rw[if_pos h40]
     simp![il,e0,bT,lc,db,kZ,l6,hw,hd]
    ·have hd:decide ((40:Int) < ((xs.length:Nat):Int))=true:=decide_eq_true (by omega)
     rw[if_neg h40]
     simp![il,e0,bT,lc,db,kZ,l6,hw,hd]
   ·have hw':xs.all jS=false:=Bool.eq_false_iff.mpr hw
    rw[if_neg hw]
    simp![il,e0,bT,lc,db,kZ,l6,hw']
theorem Bm {ws:List Int} (h0:ws ≠ []) (h1:∀ w ∈ ws,1<=w) (h2:ws.length<=40):bh.G [.lst (ws.map .int)]=.ok (.val .non) []:=by
 have ha:uS (.lst (ws.map .int))=true:=by
  simp only[uS,Bool.and_eq_true,decide_eq_true_eq,List.length_map]
  exact⟨by omega,by rw[List.all_eq_true];intro v hv;obtain⟨w,_,rfl⟩:=List.mem_map.mp hv;rfl⟩
 rw[nY ha]
 unfold zo
 dsimp only
 rw[if_neg (by intro z;exact h0 (List.map_eq_nil_iff.mp z)),if_pos (by
  rw[List.all_eq_true];intro v hv
  obtain⟨w,hw,rfl⟩:=List.mem_map.mp hv
  exact decide_eq_true (h1 w hw)),if_pos (by rw[List.length_map];exact h2)]
theorem oB {p q:Rat} (hq:q ≠ 0):p / q=((p.num * q.den:Int):Rat) / ((p.den * q.num:Int):Rat):=by
 have h1:=jL (de p)
 have h2:=jL (de q)
 have h3:q.num ≠ 0:=λz=>hq (Rat.num_eq_zero.mp z)
 have h4:=jL h3
 conv=>lhs;rw[jr p,jr q]
 rw[Rat.intCast_mul,Rat.intCast_mul]
 simp only[Rat.div_def,Rat.inv_mul_rev,Rat.inv_inv]
 rw[Rat.mul_assoc,Rat.mul_assoc,Rat.mul_comm (((p.den:Int):Rat))⁻¹,Rat.mul_assoc]
theorem xn {p q:Rat}{n m:Nat} (hp:Sz n p) (hq:Sz m q) (h0:0 < q) (h:n + m<=8000):iK.G [fV p,fV q]=.ok (.val (fV (p / q))) []:=by
 have c1:=bN (CMulA.of hp.top hq.bot (by omega) (by omega))
 have c2:=bN (CMulA.of hp.bot hq.top (by omega) (by omega))
 have hq0:q ≠ 0:=λz=>by rw[z] at h0;exact absurd h0 (by decide)
 have hn:q.num ≠ 0:=λz=>hq0 (Rat.num_eq_zero.mp z)
 have fe:=fM (a:=p.num * q.den) (b:=p.den * q.num) (Int.mul_ne_zero (de p) hn) ((hp.bot.mul hq.top).mono h)
 rw[<- oB hq0] at fe
 unfold iK
 rw[bc]
 unfold wa
 rw[show fV p=.tup [.int p.num,.int p.den] from rfl,show fV q=.tup [.int q.num,.int q.den] from rfl]
 simp![c1,c2,fe]
def C7 (b:Bx):Str:=if b.w < b.h then "down" else "across"
theorem wm {b:Bx}{n:Nat} (hb:b.Ok) (hs:b.Sz n) (h:n<=8000):eG.G [bV b]=.ok (.val (.str (C7 b))) []:=by
 have cb:=jN hb
 have il:=gP hs.w hs.h (by omega) (by omega)
 have ib:(bV b).items=some [fV b.l,fV b.t,fV b.w,fV b.h]:=rfl
 unfold eG C7
 rw[bc]
 unfold kY
 by_cases hl:b.w < b.h
 ·rw[if_pos hl]
  rw[decide_eq_true hl] at il
  simp![cb,ib,il]
 ·rw[if_neg hl]
  rw[decide_eq_false hl] at il
  simp![cb,ib,il]
theorem uU:eQ (.str "down") (.str "across")=some false:=by rw[L3.eq_str (by decide) (by decide)];exact congrArg some (by decide)
theorem uu:eQ (.str "across") (.str "across")=some true:=by rw[L3.eq_str (by decide) (by decide)];exact congrArg some (by decide)
theorem Bw {b:Bx}{n:Nat} (hb:b.Ok) (hs:b.Sz n) (h:n + n<=8000):gp.G [bV b]=.ok (.val (fV (dC b))) []:=by
 have lw:=wm hb hs (by omega)
 have ib:(bV b).items=some [fV b.l,fV b.t,fV b.w,fV b.h]:=rfl
 have o1:=xn hs.w hs.h hb.2 h
 have o2:=xn hs.h hs.w hb.1 h
 unfold gp dC
 rw[bc]
 unfold qU
 unfold C7 at lw
 by_cases hl:b.w < b.h
 ·rw[if_pos hl] at lw ⊢
  simp![lw,ib,o1,o2,uU]
 ·rw[if_neg hl] at lw ⊢
  simp![lw,ib,o1,o2,uu]
theorem Sz.over {p q:Rat}{n m:Nat} (hp:Sz n p) (hq:Sz m q) (h0:0 < q):Sz (n + m) (p / q):=by
 have hq0:q ≠ 0:=λz=>by rw[z] at h0;exact absurd h0 (by decide)
 have hn:q.num ≠ 0:=λz=>hq0 (Rat.num_eq_zero.mp z)
 rw[oB hq0]
 exact Sz.div (Int.mul_ne_zero (de p) hn) (hp.top.mul hq.bot) (hp.bot.mul hq.top) (n + m) (Nat.le_refl _) (Nat.le_refl _)
theorem wb {b:Bx}{n:Nat} (hb:b.Ok) (hs:b.Sz n):Sz (n + n) (dC b):=by
 unfold dC
 split
 ·exact Sz.over hs.h hs.w hb.1
 ·exact Sz.over hs.w hs.h hb.2
theorem vI {p q:Rat}{n m:Nat} (hp:Sz n p) (hq:Sz m q) (h1:n<=100000) (h2:m<=100000):cD.G [.lst [fV p,fV q]]=.ok (.val (fV (if p < q then q else p))) []:=by
 have l1:=gP hp hp h1 h1
 have l2:=gP hp hq h1 h2
 rw[decide_eq_false (Rat.lt_irrefl:¬ p < p)] at l1
 unfold cD
 rw[bc]
 unfold jd ir
 by_cases hl:p < q
 ·rw[decide_eq_true hl] at l2
  rw[if_pos hl]
  simp![bK,l1,l2]
 ·rw[decide_eq_false hl] at l2
  rw[if_neg hl]
  simp![bK,l1,l2]
def prV (p:Rat×Rat):Val:=.tup [fV p.1,fV p.2]
theorem xD {s l:Rat}{n m:Nat}{W:Int}{wv:Val} (hs:Sz n s) (hl:Sz n l) (hW:0 < W) (mW:Sm m W) (h:n + n + m<=8000):∀ (ws:List Int) (a:Int) (acc:List (Rat×Rat)) (s6 s7:Sl),s6.pl=true->s7.pl=true->0<=a->(∀ w ∈ ws,0<=w)->a + ws.sum<=W->acc.length + ws.length<=16777216->∃ s6' s7',fE (gtN 6).G iP.G (ws.map .int) [.sh (fV s),.sh (fV l),.sh wv,.sh (.int W),.sh (.int a),.ow (.lst (acc.map prV)),s6,s7]=.nx [.sh (fV s),.sh (fV l),.sh wv,.sh (.int W),.sh (.int (a + ws.sum)),.ow (.lst ((acc++shL s l W a ws).map prV)),s6',s7']
 | [],a,acc,s6,s7,h6,h7,ha,hw,hsum,db=>⟨s6,s7,by rw[List.map_nil,kF,List.sum_nil,Int.add_zero];unfold shL;rw[List.append_nil]⟩
 |
  w :: ws,a,acc,s6,s7,h6,h7,ha,hw,hsum,db=>by
  have hw0:=hw w (List.mem_cons_self ..)
  have hws:0<=ws.sum:=by
   have:∀ l:List Int,(∀ w ∈ l,0<=w)->0<=l.sum:=by
    intro l
    induction l with
    | nil=>intro _;simp
    | cons x l ih=>intro hx;rw[List.sum_cons];have:=hx x (List.mem_cons_self ..);have:=ih λw hw=>hx w (List.mem_cons_of_mem _ hw);omega
   exact this ws λx hx=>hw x (List.mem_cons_of_mem _ hx)
  rw[List.sum_cons] at hsum
  rw[List.length_cons] at db
  have sa:Sm m a:=mW.of_le (by omega)
  have sw:Sm m w:=mW.of_le (by omega)
  have f1:=fM (a:=a) (b:=W) (by omega) (mW.mono (by omega))
  have f2:=fM (a:=w) (b:=W) (by omega) (mW.mono (by omega))
  have z1:Sz m ((a:Rat) / (W:Rat)):=Sz.div (by omega) sa mW m (Nat.le_refl _) (Nat.le_refl _)
  have z2:Sz m ((w:Rat) / (W:Rat)):=Sz.div (by omega) sw mW m (Nat.le_refl _) (Nat.le_refl _)
  have t1:=tU hl z1 (by omega)
  have t2:=tU hl z2 (by omega)
  have ad:=BW hs (hl.mul z1) (by omega)
  have ll:(acc.map prV).length < 16777216:=by rw[List.length_map];omega
  obtain⟨t6,t7,ih⟩:=xD (wv:=wv) hs hl hW mW h ws (a + w) (acc++[(s + l * ((a:Rat) / (W:Rat)),l * ((w:Rat) / (W:Rat)))]) (.sh (.int w)) (.sh (fV (s + l * ((a:Rat) / (W:Rat))))) rfl rfl (by omega) (λx hx=>hw x (List.mem_cons_of_mem _ hx)) (by omega) (by simp;omega)
  refine⟨t6,t7,?_⟩
  have g1:(gtN 6).G (.int w) [.sh (fV s),.sh (fV l),.sh wv,.sh (.int W),.sh (.int a),.ow (.lst (acc.map prV)),s6,s7]=some [.sh (fV s),.sh (fV l),.sh wv,.sh (.int W),.sh (.int a),.ow (.lst (acc.map prV)),.sh (.int w),s7]:=by
   simp![h6]
  have b1:iP.G [.sh (fV s),.sh (fV l),.sh wv,.sh (.int W),.sh (.int a),.ow (.lst (acc.map prV)),.sh (.int w),s7]=.nx [.sh (fV s),.sh (fV l),.sh wv,.sh (.int W),.sh (.int (a + w)),.ow (.lst ((acc++[(s + l * ((a:Rat) / (W:Rat)),l * ((w:Rat) / (W:Rat)))]).map prV)),.sh (.int w),.sh (fV (s + l * ((a:Rat) / (W:Rat))))]:=by
   unfold iP
   rw[List.map_append]
   simp![h7,f1,f2,t1,t2,ad,ll,prV]
  rw[List.map_cons,bK,g1]
  simp only[b1,jO]
  rw[ih,List.sum_cons]
  rw[show shL s l W a (w :: ws)=(s + l * ((a:Rat) / (W:Rat)),l * ((w:Rat) / (W:Rat))) :: shL s l W (a + w) ws from rfl,List.append_assoc,show a + w + ws.sum=a + (w + ws.sum) by omega]
  rfl
theorem rT {s l:Rat}{n m:Nat}{ws:List Int} (hs:Sz n s) (hl:Sz n l) (hw:∀ w ∈ ws,0<=w) (h0:0 < ws.sum) (mW:Sm m ws.sum) (h:n + n + m<=8000) (db:ws.length<=1000):eX.G [fV s,fV l,.lst (ws.map .int)]=.ok (.new (.lst ((shL s l ws.sum 0 ws).map prV))) []:=by
 obtain⟨s6,s7,lo⟩:=xD (wv:=.lst (ws.map .int)) hs hl h0 mW h ws 0 [] .no .no rfl rfl (by omega) hw (by omega) (by simp;omega)
 rw[List.nil_append,List.map_nil] at lo
 unfold eX
 rw[bc]
 unfold oK
 simp![lo]
theorem Jk {way:Str} (hw:way = "across" \/ way = "down"):dQ.G [.str way]=.ok (.val .non) []:=by
 have i1:∀ x:Str,(bM kits).G [.str x,.ty "str"]=.val (.bl true):=λ_=>rfl
 have i2:bIn.G (.str way) (.tup [.str "across",.str "down"])=.val (.bl true):=by
  rcases hw with rfl | rfl <;> rfl
 have e1:fU.G [.str way]=.ok (.val (.bl true)) []:=by
  unfold fU
  rw[bc]
  unfold om
  simp![i1,i2]
 unfold dQ
 rw[bc]
 unfold km
 simp![e1]
theorem zL {b:Bx}{n m:Nat}{way:Str}{ws:List Int} (hb:b.Ok) (hs:b.Sz n) (hway:way = "across" \/ way = "down") (h0:ws ≠ []) (hw:∀ w ∈ ws,1<=w) (mW:Sm m ws.sum) (h:n + n + m<=8000) (db:ws.length<=40):eY.G [bV b,.str way,.lst (ws.map .int)]=.ok (.new (.lst ((gR b way ws).map bV))) []:=by
 have cw:=Bm h0 hw db
 have cy:=Jk hway
 have sp:0 < ws.sum:=by
  cases ws with
  | nil=>exact absurd rfl h0
  |
   cons x l=>
   rw[List.sum_cons]
   have:=hw x (List.mem_cons_self ..)
   have:∀ l:List Int,(∀ w ∈ l,1<=w)->0<=l.sum:=by
    intro l
    induction l with
    | nil=>intro _;simp
    | cons x l ih=>intro hx;rw[List.sum_cons];have:=hx x (List.mem_cons_self ..);have:=ih λw hw=>hx w (List.mem_cons_of_mem _ hw);omega
   have:=this l λx hx=>hw x (List.mem_cons_of_mem _ hx)
   omega
 have cb:bx.G [.tup [fV b.l,fV b.t,fV b.w,fV b.h]]=.ok (.val .non) []:=jN hb
 have sh1:=rT hs.l hs.w (λw z=>by have:=hw w z;omega) sp mW h (by omega)
 have sh2:=rT hs.t hs.h (λw z=>by have:=hw w z;omega) sp mW h (by omega)
 show eY.G [.tup [fV b.l,fV b.t,fV b.w,fV b.h],.str way,.lst (ws.map .int)]=_
 unfold eY gR
 rw[bc]
 unfold oi
 rcases hway with rfl | rfl
 ·rw[if_pos (rfl:("across" : Str) = "across")]
  have ln:=rR b.l b.w ws.sum ws 0
  obtain⟨e',⟨s,t,rfl,_,_⟩,lc⟩:=eF (g:=(gtT 2 (bL (gtN 0) (bL (gtN 1) fS))).G) (F:=(d7 (ag (ah 0) (ag (ah 2) (ag (ah 1) (ag (ah 3) ao))))).G) prV (λp=>bV ⟨p.1,b.t,p.2,b.h⟩) (λe=>∃ s t,e=[s,t,.sh (fV b.t),.sh (fV b.h)]/\s.pl=true/\t.pl=true) (shL b.l b.w ws.sum 0 ws) [] [.no,.no,.sh (fV b.t),.sh (fV b.h)] ⟨.no,.no,rfl,rfl,rfl⟩ (by
   rintro p hp e ⟨s,t,rfl,hs,ht⟩
   refine⟨[.sh (fV p.1),.sh (fV p.2),.sh (fV b.t),.sh (fV b.h)],.val (bV ⟨p.1,b.t,p.2,b.h⟩),[.sh (fV p.1),.sh (fV p.2),.sh (fV b.t),.sh (fV b.h)],?_,?_,rfl,⟨_,_,rfl,rfl,rfl⟩⟩
   ·simp![prV,hs,ht]
   ·simp![bV]) (by rw[ln,List.length_nil];omega)
  rw[List.nil_append] at lc
  have ll:((shL b.l b.w ws.sum 0 ws).map λp=>bV ⟨p.1,b.t,p.2,b.h⟩).length<=16777216:=by rw[List.length_map,ln];omega
  rw[List.map_map,show (bV ∘ λp:Rat×Rat=>(⟨p.1,b.t,p.2,b.h⟩:Bx))=λp=>bV ⟨p.1,b.t,p.2,b.h⟩ from rfl]
  simp![cb,cy,cw,uu,sh1,lc,ll]
 ·have hne:¬ (("down" : Str) = "across"):=by decide
  rw[if_neg hne]
  have ln:=rR b.t b.h ws.sum ws 0
  obtain⟨e',⟨s,t,rfl,_,_⟩,lc⟩:=eF (g:=(gtT 2 (bL (gtN 0) (bL (gtN 1) fS))).G) (F:=(d7 (ag (ah 2) (ag (ah 0) (ag (ah 3) (ag (ah 1) ao))))).G) prV (λp=>bV ⟨b.l,p.1,b.w,p.2⟩) (λe=>∃ s t,e=[s,t,.sh (fV b.l),.sh (fV b.w)]/\s.pl=true/\t.pl=true) (shL b.t b.h ws.sum 0 ws) [] [.no,.no,.sh (fV b.l),.sh (fV b.w)] ⟨.no,.no,rfl,rfl,rfl⟩ (by
   rintro p hp e ⟨s,t,rfl,hs,ht⟩
   refine⟨[.sh (fV p.1),.sh (fV p.2),.sh (fV b.l),.sh (fV b.w)],.val (bV ⟨b.l,p.1,b.w,p.2⟩),[.sh (fV p.1),.sh (fV p.2),.sh (fV b.l),.sh (fV b.w)],?_,?_,rfl,⟨_,_,rfl,rfl,rfl⟩⟩
   ·simp![prV,hs,ht]
   ·simp![bV]) (by rw[ln,List.length_nil];omega)
  rw[List.nil_append] at lc
  have ll:((shL b.t b.h ws.sum 0 ws).map λp=>bV ⟨b.l,p.1,b.w,p.2⟩).length<=16777216:=by rw[List.length_map,ln];omega
  rw[List.map_map,show (bV ∘ λp:Rat×Rat=>(⟨b.l,p.1,b.w,p.2⟩:Bx))=λp=>bV ⟨b.l,p.1,b.w,p.2⟩ from rfl]
  simp![cb,cy,cw,uU,sh2,lc,ll]
theorem pQ {ws nums:List Int} (hr:Inr ws nums) (hl:nums.length<=1000):∃ s,lcV (gtN 0).G qY.G (pOp bIx (ah 1) (ah 0)).G (nums.map .int) [] [.no,.sh (.lst (ws.map .int))]=.ok ((nums.map (eA ws)).map Val.int) [s,.sh (.lst (ws.map .int))]:=by
 obtain⟨e',⟨s,rfl,_⟩,lc⟩:=eF (g:=(gtN 0).G) (F:=(pOp bIx (ah 1) (ah 0)).G) Val.int (λi=>.int (eA ws i)) (λe=>∃ s,e=[s,.sh (.lst (ws.map .int))]/\s.pl=true) nums [] [.no,.sh (.lst (ws.map .int))] ⟨.no,rfl,rfl⟩ (by
  rintro i hi e ⟨s,rfl,hs⟩
  have a1:=K7 (hr i hi).1 (hr i hi).2
  refine⟨[.sh (.int i),.sh (.lst (ws.map .int))],.val (.int (eA ws i)),[.sh (.int i),.sh (.lst (ws.map .int))],?_,?_,rfl,⟨_,rfl,rfl⟩⟩
  ·simp![hs]
  ·simp![a1]) (by simp;omega)
 rw[List.nil_append,show nums.map (λi=>Val.int (eA ws i))=(nums.map (eA ws)).map Val.int by rw[List.map_map];rfl] at lc
 exact⟨s,lc⟩
theorem mJ {ws nums:List Int} (hr:Inr ws nums) (hl:nums.length<=1000):cR.G [liV nums,liV ws]=.ok (.val (.int (wt ws nums))) []:=by
 obtain⟨s,lc⟩:=pQ hr hl
 have ll:((nums.map (eA ws)).map Val.int).length<=16777216:=by rw[List.length_map,List.length_map];omega
 show cR.G [.lst (nums.map .int),.lst (ws.map .int)]=_
 unfold cR wt
 rw[bc]
 unfold j5
 simp![bT,lc,ll]
theorem m5 {B:PSt} (hB:B=(aW false 2 (pOp bQ (ah 2) (pLC (bt (ah 2)) [none,some 3] (by decide) (gtN 0) qY (pOp bQ (ah 0) (dH (ag (ah 1) ao))))))) {nv kv:Val}:∀ (rest:List Int) (L:List (List Int)) (s3:Sl),s3.pl=true->L.length * 2 ^ rest.length<=1000000->(∀ l ∈ L,l.length + rest.length<=1000)->∃ s3',fE (gtN 3).G B.G (rest.map .int) [.sh nv,.sh kv,.sh (.lst (L.map liV)),s3]=.nx [.sh nv,.sh kv,.sh (.lst ((gK L rest).map liV)),s3']
 | [],L,s3,h3,hb,hl=>⟨s3,by rw[List.map_nil,kF];rfl⟩
 |
  x :: rest,L,s3,h3,hb,hl=>by
  rw[List.length_cons,Nat.pow_succ] at hb
  have hpow:1<=2 ^ rest.length:=Nat.one_le_two_pow
  have hb1:L.length<=1000000:=Nat.le_trans (Nat.le_mul_of_pos_right _ (Nat.mul_pos hpow (by decide))) hb
  have hll:(L++L.map λl=>l++[x]).length=L.length + L.length:=by rw[List.length_append,List.length_map]
  obtain⟨s',ih⟩:=m5 hB (nv:=nv) (kv:=kv) rest (L++L.map λl=>l++[x]) (.sh (.int x)) rfl (by
   rw[hll,<- Nat.two_mul,Nat.mul_comm 2,Nat.mul_assoc,Nat.mul_comm 2]
   exact hb) (λl h=>by
   rcases List.mem_append.mp h with h | h
   ·have:=hl l h
    rw[List.length_cons] at this
    omega
   ·obtain⟨l',h',rfl⟩:=List.mem_map.mp h
    have:=hl l' h'
    rw[List.length_cons] at this
    rw[List.length_append]
    show l'.length + 1 + _<=_
    omega)
  refine⟨s',?_⟩
  have g1:(gtN 3).G (.int x) [.sh nv,.sh kv,.sh (.lst (L.map liV)),s3]=some [.sh nv,.sh kv,.sh (.lst (L.map liV)),.sh (.int x)]:=by
   simp![h3]
  obtain⟨e',⟨s,rfl,_⟩,lc⟩:=eF (g:=(gtN 0).G) (F:=(pOp bQ (ah 0) (dH (ag (ah 1) ao))).G) liV (λl=>liV (l++[x])) (λe=>∃ s,e=[s,.sh (.int x)]/\s.pl=true) L [] [.no,.sh (.int x)] ⟨.no,rfl,rfl⟩ (by
   rintro l h e ⟨s,rfl,hs⟩
   have ll:=hl l h
   have cl:(l.map Val.int).length + 1<=16777216:=by rw[List.length_map];omega
   have e2:liV (l++[x])=.lst (l.map .int++[.int x]):=by unfold liV;rw[List.map_append];rfl
   refine⟨[.sh (liV l),.sh (.int x)],.new (liV (l++[x])),[.sh (liV l),.sh (.int x)],?_,?_,rfl,⟨_,rfl,rfl⟩⟩
   ·simp![hs]
   ·rw[e2]
    simp![liV,cl]) (by rw[List.length_nil];omega)
  rw[List.nil_append] at lc
  have c1:(L.map λl=>liV (l++[x])).length<=16777216:=by rw[List.length_map];omega
  have c2:(L.map liV).length + (L.map λl=>liV (l++[x])).length<=16777216:=by rw[List.length_map,List.length_map];omega
  have hcat:L.map liV++(L.map λl=>liV (l++[x]))=(L++L.map λl=>l++[x]).map liV:=by simp
  have b1:B.G [.sh nv,.sh kv,.sh (.lst (L.map liV)),.sh (.int x)]=.nx [.sh nv,.sh kv,.sh (.lst (L.map liV++(L.map λl=>liV (l++[x])))),.sh (.int x)]:=by
   rw[hB]
   simp![bT,lc,c1,c2]
  rw[hcat] at b1
  rw[List.map_cons,bK,g1]
  simp only[b1,jO]
  exact ih
theorem Ax:eQ (.str "order") (.str "order")=some true:=by rw[L3.eq_str (by decide) (by decide)];exact congrArg some (by decide)
theorem Bn:eQ (.str "any") (.str "order")=some false:=by rw[L3.eq_str (by decide) (by decide)];exact congrArg some (by decide)
theorem xP {n:Nat} (h:n<=1000):qT [.int 1,.int (n:Nat)]=some ((List.range' 1 (n - 1)).map λi=>Val.int (i:Nat)):=by
 unfold qT
 dsimp only
 rw[if_pos ⟨⟨by decide,by decide⟩,⟨by omega,by omega⟩⟩]
 unfold qI
 rw[List.range'_eq_map_range,List.map_map,show (((n:Nat):Int) - 1).toNat=n - 1 by omega]
 congr 1
theorem xM {nums:List Int} (hl:nums.length<=1000):∃ s,lcV (gtN 0).G qY.G (pSl (ah 1) oN (oS (ah 0))).G ((List.range' 1 (nums.length - 1)).map λi=>Val.int (i:Nat)) [] [.no,.sh (.lst (nums.map .int))]=.ok ((cG "order" nums).map liV) [s,.sh (.lst (nums.map .int))]:=by
 obtain⟨e',⟨s,rfl,_⟩,lc⟩:=eF (g:=(gtN 0).G) (F:=(pSl (ah 1) oN (oS (ah 0))).G) (λi:Nat=>Val.int (i:Nat)) (λi=>liV (nums.take i)) (λe=>∃ s,e=[s,.sh (.lst (nums.map .int))]/\s.pl=true) (List.range' 1 (nums.length - 1)) [] [.no,.sh (.lst (nums.map .int))] ⟨.no,rfl,rfl⟩ (by
  rintro i hi e ⟨s,rfl,hs⟩
  have sl:aSl (.lst (nums.map Val.int)) none (some ((i:Nat):Int))=.new (.lst ((nums.take i).map .int)):=by
   rw[kL,uj,List.map_take]
  refine⟨[.sh (.int (i:Nat)),.sh (.lst (nums.map .int))],.new (liV (nums.take i)),[.sh (.int (i:Nat)),.sh (.lst (nums.map .int))],?_,?_,rfl,⟨_,rfl,rfl⟩⟩
  ·simp![hs]
  ·simp![liV,sl]) (by simp;omega)
 rw[List.nil_append] at lc
 refine⟨s,?_⟩
 rw[lc]
 unfold cG
 rw[if_pos rfl,List.map_map]
 rfl
theorem yg {nums:List Int}{kind:Str} (hk:kind = "order" \/ kind = "any") (h2:nums ≠ []) (hl:nums.length<=10):dn.G [liV nums,.str kind]=.ok (.new (.lst ((cG kind nums).map liV))) []:=by
 have db:=oM (kind:=kind) hl
 rcases hk with rfl | rfl
 ·obtain⟨s,lc⟩:=xM (nums:=nums) (by omega)
  have rg:=xP (n:=nums.length) (by omega)
  have ll:((cG "order" nums).map liV).length<=16777216:=by rw[List.length_map];omega
  have lm:((nums.map Val.int).length:Nat)=nums.length:=List.length_map ..
  show dn.G [.lst (nums.map .int),.str "order"]=_
  unfold dn
  rw[bc]
  unfold jW
  simp![Ax,lm,rg,bT,lc,ll]
 ·match nums,h2 with
  |
   x :: rest,h2=>
   rw[List.length_cons] at hl
   obtain⟨s',q4⟩:=m5 (B:=lC) rfl (nv:=.lst ((x :: rest).map .int)) (kv:=.str "any") rest [[x]] .no rfl (by
    have:2 ^ rest.length<=2 ^ 9:=Nat.pow_le_pow_right (by decide) (by omega)
    simp
    omega) (by intro l hl';rw[List.mem_singleton] at hl';subst hl';simp;omega)
   have s1:aSl (.lst (Val.int x :: rest.map .int)) none (some 1)=.new (liV [x]):=by
    rw[kL,show (some 1:Option Int)=some ((1:Nat):Int) from rfl,uj]
    rfl
   have s2:aSl (.lst (Val.int x :: rest.map .int)) (some 1) none=.new (.lst (rest.map .int)):=by
    rw[kL,show (some 1:Option Int)=some ((1:Nat):Int) from rfl,tW]
    rfl
   have s3:aSl (.lst ((gK [[x]] rest).map liV)) none (some (-1))=.new (.lst ((cG "any" (x :: rest)).map liV)):=by
    rw[kL,xh]
    unfold cG
    rw[if_neg (by decide),List.map_dropLast]
   show dn.G [.lst ((x :: rest).map .int),.str "any"]=_
   unfold dn
   rw[bc]
   unfold jW
   rw[show [[x]].map liV=[liV [x]] from rfl,show (x :: rest).map Val.int=Val.int x :: rest.map Val.int from rfl] at q4
   simp![Bn,s1,s2,q4,s3]
theorem AI (nums l:List Int) (hl:nums.length<=1000):∃ s,lcV (gtN 0).G (qOf (pOp lF (ah 0) (ah 1))).G (ah 0).G (nums.map .int) [] [.no,.sh (liV l)]=.ok ((rst nums l).map .int) [s,.sh (liV l)]:=by
 obtain⟨e',⟨s,rfl,_⟩,lc⟩:=qA (g:=(gtN 0).G) (c:=(qOf (pOp lF (ah 0) (ah 1))).G) (F:=(ah 0).G) (λx=>!l.contains x) Val.int Val.int (λe=>∃ s,e=[s,.sh (liV l)]/\s.pl=true) nums [] [.no,.sh (liV l)] ⟨.no,rfl,rfl⟩ (by
  rintro x hx e ⟨s,rfl,hs⟩
  have k1:lF.G (.int x) (liV l)=.val (.bl (!l.contains x)):=zV l x
  refine⟨[.sh (.int x),.sh (liV l)],[.sh (.int x),.sh (liV l)],?_,?_,⟨_,rfl,rfl⟩,λ_=>⟨.val (.int x),[.sh (.int x),.sh (liV l)],?_,rfl,⟨_,rfl,rfl⟩⟩⟩
  ·simp![hs]
  ·simp![k1]
  ·simp![jg]) (by rw[List.length_nil];omega)
 rw[List.nil_append] at lc
 exact⟨s,lc⟩
theorem Hg {nums l:List Int}{kv:Val}{acc:List (Str×List Int×List Int)}{s4:Sl} (h4:s4.pl=true) (hl:nums.length<=1000) (ha:acc.length<=1000000):gD.G [.sh (liV nums),.sh kv,.ow (.lst (acc.map cuV)),.sh (liV l),s4]=.nx [.sh (liV nums),.sh kv,.ow (.lst ((acc++gW nums l).map cuV)),.sh (liV l),.sh (.str "down")]:=by
 obtain⟨s,lc⟩:=AI nums l hl
 have lr:((rst nums l).map Val.int).length<=16777216:=by
  rw[List.length_map]
  have:=List.length_filter_le (λx=>!l.contains x) nums
  show (nums.filter _).length<=_
  omega
 have it:(liV l).items=some (l.map .int):=rfl
 have sq:fO (.val (.lst (nums.map .int)))=fO (.val (liV nums)):=rfl
 have b1:∀ (acc:List (Str×List Int×List Int)) (way:Str),acc.length<=1000001->jo.G [.sh (liV nums),.sh kv,.ow (.lst (acc.map cuV)),.sh (liV l),.sh (.str way)]=.nx [.sh (liV nums),.sh kv,.ow (.lst ((acc++[(way,l,rst nums l)]).map cuV)),.sh (liV l),.sh (.str way)]:=by
  intro acc way ha
  have la:(acc.map cuV).length < 16777216:=by rw[List.length_map];omega
  have e2:(acc++[(way,l,rst nums l)]).map cuV=acc.map cuV++[.tup [.str way,.lst (l.map .int),.lst ((rst nums l).map .int)]]:=by rw[List.map_append];rfl
  rw[e2]
  unfold jo
  unfold liV at lc ⊢
  simp![zD,bT,lc,lr,la]
 unfold gD
 have e3:acc++gW nums l=(acc++[(("across" : Str),l,rst nums l)])++[(("down" : Str),l,rst nums l)]:=by unfold gW;simp
 rw[e3]
 have c1:=b1 acc "across" (by omega)
 have c2:=b1 (acc++[(("across" : Str),l,rst nums l)]) "down" (by rw[List.length_append];show acc.length + 1<=_;omega)
 simp![bK,h4,c1,c2]
theorem zu {nums:List Int}{kind:Str} (hk:kind = "order" \/ kind = "any") (h2:nums ≠ []) (hl:nums.length<=10):eu.G [liV nums,.str kind]=.ok (.new (.lst ((jn kind nums).map cuV))) []:=by
 have lo:=yg hk h2 hl
 have ln:=oM (kind:=kind) hl
 have fold:∀ (ls:List (List Int)) (acc:List (Str×List Int×List Int)) (s3 s4:Sl),s3.pl=true->s4.pl=true->acc.length + 2 * ls.length<=1000000->∃ s3' s4',fE (gtN 3).G gD.G (ls.map liV) [.sh (liV nums),.sh (.str kind),.ow (.lst (acc.map cuV)),s3,s4]=.nx [.sh (liV nums),.sh (.str kind),.ow (.lst ((acc++ls.flatMap (gW nums)).map cuV)),s3',s4']:=by
  intro ls
  induction ls with
  | nil=>intro acc s3 s4 _ _ _;exact⟨s3,s4,by rw[List.map_nil,kF,List.flatMap_nil,List.append_nil]⟩
  |
   cons l ls ih=>
   intro acc s3 s4 h3 h4 hb
   rw[List.length_cons] at hb
   have g1:(gtN 3).G (liV l) [.sh (liV nums),.sh (.str kind),.ow (.lst (acc.map cuV)),s3,s4]=some [.sh (liV nums),.sh (.str kind),.ow (.lst (acc.map cuV)),.sh (liV l),s4]:=by
    simp![h3]
   have b2:=Hg (kv:=.str kind) (nums:=nums) (l:=l) (acc:=acc) h4 (by omega) (by omega)
   obtain⟨t3,t4,q⟩:=ih (acc++gW nums l) (.sh (liV l)) (.sh (.str "down")) rfl rfl (by rw[List.length_append];show acc.length + 2 + _<=_;omega)
   refine⟨t3,t4,?_⟩
   rw[List.map_cons,bK,g1]
   simp only[b2,jO]
   rw[q,List.flatMap_cons,List.append_assoc]
 obtain⟨s3,s4,fr⟩:=fold (cG kind nums) [] .no .no rfl rfl (by rw[List.length_nil];omega)
 rw[List.nil_append,List.map_nil] at fr
 unfold eu jn
 rw[bc]
 unfold mD
 simp![lo,fr]
theorem wO {c:Str×List Int×List Int}{b:Bx}{ws:List Int}{n m:Nat} (hb:b.Ok) (hs:b.Sz n) (hway:c.1 = "across" \/ c.1 = "down") (r1:Inr ws c.2.1) (r2:Inr ws c.2.2) (l1:c.2.1.length<=1000) (l2:c.2.2.length<=1000) (h1:1<=wt ws c.2.1) (h2:1<=wt ws c.2.2) (mW:Sm m (wt ws c.2.1 + wt ws c.2.2)) (h:n + n + m<=8000):dk.G [cuV c,bV b,liV ws]=.ok (.new (.lst [bV (eS b c.1 (wt ws c.2.1) (wt ws c.2.2)),bV (fo b c.1 (wt ws c.2.1) (wt ws c.2.2))])) []:=by
 have w1:=mJ r1 l1
 have w2:=mJ r2 l2
 have pe:=zL (ws:=[wt ws c.2.1,wt ws c.2.2]) hb hs hway (by simp) (by intro w hw;simp at hw;omega) (m:=m) (by simpa using mW) h (by simp)
 rw[qb,List.map_cons,List.map_cons,List.map_nil,List.map_cons,List.map_cons,List.map_nil] at pe
 show dk.G [.tup [.str c.1,liV c.2.1,liV c.2.2],bV b,liV ws]=_
 unfold dk
 rw[bc]
 unfold mm
 simp![w1,w2,pe]
theorem uZ (x y:Val):∀ (n one bn:Nat),bn<=n->(xWh (qOf (pOp bGt (ah 3) (av 0))) gE).G [.sh x,.sh y,.sh (.int (one:Nat)),.sh (.int (bn:Nat))]=.nx [.sh x,.sh y,.sh (.int (Nat.gcd one bn:Nat)),.sh (.int 0)]
 |
  n,one,0,_=>by
  rw[zi]
  simp![Nat.gcd_zero_right,Int.natCast_zero,Int.lt_irrefl]
 | 0,one,bn + 1,hl=>absurd hl (by omega)
 |
  n + 1,one,bn + 1,hl=>by
  rw[zi]
  have e:decide ((0:Int) < ((bn + 1:Nat):Int))=true:=decide_eq_true (by omega)
  have e1:dh.G (.int (one:Nat)) (.int ((bn + 1:Nat):Int))=.val (.int (((one:Nat):Int).fmod ((bn + 1:Nat):Int))):=iF (by omega)
  have e2:((one:Nat):Int).fmod ((bn + 1:Nat):Int)=((one % (bn + 1):Nat):Int):=by
   rw[Int.fmod_eq_emod_of_nonneg _ (by omega)];rfl
  have ih:=uZ x y n (bn + 1) (one % (bn + 1)) (by have:=Nat.mod_lt one (show bn + 1 > 0 by omega);omega)
  rw[Fr.euc] at ih
  rw[e2] at e1
  have bb:gE.G [.sh x,.sh y,.sh (.int (one:Nat)),.sh (.int ((bn + 1:Nat):Int))]=.nx [.sh x,.sh y,.sh (.int ((bn + 1:Nat):Int)),.sh (.int ((one % (bn + 1):Nat):Int))]:=by
   unfold gE
   simp![e1]
  simp![e,bb,ih]
theorem gF {a b:Int} (hb:0 < b) (hs:Sm 8000 b):aZ.G [.int a,.int b]=.ok (.val (fV ((a:Rat) / (b:Rat)))) []:=by
 unfold aZ
 rw[bc]
 unfold mV
 have hb0:b ≠ 0:=by omega
 have lo:=uZ (.int a) (.int b) b.natAbs a.natAbs b.natAbs (Nat.le_refl _)
 rw[show Nat.gcd a.natAbs b.natAbs=Int.gcd a b from rfl,show ((b.natAbs:Nat):Int)=b by omega] at lo
 have c:∀ x,CDivB x (Fr.dv a b):=λx=>CDivB.of (Fr.dv_ne hb0) (hs.of_le (by
  rw[Fr.dv_abs]
  exact Nat.le_of_dvd (by omega) (Nat.gcd_dvd_right a.natAbs b.natAbs)))
 have k1:=nr (c a)
 have k2:=nr (c b)
 have hh:=pZ (a:=a) hb0
 have fin:Val.tup [.int (a.fdiv (Fr.dv a b)),.int (b.fdiv (Fr.dv a b))]=fV ((a:Rat) / (b:Rat)):=by
  unfold fV
  rw[<- hh.1,<- hh.2]
  rfl
 have hd:Fr.dv a b=((Int.gcd a b:Nat):Int):=by unfold Fr.dv;rw[if_neg (by omega)]
 rw[hd] at k1 k2 fin
 simp![xC,lo,k1,k2,fin]
theorem gL {p q:Rat}{n m:Nat} (hp:Sz n p) (hq:Sz m q) (h:n + m<=8000):ck.G [fV p,fV q]=.ok (.val (fV (p * q))) []:=by
 have c1:=bN (CMulA.of hp.top hq.top (by omega) (by omega))
 have c2:=bN (CMulA.of hp.bot hq.bot (by omega) (by omega))
 have dp:=p.den_pos
 have dq:=q.den_pos
 have lo:=gF (a:=p.num * q.num) (b:=p.den * q.den) (Int.mul_pos (by omega) (by omega)) ((hp.bot.mul hq.bot).mono h)
 rw[<- rH] at lo
 unfold ck
 rw[bc]
 unfold j8
 rw[show fV p=.tup [.int p.num,.int p.den] from rfl,show fV q=.tup [.int q.num,.int q.den] from rfl]
 simp![c1,c2,lo]
theorem pG {p q:Rat}{n m:Nat} (hp:Sz n p) (hq:Sz m q) (h:n + m<=8000):er.G [fV p,fV q]=.ok (.val (fV (p + q))) []:=by
 have c1:=bN (CMulA.of hp.top hq.bot (by omega) (by omega))
 have c2:=bN (CMulA.of hq.top hp.bot (by omega) (by omega))
 have c3:=bN (CMulA.of hp.bot hq.bot (by omega) (by omega))
 have dp:=p.den_pos
 have dq:=q.den_pos
 have lo:=gF (a:=p.num * q.den + q.num * p.den) (b:=p.den * q.den) (Int.mul_pos (by omega) (by omega)) ((hp.bot.mul hq.bot).mono h)
 rw[<- qh] at lo
 unfold er
 rw[bc]
 unfold mL
 rw[show fV p=.tup [.int p.num,.int p.den] from rfl,show fV q=.tup [.int q.num,.int q.den] from rfl]
 simp![c1,c2,c3,lo]
theorem nU {p q:Rat}{n m:Nat} (hp:Sz n p) (hq:Sz m q) (h0:0 < q) (h:n + m<=8000):dP.G [fV p,fV q]=.ok (.val (fV (p / q))) []:=by
 have c1:=bN (CMulA.of hp.top hq.bot (by omega) (by omega))
 have c2:=bN (CMulA.of hp.bot hq.top (by omega) (by omega))
 have hq0:q ≠ 0:=λz=>by rw[z] at h0;exact absurd h0 (by decide)
 have hn:0 < q.num:=xj.mpr h0
 have dp:=p.den_pos
 have lo:=gF (a:=p.num * q.den) (b:=p.den * q.num) (Int.mul_pos (by omega) hn) ((hp.bot.mul hq.top).mono h)
 rw[<- oB hq0] at lo
 unfold dP
 rw[bc]
 unfold lu
 rw[show fV p=.tup [.int p.num,.int p.den] from rfl,show fV q=.tup [.int q.num,.int q.den] from rfl]
 simp![c1,c2,lo]
theorem fJ {p q:Rat}{n m:Nat} (hp:Sz n p) (hq:Sz m q) (h1:n<=100000) (h2:m<=100000):bA.G [fV p,fV q]=.ok (.val (.bl (decide (p < q)))) []:=by
 have c1:=bN (CMulA.of hp.top hq.bot h1 h2)
 have c2:=bN (CMulA.of hq.top hp.bot h2 h1)
 unfold bA
 rw[bc]
 unfold lM
 rw[show fV p=.tup [.int p.num,.int p.den] from rfl,show fV q=.tup [.int q.num,.int q.den] from rfl]
 simp![c1,c2]
 rw[show decide (p.num * (q.den:Int) < q.num * (p.den:Int))=decide (p < q) from decide_eq_decide.mpr (Az p q).symm]
theorem mO {b:Bx}{n:Nat} (hb:b.Ok) (hs:b.Sz n) (h:n + n<=8000):bU.G [bV b]=.ok (.val (fV (dC b))) []:=by
 have il:=fJ hs.w hs.h (by omega) (by omega)
 have ib:(bV b).items=some [fV b.l,fV b.t,fV b.w,fV b.h]:=rfl
 have o1:=nU hs.w hs.h hb.2 h
 have o2:=nU hs.h hs.w hb.1 h
 unfold bU dC
 rw[bc]
 unfold kd
 by_cases hl:b.w < b.h
 ·rw[if_pos hl]
  rw[decide_eq_true hl] at il
  simp![il,ib,o1,o2]
 ·rw[if_neg hl]
  rw[decide_eq_false hl] at il
  simp![il,ib,o1,o2]
theorem sT {nums:List Int}{kind:Str} (hk:kind = "order" \/ kind = "any") (h2:nums ≠ []) (hl:nums.length<=10):bG.G [liV nums,.str kind]=.ok (.new (.lst ((cG kind nums).map liV))) []:=by
 have db:=oM (kind:=kind) hl
 rcases hk with rfl | rfl
 ·obtain⟨s,lc⟩:=xM (nums:=nums) (by omega)
  have rg:=xP (n:=nums.length) (by omega)
  have ll:((cG "order" nums).map liV).length<=16777216:=by rw[List.length_map];omega
  have lm:((nums.map Val.int).length:Nat)=nums.length:=List.length_map ..
  show bG.G [.lst (nums.map .int),.str "order"]=_
  unfold bG
  rw[bc]
  unfold gY
  simp![Ax,lm,rg,bT,lc,ll]
 ·match nums,h2 with
  |
   x :: rest,h2=>
   rw[List.length_cons] at hl
   obtain⟨s',q4⟩:=m5 (B:=iW) rfl (nv:=.lst ((x :: rest).map .int)) (kv:=.str "any") rest [[x]] .no rfl (by
    have:2 ^ rest.length<=2 ^ 9:=Nat.pow_le_pow_right (by decide) (by omega)
    simp
    omega) (by intro l hl';rw[List.mem_singleton] at hl';subst hl';simp;omega)
   have s2:aSl (.lst (Val.int x :: rest.map .int)) (some 1) none=.new (.lst (rest.map .int)):=by
    rw[kL,show (some 1:Option Int)=some ((1:Nat):Int) from rfl,tW]
    rfl
   have s3:aSl (.lst ((gK [[x]] rest).map liV)) none (some (-1))=.new (.lst ((cG "any" (x :: rest)).map liV)):=by
    rw[kL,xh]
    unfold cG
    rw[if_neg (by decide),List.map_dropLast]
   show bG.G [.lst ((x :: rest).map .int),.str "any"]=_
   unfold bG
   rw[bc]
   unfold gY
   rw[show [[x]].map liV=[.lst [.int x]] from rfl,show (x :: rest).map Val.int=Val.int x :: rest.map Val.int from rfl] at q4
   simp![Bn,s2,q4,s3]
def prt (b:Bx) (way:Str) (W a:Int) (ws:List Int):List Bx:=if way = "across" then (shL b.l b.w W a ws).map λp=>⟨p.1,b.t,p.2,b.h⟩ else (shL b.t b.h W a ws).map λp=>⟨b.l,p.1,b.w,p.2⟩
theorem LC (b:Bx) (W a w:Int) (ws:List Int):prt b "across" W a (w :: ws)=(⟨b.l + b.w * ((a:Rat) / (W:Rat)),b.t,b.w * ((w:Rat) / (W:Rat)),b.h⟩:Bx) :: prt b "across" W (a + w) ws:=by
 unfold prt
 rw[if_pos rfl,if_pos rfl]
 rfl
theorem Mm (b:Bx) (W a w:Int) (ws:List Int):prt b "down" W a (w :: ws)=(⟨b.l,b.t + b.h * ((a:Rat) / (W:Rat)),b.w,b.h * ((w:Rat) / (W:Rat))⟩:Bx) :: prt b "down" W (a + w) ws:=by
 have hne:¬ (("down" : Str) = "across"):=by decide
 unfold prt
 rw[if_neg hne,if_neg hne]
 rfl
theorem Fm (b:Bx) (way:Str) (W a:Int):prt b way W a []=[]:=by
 unfold prt
 split <;> rfl
theorem ox {b:Bx}{n m:Nat}{W:Int}{wl:List Int} (hb:b.Ok) (hs:b.Sz n) (hW:0 < W) (mW:Sm m W) (h:n + n + m<=8000) (hsum:wl.sum=W) {way:Str} (hway:way = "across" \/ way = "down"):∀ (ws:List Int) (a:Int) (acc:List Bx) (s9 s10 s11:Sl),s9.pl=true->s10.pl=true->s11.pl=true->0<=a->(∀ w ∈ ws,1<=w)->a + ws.sum<=W->acc.length + ws.length<=1000->∃ s8' s9' s10' s11',fE (gtN 9).G eI.G (ws.map .int) [.sh (bV b),.sh (.str way),.sh (.lst (wl.map .int)),.sh (fV b.l),.sh (fV b.t),.sh (fV b.w),.sh (fV b.h),.ow (.lst (acc.map bV)),.sh (.int a),s9,s10,s11]=.nx [.sh (bV b),.sh (.str way),.sh (.lst (wl.map .int)),.sh (fV b.l),.sh (fV b.t),.sh (fV b.w),.sh (fV b.h),.ow (.lst ((acc++prt b way W a ws).map bV)),s8',s9',s10',s11']
 | [],a,acc,s9,s10,s11,h9,h10,h11,ha,hw,hs',db=>⟨.sh (.int a),s9,s10,s11,by rw[List.map_nil,kF,Fm,List.append_nil]⟩
 |
  w :: ws,a,acc,s9,s10,s11,h9,h10,h11,ha,hw,hs',db=>by
  have hw0:=hw w (List.mem_cons_self ..)
  have hws:=jM (l:=ws) λx hx=>hw x (List.mem_cons_of_mem _ hx)
  rw[List.sum_cons] at hs'
  rw[List.length_cons] at db
  have sa:Sm m a:=mW.of_le (by omega)
  have sw:Sm m w:=mW.of_le (by omega)
  have f1:=gF (a:=a) (b:=W) hW (mW.mono (by omega))
  have f2:=gF (a:=w) (b:=W) hW (mW.mono (by omega))
  have z1:Sz m ((a:Rat) / (W:Rat)):=Sz.div (by omega) sa mW m (Nat.le_refl _) (Nat.le_refl _)
  have z2:Sz m ((w:Rat) / (W:Rat)):=Sz.div (by omega) sw mW m (Nat.le_refl _) (Nat.le_refl _)
  have ll:(acc.map bV).length < 16777216:=by rw[List.length_map];omega
  have g1:(gtN 9).G (.int w) [.sh (bV b),.sh (.str way),.sh (.lst (wl.map .int)),.sh (fV b.l),.sh (fV b.t),.sh (fV b.w),.sh (fV b.h),.ow (.lst (acc.map bV)),.sh (.int a),s9,s10,s11]=some [.sh (bV b),.sh (.str way),.sh (.lst (wl.map .int)),.sh (fV b.l),.sh (fV b.t),.sh (fV b.w),.sh (fV b.h),.ow (.lst (acc.map bV)),.sh (.int a),.sh (.int w),s10,s11]:=by
   simp![h9]
  rcases hway with rfl | rfl
  ·have t1:=gL hs.w z1 (by omega)
   have t2:=gL hs.w z2 (by omega)
   have ad:=pG hs.l (hs.w.mul z1) (by omega)
   obtain⟨t8,t9,t10,t11,ih⟩:=ox hb hs hW mW h hsum (.inl rfl) ws (a + w) (acc++[(⟨b.l + b.w * ((a:Rat) / (W:Rat)),b.t,b.w * ((w:Rat) / (W:Rat)),b.h⟩:Bx)]) (.sh (.int w)) (.sh (fV ((a:Rat) / (W:Rat)))) (.sh (fV ((w:Rat) / (W:Rat)))) rfl rfl rfl (by omega) (λx hx=>hw x (List.mem_cons_of_mem _ hx)) (by omega) (by rw[List.length_append];show acc.length + 1 + _<=_;omega)
   refine⟨t8,t9,t10,t11,?_⟩
   have b1:eI.G [.sh (bV b),.sh (.str "across"),.sh (.lst (wl.map .int)),.sh (fV b.l),.sh (fV b.t),.sh (fV b.w),.sh (fV b.h),.ow (.lst (acc.map bV)),.sh (.int a),.sh (.int w),s10,s11]=.nx [.sh (bV b),.sh (.str "across"),.sh (.lst (wl.map .int)),.sh (fV b.l),.sh (fV b.t),.sh (fV b.w),.sh (fV b.h),.ow (.lst ((acc++[(⟨b.l + b.w * ((a:Rat) / (W:Rat)),b.t,b.w * ((w:Rat) / (W:Rat)),b.h⟩:Bx)]).map bV)),.sh (.int (a + w)),.sh (.int w),.sh (fV ((a:Rat) / (W:Rat))),.sh (fV ((w:Rat) / (W:Rat)))]:=by
    unfold eI
    rw[List.map_append,show [(⟨b.l + b.w * ((a:Rat) / (W:Rat)),b.t,b.w * ((w:Rat) / (W:Rat)),b.h⟩:Bx)].map bV=[.tup [fV (b.l + b.w * ((a:Rat) / (W:Rat))),fV b.t,fV (b.w * ((w:Rat) / (W:Rat))),fV b.h]] from rfl]
    simp![h10,h11,hsum,f1,f2,t1,t2,ad,ll,uu]
   rw[List.map_cons,bK,g1]
   simp only[b1,jO]
   rw[ih,LC,List.append_assoc]
   rfl
  ·have t1:=gL hs.h z1 (by omega)
   have t2:=gL hs.h z2 (by omega)
   have ad:=pG hs.t (hs.h.mul z1) (by omega)
   obtain⟨t8,t9,t10,t11,ih⟩:=ox hb hs hW mW h hsum (.inr rfl) ws (a + w) (acc++[(⟨b.l,b.t + b.h * ((a:Rat) / (W:Rat)),b.w,b.h * ((w:Rat) / (W:Rat))⟩:Bx)]) (.sh (.int w)) (.sh (fV ((a:Rat) / (W:Rat)))) (.sh (fV ((w:Rat) / (W:Rat)))) rfl rfl rfl (by omega) (λx hx=>hw x (List.mem_cons_of_mem _ hx)) (by omega) (by rw[List.length_append];show acc.length + 1 + _<=_;omega)
   refine⟨t8,t9,t10,t11,?_⟩
   have b1:eI.G [.sh (bV b),.sh (.str "down"),.sh (.lst (wl.map .int)),.sh (fV b.l),.sh (fV b.t),.sh (fV b.w),.sh (fV b.h),.ow (.lst (acc.map bV)),.sh (.int a),.sh (.int w),s10,s11]=.nx [.sh (bV b),.sh (.str "down"),.sh (.lst (wl.map .int)),.sh (fV b.l),.sh (fV b.t),.sh (fV b.w),.sh (fV b.h),.ow (.lst ((acc++[(⟨b.l,b.t + b.h * ((a:Rat) / (W:Rat)),b.w,b.h * ((w:Rat) / (W:Rat))⟩:Bx)]).map bV)),.sh (.int (a + w)),.sh (.int w),.sh (fV ((a:Rat) / (W:Rat))),.sh (fV ((w:Rat) / (W:Rat)))]:=by
    unfold eI
    rw[List.map_append,show [(⟨b.l,b.t + b.h * ((a:Rat) / (W:Rat)),b.w,b.h * ((w:Rat) / (W:Rat))⟩:Bx)].map bV=[.tup [fV b.l,fV (b.t + b.h * ((a:Rat) / (W:Rat))),fV b.w,fV (b.h * ((w:Rat) / (W:Rat)))]] from rfl]
    simp![h10,h11,hsum,f1,f2,t1,t2,ad,ll,uU]
   rw[List.map_cons,bK,g1]
   simp only[b1,jO]
   rw[ih,Mm,List.append_assoc]
   rfl
theorem pM {b:Bx}{n m:Nat}{way:Str}{u v:Int} (hb:b.Ok) (hs:b.Sz n) (hway:way = "across" \/ way = "down") (hu:1<=u) (hv:1<=v) (mW:Sm m (u + v)) (h:n + n + m<=8000):cT.G [bV b,.str way,.lst [.int u,.int v]]=.ok (.new (.lst [bV (eS b way u v),bV (fo b way u v)])) []:=by
 have es:[u,v].sum=u + v:=by simp
 obtain⟨s8,s9,s10,s11,lo⟩:=ox (wl:=[u,v]) hb hs (by omega:0 < u + v) mW h es hway [u,v] 0 [] .no .no .no rfl rfl rfl (by omega) (by intro w hw;simp at hw;omega) (by rw[es];omega) (by simp)
 have pe:prt b way (u + v) 0 [u,v]=[eS b way u v,fo b way u v]:=by
  rw[<- qb]
  unfold gR prt
  rw[es]
 rw[List.nil_append,pe,List.map_nil,List.map_cons,List.map_cons,List.map_nil,List.map_cons,List.map_cons,List.map_nil] at lo
 have e0:bV b=.tup [fV b.l,fV b.t,fV b.w,fV b.h]:=rfl
 rw[e0] at lo ⊢
 unfold cT
 rw[bc]
 unfold ng
 simp![lo]
structure Ok51 (ws nums:List Int) (b:Bx) (n m:Nat):Prop where
 ne:nums ≠ []
 nd:nums.Nodup
 inr:Inr ws nums
 len:nums.length<=10
 mw:Sm m (wt ws nums)
 ok:b.Ok
 sz:b.Sz n
 bd:(n + m + 1) * 2 ^ nums.length<=4000
theorem Ok51.nm {ws nums:List Int}{b:Bx}{n m:Nat} (h:Ok51 ws nums b n m):n + m + 1<=2000:=by
 have h1:=List.length_pos_iff.mpr h.ne
 have h2:2 ^ 1<=2 ^ nums.length:=Nat.pow_le_pow_right (by decide) h1
 have h3:=h.bd
 have:(n + m + 1) * 2 ^ 1<=4000:=Nat.le_trans (Nat.mul_le_mul_left _ h2) h3
 omega
structure Sub51 (ws nums:List Int) (b:Bx) (n m:Nat) (c:Str×List Int×List Int):Prop where
 w1:1<=wt ws c.2.1
 w2:1<=wt ws c.2.2
 sm:Sm m (wt ws c.2.1 + wt ws c.2.2)
 o1:Ok51 ws c.2.1 (eS b c.1 (wt ws c.2.1) (wt ws c.2.2)) (n + (n + m) + 1) m
 o2:Ok51 ws c.2.2 (fo b c.1 (wt ws c.2.1) (wt ws c.2.2)) (n + (n + m) + 1) m
theorem Ok51.cut {ws nums:List Int}{b:Bx}{n m:Nat} (h:Ok51 ws nums b n m) (hw:∀ w ∈ ws,1<=w) {c:Str×List Int×List Int} (hc:CutOk nums c):Sub51 ws nums b n m c:=by
 have r1:Inr ws c.2.1:=λi hi=>h.inr i (hc.one.sub.subset hi)
 have r2:Inr ws c.2.2:=λi hi=>h.inr i (hc.two.sub.subset hi)
 have l1:=List.length_pos_iff.mpr hc.one.ne
 have l2:=List.length_pos_iff.mpr hc.two.ne
 have g1:=tI hw r1
 have g2:=tI hw r2
 have es:wt ws c.2.1 + wt ws c.2.2=wt ws nums:=by
  rw[<- Bj]
  have p:=o3 hc.one.sub h.nd
  rw[<- hc.rest] at p
  exact kE p
 have sm:Sm m (wt ws c.2.1 + wt ws c.2.2):=by rw[es];exact h.mw
 have k1:=xk (way:=c.1) h.ok h.sz (by omega:1<=wt ws c.2.1) (by omega:1<=wt ws c.2.2) sm
 have k2:=xo (way:=c.1) h.ok h.sz (by omega:1<=wt ws c.2.1) (by omega:1<=wt ws c.2.2) sm
 have bd:∀ l:List Int,Lot nums l->(n + (n + m) + 1 + m + 1) * 2 ^ l.length<=4000:=by
  intro l hl
  have h1:=hl.lt
  have h2:2 ^ (l.length + 1)<=2 ^ nums.length:=Nat.pow_le_pow_right (by decide) h1
  have h3:=h.bd
  have h4:(n + m + 1) * 2 ^ (l.length + 1)<=4000:=Nat.le_trans (Nat.mul_le_mul_left _ h2) h3
  rw[Nat.pow_succ,Nat.mul_comm (2 ^ l.length),<- Nat.mul_assoc] at h4
  rw[show n + (n + m) + 1 + m + 1=(n + m + 1) * 2 by omega]
  exact h4
 have hl:=h.len
 have q1:=hc.one.lt
 have q2:=hc.two.lt
 exact⟨by omega,by omega,sm,⟨hc.one.ne,h.nd.sublist hc.one.sub,r1,by omega,sm.of_le (by omega),k1.1,k1.2,bd _ hc.one⟩,⟨hc.two.ne,h.nd.sublist hc.two.sub,r2,by omega,sm.of_le (by omega),k2.1,k2.2,bd _ hc.two⟩⟩
theorem zJ {nums:List Int} (nd:nums.Nodup) {c:Str×List Int×List Int} (h:c ∈ jn "order" nums):c.2.1++c.2.2=nums:=by
 have hc:=xB nd h
 obtain⟨l,hl,hc'⟩:=List.mem_flatMap.mp h
 unfold cG at hl
 rw[if_pos rfl] at hl
 obtain⟨i,_,rfl⟩:=List.mem_map.mp hl
 have e:c.2.1=nums.take i:=by
  unfold gW at hc'
  rcases List.mem_cons.mp hc' with rfl | hc'
  ·rfl
  ·rw[List.mem_singleton] at hc'
   subst hc'
   rfl
 rw[hc.rest,e,Du nd,List.take_append_drop]
def HZ (kind:Str) (ws nums:List Int) (b:Bx) (o:Option Rat) (bv:Val):Prop:=match o with
 | none=>bv=.non
 | some q=>∃ t ls,bv=.tup [fV q,t]/\Sz 4000 q/\ls.Perm nums/\(kind = "order" -> ls=nums)/\Tr ws b ls t q
theorem D7 (q:Rat):L3.flatV (fV q)=true:=by unfold fV;simp [mY,fH,gX,mS]
theorem Ed {x y:Rat}{n:Nat} (hx:Sz n x) (hy:Sz n y):Sz n (mx x y):=by
 unfold mx
 split
 ·exact hy
 ·exact hx
theorem KC {x y:Rat}:¬ mx x y < x:=by
 unfold mx
 split
 ·rename_i h
  exact Rat.not_lt.mpr (Rat.le_of_lt h)
 ·exact Rat.lt_irrefl
theorem rP {kind:Str}{ws:List Int}{m:Nat} (hk:kind = "order" \/ kind = "any") (hw:∀ w ∈ ws,1<=w):∀ (k:Nat) (nums:List Int) (b:Bx) (n:Nat),Ok51 ws nums b n m->nums.length<=k->∃ t ls,(cc k).G [bV b,liV ws,.str kind,liV nums]=.ok (.val (.tup [fV (bst kind ws k b nums),t])) []/\Sz 4000 (bst kind ws k b nums)/\ls.Perm nums/\(kind = "order" -> ls=nums)/\Tr ws b ls t (bst kind ws k b nums)
 | 0,nums,b,n,H,hl=>absurd (List.length_pos_iff.mpr H.ne) (by omega)
 |
  k + 1,nums,b,n,H,hl=>by
  have nm:=H.nm
  show ∃ t ls,(PFx.of [false,false,false,false] 11 (eN (cc k))).G [bV b,liV ws,.str kind,liV nums]=_/\_
  by_cases h1:nums.length=1
  ·have eb:bst kind ws (k + 1) b nums=dC b:=by unfold bst;rw[if_pos h1]
   rw[eb]
   match nums,h1 with
   |
    [i],_=>
    have sh:=Bw H.ok H.sz (by omega)
    refine⟨.int i,[i],?_,(wb H.ok H.sz).mono (by omega),List.Perm.refl _,λ_=>rfl,.leaf b i⟩
    rw[jQ]
    unfold eN
    show (if _ then _ else _)=_
    have it:(liV [i])=.lst [.int i]:=rfl
    rw[it]
    simp![sh]
  ·have hl2:2<=nums.length:=by have:=List.length_pos_iff.mpr H.ne;omega
   have hne:((((nums.map Val.int).length:Nat):Int) == 1)=false:=by
    rw[beq_eq_false_iff_ne,List.length_map]
    omega
   have ce:=zu hk H.ne H.len
   obtain⟨q,eq⟩:=xi (λc=>fg (bst kind ws k) ws b c) (xA (kind:=kind) hl2)
   have eb:bst kind ws (k + 1) b nums=q:=by
    unfold bst
    rw[if_neg h1,eq]
    rfl
   obtain⟨e',⟨bv,s5,s6,s7,s8,s9,s10,rfl,_,hbv⟩,fr⟩:=mI (g:=(gtN 5).G) (B:=(dG (cc k)).G) cuV (λo c=>cF o (fg (bst kind ws k) ws b c)) (λo e=>∃ bv s5 s6 s7 s8 s9 s10,e=[.sh (bV b),.sh (liV ws),.sh (.str kind),.sh (liV nums),.sh bv,s5,s6,s7,s8,s9,s10]/\(s5.pl=true/\s6.pl=true/\s7.pl=true/\s8.pl=true/\s9.pl=true/\s10.pl=true)/\HZ kind ws nums b o bv) (jn kind nums) none [.sh (bV b),.sh (liV ws),.sh (.str kind),.sh (liV nums),.sh .non,.no,.no,.no,.no,.no,.no] ⟨_,_,_,_,_,_,_,rfl,⟨rfl,rfl,rfl,rfl,rfl,rfl⟩,rfl⟩ (by
    rintro c hc o e ⟨bv,s5,s6,s7,s8,s9,s10,rfl,⟨g5,g6,g7,g8,g9,g10⟩,hbv⟩
    have co:=xB H.nd hc
    have su:=H.cut hw co
    have db:=H.len
    have q1:=co.one.lt
    have q2:=co.two.lt
    have pb:=wO (c:=c) H.ok H.sz co.way su.o1.inr su.o2.inr (by omega) (by omega) su.w1 su.w2 su.sm (by omega)
    obtain⟨t1,l1,e1,z1,p1,c1,r1⟩:=rP hk hw k c.2.1 _ _ su.o1 (by omega)
    obtain⟨t2,l2,e2,z2,p2,c2,r2⟩:=rP hk hw k c.2.2 _ _ su.o2 (by omega)
    have ic:(cuV c).items=some [.str c.1,liV c.2.1,liV c.2.2]:=rfl
    have fl1:L3.flatVs [fV (bst kind ws k (eS b c.1 (wt ws c.2.1) (wt ws c.2.2)) c.2.1),t1]=true:=by simp [fH,gX,D7,r1.flat]
    have fl2:L3.flatVs [fV (bst kind ws k (fo b c.1 (wt ws c.2.1) (wt ws c.2.2)) c.2.2),t2]=true:=by simp [fH,gX,D7,r2.flat]
    have tr:Tr ws b (l1++l2) (.tup [.str c.1,.tup [t1,t2]]) (fg (bst kind ws k) ws b c):=by
     refine Tr.node co.way ?_ ?_
     ·rw[kE p1,kE p2];exact r1
     ·rw[kE p1,kE p2];exact r2
    have pm:(l1++l2).Perm nums:=by
     have p:=o3 co.one.sub H.nd
     rw[<- co.rest] at p
     exact (p1.append p2).trans p
    have oc:kind = "order" -> l1++l2=nums:=λz=>by
     rw[c1 z,c2 z]
     subst z
     exact zJ H.nd hc
    have zz:Sz 4000 (fg (bst kind ws k) ws b c):=Ed z1 z2
    have gr:=vI z1 z2 (by omega) (by omega)
    rw[show (if bst kind ws k (eS b c.1 (wt ws c.2.1) (wt ws c.2.2)) c.2.1 < bst kind ws k (fo b c.1 (wt ws c.2.1) (wt ws c.2.2)) c.2.2 then bst kind ws k (fo b c.1 (wt ws c.2.1) (wt ws c.2.2)) c.2.2 else bst kind ws k (eS b c.1 (wt ws c.2.1) (wt ws c.2.2)) c.2.1)=fg (bst kind ws k) ws b c from rfl] at gr
    have hge:¬ fg (bst kind ws k) ws b c < bst kind ws k (eS b c.1 (wt ws c.2.1) (wt ws c.2.2)) c.2.1:=KC
    generalize hb1:eS b c.1 (wt ws c.2.1) (wt ws c.2.2)=b1 at *
    generalize hb2:fo b c.1 (wt ws c.2.1) (wt ws c.2.2)=b2 at *
    generalize hx1:bst kind ws k b1 c.2.1=x1 at *
    generalize hx2:bst kind ws k b2 c.2.2=x2 at *
    generalize hcd:fg (bst kind ws k) ws b c=cd at *
    refine⟨[.sh (bV b),.sh (liV ws),.sh (.str kind),.sh (liV nums),.sh bv,.sh (cuV c),s6,s7,s8,s9,s10],?_⟩
    have gg:(gtN 5).G (cuV c) [.sh (bV b),.sh (liV ws),.sh (.str kind),.sh (liV nums),.sh bv,s5,s6,s7,s8,s9,s10]=some [.sh (bV b),.sh (liV ws),.sh (.str kind),.sh (liV nums),.sh bv,.sh (cuV c),s6,s7,s8,s9,s10]:=by
     simp![g5]
    cases o with
    |
     none=>
     have hbv':bv=.non:=hbv
     subst hbv'
     refine⟨[.sh (bV b),.sh (liV ws),.sh (.str kind),.sh (liV nums),.sh (.tup [fV cd,.tup [.str c.1,.tup [t1,t2]]]),.sh (cuV c),.sh (bV b1),.sh (bV b2),.sh (.tup [fV x1,t1]),.sh (.tup [fV x2,t2]),.sh (fV cd)],gg,.inl ?_,_,_,_,_,_,_,_,rfl,⟨rfl,rfl,rfl,rfl,rfl,rfl⟩,_,_,rfl,zz,pm,oc,tr⟩
     unfold dG
     simp![pb,e1,e2,gr,ic,fl1,fl2,g6,g7,g8,g9,g10]
    |
     some p=>
     obtain⟨t0,l0,rfl,z0,p0,c0,r0⟩:=hbv
     have il:=gP z1 z0 (by omega) (by omega)
     by_cases hx:x1 < p
     ·rw[decide_eq_true hx] at il
      have ig:=gP zz z0 (by omega) (by omega)
      by_cases hy:cd < p
      ·rw[decide_eq_true hy] at ig
       have ms:cF (some p) cd=some cd:=if_pos hy
       rw[ms]
       refine⟨[.sh (bV b),.sh (liV ws),.sh (.str kind),.sh (liV nums),.sh (.tup [fV cd,.tup [.str c.1,.tup [t1,t2]]]),.sh (cuV c),.sh (bV b1),.sh (bV b2),.sh (.tup [fV x1,t1]),.sh (.tup [fV x2,t2]),.sh (fV cd)],gg,.inl ?_,_,_,_,_,_,_,_,rfl,⟨rfl,rfl,rfl,rfl,rfl,rfl⟩,_,_,rfl,zz,pm,oc,tr⟩
       unfold dG
       simp![pb,e1,e2,gr,ic,fl1,fl2,il,ig,g6,g7,g8,g9,g10]
      ·rw[decide_eq_false hy] at ig
       have ms:cF (some p) cd=some p:=if_neg hy
       rw[ms]
       refine⟨[.sh (bV b),.sh (liV ws),.sh (.str kind),.sh (liV nums),.sh (.tup [fV p,t0]),.sh (cuV c),.sh (bV b1),.sh (bV b2),.sh (.tup [fV x1,t1]),.sh (.tup [fV x2,t2]),.sh (fV cd)],gg,.inl ?_,_,_,_,_,_,_,_,rfl,⟨rfl,rfl,rfl,rfl,rfl,rfl⟩,_,_,rfl,z0,p0,c0,r0⟩
       unfold dG
       simp![pb,e1,e2,gr,ic,fl1,fl2,il,ig,g6,g7,g8,g9,g10]
     ·rw[decide_eq_false hx] at il
      have hy:¬ cd < p:=Rat.not_lt.mpr (Rat.le_trans (Rat.not_lt.mp hx) (Rat.not_lt.mp hge))
      have ms:cF (some p) cd=some p:=if_neg hy
      rw[ms]
      refine⟨[.sh (bV b),.sh (liV ws),.sh (.str kind),.sh (liV nums),.sh (.tup [fV p,t0]),.sh (cuV c),.sh (bV b1),.sh (bV b2),.sh (.tup [fV x1,t1]),s9,s10],gg,.inr ?_,_,_,_,_,_,_,_,rfl,⟨rfl,rfl,rfl,rfl,g9,g10⟩,_,_,rfl,z0,p0,c0,r0⟩
      unfold dG
      simp![pb,e1,ic,fl1,il,g6,g7,g8])
   rw[eq] at hbv
   obtain⟨t,ls,rfl,z,pm,oc,tr⟩:=hbv
   rw[eb]
   refine⟨t,ls,?_,z,pm,oc,tr⟩
   rw[jQ]
   unfold eN
   have it:(liV nums)=.lst (nums.map .int):=rfl
   rw[it] at fr ce ⊢
   simp![hne,ce,fr]
def oV (o:Option Rat):Val:=match o with
 | none=>.non
 | some q=>fV q
theorem va (x y:Val):mX.G (.lst [x,y]) []=some (.lst [y,x],.non):=rfl
theorem oW {kind:Str}{ws:List Int}{m:Nat} (hk:kind = "order" \/ kind = "any") (hw:∀ w ∈ ws,1<=w):∀ (k:Nat) (nums:List Int) (b:Bx) (n:Nat),Ok51 ws nums b n m->nums.length<=k->(bP k).G [bV b,liV nums,liV ws,.str kind]=.ok (.val (fV (bst kind ws k b nums))) []/\Sz 4000 (bst kind ws k b nums)
 | 0,nums,b,n,H,hl=>absurd (List.length_pos_iff.mpr H.ne) (by omega)
 |
  k + 1,nums,b,n,H,hl=>by
  have nm:=H.nm
  show (PFx.of [false,false,false,false] 12 (eP (bP k))).G [bV b,liV nums,liV ws,.str kind]=_/\_
  by_cases h1:nums.length=1
  ·have eb:bst kind ws (k + 1) b nums=dC b:=by unfold bst;rw[if_pos h1]
   rw[eb]
   match nums,h1 with
   |
    [i],_=>
    have sh:=mO H.ok H.sz (by omega)
    refine⟨?_,(wb H.ok H.sz).mono (by omega)⟩
    rw[jQ]
    unfold eP
    have it:(liV [i])=.lst [.int i]:=rfl
    rw[it]
    simp![sh]
  ·have hl2:2<=nums.length:=by have:=List.length_pos_iff.mpr H.ne;omega
   have hne:((((nums.map Val.int).length:Nat):Int) == 1)=false:=by
    rw[beq_eq_false_iff_ne,List.length_map]
    omega
   have fe:=sT hk H.ne H.len
   obtain⟨q,eq⟩:=xi (λc=>fg (bst kind ws k) ws b c) (xA (kind:=kind) hl2)
   have eb:bst kind ws (k + 1) b nums=q:=by
    unfold bst
    rw[if_neg h1,eq]
    rfl
   have db:=H.len
   have turn:∀ (way:Str) (l:List Int) (o:Option Rat) (s9 s10 s11:Sl),(way = "across" \/ way = "down")->Lot nums l->(∀ q,o=some q->Sz 4000 q)->s9.pl=true->s10.pl=true->s11.pl=true->∃ t9 t10 t11,t9.pl=true/\t10.pl=true/\t11.pl=true/\(∀ q,cF o (fg (bst kind ws k) ws b (way,l,rst nums l))=some q->Sz 4000 q)/\(fh (bP k)).G [.sh (bV b),.sh (liV nums),.sh (liV ws),.sh (.str kind),.sh (oV o),.sh (liV l),.sh (liV (rst nums l)),.sh (.lst [.int (wt ws l),.int (wt ws (rst nums l))]),.sh (.str way),s9,s10,s11]=.nx [.sh (bV b),.sh (liV nums),.sh (liV ws),.sh (.str kind),.sh (oV (cF o (fg (bst kind ws k) ws b (way,l,rst nums l)))),.sh (liV l),.sh (liV (rst nums l)),.sh (.lst [.int (wt ws l),.int (wt ws (rst nums l))]),.sh (.str way),t9,t10,t11]:=by
    intro way l o s9 s10 s11 hway hlot ho g9 g10 g11
    have co:CutOk nums (way,l,rst nums l):=⟨hway,hlot,nF hlot H.nd,rfl⟩
    have su:=H.cut hw co
    have q1:=co.one.lt
    have q2:=co.two.lt
    have cu:=pM H.ok H.sz hway su.w1 su.w2 su.sm (by omega)
    obtain⟨e1,z1⟩:=oW hk hw k l _ _ su.o1 (by have:l.length < nums.length:=q1;omega)
    obtain⟨e2,z2⟩:=oW hk hw k (rst nums l) _ _ su.o2 (by have:(rst nums l).length < nums.length:=q2;omega)
    have zz:Sz 4000 (fg (bst kind ws k) ws b (way,l,rst nums l)):=Ed z1 z2
    have l1:=fJ z1 z2 (by omega) (by omega)
    dsimp only at cu e1 e2 z1 z2 l1
    have hcd:fg (bst kind ws k) ws b (way,l,rst nums l)=mx (bst kind ws k (eS b way (wt ws l) (wt ws (rst nums l))) l) (bst kind ws k (fo b way (wt ws l) (wt ws (rst nums l))) (rst nums l)):=rfl
    rw[hcd] at zz ⊢
    generalize eS b way (wt ws l) (wt ws (rst nums l))=b1 at *
    generalize fo b way (wt ws l) (wt ws (rst nums l))=b2 at *
    generalize bst kind ws k b1 l=x1 at *
    generalize bst kind ws k b2 (rst nums l)=x2 at *
    have hms:∀ q,cF o (mx x1 x2)=some q->Sz 4000 q:=by
     intro q e
     cases o with
     | none=>cases e;exact zz
     |
      some p=>
      have e':(if mx x1 x2 < p then some (mx x1 x2) else some p)=some q:=e
      split at e'
      ·cases e';exact zz
      ·cases e';exact ho _ rfl
    by_cases hx:x1 < x2
    ·have em:mx x1 x2=x2:=if_pos hx
     rw[em] at zz hms ⊢
     rw[decide_eq_true hx] at l1
     refine⟨.sh (bV b1),.sh (bV b2),.ow (.lst [fV x2,fV x1]),rfl,rfl,rfl,hms,?_⟩
     unfold fh
     cases o with
     |
      none=>
      simp![cu,e1,e2,l1,va,oV,cF,g9,g10,g11]
     |
      some p=>
      have l2:=fJ z2 (ho p rfl) (by omega) (by omega)
      have ep:fV p=.tup [.int p.num,.int (p.den:Nat)]:=rfl
      rw[ep] at l2
      by_cases hy:x2 < p
      ·have ms:cF (some p) x2=some x2:=if_pos hy
       rw[decide_eq_true hy] at l2
       rw[ms]
       simp![cu,e1,e2,l1,l2,va,oV,ep,g9,g10,g11]
      ·have ms:cF (some p) x2=some p:=if_neg hy
       rw[decide_eq_false hy] at l2
       rw[ms]
       simp![cu,e1,e2,l1,l2,va,oV,ep,g9,g10,g11]
    ·have em:mx x1 x2=x1:=if_neg hx
     rw[em] at zz hms ⊢
     rw[decide_eq_false hx] at l1
     refine⟨.sh (bV b1),.sh (bV b2),.ow (.lst [fV x1,fV x2]),rfl,rfl,rfl,hms,?_⟩
     unfold fh
     cases o with
     |
      none=>
      simp![cu,e1,e2,l1,oV,cF,g9,g10,g11]
     |
      some p=>
      have l2:=fJ z1 (ho p rfl) (by omega) (by omega)
      have ep:fV p=.tup [.int p.num,.int (p.den:Nat)]:=rfl
      rw[ep] at l2
      by_cases hy:x1 < p
      ·have ms:cF (some p) x1=some x1:=if_pos hy
       rw[decide_eq_true hy] at l2
       rw[ms]
       simp![cu,e1,e2,l1,l2,oV,ep,g9,g10,g11]
      ·have ms:cF (some p) x1=some p:=if_neg hy
       rw[decide_eq_false hy] at l2
       rw[ms]
       simp![cu,e1,e2,l1,l2,oV,ep,g9,g10,g11]
   obtain⟨e',⟨s5,s6,s7,s8,s9,s10,s11,rfl,_,hso⟩,fr⟩:=mI (g:=(gtN 5).G) (B:=(gq (bP k)).G) liV (λo l=>(gW nums l).foldl (λo c=>cF o (fg (bst kind ws k) ws b c)) o) (λo e=>∃ s5 s6 s7 s8 s9 s10 s11,e=[.sh (bV b),.sh (liV nums),.sh (liV ws),.sh (.str kind),.sh (oV o),s5,s6,s7,s8,s9,s10,s11]/\(s5.pl=true/\s6.pl=true/\s7.pl=true/\s8.pl=true/\s9.pl=true/\s10.pl=true/\s11.pl=true)/\∀ q,o=some q->Sz 4000 q) (cG kind nums) none [.sh (bV b),.sh (liV nums),.sh (liV ws),.sh (.str kind),.sh .non,.no,.no,.no,.no,.no,.no,.no] ⟨_,_,_,_,_,_,_,rfl,⟨rfl,rfl,rfl,rfl,rfl,rfl,rfl⟩,λq z=>nomatch z⟩ (by
    rintro l hl' o e ⟨s5,s6,s7,s8,s9,s10,s11,rfl,⟨g5,g6,g7,g8,g9,g10,g11⟩,hso⟩
    have lo:=vg hl'
    have r2:=nF lo H.nd
    have r1':Inr ws l:=λi hi=>H.inr i (lo.sub.subset hi)
    have r2':Inr ws (rst nums l):=λi hi=>H.inr i (r2.sub.subset hi)
    have q1:=lo.lt
    have q2:=r2.lt
    obtain⟨sa,la⟩:=AI nums l (by omega)
    obtain⟨sb,lb⟩:=pQ r1' (by omega)
    obtain⟨sc,lc⟩:=pQ r2' (by omega)
    obtain⟨t9,t10,t11,k9,k10,k11,hs1,b1⟩:=turn "across" l o s9 s10 s11 (.inl rfl) lo hso g9 g10 g11
    obtain⟨u9,u10,u11,m9,m10,m11,hs2,b2⟩:=turn "down" l _ t9 t10 t11 (.inr rfl) lo hs1 k9 k10 k11
    have c0:((rst nums l).map Val.int).length<=16777216:=by rw[List.length_map];omega
    have c1:((l.map (eA ws)).map Val.int).length<=16777216:=by rw[List.length_map,List.length_map];omega
    have c2:(((rst nums l).map (eA ws)).map Val.int).length<=16777216:=by rw[List.length_map,List.length_map];omega
    refine⟨[.sh (bV b),.sh (liV nums),.sh (liV ws),.sh (.str kind),.sh (oV o),.sh (liV l),s6,s7,s8,s9,s10,s11],[.sh (bV b),.sh (liV nums),.sh (liV ws),.sh (.str kind),.sh (oV (cF (cF o (fg (bst kind ws k) ws b ("across",l,rst nums l))) (fg (bst kind ws k) ws b ("down",l,rst nums l)))),.sh (liV l),.sh (liV (rst nums l)),.sh (.lst [.int (wt ws l),.int (wt ws (rst nums l))]),.sh (.str "down"),u9,u10,u11],?_,.inl ?_,_,_,_,_,_,_,_,rfl,⟨rfl,rfl,rfl,rfl,m9,m10,m11⟩,hs2⟩
    ·simp![g5]
    ·unfold gq
     generalize hnv:oV o=ov at *
     generalize hmv:oV (cF o (fg (bst kind ws k) ws b ("across",l,rst nums l)))=mv at *
     unfold wt at b1 b2 ⊢
     unfold liV at la b1 b2 ⊢
     simp![bK,g6,g7,g8,bT,la,lb,lc,c0,c1,c2,b1,b2])
   rw[<- List.foldl_flatMap,show (cG kind nums).flatMap (gW nums)=jn kind nums from rfl,eq] at hso fr
   rw[eb]
   refine⟨?_,hso q rfl⟩
   rw[jQ]
   unfold eP
   have it:(liV nums)=.lst (nums.map .int):=rfl
   rw[it] at fr fe ⊢
   simp![hne,fe,fr,oV]
theorem Hz (xs:List Val):(bM kits).G [.tup xs,.ty "int"]=.val (.bl false):=rfl
theorem iR (xs:List Val):(bM kits).G [.tup xs,.ty "tuple"]=.val (.bl true):=rfl
theorem AQ (i:Int):(bM kits).G [.int i,.ty "int"]=.val (.bl true):=rfl
theorem Ai (i:Int):(bM kits).G [.int i,.ty "bool"]=.val (.bl false):=rfl
theorem G7 (i:Int):(bM kits).G [.int i,.ty "tuple"]=.val (.bl false):=rfl
theorem mC {ws:List Int}{b:Bx}{ls:List Int}{t:Val}{q:Rat} (h:Tr ws b ls t q):∀ k,ls.length<=k->ls.length<=1000->(aY k).G [t]=.ok (.new (liV ls)) []:=by
 induction h with
 |
  leaf b i=>
  intro k hk _
  cases k with
  | zero=>simp at hk
  |
   succ k=>
   show (PFx.of [false] 3 (dE (aY k))).G [.int i]=.ok (.new (.lst [.int i])) []
   rw[jQ]
   unfold dE
   simp![AQ,Ai]
 |
  node hw h1 h2 ih1 ih2=>
  rename_i b way l r t1 t2 q1 q2
  intro k hk hl
  cases k with
  |
   zero=>
   have:=List.length_pos_iff.mpr h1.ne
   rw[List.length_append] at hk
   omega
  |
   succ k=>
   have n1:=List.length_pos_iff.mpr h1.ne
   have n2:=List.length_pos_iff.mpr h2.ne
   rw[List.length_append] at hk hl
   have e1:=ih1 k (by omega) (by omega)
   have e2:=ih2 k (by omega) (by omega)
   have i2:lF.G (.str way) (.lst [.str "across",.str "down"])=.val (.bl false):=by
    rcases hw with rfl | rfl <;> rfl
   have c1:(l.map Val.int).length + (r.map Val.int).length<=16777216:=by rw[List.length_map,List.length_map];omega
   show (PFx.of [false] 3 (dE (aY k))).G [.tup [.str way,.tup [t1,t2]]]=_
   rw[jQ]
   unfold dE liV
   unfold liV at e1 e2
   rw[List.map_append]
   simp![Hz,iR,i2,e1,e2,c1]
theorem Eu {ws:List Int}{m:Nat} (hw:∀ w ∈ ws,1<=w) {b:Bx}{ls:List Int}{t:Val}{q:Rat} (h:Tr ws b ls t q):∀ (k n:Nat),ls.length<=k->ls.length<=7->Inr ws ls->b.Ok->b.Sz n->Sm m (wt ws ls)->(n + m + 1) * 2 ^ ls.length<=4000->∃ (bs:List Bx) (rt:Rt),(rt=.val (.lst (bs.map bV))\/rt=.new (.lst (bs.map bV)))/\(cM k).G [bV b,t,liV ws]=.ok rt []/\bs.length=ls.length/\(∀ x ∈ bs,x.Ok/\x.Sz 2000)/\q ∈ bs.map dC/\∀ x ∈ bs,¬ q < dC x:=by
 induction h with
 |
  leaf b i=>
  intro k n hk h7 hr hb hs hm hd
  cases k with
  | zero=>simp at hk
  |
   succ k=>
   have hn:n<=2000:=by
    have:(n + m + 1) * 2<=4000:=hd
    omega
   refine⟨[b],_,.inr rfl,?_,rfl,?_,List.mem_map.mpr ⟨b,List.mem_singleton.mpr rfl,rfl⟩,?_⟩
   ·show (PFx.of [false,false,false] 7 (eE (cM k))).G [bV b,.int i,liV ws]=.ok (.new (.lst [bV b])) []
    rw[jQ]
    unfold eE
    simp![G7]
   ·intro x hx
    rw[List.mem_singleton] at hx
    subst hx
    exact⟨hb,⟨hs.l.mono hn,hs.t.mono hn,hs.w.mono hn,hs.h.mono hn⟩⟩
   ·intro x hx
    rw[List.mem_singleton] at hx
    subst hx
    exact Rat.lt_irrefl
 |
  node hway h1 h2 ih1 ih2=>
  rename_i b way l r t1 t2 q1 q2
  intro k n hk h7 hr hb hs hm hd
  have n1:=List.length_pos_iff.mpr h1.ne
  have n2:=List.length_pos_iff.mpr h2.ne
  cases k with
  |
   zero=>
   rw[List.length_append] at hk
   omega
  |
   succ k=>
   rw[List.length_append] at hk h7 hd
   have r1:Inr ws l:=λi hi=>hr i (List.mem_append.mpr (.inl hi))
   have r2:Inr ws r:=λi hi=>hr i (List.mem_append.mpr (.inr hi))
   have g1:=tI hw r1
   have g2:=tI hw r2
   rw[Bj] at hm
   have hnm:n + m + 1<=2000:=by
    have h2:2 ^ 1<=2 ^ (l.length + r.length):=Nat.pow_le_pow_right (by decide) (by omega)
    have:(n + m + 1) * 2 ^ 1<=4000:=Nat.le_trans (Nat.mul_le_mul_left _ h2) hd
    omega
   have bd:∀ a:Nat,a < l.length + r.length->(n + (n + m) + 1 + m + 1) * 2 ^ a<=4000:=by
    intro a ha
    have h2:2 ^ (a + 1)<=2 ^ (l.length + r.length):=Nat.pow_le_pow_right (by decide) ha
    have h4:(n + m + 1) * 2 ^ (a + 1)<=4000:=Nat.le_trans (Nat.mul_le_mul_left _ h2) hd
    rw[Nat.pow_succ,Nat.mul_comm (2 ^ a),<- Nat.mul_assoc] at h4
    rw[show n + (n + m) + 1 + m + 1=(n + m + 1) * 2 by omega]
    exact h4
   have k1:=xk (way:=way) hb hs (by omega:1<=wt ws l) (by omega:1<=wt ws r) hm
   have k2:=xo (way:=way) hb hs (by omega:1<=wt ws l) (by omega:1<=wt ws r) hm
   obtain⟨bs1,rt1,hr1,e1,ln1,o1,m1,x1⟩:=ih1 k _ (by omega) (by omega) r1 k1.1 k1.2 (hm.of_le (by omega)) (bd _ (by omega))
   obtain⟨bs2,rt2,hr2,e2,ln2,o2,m2,x2⟩:=ih2 k _ (by omega) (by omega) r2 k2.1 k2.2 (hm.of_le (by omega)) (bd _ (by omega))
   have cu:=pM hb hs hway (by omega:1<=wt ws l) (by omega:1<=wt ws r) hm (by omega)
   have th1:=mC h1 7 (by omega) (by omega)
   have th2:=mC h2 7 (by omega) (by omega)
   obtain⟨sa,la⟩:=pQ r1 (by omega)
   obtain⟨sb,lb⟩:=pQ r2 (by omega)
   have ca:((l.map (eA ws)).map Val.int).length<=16777216:=by rw[List.length_map,List.length_map];omega
   have cb:((r.map (eA ws)).map Val.int).length<=16777216:=by rw[List.length_map,List.length_map];omega
   generalize eS b way (wt ws l) (wt ws r)=b1 at *
   generalize fo b way (wt ws l) (wt ws r)=b2 at *
   have fe:∀ (u:Val) (x:List Int) (s:Sl) (s':Sl),s.pl=true->(aY 7).G [u]=.ok (.new (liV x)) []->lcV (gtN 0).G qY.G (pOp bIx (ah 1) (ah 0)).G (x.map .int) [] [.no,.sh (.lst (ws.map .int))]=.ok ((x.map (eA ws)).map Val.int) [s',.sh (.lst (ws.map .int))]->((x.map (eA ws)).map Val.int).length<=16777216->(pFn gw (ag (pLC (bt (ax (aY 7).fn (ag (ah 0) ao))) [none,some 1] (by decide) (gtN 0) qY (pOp bIx (ah 1) (ah 0))) ao)).G [.sh u,.sh (.lst (ws.map .int))]=.ok (.val (.int (wt ws x))) [.sh u,.sh (.lst (ws.map .int))]:=by
    intro u x s s' hs' th lc cl
    unfold liV at th
    unfold wt
    simp![th,bT,lc,cl]
   obtain⟨e',⟨s,rfl,_⟩,lo⟩:=eF (g:=(gtN 0).G) (F:=(pFn gw (ag (pLC (bt (ax (aY 7).fn (ag (ah 0) ao))) [none,some 1] (by decide) (gtN 0) qY (pOp bIx (ah 1) (ah 0))) ao)).G) (λp:List Int×Val=>p.2) (λp=>.int (wt ws p.1)) (λe=>∃ s,e=[s,.sh (.lst (ws.map .int))]/\s.pl=true) [(l,t1),(r,t2)] [] [.no,.sh (.lst (ws.map .int))] ⟨.no,rfl,rfl⟩ (by
    rintro p hp e ⟨s,rfl,hs'⟩
    refine⟨[.sh p.2,.sh (.lst (ws.map .int))],.val (.int (wt ws p.1)),[.sh p.2,.sh (.lst (ws.map .int))],?_,?_,rfl,⟨_,rfl,rfl⟩⟩
    ·simp![hs']
    ·rcases List.mem_cons.mp hp with rfl | hp
     ·exact fe t1 l s sa hs' th1 la ca
     ·rw[List.mem_singleton] at hp
      subst hp
      exact fe t2 r s sb hs' th2 lb cb) (by simp)
   rw[List.nil_append,List.map_cons,List.map_cons,List.map_nil,List.map_cons,List.map_cons,List.map_nil] at lo
   dsimp only at lo
   have c3:(bs1.map bV).length + (bs2.map bV).length<=16777216:=by rw[List.length_map,List.length_map];omega
   have c4:(bs1.map bV).length<=16777216:=by rw[List.length_map];omega
   refine⟨bs1++bs2,_,.inl rfl,?_,by rw[List.length_append,List.length_append,ln1,ln2],?_,?_,?_⟩
   ·show (PFx.of [false,false,false] 7 (eE (cM k))).G [bV b,.tup [.str way,.tup [t1,t2]],liV ws]=_
    rw[jQ,List.map_append]
    unfold eE j7
    unfold liV at e1 e2 ⊢
    rcases hr1 with rfl | rfl <;> rcases hr2 with rfl | rfl
    ·simp![iR,bT,lo,cu,bK,List.zipWith_cons_cons,List.zipWith_nil_right,e1,e2,c3,c4]
    ·simp![iR,bT,lo,cu,bK,List.zipWith_cons_cons,List.zipWith_nil_right,e1,e2,c3,c4]
    ·simp![iR,bT,lo,cu,bK,List.zipWith_cons_cons,List.zipWith_nil_right,e1,e2,c3,c4]
    ·simp![iR,bT,lo,cu,bK,List.zipWith_cons_cons,List.zipWith_nil_right,e1,e2,c3,c4]
   ·intro x hx
    rcases List.mem_append.mp hx with hx | hx
    ·exact o1 x hx
    ·exact o2 x hx
   ·rw[List.map_append,List.mem_append]
    unfold mx
    split
    ·exact .inr m2
    ·exact .inl m1
   ·intro x hx z
    unfold mx at z
    rcases List.mem_append.mp hx with hx | hx
    ·split at z
     ·rename_i hlt
      exact absurd z (Rat.not_lt.mpr (Rat.le_trans (Rat.not_lt.mp (x1 x hx)) (Rat.le_of_lt hlt)))
     ·exact x1 x hx z
    ·split at z
     ·exact x2 x hx z
     ·rename_i hlt
      exact absurd z (Rat.not_lt.mpr (Rat.le_trans (Rat.not_lt.mp (x2 x hx)) (Rat.not_lt.mp hlt)))
theorem pV (q:Rat):cJ.G [fV q]=.ok (.val (.bl true)) []:=by
 rw[show fV q=.tup [.int q.num,.int q.den] from rfl]
 unfold cJ
 rw[bc]
 unfold hE
 simp![iR,Ai,AQ,bT,lcV,iu,List.any_cons,List.any_nil,id_eq]
theorem xt (is:List Int):eQ (.lst (is.map .int)) (.lst (is.map .int))=some true:=by
 have w:wfV 60 (.lst (is.map .int))=true:=by
  show fk 59 _=true
  rw[oo,List.all_eq_true]
  intro v hv
  obtain⟨b,_,rfl⟩:=List.mem_map.mp hv
  rfl
 rw[DR w w,qQ 60 _ w]
theorem yV (q:Rat):eQ (fV q) (fV q)=some true:=by rw[DR (p6 q 59) (p6 q 59),qQ 60 _ (p6 q 59)]
def bB (n:Nat):List Int:=(List.range n).map λi=>((i:Nat):Int)
theorem w9 (n:Nat):rgV n=(bB n).map Val.int:=by unfold bB rgV;rw[List.map_map];rfl
theorem F6 {ws:List Int}{m n:Nat} (hw:∀ w ∈ ws,1<=w) {b:Bx}{t:Val}{q:Rat} (h0:ws ≠ []) (hl:ws.length<=6) (H:Ok51 ws (bB ws.length) b n m) (h:Tr ws b (bB ws.length) t q) (hq:q=bst "order" ws 7 b (bB ws.length)) (zq:Sz 4000 q):eJ.G [bV b,liV ws,.tup [fV q,t]]=.ok (.val (.bl true)) []:=by
 have nl:(bB ws.length).length=ws.length:=by unfold bB;rw[List.length_map,List.length_range]
 have th:=mC h 7 (by omega) (by omega)
 obtain⟨bs,rt,hrt,el,ln,ob,mq,xq⟩:=Eu hw h 7 n (by omega) (by omega) H.inr H.ok H.sz H.mw H.bd
 obtain⟨ee,_⟩:=oW (.inl rfl) hw 7 (bB ws.length) b n H (by omega)
 rw[<- hq] at ee
 have lf:=pV q
 have lr:lX.G [.int (ws.length:Nat)]=.new (.lst ((bB ws.length).map Val.int)):=by rw[D9 ⟨by omega,by omega⟩,<- w9];rfl
 have lw:((ws.map Val.int).length:Nat)=ws.length:=List.length_map ..
 have ei:=xt (bB ws.length)
 obtain⟨e',⟨s,rfl,_⟩,lc⟩:=eF (g:=(gtN 0).G) (F:=(ax bU (ag (ah 0) ao)).G) bV (λx=>fV (dC x)) (λe=>∃ s,e=[s]/\s.pl=true) bs [] [.no] ⟨.no,rfl,rfl⟩ (by
  rintro x hx e ⟨s,rfl,hs⟩
  have sh:=mO (ob x hx).1 (ob x hx).2 (by omega)
  refine⟨[.sh (bV x)],.val (fV (dC x)),[.sh (bV x)],?_,?_,rfl,⟨_,rfl,rfl⟩⟩
  ·simp![hs]
  ·simp![sh]) (by rw[List.length_nil];omega)
 rw[List.nil_append,show bs.map (λx=>fV (dC x))=(bs.map dC).map fV by rw[List.map_map];rfl] at lc
 have c1:((bs.map dC).map fV).length<=16777216:=by rw[List.length_map,List.length_map];omega
 have ni:=B8 mq
 obtain⟨e2,⟨s2,rfl,_⟩,lc2⟩:=eF (g:=(gtN 0).G) (F:=(ax bA (ag (pOp bIx (ah 1) (av 0)) (ag (ah 0) ao))).G) (λx:Bx=>fV (dC x)) (λ_=>.bl false) (λe=>∃ s,e=[s,.sh (.tup [fV q,t])]/\s.pl=true) bs [] [.no,.sh (.tup [fV q,t])] ⟨.no,rfl,rfl⟩ (by
  rintro x hx e ⟨s,rfl,hs⟩
  have ls:=fJ zq ((wb (ob x hx).1 (ob x hx).2).mono (by omega:_<=4000)) (by omega) (by omega)
  rw[decide_eq_false (xq x hx)] at ls
  refine⟨[.sh (fV (dC x)),.sh (.tup [fV q,t])],.val (.bl false),[.sh (fV (dC x)),.sh (.tup [fV q,t])],?_,?_,rfl,⟨_,rfl,rfl⟩⟩
  ·simp![hs]
  ·simp![ls]) (by rw[List.length_nil];omega)
 rw[List.nil_append,show bs.map (λx=>fV (dC x))=(bs.map dC).map fV by rw[List.map_map];rfl,show bs.map (λ_=>Val.bl false)=(bs.map λ_=>false).map Val.bl by rw[List.map_map];rfl] at lc2
 have anb:(bs.map λ_=>false).any id=false:=by
  rw[List.any_map,List.any_eq_false]
  intro x _
  exact Bool.false_ne_true
 have c2:((bs.map λ_=>false).map Val.bl).length<=16777216:=by rw[List.length_map,List.length_map];omega
 unfold eJ
 rw[bc]
 unfold lz
 unfold liV at th el ee ⊢
 rcases hrt with rfl | rfl
 ·simp![iR,lf,th,lw,lr,ei,bT,el,lc,c1,ni,lc2,c2,anb,ee,yV]
 ·simp![iR,lf,th,lw,lr,ei,bT,el,lc,c1,ni,lc2,c2,anb,ee,yV]
theorem E4:dD.G [.str "order"]=.ok (.val .non) []:=by
 have i1:(bM kits).G [.str "order",.ty "str"]=.val (.bl true):=rfl
 have i2:lkS bY "order" = some 6:=by decide
 unfold dD
 rw[bc]
 unfold jE
 simp![i1,JD,i2]
theorem rJ {ws:List Int}{m n:Nat} (hw:∀ w ∈ ws,1<=w) {b:Bx} (h0:ws ≠ []) (hl:ws.length<=6) (H:Ok51 ws (bB ws.length) b n m):∃ t,cB.G [bV b,liV ws,.str "order"]=.ok (.val (.tup [fV (bst "order" ws 7 b (bB ws.length)),t])) []/\Sz 4000 (bst "order" ws 7 b (bB ws.length))/\Tr ws b (bB ws.length) t (bst "order" ws 7 b (bB ws.length)):=by
 have nl:(bB ws.length).length=ws.length:=by unfold bB;rw[List.length_map,List.length_range]
 obtain⟨t,ls,e,z,_,oc,tr⟩:=rP (.inl rfl) hw 7 (bB ws.length) b n H (by omega)
 rw[oc rfl] at tr
 refine⟨t,?_,z,tr⟩
 have cb:=jN H.ok
 have cw:=Bm h0 hw (by omega)
 have i2:lkS bY "order" = some 6:=by decide
 have kg:(tH "MOST_THINGS" bY).G (.glb "MOST_THINGS") (.str "order")=.val (.int 6):=Iu i2
 have lw:((ws.map Val.int).length:Nat)=ws.length:=List.length_map ..
 have hd:decide ((6:Int) < ((ws.length:Nat):Int))=false:=decide_eq_false (by omega)
 have ca:cZ.G [bV b,.lst (ws.map .int),.str "order"]=.ok (.val .non) []:=by
  unfold cZ
  rw[bc]
  unfold jb
  simp![cb,cw,E4,kg,lw,hd]
 have lr:lX.G [.int (ws.length:Nat)]=.new (.lst ((bB ws.length).map Val.int)):=by rw[D9 ⟨by omega,by omega⟩,<- w9];rfl
 unfold cB
 rw[bc]
 unfold iZ
 unfold liV at e ⊢
 simp![ca,lw,lr,e]
theorem p30:rQ.G (.int 10) (.int 30)=.val (.int 1000000000000000000000000000000):=Ec ⟨by decide,by decide,by decide⟩
theorem jX {β:Nat}{a b:Int} (h0:0<=a) (h:a<=b) (hb:Sm β b):Sm β a:=hb.of_le (by omega)
theorem xr {n β:Nat}{v:Val}{far:Int} (f:Fd n v) (hn:n<=800000000) (h1:1<=far) (hf:Sm β far) (h60:Sm β 60) (hβ:β<=8000):∃ q v',dM.G [v,.int far]=.ok (.val (fV q)) [v']/\Fd (n + 13) v'/\0 < q/\Sz β q:=by
 obtain⟨w,v1,e1,f1,w0,w5⟩:=bw (m:=5) f (by omega) (by decide) (sm8 (by decide))
 unfold dM
 rw[bc]
 unfold mf
 by_cases h2:w < 2
 ·obtain⟨a,v2,e2,f2,a0,a1⟩:=bw (m:=12) f1 (by omega) (by decide) (sm8 (by decide))
  refine⟨((1 + a:Int):Rat),v2,?_,f2.mono (by omega),rC (by omega),jX (by show (0:Int)<=1 + a;omega) (by show 1 + a<=60;omega) h60,jX (a:=1) (by decide) (by decide) h60⟩
  have i1:fV ((1 + a:Int):Rat)=.tup [.int (1 + a),.int 1]:=rfl
  rw[i1]
  simp![e1,e2,decide_eq_true h2]
 ·have d2:=decide_eq_false h2
  by_cases h3:w=2
  ·subst h3
   refine⟨1,v1,?_,f1.mono (by omega),by decide,jX (a:=1) (by decide) (by decide) h60,jX (a:=1) (by decide) (by decide) h60⟩
   have i1:fV 1=.tup [.int 1,.int 1]:=rfl
   rw[i1]
   simp![e1,d2]
  ·have d3:(w == 2)=false:=by rw[beq_eq_false_iff_ne];exact h3
   by_cases h4:w=3
   ·subst h4
    obtain⟨a,v2,e2,f2,a0,a1⟩:=bw (m:=60) f1 (by omega) (by decide) (sm8 (by decide))
    obtain⟨b,v3,e3,f3,b0,b1⟩:=bw (m:=12) f2 (by omega) (by decide) (sm8 (by decide))
    have sb:Sm β (1 + b):=jX (by omega) (by omega) h60
    have lo:=gF (a:=1 + a) (b:=1 + b) (by omega) (sb.mono hβ)
    refine⟨((1 + a:Int):Rat) / ((1 + b:Int):Rat),v3,?_,f3.mono (by omega),nW (by omega) (by omega),Sz.div (by omega) (jX (by omega) (by omega) h60) sb β (Nat.le_refl _) (Nat.le_refl _)⟩
    simp![e1,e2,e3,d2,lo]
   ·have d4:(w == 3)=false:=by rw[beq_eq_false_iff_ne];exact h4
    obtain⟨a,v2,e2,f2,a0⟩:=uC f1 (by omega)
    obtain⟨b,v3,e3,f3,b0⟩:=uC f2 (by omega)
    have m1:∀ x:Int,dh.G (.int x) (.int far)=.val (.int (x.fmod far)):=λx=>iF (by omega)
    have r1:=fP (a:=a) (m:=far) (by omega)
    have r2:=fP (a:=b) (m:=far) (by omega)
    have sb:Sm β (1 + b.fmod far):=jX (by omega) (by omega) hf
    have lo:=gF (a:=1 + a.fmod far) (b:=1 + b.fmod far) (by omega) (sb.mono hβ)
    refine⟨((1 + a.fmod far:Int):Rat) / ((1 + b.fmod far:Int):Rat),v3,?_,f3.mono (by omega),nW (by omega) (by omega),Sz.div (by omega) (jX (by omega) (by omega) hf) sb β (Nat.le_refl _) (Nat.le_refl _)⟩
    simp![e1,e2,e3,d2,d3,d4,m1,lo]
theorem Kj:kr [.int 2]=some [.int 0,.int 1]:=qr (i:=2) (by decide) (by decide)
structure Cs (b:Bx) (ws:List Int) (nn m:Nat):Prop where
 ne:ws ≠ []
 len:ws.length<=6
 pos:∀ w ∈ ws,1<=w
 ok:b.Ok
 sz:b.Sz nn
 sm:Sm m ws.sum
 bd:(nn + m + 1) * 2 ^ ws.length<=4000
def caQ (r:SR3):Prop:=∃ b ws nn m v',Cs b ws nn m/\CA [true,false] r=.ok (.val (.tup [bV b,liV ws])) [v']
theorem Aa {far:Int}:∀ {ws:List Int},(∀ w ∈ ws,1<=w/\w<=far)->ws.sum<=(ws.length:Int) * far
 | [],_=>by simp
 |
  x :: l,h=>by
  rw[List.sum_cons,List.length_cons]
  have h1:=h x (List.mem_cons_self ..)
  have h2:=Aa (ws:=l) λw hw=>h w (List.mem_cons_of_mem _ hw)
  rw[Int.natCast_add,Int.add_mul]
  show x + l.sum<=(l.length:Int) * far + 1 * far
  omega
theorem pw5 {i:Nat} (h:i < 6):1<=(1:Int) * 2 ^ i/\(1:Int) * 2 ^ i<=32:=by
 match i,h with
 | 0,_=>decide
 | 1,_=>decide
 | 2,_=>decide
 | 3,_=>decide
 | 4,_=>decide
 | 5,_=>decide
theorem B2 {N mn:Nat}{far way same:Int}{sl st sp sq:Sl} (hN:N<=100000) (hmn:mn<=6) (h60:60<=far) (w0:0<=way) (w4:way < 4) (s1:1<=same) (s2:same<=60) {v:Val} (f:Fd N v):∃ e',(∃ (v:Val) (ws:List Int) (s11:Sl),Fd (N + 8 * mn) v/\ws.length=mn/\(∀ w ∈ ws,1<=w/\w<=far)/\s11.pl=true/\e'=[.mu v,.sh (.int 6),.sh (.int far),.sh (.int (mn:Nat)),sp,sq,sl,st,.sh (.int way),.sh (.int same),.ow (.lst (ws.map .int)),s11])/\fE (gtN 11).G bS.G (rgV mn) [.mu v,.sh (.int 6),.sh (.int far),.sh (.int (mn:Nat)),sp,sq,sl,st,.sh (.int way),.sh (.int same),.ow (.lst []),.no]=.nx e':=by
 refine BG (g:=(gtN 11).G) (B:=bS.G) (λi e=>∃ (v:Val) (ws:List Int) (s11:Sl),Fd (N + 8 * i) v/\ws.length=i/\(∀ w ∈ ws,1<=w/\w<=far)/\s11.pl=true/\e=[.mu v,.sh (.int 6),.sh (.int far),.sh (.int (mn:Nat)),sp,sq,sl,st,.sh (.int way),.sh (.int same),.ow (.lst (ws.map .int)),s11]) mn ⟨v,[],.no,f,rfl,(λ_ h=>nomatch h),rfl,rfl⟩ ?_
 rintro i hi e ⟨v,ws,s11,f,hl,hw,h11,rfl⟩
 obtain⟨a,v1,e1,f1,a0,a1⟩:=bw (m:=3) f (by omega) (by decide) (sm8 (by decide))
 obtain⟨g,v2,e2,f2,g0⟩:=uC f1 (by omega)
 have sh:=Kk (i:=1) (j:=(i:Nat)) ⟨by omega,by omega,by decide⟩
 rw[show ((i:Nat):Int).toNat=i from rfl] at sh
 have m1:dh.G (.int g) (.int far)=.val (.int (g.fmod far)):=iF (by omega)
 have r1:=fP (a:=g) (m:=far) (by omega)
 have p5:=pw5 (i:=i) (by omega)
 have ll:(ws.map Val.int).length < 16777216:=by rw[List.length_map];omega
 have key:∀ w:Int,(1<=w/\w<=far)->bS.G [.mu v,.sh (.int 6),.sh (.int far),.sh (.int (mn:Nat)),sp,sq,sl,st,.sh (.int way),.sh (.int same),.ow (.lst (ws.map .int)),.sh (.int (i:Nat))]=.nx [.mu v2,.sh (.int 6),.sh (.int far),.sh (.int (mn:Nat)),sp,sq,sl,st,.sh (.int way),.sh (.int same),.ow (.lst (ws.map .int++[.int w])),.sh (.int (i:Nat))]->∃ e1 e2,(gtN 11).G (.int (i:Nat)) [.mu v,.sh (.int 6),.sh (.int far),.sh (.int (mn:Nat)),sp,sq,sl,st,.sh (.int way),.sh (.int same),.ow (.lst (ws.map .int)),s11]=some e1/\(bS.G e1=.nx e2\/bS.G e1=.ct e2)/\∃ (v:Val) (ws:List Int) (s11:Sl),Fd (N + 8 * (i + 1)) v/\ws.length=i + 1/\(∀ w ∈ ws,1<=w/\w<=far)/\s11.pl=true/\e2=[.mu v,.sh (.int 6),.sh (.int far),.sh (.int (mn:Nat)),sp,sq,sl,st,.sh (.int way),.sh (.int same),.ow (.lst (ws.map .int)),s11]:=by
  intro w hw1 hB
  refine⟨_,_,?_,.inl hB,v2,ws++[w],.sh (.int (i:Nat)),f2.mono (by omega),by rw[List.length_append,hl];rfl,?_,rfl,by rw[List.map_append];rfl⟩
  ·simp![h11]
  ·intro x hx
   rcases List.mem_append.mp hx with hx | hx
   ·exact hw x hx
   ·rw[List.mem_singleton] at hx
    subst hx
    exact hw1
 obtain rfl | rfl | rfl | rfl:way=0\/way=1\/way=2\/way=3:=by omega
 ·refine key same (by omega) ?_
  unfold bS
  simp![e1,e2,sh,m1,ll]
 ·refine key (1 + a) (by omega) ?_
  unfold bS
  simp![e1,e2,sh,m1,ll]
 ·refine key (1 * 2 ^ i) (by omega) ?_
  unfold bS
  simp![e1,e2,sh,m1,ll]
 ·refine key (1 + g.fmod far) (by omega) ?_
  unfold bS
  simp![e1,e2,sh,m1,ll]
theorem Eg {n:Nat}{v:Val} (f:Fd n v) (hn:n<=1000):∃ b ws nn m v',Cs b ws nn m/\fA.G [v,.int 6]=.ok (.val (.tup [bV b,liV ws])) [v']:=by
 show ∃ b ws nn m v',Cs b ws nn m/\(fnP [true,false] 12 gH).G [v,.int 6]=_
 rw[Mr rfl]
 show caQ (gH.G _)
 unfold gH
 rw[show sls [true,false] [v,.int 6]++List.replicate (12 - [v,.int 6].length) .no=[.mu v,.sh (.int 6),.no,.no,.no,.no,.no,.no,.no,.no,.no,.no] from rfl]
 obtain⟨a,v1,e1,f1,a0,a1⟩:=bw (m:=6) f (by omega) (by decide) (sm8 (by decide))
 refine gB (λe=>e=[.mu v1,.sh (.int 6),.sh (.int 60),.sh (.int (1 + a)),.no,.no,.no,.no,.no,.no,.no,.no]) ⟨_,by simp![e1],rfl⟩ ?_
 rintro _ rfl
 obtain⟨d,v2,e2,f2,d0,d1⟩:=bw (m:=5) f1 (by omega) (by decide) (sm8 (by decide))
 refine gB (λe=>∃ (v:Val) (far:Int) (mn β μ:Nat),Fd (n + 3) v/\60<=far/\Sm β far/\Sm β 60/\β<=100/\1<=mn/\mn<=6/\((mn:Int) * far).natAbs < 2 ^ μ/\(β + μ + 1) * 2 ^ mn<=4000/\e=[.mu v,.sh (.int 6),.sh (.int far),.sh (.int (mn:Nat)),.no,.no,.no,.no,.no,.no,.no,.no]) ?_ ?_
 ·by_cases hd:d=0
  ·subst hd
   obtain⟨k,v3,e3,f3,k0,k1⟩:=bw (m:=3) f2 (by omega) (by decide) (sm8 (by decide))
   obtain⟨k',rfl⟩:=Int.eq_ofNat_of_zero_le k0
   refine⟨_,by simp![e2,e3,p30];rfl,v3,999999999999999999999999999999,1 + k',100,102,f3,by decide,by unfold Sm;decide,by unfold Sm;decide,by omega,by omega,by omega,?_,?_,by rw[Int.natCast_add];rfl⟩
   ·have:((1 + k':Nat):Int)<=3:=by omega
    have h2:((1 + k':Nat):Int) * 999999999999999999999999999999<=3 * 999999999999999999999999999999:=Int.mul_le_mul_of_nonneg_right this (by decide)
    have h3:(2:Nat) ^ 102=5070602400912917605986812821504:=by decide
    rw[h3]
    omega
   ·have:2 ^ (1 + k')<=2 ^ 3:=Nat.pow_le_pow_right (by decide) (by omega)
    omega
  ·have hd':(d == 0)=false:=by rw[beq_eq_false_iff_ne];exact hd
   obtain⟨k',rfl⟩:=Int.eq_ofNat_of_zero_le a0
   refine⟨[.mu v2,.sh (.int 6),.sh (.int 60),.sh (.int (1 + (k':Nat))),.no,.no,.no,.no,.no,.no,.no,.no],by simp![e2,hd'],v2,60,1 + k',6,9,f2.mono (by omega),by decide,by unfold Sm;decide,by unfold Sm;decide,by omega,by omega,by omega,?_,?_,by rw[Int.natCast_add];rfl⟩
   ·have h3:(2:Nat) ^ 9=512:=by decide
    rw[h3]
    omega
   ·have:2 ^ (1 + k')<=2 ^ 6:=Nat.pow_le_pow_right (by decide) (by omega)
    omega
 rintro _ ⟨v,far,mn,β,μ,f,h60,hf,hs60,hβ,m1,m6,hμ,hbd,rfl⟩
 obtain⟨p,v3,e3,f3,p0,ps⟩:=xr f (by omega) (by omega) hf hs60 (by omega)
 obtain⟨q,v4,e4,f4,q0,qs⟩:=xr f3 (by omega) (by omega) hf hs60 (by omega)
 refine gB (λe=>e=[.mu v4,.sh (.int 6),.sh (.int far),.sh (.int (mn:Nat)),.sh (fV p),.sh (fV q),.no,.no,.no,.no,.no,.no]) ⟨_,by simp![e3,e4],rfl⟩ ?_
 rintro _ rfl
 obtain⟨d2,v5,e5,f5,d20,d21⟩:=bw (m:=5) f4 (by omega) (by decide) (sm8 (by decide))
 refine gB (λe=>∃ q:Rat,0 < q/\Sz β q/\e=[.mu v5,.sh (.int 6),.sh (.int far),.sh (.int (mn:Nat)),.sh (fV p),.sh (fV q),.no,.no,.no,.no,.no,.no]) ?_ ?_
 ·by_cases hd:d2=0
  ·subst hd
   exact⟨_,by simp![e5],p,p0,ps,rfl⟩
  ·have hd':(d2 == 0)=false:=by rw[beq_eq_false_iff_ne];exact hd
   exact⟨_,by simp![e5,hd'],q,q0,qs,rfl⟩
 rintro _ ⟨q,q0,qs,rfl⟩
 obtain⟨b1,u1,g1,j1,b10,b11⟩:=bw (m:=41) f5 (by omega) (by decide) (sm8 (by decide))
 obtain⟨b2,u2,g2,j2,b20,b21⟩:=bw (m:=9) j1 (by omega) (by decide) (sm8 (by decide))
 obtain⟨b3,u3,g3,j3,b30,b31⟩:=bw (m:=41) j2 (by omega) (by decide) (sm8 (by decide))
 obtain⟨b4,u4,g4,j4,b40,b41⟩:=bw (m:=9) j3 (by omega) (by decide) (sm8 (by decide))
 have l1:=gF (a:=b1 - 20) (b:=1 + b2) (by omega) (sm8 (by omega))
 have l2:=gF (a:=b3 - 20) (b:=1 + b4) (by omega) (sm8 (by omega))
 have sl:∀ a b:Int,0<=a->a < 41->0<=b->b < 9->Sz β (((a - 20:Int):Rat) / ((1 + b:Int):Rat)):=λa b u1 u2 u3 u4=>Sz.div (by omega) (hs60.of_le (by omega)) (hs60.of_le (by omega)) β (Nat.le_refl _) (Nat.le_refl _)
 have sl1:=sl b1 b2 b10 b11 b20 b21
 have sl2:=sl b3 b4 b30 b31 b40 b41
 generalize ((b1 - 20:Int):Rat) / ((1 + b2:Int):Rat)=lf at *
 generalize ((b3 - 20:Int):Rat) / ((1 + b4:Int):Rat)=tp at *
 refine gB (λe=>e=[.mu u4,.sh (.int 6),.sh (.int far),.sh (.int (mn:Nat)),.sh (fV p),.sh (fV q),.sh (fV lf),.sh (fV tp),.no,.no,.no,.no]) ⟨_,by simp![Kj,bT,lcV,g1,g2,g3,g4,l1,l2],rfl⟩ ?_
 rintro _ rfl
 obtain⟨w,v6,e6,f6,w0,w1⟩:=bw (m:=4) j4 (by omega) (by decide) (sm8 (by decide))
 refine gB (λe=>e=[.mu v6,.sh (.int 6),.sh (.int far),.sh (.int (mn:Nat)),.sh (fV p),.sh (fV q),.sh (fV lf),.sh (fV tp),.sh (.int w),.no,.no,.no]) ⟨_,by simp![e6],rfl⟩ ?_
 rintro _ rfl
 obtain⟨sm,v7,e7,f7,sm0,sm1⟩:=bw (m:=60) f6 (by omega) (by decide) (sm8 (by decide))
 refine gB (λe=>e=[.mu v7,.sh (.int 6),.sh (.int far),.sh (.int (mn:Nat)),.sh (fV p),.sh (fV q),.sh (fV lf),.sh (fV tp),.sh (.int w),.sh (.int (1 + sm)),.no,.no]) ⟨_,by simp![e7],rfl⟩ ?_
 rintro _ rfl
 refine gB (λe=>e=[.mu v7,.sh (.int 6),.sh (.int far),.sh (.int (mn:Nat)),.sh (fV p),.sh (fV q),.sh (fV lf),.sh (fV tp),.sh (.int w),.sh (.int (1 + sm)),.ow (.lst []),.no]) ⟨_,by simp![jg],rfl⟩ ?_
 rintro _ rfl
 obtain⟨e',he',fr⟩:=B2 (sp:=.sh (fV p)) (sq:=.sh (fV q)) (sl:=.sh (fV lf)) (st:=.sh (fV tp)) (far:=far) (way:=w) (same:=1 + sm) (by omega) m6 h60 w0 w1 (by omega) (by omega) f7
 have rg:kr [.int (mn:Nat)]=some (rgV mn):=qr (i:=(mn:Nat)) (by omega) (by omega)
 refine gB (λe=>∃ (v:Val) (ws:List Int) (s11:Sl),(ws.length=mn/\∀ w ∈ ws,1<=w/\w<=far)/\e=[.mu v,.sh (.int 6),.sh (.int far),.sh (.int (mn:Nat)),.sh (fV p),.sh (fV q),.sh (fV lf),.sh (fV tp),.sh (.int w),.sh (.int (1 + sm)),.ow (.lst (ws.map .int)),s11]) ?_ ?_
 ·obtain⟨v,ws,s11,_,hl,hw,_,rfl⟩:=he'
  exact⟨_,by simp![rg,fr],v,ws,s11,⟨hl,hw⟩,rfl⟩
 rintro _ ⟨v,ws,s11,⟨hl,hw⟩,rfl⟩
 have hsum:=Aa hw
 have hnn:=jM (l:=ws) λw h=>(hw w h).1
 rw[hl] at hsum
 refine⟨⟨lf,tp,p,q⟩,ws,β,μ,v,⟨by rintro rfl;simp at hl;omega,by omega,λw h=>(hw w h).1,⟨p0,q0⟩,⟨sl1,sl2,ps,qs⟩,?_,by rw[hl];exact hbd⟩,?_⟩
 ·show ws.sum.natAbs < 2 ^ μ
  omega
 ·have eb:bV (⟨lf,tp,p,q⟩:Bx)=.tup [fV lf,fV tp,fV p,fV q]:=rfl
  rw[eb]
  unfold liV
  simp![Kw]
theorem JV (ws:List Int):wt ws (bB ws.length)=ws.sum:=by
 unfold wt
 congr 1
 refine List.ext_getElem (by simp [bB]) λi h1 h2=>?_
 simp [bB,eA,List.getD_eq_getElem?_getD,h2]
theorem El (n:Nat):(bB n).Nodup:=by
 unfold bB
 rw[List.nodup_iff_pairwise_ne,List.pairwise_map]
 exact List.nodup_range.imp λh z=>h (Int.ofNat.inj z)
theorem Hm (ns:List Int) (hl:ns.length<=63):pC.G [.kl (ns.map .int)]=.ok (.val (.bl true)) []:=by
 obtain⟨v,e1,f⟩:=FQ hl
 obtain⟨b,ws,nn,m,v',C,e2⟩:=Eg f (by omega)
 have nl:(bB ws.length).length=ws.length:=by unfold bB;rw[List.length_map,List.length_range]
 have db:=C.len
 have H:Ok51 ws (bB ws.length) b nn m:=⟨by
  intro z
  rw[z,List.length_nil] at nl
  exact C.ne (List.length_eq_zero_iff.mp nl.symm),El _,λi hi=>by
  obtain⟨j,hj,rfl⟩:=List.mem_map.mp hi
  rw[List.mem_range] at hj
  omega,by omega,by rw[JV];exact C.sm,C.ok,C.sz,by rw[nl];exact C.bd⟩
 obtain⟨t,e3,z,tr⟩:=rJ C.pos C.ne C.len H
 have e4:=F6 C.pos C.ne C.len H tr rfl z
 have ei:=xt ws
 have ef:=yV (bst "order" ws 7 b (bB ws.length))
 generalize bst "order" ws 7 b (bB ws.length)=q at *
 have itl:∀ xs:List Val,(Val.lst xs).items=some xs:=λ_=>rfl
 unfold pC
 rw[bc]
 unfold za
 unfold liV at e2 e3 e4
 simp![e1,e2,itl,e3,e4,ei,ef]
theorem Hd {w:World}{K:W.Frag}{h:Heap}{mg:Str->Option Value}{a_NoFraction:Addr}{a_NoBox:Addr}{a_NoWay:Addr}{a_NoWeights:Addr}{a_TooMany:Addr}{a_NoKind:Addr} (X:K.In h) (G:h.Ns mainGlobals mg)
 (m_NoBox:W.nsIn K mainGlobals "NoBox" = some (some (.ref a_NoBox)))
 (m_NoFraction:W.nsIn K mainGlobals "NoFraction" = some (some (.ref a_NoFraction)))
 (m_NoKind:W.nsIn K mainGlobals "NoKind" = some (some (.ref a_NoKind)))
 (m_NoWay:W.nsIn K mainGlobals "NoWay" = some (some (.ref a_NoWay)))
 (m_NoWeights:W.nsIn K mainGlobals "NoWeights" = some (some (.ref a_NoWeights)))
 (m_TooMany:W.nsIn K mainGlobals "TooMany" = some (some (.ref a_TooMany)))
 (n_abs:W.nsIn K mainGlobals "abs" = some none)
 (n_all:W.nsIn K mainGlobals "all" = some none)
 (n_any:W.nsIn K mainGlobals "any" = some none)
 (n_bool:W.nsIn K mainGlobals "bool" = some none)
 (n_int:W.nsIn K mainGlobals "int" = some none)
 (n_isinstance:W.nsIn K mainGlobals "isinstance" = some none)
 (n_len:W.nsIn K mainGlobals "len" = some none)
 (n_list:W.nsIn K mainGlobals "list" = some none)
 (n_range:W.nsIn K mainGlobals "range" = some none)
 (n_str:W.nsIn K mainGlobals "str" = some none)
 (n_sum:W.nsIn K mainGlobals "sum" = some none)
 (n_tuple:W.nsIn K mainGlobals "tuple" = some none)
 (n_zip:W.nsIn K mainGlobals "zip" = some none)
 (g_MOST_THINGS:KDict w K mg "MOST_THINGS" bY)
 (g_MOST_WEIGHTS:GC K mg "MOST_WEIGHTS" ie)
 (g_WAYS:GC K mg "WAYS" vT)
 (gs_:W.specialIn K (.builtin "object.__class__") "__get__" = some (some (.builtin "getset_descriptor.__get__")))
 (tk_:W.takesIn K (.builtin "object.__class__")=some true)
 (x_NoFraction:W.excIn K a_NoFraction fb "ValueError.__new__" = true)
 (k_NoFraction_cls:(W.clsIn K a_NoFraction).isSome=true)
 (k_NoFraction_ga:W.findIn K (.ref a_NoFraction) "__getattribute__" = some (some (.builtin "BaseException.__getattribute__")))
 (k_NoFraction_gt:W.findIn K (.ref a_NoFraction) "__getattr__" = some none)
 (k_NoFraction_at:W.findIn K (.ref a_NoFraction) "__class__" = some (some (.builtin "object.__class__")))
 (k_NoFraction_mo:W.mroIn K a_NoFraction (.type "object")=some true)
 (k_NoFraction_mb:W.mroIn K a_NoFraction (.type "BaseException")=some true)
 (x_NoBox:W.excIn K a_NoBox fb "ValueError.__new__" = true)
 (k_NoBox_cls:(W.clsIn K a_NoBox).isSome=true)
 (k_NoBox_ga:W.findIn K (.ref a_NoBox) "__getattribute__" = some (some (.builtin "BaseException.__getattribute__")))
 (k_NoBox_gt:W.findIn K (.ref a_NoBox) "__getattr__" = some none)
 (k_NoBox_at:W.findIn K (.ref a_NoBox) "__class__" = some (some (.builtin "object.__class__")))
 (k_NoBox_mo:W.mroIn K a_NoBox (.type "object")=some true)
 (k_NoBox_mb:W.mroIn K a_NoBox (.type "BaseException")=some true)
 (x_NoWay:W.excIn K a_NoWay fb "ValueError.__new__" = true)
 (k_NoWay_cls:(W.clsIn K a_NoWay).isSome=true)
 (k_NoWay_ga:W.findIn K (.ref a_NoWay) "__getattribute__" = some (some (.builtin "BaseException.__getattribute__")))
 (k_NoWay_gt:W.findIn K (.ref a_NoWay) "__getattr__" = some none)
 (k_NoWay_at:W.findIn K (.ref a_NoWay) "__class__" = some (some (.builtin "object.__class__")))
 (k_NoWay_mo:W.mroIn K a_NoWay (.type "object")=some true)
 (k_NoWay_mb:W.mroIn K a_NoWay (.type "BaseException")=some true)
 (x_NoWeights:W.excIn K a_NoWeights fb "ValueError.__new__" = true)
 (k_NoWeights_cls:(W.clsIn K a_NoWeights).isSome=true)
 (k_NoWeights_ga:W.findIn K (.ref a_NoWeights) "__getattribute__" = some (some (.builtin "BaseException.__getattribute__")))
 (k_NoWeights_gt:W.findIn K (.ref a_NoWeights) "__getattr__" = some none)
 (k_NoWeights_at:W.findIn K (.ref a_NoWeights) "__class__" = some (some (.builtin "object.__class__")))
 (k_NoWeights_mo:W.mroIn K a_NoWeights (.type "object")=some true)
 (k_NoWeights_mb:W.mroIn K a_NoWeights (.type "BaseException")=some true)
 (x_TooMany:W.excIn K a_TooMany fb "ValueError.__new__" = true)
 (k_TooMany_cls:(W.clsIn K a_TooMany).isSome=true)
 (k_TooMany_ga:W.findIn K (.ref a_TooMany) "__getattribute__" = some (some (.builtin "BaseException.__getattribute__")))
 (k_TooMany_gt:W.findIn K (.ref a_TooMany) "__getattr__" = some none)
 (k_TooMany_at:W.findIn K (.ref a_TooMany) "__class__" = some (some (.builtin "object.__class__")))
 (k_TooMany_mo:W.mroIn K a_TooMany (.type "object")=some true)
 (k_TooMany_mb:W.mroIn K a_TooMany (.type "BaseException")=some true)
 (x_NoKind:W.excIn K a_NoKind fb "ValueError.__new__" = true)
 (k_NoKind_cls:(W.clsIn K a_NoKind).isSome=true)
 (k_NoKind_ga:W.findIn K (.ref a_NoKind) "__getattribute__" = some (some (.builtin "BaseException.__getattribute__")))
 (k_NoKind_gt:W.findIn K (.ref a_NoKind) "__getattr__" = some none)
 (k_NoKind_at:W.findIn K (.ref a_NoKind) "__class__" = some (some (.builtin "object.__class__")))
 (k_NoKind_mo:W.mroIn K a_NoKind (.type "object")=some true)
 (k_NoKind_mb:W.mroIn K a_NoKind (.type "BaseException")=some true)
 (i0:W.kitOne K (.type "NoneType") (.type "bool")=some false)
 (i1:W.kitOne K (.type "bool") (.type "bool")=some true)
 (i2:W.kitOne K (.type "int") (.type "bool")=some false)
 (i3:W.kitOne K (.type "str") (.type "bool")=some false)
 (i4:W.kitOne K (.type "tuple") (.type "bool")=some false)
 (i5:W.kitOne K (.type "list") (.type "bool")=some false)
 (i6:W.kitOne K (.type "dict") (.type "bool")=some false)
 (i7:W.kitOne K (.type "NoneType") (.type "int")=some false)
 (i8:W.kitOne K (.type "bool") (.type "int")=some true)
 (i9:W.kitOne K (.type "int") (.type "int")=some true)
 (i10:W.kitOne K (.type "str") (.type "int")=some false)
 (i11:W.kitOne K (.type "tuple") (.type "int")=some false)
 (i12:W.kitOne K (.type "list") (.type "int")=some false)
 (i13:W.kitOne K (.type "dict") (.type "int")=some false)
 (i14:W.kitOne K (.type "NoneType") (.type "list")=some false)
 (i15:W.kitOne K (.type "bool") (.type "list")=some false)
 (i16:W.kitOne K (.type "int") (.type "list")=some false)
 (i17:W.kitOne K (.type "str") (.type "list")=some false)
 (i18:W.kitOne K (.type "tuple") (.type "list")=some false)
 (i19:W.kitOne K (.type "list") (.type "list")=some true)
 (i20:W.kitOne K (.type "dict") (.type "list")=some false)
 (i21:W.kitOne K (.type "NoneType") (.type "str")=some false)
 (i22:W.kitOne K (.type "bool") (.type "str")=some false)
 (i23:W.kitOne K (.type "int") (.type "str")=some false)
 (i24:W.kitOne K (.type "str") (.type "str")=some true)
 (i25:W.kitOne K (.type "tuple") (.type "str")=some false)
 (i26:W.kitOne K (.type "list") (.type "str")=some false)
 (i27:W.kitOne K (.type "dict") (.type "str")=some false)
 (i28:W.kitOne K (.type "NoneType") (.type "tuple")=some false)
 (i29:W.kitOne K (.type "bool") (.type "tuple")=some false)
 (i30:W.kitOne K (.type "int") (.type "tuple")=some false)
 (i31:W.kitOne K (.type "str") (.type "tuple")=some false)
 (i32:W.kitOne K (.type "tuple") (.type "tuple")=some true)
 (i33:W.kitOne K (.type "list") (.type "tuple")=some false)
 (i34:W.kitOne K (.type "dict") (.type "tuple")=some false)
 : Txt w K mg a_NoFraction a_NoBox a_NoWay a_NoWeights a_TooMany a_NoKind:=by
 have mNoBox:=W.mg_of X G m_NoBox
 have mNoFraction:=W.mg_of X G m_NoFraction
 have mNoKind:=W.mg_of X G m_NoKind
 have mNoWay:=W.mg_of X G m_NoWay
 have mNoWeights:=W.mg_of X G m_NoWeights
 have mTooMany:=W.mg_of X G m_TooMany
 exact {
 g_MOST_THINGS:=g_MOST_THINGS,
 g_MOST_WEIGHTS:=g_MOST_WEIGHTS,
 m_NoBox:=mNoBox,
 m_NoFraction:=mNoFraction,
 m_NoKind:=mNoKind,
 m_NoWay:=mNoWay,
 m_NoWeights:=mNoWeights,
 m_TooMany:=mTooMany,
 g_WAYS:=g_WAYS,
 n_abs:=W.mg_none_of X G n_abs,
 n_all:=W.mg_none_of X G n_all,
 n_any:=W.mg_none_of X G n_any,
 n_bool:=W.mg_none_of X G n_bool,
 n_int:=W.mg_none_of X G n_int,
 n_isinstance:=W.mg_none_of X G n_isinstance,
 n_len:=W.mg_none_of X G n_len,
 n_list:=W.mg_none_of X G n_list,
 n_range:=W.mg_none_of X G n_range,
 n_str:=W.mg_none_of X G n_str,
 n_sum:=W.mg_none_of X G n_sum,
 n_tuple:=W.mg_none_of X G n_tuple,
 n_zip:=W.mg_none_of X G n_zip,
 x_NoFraction:=x_NoFraction,
 x_NoBox:=x_NoBox,
 x_NoWay:=x_NoWay,
 x_NoWeights:=x_NoWeights,
 x_TooMany:=x_TooMany,
 x_NoKind:=x_NoKind,
 kits:=(aG i0 rfl rfl a8
  (aG i1 rfl rfl a8
  (aG i2 rfl rfl a8
  (aG i3 rfl rfl a8
  (aG i4 rfl rfl a8
  (aG i5 rfl rfl a8
  (aG i6 rfl rfl a8
  (aG i7 rfl rfl a8
  (aG i8 rfl rfl a8
  (aG i9 rfl rfl a8
  (aG i10 rfl rfl a8
  (aG i11 rfl rfl a8
  (aG i12 rfl rfl a8
  (aG i13 rfl rfl a8
  (aG i14 rfl rfl a8
  (aG i15 rfl rfl a8
  (aG i16 rfl rfl a8
  (aG i17 rfl rfl a8
  (aG i18 rfl rfl a8
  (aG i19 rfl rfl a8
  (aG i20 rfl rfl a8
  (aG i21 rfl rfl a8
  (aG i22 rfl rfl a8
  (aG i23 rfl rfl a8
  (aG i24 rfl rfl a8
  (aG i25 rfl rfl a8
  (aG i26 rfl rfl a8
  (aG i27 rfl rfl a8
  (aG i28 rfl rfl a8
  (aG i29 rfl rfl a8
  (aG i30 rfl rfl a8
  (aG i31 rfl rfl a8
  (aG i32 rfl rfl a8
  (aG i33 rfl rfl a8
  (aG i34 rfl rfl a8
  BP)))))))))))))))))))))))))))))))))))
 }
end KK
namespace PySem.W.Fast
def tw10056439182976519836:=()
def tw10081358907503748336:=()
def tw10090728297437740912:=()
def tw10107301678645614922:=()
def tw1015390556650499722:=()
def tw10191670522875268549:=()
def tw10235088049027576987:=()
def tw10253968199937905990:=()
def tw10264298978529126443:=()
def tw10346550963506117841:=()
def tw10438500198998109436:=()
def tw104730765410706184:=()
def tw10520905525520928082:=()
def tw10566145111377425482:=()
def tw10586194784131673171:=()
def tw10599621466648082162:=()
def tw10696494338495335542:=()
def tw1073823884143379565:=()
def tw10765681875345745137:=()
def tw10793750395583540860:=()
def tw10841032087390019200:=()
def tw10844125073767279665:=()
def tw10873786524920175982:=()
def tw11177543729631008750:=()
def tw11246562447447771422:=()
def tw11272783115509799452:=()
def tw11338626806922016376:=()
def tw11357710870277779375:=()
def tw11376679600410996836:=()
def tw11388300801771990527:=()
def tw11406297695476151568:=()
def tw11434654393996762909:=()
def tw11436540541953606411:=()
def tw11474719548955700458:=()
def tw11665598075493606658:=()
def tw11688519814687832033:=()
def tw11694560719511678864:=()
def tw11694860771593145603:=()
def tw11703037415330648075:=()
def tw11797754258346325202:=()
def tw11844217506395538519:=()
def tw11845945758526213232:=()
def tw11868105868184841282:=()
def tw11882257801759156494:=()
def tw11980050874740357433:=()
def tw12092062009632674819:=()
def tw12128778487007684625:=()
def tw12131997223511946881:=()
def tw1214750078694681461:=()
def tw12155661786150647212:=()
def tw12163090716493508914:=()
def tw12236623467897612040:=()
def tw12297393225569856268:=()
def tw12316493253228471542:=()
def tw12337982431529072885:=()
def tw12364417218849662551:=()
def tw12407173427434119205:=()
def tw12421145411317762367:=()
def tw12496453784684429457:=()
def tw12503158890407231586:=()
def tw1256985690903301786:=()
def tw12600722101620205197:=()
def tw12622357136708892675:=()
def tw1264636110957160291:=()
def tw12741002239342250354:=()
def tw12814663351195500538:=()
def tw12851921989617430081:=()
def tw12881148999802600140:=()
def tw12940816296654907801:=()
def tw12945512761941374564:=()
def tw13005872496164685558:=()
def tw13063460503506224826:=()
def tw13088236380044175186:=()
def tw13145849213747262676:=()
def tw13155553360010933420:=()
def tw13209092356804788411:=()
def tw13250790733184190530:=()
def tw13283457249749835415:=()
def tw13402380351635585323:=()
def tw13425385591177369859:=()
def tw13447141197045700698:=()
def tw13475190839374722951:=()
def tw13491202679036203660:=()
def tw13501965572475521639:=()
def tw13515371843745126621:=()
def tw13575408127307532986:=()
def tw13602064521115527751:=()
def tw13603373296691845140:=()
def tw13621299601694023994:=()
def tw13653259979062822796:=()
def tw13732524142723027091:=()
def tw13817268220434503696:=()
def tw13914426318049576693:=()
def tw13986874897545081692:=()
def tw14031093937905886562:=()
def tw14118364088903968038:=()
def tw14149378037580365325:=()
def tw14163547799932371770:=()
def tw14201312486832817770:=()
def tw14227500647146875219:=()
def tw1425888724367265592:=()
def tw14276699334139174993:=()
def tw14306360314915997042:=()
def tw14319607277317080218:=()
def tw14333159492249121891:=()
def tw14347603631028451328:=()
def tw14390000092852996281:=()
def tw14419969026015498532:=()
def tw14478457506925011207:=()
def tw14548560918535870278:=()
def tw14605067646842028434:=()
def tw14608130843867258722:=()
def tw14614641145987395200:=()
def tw14631001629894319333:=()
def tw1466673196139159714:=()
def tw14680116721870326277:=()
def tw14697943071118001424:=()
def tw14711420777350532146:=()
def tw1476993253187264425:=()
def tw14897014434346684687:=()
def tw14907893341377940217:=()
def tw14936563077046904877:=()
def tw14949865047959567185:=()
def tw1510173157580039435:=()
def tw15108872256613511124:=()
def tw15146318942838363381:=()
def tw15156603132346446673:=()
def tw15250764018381976913:=()
def tw15288737237082421642:=()
def tw15407339345997961498:=()
def tw15460435160560729394:=()
def tw15482200659691663538:=()
def tw1560923553675530014:=()
def tw15703063659814483697:=()
def tw15722499092700518490:=()
def tw15742427256125308483:=()
def tw15971165218978943128:=()
def tw15983640370840096747:=()
def tw16006595874865064910:=()
def tw16052552847402379350:=()
def tw16150969309564115282:=()
def tw1615718519415026123:=()
def tw16157715213232875005:=()
def tw16241490680805324:=()
def tw16250173375551139865:=()
def tw16338013487082121804:=()
def tw16359001409729724353:=()
def tw1641064145379507686:=()
def tw16414483200845454000:=()
def tw16441796627149348745:=()
def tw16488977672613060743:=()
def tw16493869757847405927:=()
def tw16500885137467861333:=()
def tw16626697771183392290:=()
def tw16655065195603843051:=()
def tw16733936422152725082:=()
def tw16772458607515080426:=()
def tw16822499570179448755:=()
def tw1691500899536829584:=()
def tw170821078365603122:=()
def tw17162095371987432737:=()
def tw17193585176430682072:=()
def tw17218030538177173358:=()
def tw17234078745896769563:=()
def tw17238929259278167466:=()
def tw1736518402049605906:=()
def tw1738743872979042125:=()
def tw17400863215581448799:=()
def tw17401517093208544874:=()
def tw17402237745977621385:=()
def tw17403479840679569051:=()
def tw1746234535970022406:=()
def tw17464100767200060930:=()
def tw17530461384761974064:=()
def tw17545878730883680374:=()
def tw17555364870171071200:=()
def tw17560339351660502215:=()
def tw17641809281696303235:=()
def tw17682037047282702281:=()
def tw17743880217047980858:=()
def tw17766382254119078098:=()
def tw17924940852392508943:=()
def tw17968849888021426375:=()
def tw18052855749984388955:=()
def tw18063726035875675487:=()
def tw18068091358891829036:=()
def tw18130715894278045394:=()
def tw18150259111871872332:=()
def tw18229183348464655469:=()
def tw18258143920926955317:=()
def tw18270100443733629019:=()
def tw18282806151883195505:=()
def tw18367486294398324388:=()
def tw18420093322364886188:=()
def tw1842718573628813211:=()
def tw1859310596295928012:=()
def tw1879681554278830415:=()
def tw1927210765221781899:=()
def tw2143010554593487678:=()
def tw2148524558997196104:=()
def tw2181160340241654086:=()
def tw2217386614542178293:=()
def tw2224406620495195831:=()
def tw2277479213212474924:=()
def tw2279821080628503332:=()
def tw2322203945187578252:=()
def tw2343876630992693321:=()
def tw2501918513593587506:=()
def tw2540616597054587326:=()
def tw2626425439768391099:=()
def tw2640729592169663762:=()
def tw2655264320069524751:=()
def tw2708295804837223590:=()
def tw2720287896234683750:=()
def tw2885368708251108019:=()
def tw2991496187252982711:=()
def tw2997551596726732180:=()
def tw3093727971563543932:=()
def tw313871927308457156:=()
def tw3221672903218656977:=()
def tw3227987906925910278:=()
def tw3285286178941417049:=()
def tw3336486594050313212:=()
def tw3420230953974407941:=()
def tw3435575704574014123:=()
def tw3446834858753433477:=()
def tw3533597014805506426:=()
def tw3696454213776949077:=()
def tw3831731968641750145:=()
def tw3837103219997317991:=()
def tw3851074218210114176:=()
def tw3864051465820764348:=()
def tw3867788723316731620:=()
def tw3869869585893864789:=()
def tw3878967773749490302:=()
def tw3900771167173443154:=()
def tw3977232790600744999:=()
def tw4162920483878150872:=()
def tw4205476216112297149:=()
def tw4218590272500471044:=()
def tw42604077478954143:=()
def tw4298927211458887064:=()
def tw4327118926271723500:=()
def tw4340794626996404129:=()
def tw4445778984555264275:=()
def tw4537749007921116903:=()
def tw4539815632363903231:=()
def tw4556491309926673795:=()
def tw4594213860583707898:=()
def tw4607141442587908491:=()
def tw4640862934865190525:=()
def tw4716125108181280916:=()
def tw4783724909928924750:=()
def tw480584052624242039:=()
def tw4816830538650528324:=()
def tw5007957134783948593:=()
def tw5016729193902527848:=()
def tw5017075831252351974:=()
def tw5078944845595729317:=()
def tw5106941253930606464:=()
def tw5108130915558771319:=()
def tw5123705054786836713:=()
def tw5290036388046670503:=()
def tw5345111739407239490:=()
def tw5355085916437823771:=()
def tw5412315978729878456:=()
def tw5439521327477456489:=()
def tw5568441723843450695:=()
def tw5597337569416788929:=()
def tw5609190462689849691:=()
def tw5614004246767597821:=()
def tw5656454901841234127:=()
def tw5703833954854601181:=()
def tw5707993045299249971:=()
def tw5773306240943356009:=()
def tw579113221379069664:=()
def tw5861794913575649758:=()
def tw5932916665846383334:=()
def tw5972898528104619494:=()
def tw600269468153447247:=()
def tw6014743999395828589:=()
def tw6046555938982066565:=()
def tw6079768989709135122:=()
def tw6107143852214420622:=()
def tw6152630855059877619:=()
def tw6245186742264503082:=()
def tw6254519055494965847:=()
def tw6298929713129437042:=()
def tw63856271612515087:=()
def tw6498919744016465060:=()
def tw6504527872052074062:=()
def tw6506647782767362392:=()
def tw669154502324716644:=()
def tw6702908608045653242:=()
def tw6713631793647055359:=()
def tw6748007362352897754:=()
def tw6788551333184796195:=()
def tw6860468658089247564:=()
def tw6888668324589704709:=()
def tw6977342835331699698:=()
def tw6997274229556364556:=()
def tw7007847414786275573:=()
def tw7027199178324196108:=()
def tw7051383667103446226:=()
def tw7073545541747308343:=()
def tw7095936384010933527:=()
def tw7112025548818616269:=()
def tw7158378775152809126:=()
def tw7158615706762819089:=()
def tw7210590052645928419:=()
def tw7236780841863548803:=()
def tw7295000993885809585:=()
def tw7338149355193947405:=()
def tw7355879024667962899:=()
def tw7400838693079202211:=()
def tw7444521928708576657:=()
def tw7501829618574634499:=()
def tw7520223572178726134:=()
def tw754087952470769279:=()
def tw7557603423483458872:=()
def tw7574967028782685095:=()
def tw7586841445130792139:=()
def tw7612719330006306790:=()
def tw7697721050389894468:=()
def tw7760868676025126902:=()
def tw7768867088406638684:=()
def tw7878507077790815425:=()
def tw7899173430934326880:=()
def tw7906224905025937128:=()
def tw7940874502828630292:=()
def tw7963234843280719163:=()
def tw8010250558097212427:=()
def tw8127673083338609533:=()
def tw8154770802142601752:=()
def tw815501227613924005:=()
def tw8157332955328850150:=()
def tw818917812962485246:=()
def tw8192885787199163169:=()
def tw8257555919027283667:=()
def tw8296742505589146771:=()
def tw8320955422535801296:=()
def tw8328750457027081731:=()
def tw8374840637256650254:=()
def tw8383366602552568636:=()
def tw8422517785298679635:=()
def tw843643782755561011:=()
def tw8448392790247407668:=()
def tw84549915245123596:=()
def tw8513325017409899085:=()
def tw8573972457864260340:=()
def tw8653602287727967372:=()
def tw8679689412078079537:=()
def tw8679810022292559097:=()
def tw8704183908912388057:=()
def tw871325305100088100:=()
def tw8751017321911654001:=()
def tw8810046965127068751:=()
def tw8838604256765506929:=()
def tw8883525112703022066:=()
def tw8883806151339837616:=()
def tw8918222887562117771:=()
def tw8955883487629265269:=()
def tw9006684707815375079:=()
def tw9008061023656265210:=()
def tw9080708154691586007:=()
def tw9189989168254515590:=()
def tw9207166291827411362:=()
def tw9215993183406777101:=()
def tw9247199790257209567:=()
def tw9263658119558870615:=()
def tw926885571633262345:=()
def tw9269195205171511213:=()
def tw9342512092858087664:=()
def tw9351353281567019111:=()
def tw9411867436275972267:=()
def tw9546436466647640517:=()
def tw9552254735797251338:=()
def tw9591540862127506204:=()
def tw9740088672037608966:=()
def tw9763507774154823047:=()
def tw9953274298193188633:=()
def tw998846078339340074:=()
end PySem.W.Fast
open PySem PySem.W PyProof.Rows L2 L3 KK
set_option maxRecDepth 100000 in
set_option maxHeartbeats 0 in
theorem PySem.Challenge.cw_weightrooms_k51_least_worst_in_order_holds : PySem.Challenge.rw_weightrooms_k51_least_worst_in_order.Holds := by
 w_on;o_law;k_head;(case hw=>w_witness2)
 k_fill
 refine L2.walk_lawD (l:=PySem.Challenge.rw_weightrooms_k51_least_worst_in_order) (x := "_law_script") (k:=20) rfl rfl ⟨rfl,by decide,by decide⟩ (λw h Y=>W.kIn_of Y) ?F ?D
 case F=>
  intro w mg h KX G base kb nb
  have TT:=by
   refine' Hd KX G ?m_NoBox ?m_NoFraction ?m_NoKind ?m_NoWay ?m_NoWeights ?m_TooMany ?n_abs ?n_all ?n_any ?n_bool ?n_int ?n_isinstance ?n_len ?n_list ?n_range ?n_str ?n_sum ?n_tuple ?n_zip ?g_MOST_THINGS ?g_MOST_WEIGHTS ?g_WAYS ?gs_ ?tk_ ?x_NoFraction ?k_NoFraction_cls ?k_NoFraction_ga ?k_NoFraction_gt ?k_NoFraction_at ?k_NoFraction_mo ?k_NoFraction_mb ?x_NoBox ?k_NoBox_cls ?k_NoBox_ga ?k_NoBox_gt ?k_NoBox_at ?k_NoBox_mo ?k_NoBox_mb ?x_NoWay ?k_NoWay_cls ?k_NoWay_ga ?k_NoWay_gt ?k_NoWay_at ?k_NoWay_mo ?k_NoWay_mb ?x_NoWeights ?k_NoWeights_cls ?k_NoWeights_ga ?k_NoWeights_gt ?k_NoWeights_at ?k_NoWeights_mo ?k_NoWeights_mb ?x_TooMany ?k_TooMany_cls ?k_TooMany_ga ?k_TooMany_gt ?k_TooMany_at ?k_TooMany_mo ?k_TooMany_mb ?x_NoKind ?k_NoKind_cls ?k_NoKind_ga ?k_NoKind_gt ?k_NoKind_at ?k_NoKind_mo ?k_NoKind_mb ?i0 ?i1 ?i2 ?i3 ?i4 ?i5 ?i6 ?i7 ?i8 ?i9 ?i10 ?i11 ?i12 ?i13 ?i14 ?i15 ?i16 ?i17 ?i18 ?i19 ?i20 ?i21 ?i22 ?i23 ?i24 ?i25 ?i26 ?i27 ?i28 ?i29 ?i30 ?i31 ?i32 ?i33 ?i34
   (case m_NoBox=>k_is)
   (case m_NoFraction=>k_is)
   (case m_NoKind=>k_is)
   (case m_NoWay=>k_is)
   (case m_NoWeights=>k_is)
   (case m_TooMany=>k_is)
   (case n_abs=>k_is)
   (case n_all=>k_is)
   (case n_any=>k_is)
   (case n_bool=>k_is)
   (case n_int=>k_is)
   (case n_isinstance=>k_is)
   (case n_len=>k_is)
   (case n_list=>k_is)
   (case n_range=>k_is)
   (case n_str=>k_is)
   (case n_sum=>k_is)
   (case n_tuple=>k_is)
   (case n_zip=>k_is)
   (case g_MOST_THINGS=>exact (by refine' Ce (kvs:=bY) KX G ?a9 ?b9 ?c9 ?d9 ?e9;(case a9=>exact rfl);(case b9=>exact rfl);(case c9=>exact rfl);(case d9=>exact (.cons rfl rfl rfl (.cons rfl rfl rfl .nil)));(case e9=>decide)))
   (case g_MOST_WEIGHTS=>exact (by refine' J4 KX G ?a;(case a=>k_is)))
   (case g_WAYS=>exact (by refine' Gu (vs:=[.str "across",.str "down"]) (ds:=[.str "across",.str "down"]) KX G ?a ?l ?s ?v ?r;(case a=>k_is);(case l=>k_is);(case s=>decide);(case v=>exact (.cons ⟨_,rfl⟩ (.cons ⟨_,rfl⟩ .nil)));(case r=>exact λ_ _=>(.cons (.str _) (.cons (.str _) .nil)))))
   (case gs_=>k_is)
   (case tk_=>k_is)
   (case x_NoFraction=>k_exc)
   (case k_NoFraction_cls=>exact Option.isSome_iff_exists.mpr ⟨_,by k_is⟩)
   (case k_NoFraction_ga=>k_is)
   (case k_NoFraction_gt=>k_is)
   (case k_NoFraction_at=>k_is)
   (case k_NoFraction_mo=>k_is)
   (case k_NoFraction_mb=>k_is)
   (case x_NoBox=>k_exc)
   (case k_NoBox_cls=>exact Option.isSome_iff_exists.mpr ⟨_,by k_is⟩)
   (case k_NoBox_ga=>k_is)
   (case k_NoBox_gt=>k_is)
   (case k_NoBox_at=>k_is)
   (case k_NoBox_mo=>k_is)
   (case k_NoBox_mb=>k_is)
   (case x_NoWay=>k_exc)
   (case k_NoWay_cls=>exact Option.isSome_iff_exists.mpr ⟨_,by k_is⟩)
   (case k_NoWay_ga=>k_is)
   (case k_NoWay_gt=>k_is)
   (case k_NoWay_at=>k_is)
   (case k_NoWay_mo=>k_is)
   (case k_NoWay_mb=>k_is)
   (case x_NoWeights=>k_exc)
   (case k_NoWeights_cls=>exact Option.isSome_iff_exists.mpr ⟨_,by k_is⟩)
   (case k_NoWeights_ga=>k_is)
   (case k_NoWeights_gt=>k_is)
   (case k_NoWeights_at=>k_is)
   (case k_NoWeights_mo=>k_is)
   (case k_NoWeights_mb=>k_is)
   (case x_TooMany=>k_exc)
   (case k_TooMany_cls=>exact Option.isSome_iff_exists.mpr ⟨_,by k_is⟩)
   (case k_TooMany_ga=>k_is)
   (case k_TooMany_gt=>k_is)
   (case k_TooMany_at=>k_is)
   (case k_TooMany_mo=>k_is)
   (case k_TooMany_mb=>k_is)
   (case x_NoKind=>k_exc)
   (case k_NoKind_cls=>exact Option.isSome_iff_exists.mpr ⟨_,by k_is⟩)
   (case k_NoKind_ga=>k_is)
   (case k_NoKind_gt=>k_is)
   (case k_NoKind_at=>k_is)
   (case k_NoKind_mo=>k_is)
   (case k_NoKind_mb=>k_is)
   (case i0=>kit_is)
   (case i1=>kit_is)
   (case i2=>kit_is)
   (case i3=>kit_is)
   (case i4=>kit_is)
   (case i5=>kit_is)
   (case i6=>kit_is)
   (case i7=>kit_is)
   (case i8=>kit_is)
   (case i9=>kit_is)
   (case i10=>kit_is)
   (case i11=>kit_is)
   (case i12=>kit_is)
   (case i13=>kit_is)
   (case i14=>kit_is)
   (case i15=>kit_is)
   (case i16=>kit_is)
   (case i17=>kit_is)
   (case i18=>kit_is)
   (case i19=>kit_is)
   (case i20=>kit_is)
   (case i21=>kit_is)
   (case i22=>kit_is)
   (case i23=>kit_is)
   (case i24=>kit_is)
   (case i25=>kit_is)
   (case i26=>kit_is)
   (case i27=>kit_is)
   (case i28=>kit_is)
   (case i29=>kit_is)
   (case i30=>kit_is)
   (case i31=>kit_is)
   (case i32=>kit_is)
   (case i33=>kit_is)
   (case i34=>kit_is)
  have D_law_feed:=by
   refine' aJ (x := "_law_feed") (st:=lp) KX G ?a ?l ?c ?k
   (case a=>k_is);(case l=>k_is);(case c=>k_is);(case k=>k_is)
  have D_law_draw:=by
   refine' aJ (x := "_law_draw") (st:=ma) KX G ?a ?l ?c ?k
   (case a=>k_is);(case l=>k_is);(case c=>k_is);(case k=>k_is)
  have D_law_low:=by
   refine' aJ (x := "_law_low") (st:=mM) KX G ?a ?l ?c ?k
   (case a=>k_is);(case l=>k_is);(case c=>k_is);(case k=>k_is)
  have D_law_great:=by
   refine' aJ (x := "_law_great") (st:=ky) KX G ?a ?l ?c ?k
   (case a=>k_is);(case l=>k_is);(case c=>k_is);(case k=>k_is)
  have D_law_side:=by
   refine' aJ (x := "_law_side") (st:=lY) KX G ?a ?l ?c ?k
   (case a=>k_is);(case l=>k_is);(case c=>k_is);(case k=>k_is)
  have D_law_case:=by
   refine' aJ (x := "_law_case") (st:=ji) KX G ?a ?l ?c ?k
   (case a=>k_is);(case l=>k_is);(case c=>k_is);(case k=>k_is)
  have D_is_whole:=by
   refine' aJ (x := "is_whole") (st:=l8) KX G ?a ?l ?c ?k
   (case a=>k_is);(case l=>k_is);(case c=>k_is);(case k=>k_is)
  have D_common_divisor:=by
   refine' aJ (x := "common_divisor") (st:=gc) KX G ?a ?l ?c ?k
   (case a=>k_is);(case l=>k_is);(case c=>k_is);(case k=>k_is)
  have D_is_fraction:=by
   refine' aJ (x := "is_fraction") (st:=iY) KX G ?a ?l ?c ?k
   (case a=>k_is);(case l=>k_is);(case c=>k_is);(case k=>k_is)
  have D_is_box:=by
   refine' aJ (x := "is_box") (st:=lZ) KX G ?a ?l ?c ?k
   (case a=>k_is);(case l=>k_is);(case c=>k_is);(case k=>k_is)
  have D_check_box:=by
   refine' aJ (x := "check_box") (st:=ka) KX G ?a ?l ?c ?k
   (case a=>k_is);(case l=>k_is);(case c=>k_is);(case k=>k_is)
  have D_is_weight:=by
   refine' aJ (x := "is_weight") (st:=kz) KX G ?a ?l ?c ?k
   (case a=>k_is);(case l=>k_is);(case c=>k_is);(case k=>k_is)
  have D_check_weights:=by
   refine' aJ (x := "check_weights") (st:=eU) KX G ?a ?l ?c ?k
   (case a=>k_is);(case l=>k_is);(case c=>k_is);(case k=>k_is)
  have D_check_kind:=by
   refine' aJ (x := "check_kind") (st:=jI) KX G ?a ?l ?c ?k
   (case a=>k_is);(case l=>k_is);(case c=>k_is);(case k=>k_is)
  have D_check_asked:=by
   refine' aJ (x := "check_asked") (st:=ja) KX G ?a ?l ?c ?k
   (case a=>k_is);(case l=>k_is);(case c=>k_is);(case k=>k_is)
  have D_is_less:=by
   refine' aJ (x := "is_less") (st:=mZ) KX G ?a ?l ?c ?k
   (case a=>k_is);(case l=>k_is);(case c=>k_is);(case k=>k_is)
  have D_long_way:=by
   refine' aJ (x := "long_way") (st:=mh) KX G ?a ?l ?c ?k
   (case a=>k_is);(case l=>k_is);(case c=>k_is);(case k=>k_is)
  have D_fraction:=by
   refine' aJ (x := "fraction") (st:=lj) KX G ?a ?l ?c ?k
   (case a=>k_is);(case l=>k_is);(case c=>k_is);(case k=>k_is)
  have D_over:=by
   refine' aJ (x := "over") (st:=vm) KX G ?a ?l ?c ?k
   (case a=>k_is);(case l=>k_is);(case c=>k_is);(case k=>k_is)
  have D_shape:=by
   refine' aJ (x := "shape") (st:=rp) KX G ?a ?l ?c ?k
   (case a=>k_is);(case l=>k_is);(case c=>k_is);(case k=>k_is)
  have D_lots_of:=by
   refine' aJ (x := "lots_of") (st:=iQ) KX G ?a ?l ?c ?k
   (case a=>k_is);(case l=>k_is);(case c=>k_is);(case k=>k_is)
  have D_cuts_of:=by
   refine' aJ (x := "cuts_of") (st:=jU) KX G ?a ?l ?c ?k
   (case a=>k_is);(case l=>k_is);(case c=>k_is);(case k=>k_is)
  have D_is_way:=by
   refine' aJ (x := "is_way") (st:=oC) KX G ?a ?l ?c ?k
   (case a=>k_is);(case l=>k_is);(case c=>k_is);(case k=>k_is)
  have D_check_way:=by
   refine' aJ (x := "check_way") (st:=ko) KX G ?a ?l ?c ?k
   (case a=>k_is);(case l=>k_is);(case c=>k_is);(case k=>k_is)
  have D_added:=by
   refine' aJ (x := "added") (st:=qJ) KX G ?a ?l ?c ?k
   (case a=>k_is);(case l=>k_is);(case c=>k_is);(case k=>k_is)
  have D_times:=by
   refine' aJ (x := "times") (st:=rM) KX G ?a ?l ?c ?k
   (case a=>k_is);(case l=>k_is);(case c=>k_is);(case k=>k_is)
  have D_shares:=by
   refine' aJ (x := "shares") (st:=nZ) KX G ?a ?l ?c ?k
   (case a=>k_is);(case l=>k_is);(case c=>k_is);(case k=>k_is)
  have D_parted:=by
   refine' aJ (x := "parted") (st:=ju) KX G ?a ?l ?c ?k
   (case a=>k_is);(case l=>k_is);(case c=>k_is);(case k=>k_is)
  have D_weight_of:=by
   refine' aJ (x := "weight_of") (st:=iJ) KX G ?a ?l ?c ?k
   (case a=>k_is);(case l=>k_is);(case c=>k_is);(case k=>k_is)
  have D_parts_by:=by
   refine' aJ (x := "parts_by") (st:=ml) KX G ?a ?l ?c ?k
   (case a=>k_is);(case l=>k_is);(case c=>k_is);(case k=>k_is)
  have D_greatest_of:=by
   refine' aJ (x := "greatest_of") (st:=iV) KX G ?a ?l ?c ?k
   (case a=>k_is);(case l=>k_is);(case c=>k_is);(case k=>k_is)
  have D_best_tree:=by
   refine' aJ (x := "best_tree") (st:=iE) KX G ?a ?l ?c ?k
   (case a=>k_is);(case l=>k_is);(case c=>k_is);(case k=>k_is)
  have D_least_worst:=by
   refine' aJ (x := "least_worst") (st:=jc) KX G ?a ?l ?c ?k
   (case a=>k_is);(case l=>k_is);(case c=>k_is);(case k=>k_is)
  have D_law_fraction:=by
   refine' aJ (x := "_law_fraction") (st:=fB) KX G ?a ?l ?c ?k
   (case a=>k_is);(case l=>k_is);(case c=>k_is);(case k=>k_is)
  have D_law_things:=by
   refine' aJ (x := "_law_things") (st:=gy) KX G ?a ?l ?c ?k
   (case a=>k_is);(case l=>k_is);(case c=>k_is);(case k=>k_is)
  have D_law_add:=by
   refine' aJ (x := "_law_add") (st:=mG) KX G ?a ?l ?c ?k
   (case a=>k_is);(case l=>k_is);(case c=>k_is);(case k=>k_is)
  have D_law_times:=by
   refine' aJ (x := "_law_times") (st:=kh) KX G ?a ?l ?c ?k
   (case a=>k_is);(case l=>k_is);(case c=>k_is);(case k=>k_is)
  have D_law_cut:=by
   refine' aJ (x := "_law_cut") (st:=nj) KX G ?a ?l ?c ?k
   (case a=>k_is);(case l=>k_is);(case c=>k_is);(case k=>k_is)
  have D_law_laid:=by
   refine' aJ (x := "_law_laid") (st:=gu) KX G ?a ?l ?c ?k
   (case a=>k_is);(case l=>k_is);(case c=>k_is);(case k=>k_is)
  have D_law_less:=by
   refine' aJ (x := "_law_less") (st:=lJ) KX G ?a ?l ?c ?k
   (case a=>k_is);(case l=>k_is);(case c=>k_is);(case k=>k_is)
  have D_law_over:=by
   refine' aJ (x := "_law_over") (st:=lR) KX G ?a ?l ?c ?k
   (case a=>k_is);(case l=>k_is);(case c=>k_is);(case k=>k_is)
  have D_law_shape:=by
   refine' aJ (x := "_law_shape") (st:=jZ) KX G ?a ?l ?c ?k
   (case a=>k_is);(case l=>k_is);(case c=>k_is);(case k=>k_is)
  have D_law_firsts:=by
   refine' aJ (x := "_law_firsts") (st:=eZ) KX G ?a ?l ?c ?k
   (case a=>k_is);(case l=>k_is);(case c=>k_is);(case k=>k_is)
  have D_law_least:=by
   refine' aJ (x := "_law_least") (st:=dS) KX G ?a ?l ?c ?k
   (case a=>k_is);(case l=>k_is);(case c=>k_is);(case k=>k_is)
  have D_law_good:=by
   refine' aJ (x := "_law_good") (st:=gC) KX G ?a ?l ?c ?k
   (case a=>k_is);(case l=>k_is);(case c=>k_is);(case k=>k_is)
  have D_law:=by
   refine' aJ (x := "law") (st:=tJ) KX G ?a ?l ?c ?k
   (case a=>k_is);(case l=>k_is);(case c=>k_is);(case k=>k_is)
  have u8:=vQ (P:=PySem.Challenge.rw_weightrooms_k51_least_worst_in_order.prog) (w:=w) (base:=base) TT D_law_feed
  have c_law_draw:=vZ (P:=PySem.Challenge.rw_weightrooms_k51_least_worst_in_order.prog) (w:=w) (base:=base) TT D_law_draw
  have am:=wL (P:=PySem.Challenge.rw_weightrooms_k51_least_worst_in_order.prog) (w:=w) (base:=base) TT D_law_low
  have ge:=sZ (P:=PySem.Challenge.rw_weightrooms_k51_least_worst_in_order.prog) (w:=w) (base:=base) TT D_law_great c_law_draw
  have ol:=uT (P:=PySem.Challenge.rw_weightrooms_k51_least_worst_in_order.prog) (w:=w) (base:=base) TT D_law_side c_law_draw am ge
  have ul:=vF (P:=PySem.Challenge.rw_weightrooms_k51_least_worst_in_order.prog) (w:=w) (base:=base) TT D_law_case c_law_draw ol am ge
  have g_:=vS (P:=PySem.Challenge.rw_weightrooms_k51_least_worst_in_order.prog) (w:=w) (base:=base) TT D_is_whole
  have c_:=mR (P:=PySem.Challenge.rw_weightrooms_k51_least_worst_in_order.prog) (w:=w) (base:=base) TT D_common_divisor
  have m_:=pj (P:=PySem.Challenge.rw_weightrooms_k51_least_worst_in_order.prog) (w:=w) (base:=base) TT D_is_fraction g_ c_
  have c_is_box:=ye (P:=PySem.Challenge.rw_weightrooms_k51_least_worst_in_order.prog) (w:=w) (base:=base) TT D_is_box m_
  have d_:=sV (P:=PySem.Challenge.rw_weightrooms_k51_least_worst_in_order.prog) (w:=w) (base:=base) TT D_check_box c_is_box
  have ss:=sN (P:=PySem.Challenge.rw_weightrooms_k51_least_worst_in_order.prog) (w:=w) (base:=base) TT D_is_weight g_
  have dl:=nQ (P:=PySem.Challenge.rw_weightrooms_k51_least_worst_in_order.prog) (w:=w) (base:=base) TT D_check_weights ss
  have on:=qP (P:=PySem.Challenge.rw_weightrooms_k51_least_worst_in_order.prog) (w:=w) (base:=base) TT D_check_kind
  have mk:=qf (P:=PySem.Challenge.rw_weightrooms_k51_least_worst_in_order.prog) (w:=w) (base:=base) TT D_check_asked d_ dl on
  have ci:=wG (P:=PySem.Challenge.rw_weightrooms_k51_least_worst_in_order.prog) (w:=w) (base:=base) TT D_is_less
  have t_:=vv (P:=PySem.Challenge.rw_weightrooms_k51_least_worst_in_order.prog) (w:=w) (base:=base) TT D_long_way d_ ci
  have a_:=uV (P:=PySem.Challenge.rw_weightrooms_k51_least_worst_in_order.prog) (w:=w) (base:=base) TT D_fraction c_
  have c_over:=CI (P:=PySem.Challenge.rw_weightrooms_k51_least_worst_in_order.prog) (w:=w) (base:=base) TT D_over a_
  have sB:=AJ (P:=PySem.Challenge.rw_weightrooms_k51_least_worst_in_order.prog) (w:=w) (base:=base) TT D_shape t_ c_over
  have c_lots_of:=wq (P:=PySem.Challenge.rw_weightrooms_k51_least_worst_in_order.prog) (w:=w) (base:=base) TT D_lots_of
  have j':=wx (P:=PySem.Challenge.rw_weightrooms_k51_least_worst_in_order.prog) (w:=w) (base:=base) TT D_cuts_of c_lots_of
  have c_is_way:=zx (P:=PySem.Challenge.rw_weightrooms_k51_least_worst_in_order.prog) (w:=w) (base:=base) TT D_is_way
  have o_:=sP (P:=PySem.Challenge.rw_weightrooms_k51_least_worst_in_order.prog) (w:=w) (base:=base) TT D_check_way c_is_way
  have c_added:=z9 (P:=PySem.Challenge.rw_weightrooms_k51_least_worst_in_order.prog) (w:=w) (base:=base) TT D_added a_
  have c_times:=Al (P:=PySem.Challenge.rw_weightrooms_k51_least_worst_in_order.prog) (w:=w) (base:=base) TT D_times a_
  have c_shares:=yt (P:=PySem.Challenge.rw_weightrooms_k51_least_worst_in_order.prog) (w:=w) (base:=base) TT D_shares c_added c_times a_
  have c_parted:=yn (P:=PySem.Challenge.rw_weightrooms_k51_least_worst_in_order.prog) (w:=w) (base:=base) TT D_parted d_ o_ dl c_shares
  have l_:=sW (P:=PySem.Challenge.rw_weightrooms_k51_least_worst_in_order.prog) (w:=w) (base:=base) TT D_weight_of
  have i_:=vH (P:=PySem.Challenge.rw_weightrooms_k51_least_worst_in_order.prog) (w:=w) (base:=base) TT D_parts_by c_parted l_
  have f_:=ph (P:=PySem.Challenge.rw_weightrooms_k51_least_worst_in_order.prog) (w:=w) (base:=base) TT D_greatest_of ci
  have ii:=kO (P:=PySem.Challenge.rw_weightrooms_k51_least_worst_in_order.prog) (w:=w) (base:=base) TT D_best_tree sB j' i_ ci f_ 7
  have c_least_worst:=pv (P:=PySem.Challenge.rw_weightrooms_k51_least_worst_in_order.prog) (w:=w) (base:=base) TT D_least_worst mk ii
  have le:=oR (P:=PySem.Challenge.rw_weightrooms_k51_least_worst_in_order.prog) (w:=w) (base:=base) TT D_law_fraction
  have ap:=jT (P:=PySem.Challenge.rw_weightrooms_k51_least_worst_in_order.prog) (w:=w) (base:=base) TT D_law_things 7
  have sK:=wk (P:=PySem.Challenge.rw_weightrooms_k51_least_worst_in_order.prog) (w:=w) (base:=base) TT D_law_add am
  have h_:=sS (P:=PySem.Challenge.rw_weightrooms_k51_least_worst_in_order.prog) (w:=w) (base:=base) TT D_law_times am
  have dL:=wV (P:=PySem.Challenge.rw_weightrooms_k51_least_worst_in_order.prog) (w:=w) (base:=base) TT D_law_cut am sK h_
  have li:=my (P:=PySem.Challenge.rw_weightrooms_k51_least_worst_in_order.prog) (w:=w) (base:=base) TT D_law_laid ap dL 7
  have be:=wd (P:=PySem.Challenge.rw_weightrooms_k51_least_worst_in_order.prog) (w:=w) (base:=base) TT D_law_less
  have n_:=vo (P:=PySem.Challenge.rw_weightrooms_k51_least_worst_in_order.prog) (w:=w) (base:=base) TT D_law_over am
  have e_:=sO (P:=PySem.Challenge.rw_weightrooms_k51_least_worst_in_order.prog) (w:=w) (base:=base) TT D_law_shape be n_
  have gl:=qR (P:=PySem.Challenge.rw_weightrooms_k51_least_worst_in_order.prog) (w:=w) (base:=base) TT D_law_firsts
  have im:=kH (P:=PySem.Challenge.rw_weightrooms_k51_least_worst_in_order.prog) (w:=w) (base:=base) TT D_law_least e_ gl dL be 7
  have ut:=u6 (P:=PySem.Challenge.rw_weightrooms_k51_least_worst_in_order.prog) (w:=w) (base:=base) TT D_law_good le ap li e_ be im
  have c_law:=FE (P:=PySem.Challenge.rw_weightrooms_k51_least_worst_in_order.prog) (w:=w) (base:=base) TT D_law u8 ul c_least_worst ut
  exact CD c_law (law3 pC rfl Hm)
 case D=>
  intro w mg h KX G
  refine⟨tJ,?_,(λ_ _ _ _ _ _=>ar1 λ_=>rfl)⟩
  refine' aJ KX G ?a ?l ?c ?k
  (case a=>k_is);(case l=>k_is);(case c=>k_is);(case k=>k_is)
