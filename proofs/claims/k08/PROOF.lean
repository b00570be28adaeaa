import PyProof.Rows.All
import Wide.All
import OpenK.AllK
import Wide.FinOn
import Lean
import PyProof.EqAt
import PyProof.EqKinds
import PyProof.TupleCall
import PyProof.Rows.SumAny
import PyProof.EnumMake
import PyProof.Draws
import PyProof.ZipIter
import KE.KUnpack
import KE.KxIndex
import PyProof.SetRoads
import PyProof.SetNew
import PyProof.AutoSeq1
import KE.KRevSl
import PyProof.SeqI3
import PyProof.Rows.SortWalk
import PySem.Challenge.RW_weightrooms_k08_looked_at
local macro_rules|`(tactic|trivial)=>`(tactic|first|exact Or.inl rfl|exact Or.inr rfl)
local macro_rules|`(tactic|decide)=>`(tactic|decide +kernel)
set_option genSizeOf false
set_option genInjectivity false
set_option bootstrap.genMatcherCode false
noncomputable section
set_option Elab.async false
set_option linter.all false
def g_:=@List.length_map
def h_:=@List.getElem?_eq_some_iff
def i_:=@List.mem_cons_of_mem
def j_:=@PySem.wpAny_bind
def k_:=@Bool.and_eq_true
def l_:=@List.getElem?_eq_getElem
def m_:=@List.mem_cons_self
def n_:=@Nat.le_refl
def o_:=@beq_eq_false_iff_ne
def p_:=@Bool.false_ne_true
def r_:=@List.length_append
def s_:=@PySem.Heap.get?_push_of_some
def t_:=@List.getElem?_map
def u_:=@List.size_toArray
def v_:=@PySem.Heap.lt_size
def w_:=@decide_eq_false
def x_:=@Nat.le_trans
def y_:=@Nat.lt_of_lt_of_le
def z_:=@Option.some.inj
def A_:=@List.length_set
def B_:=@List.mem_cons
def C_:=@List.map_cons
def D_:=@PySem.wpAny_pure
def Em:=@List.length_cons
def E_:=@List.getElem?_append_left
def F_:=@decide_eq_true
def G_:=@Int.toNat_natCast
def H_:=@List.getD_eq_getElem?_getD
def I_:=@List.all_eq_true
def J_:=@Option.map_eq_some_iff
def Km:=@PySem.Heap.get?_push_size
def Kn:=@Nat.ne_of_lt
def Ko:=@List.mem_append_right
def Kq:=@List.sum_cons
def Kr:=@List.mem_map
def Ks:=@List.getElem_mem
def Kt:=@List.fst_mem_of_mem_zipIdx
def Ku:=@List.getElem?_append_right
def Kv:=@Rat.intCast_mul
def Kw:=@List.length_take
def Kx:=@beq_iff_eq
def Ky:=@List.replicate_succ
def Kz:=@Option.bind_eq_some_iff
def KA:=@Nat.zero_le
def KC:=@List.mem_append
def KD:=@List.length_drop
def KG:=@and_true
def KH:=@PySem.wpAny_mono
def KI:=@List.getElem?_eq_none
def KJ:=@List.length_replicate
def KL:=@List.map_nil
def KN:=@Int.natCast_mul
def KO:=@List.map_append
def KP:=@List.getElem?_cons_succ
def KQ:=@List.getElem?_replicate
def KR:=@Int.natAbs_mul
def KS:=@List.flatten_cons
def KU:=@List.nil_append
def KW:=@List.contains_iff_mem
def KY:=@List.find?_eq_none
def KZ:=@Option.isSome_iff_exists
def K0:=@Int.mul_assoc
def K1:=@Nat.lt_irrefl
def K2:=@List.mem_of_getElem?
def K3:=@List.mem_range
def K4:=@Nat.mul_le_mul
def K5:=@Nat.pow_le_pow_right
def K6:=@List.getElem?_nil
def K7:=@PySem.wpAny_newObj_type
def K8:=@PySem.wpAny_truthy_bool
def K9:=@PySem.mem_of_lookup
def K_:=@Nat.mul_pos
def La:=@List.length_singleton
def Lb:=@List.mem_or_eq_of_mem_set
def Lc:=@Int.mul_ne_zero
def Ld:=@List.length_range
def Lf:=@List.length_eq_zero_iff
def Lg:=@List.filterMap_cons
def Lh:=@Nat.mul_le_mul_left
def Li:=@List.lookup_cons
def Lj:=@congrArg
def Lk:=@or_false
def Ll:=@List.take_of_length_le
def Lm:=@Bool.false_eq_true
def Ln:=@List.map_map
def Lo:=@List.mem_singleton
def Lp:=@Bool.and_eq_false_iff
def Lq:=@List.append_nil
def Lr:=@List.getElem?_zipWith
def Ls:=@Nat.not_lt_zero
def Lu:=@PySem.wpAny_passesOwn
def Lv:=@PySem.F.slot_tuple_iterator_next
def Lw:=@decide_eq_true_eq
def Lx:=@Classical.byContradiction
def Ly:=@List.mem_of_mem_take
def Lz:=@Nat.mul_le_mul_right
def LA:=@List.getElem?_range
def LB:=@List.length_zipWith
def LC:=@List.take_succ_cons
def LD:=@List.take_nil
def LG:=@PySem.wpAny_holding
def LH:=@List.length_nil
def LJ:=@Nat.lt_of_le_of_lt
def LK:=@Nat.pow_add
def LN:=@Int.mul_left_comm
def LO:=@List.append_assoc
def LP:=@List.getElem?_set
def LQ:=@List.dropLast_eq_take
def LR:=@List.mapM_cons
def LS:=@List.mem_zipIdx_iff_getElem?
def LU:=@List.take_append_drop
def LV:=@if_true
def LX:=@PyProof.Rows.callWith_type1
def LY:=@List.mem_of_mem_drop
def LZ:=@Int.eq_of_mul_eq_mul_right
def L4:=@List.drop_nil
def L5:=@Nat.mul_assoc
def L6:=@PySem.wpAny_field
def L7:=@List.mem_map_of_mem
def L8:=@List.getElem?_eq_none_iff
def L9:=@Rat.intCast_add
def L_:=@PySem.AutoSeq1.wpAny_loadPart'
def Ma:=@Int.mul_comm
def Mb:=@Int.mul_right_comm
def Mc:=@PySem.F.args_tuple_add_2
def Md:=@if_false
def Me:=@true_or
def Mf:=@PySem.F.entry_tuple_add
def Mg:=@PySem.wpAny_callSpecial?_slot
def Mh:=@PySem.Heap.get?_update_other
def Mi:=@Int.le_refl
def Mj:=@Int.mul_pos
def Mk:=@Nat.add_mul
def Ml:=@PySem.F.slot_tuple_add
def Mm:=@PySem.wpAny_standAt
def Mn:=@List.not_mem_nil
def Mo:=@Bool.eq_iff_iff
def Mp:=@PySem.Heap.get?_none_of_le
def Mq:=@List.getElem?_append
def Mr:=@List.getElem?_of_mem
def Ms:=@List.getElem?_set_ne
def Mu:=@List.mem_append_left
def Mv:=@List.mem_zipIdx
def Mw:=@List.nodup_cons
def Mx:=@Nat.le_of_lt
def My:=@Nat.min_eq_left
def Mz:=@Nat.sub_self
def MB:=@PySem.call_meets
def MC:=@PySem.wpAny_execs_nil
def MD:=@Array.length_toList
def MF:=@Rat.div_def
set_option maxRecDepth 100000
namespace L2
open PySem PySem.Spec PyProof.Rows
abbrev _root_.Na:=Str->Option Value
abbrev _root_.Nb:=List (Addr×Obj)
abbrev _root_.Nc:=Value->Shared->Prop
abbrev _root_.Nd:=List (Option Nat)
abbrev Key:=Sum Int Str
def Au:Key->Value->Bool
 |.inl k,v=>Value.isInt k v
 |.inr x,v=>Value.isStrOf x v
def keyH(w:World):Key->Int
 |.inl k=>hashInt k
 |.inr x=>hashStr w x
theorem bL:∀{k:Key}{v:Value},Au k v=true->(∃i t,k=Sum.inl i/\v=Value.int i t)\/(∃x t,k=Sum.inr x/\v=Value.str x t)
 |
  .inl i,v,h=>by
  obtain⟨t,e⟩:=Value.isInt_shape (k:=i) (v:=v) h
  exact .inl ⟨i,t,rfl,e⟩
 |
  .inr x,v,h=>by
  obtain⟨t,e⟩:=Value.isStrOf_shape (x:=x) (v:=v) h
  exact .inr ⟨x,t,rfl,e⟩
def Ef(a b:Int):decide ((Sum.inl a:Key)=Sum.inl b)=(a==b):=by
 by_cases e:a=b
 ·subst e;simp
 ·have h:¬ (Sum.inl a:Key)=Sum.inl b:=λq=>e (Sum.inl.inj q)
  rw[w_ h]
  exact (o_.mpr e).symm
def Dn(a b:Str):decide ((Sum.inr a:Key)=Sum.inr b)=decide (a=b):=by
 by_cases e:a=b
 ·subst e;simp
 ·have h:¬ (Sum.inr a:Key)=Sum.inr b:=λq=>e (Sum.inr.inj q)
  rw[w_ h,w_ e]
def Ga(a:Int)(b:Str):decide ((Sum.inl a:Key)=Sum.inr b)=false:=w_ (λq=>nomatch q)
def Hd(a:Str)(b:Int):decide ((Sum.inr a:Key)=Sum.inl b)=false:=w_ (λq=>nomatch q)
def rZ(prog:Program)(w:World):PySem.KeyKind prog w Key where
 is:=Au
 hash:=keyH w
 inj
  := λv a b ha hb=>by
  rcases bL ha with ⟨i,t,rfl,rfl⟩ |⟨x,t,rfl,rfl⟩
  ·rcases bL hb with ⟨j,u,rfl,e⟩ |⟨y,u,rfl,e⟩
   ·injection e with e1 _;rw[e1]
   ·exact nomatch e
  ·rcases bL hb with ⟨j,u,rfl,e⟩ |⟨y,u,rfl,e⟩
   ·exact nomatch e
   ·injection e with e1 _;rw[e1]
 byValue:=λk v h=>by
  rcases bL h with ⟨i,t,rfl,rfl⟩ |⟨x,t,rfl,rfl⟩ <;> rfl
 pyHash:=λhv h=>by
  rcases bL hv with ⟨i,t,rfl,rfl⟩ |⟨x,t,rfl,rfl⟩
  ·exact wpAny_pyHash_int h
  ·exact wpAny_pyHash_str h
 eqBool:=λhu hv h=>by
  rcases bL hu with ⟨i,t,rfl,rfl⟩ |⟨x,t,rfl,rfl⟩
  ·rcases bL hv with ⟨j,u,rfl,rfl⟩ |⟨y,u,rfl,rfl⟩
   ·rw[Ef] at h;exact wpAny_eqBool_int h
   ·rw[Ga] at h;exact SeqAt.EqAt.int_str i t y u _ _ _ _ h
  ·rcases bL hv with ⟨j,u,rfl,rfl⟩ |⟨y,u,rfl,rfl⟩
   ·rw[Hd] at h;exact SeqAt.EqAt.str_int x t j u _ _ _ _ h
   ·rw[Dn] at h;exact wpAny_eqBool_str h
 «strs»:=λk x t v h=>by
  rcases bL h with ⟨i,u,rfl,e⟩ |⟨y,u,rfl,e⟩
  ·exact nomatch e
  ·injection e with e1 _
   subst e1
   cases v <;> rfl
inductive V where
 |non |bl (b:Bool) |int (i:Int) |str (x:Str) |byt (b:Array UInt8) |flt (b:UInt64) |ref (a:Addr) |ty (n:String)
 deriving DecidableEq
noncomputable def RelV:V->Value->Prop
 |.non,u=>u=Value.none
 |.bl b,u=>u=Value.bool b
 |.int i,u=>∃t,u=Value.int i t
 |.str x,u=>∃t,u=Value.str x t
 |.byt b,u=>∃t,u=Value.bytes b t
 |.flt b,u=>∃t,u=Value.float b t
 |.ref a,u=>u=Value.ref a
 |.ty n,u=>u=Value.type n
abbrev Vals:List V->List Value->Prop:=Paired RelV
noncomputable def Vals.length(r:Vals xs us):xs.length=us.length:=Paired.length r
def Vals.get{xs:List V}{us:List Value}{i:Nat}{x:V}(r:Vals xs us)(e:xs[i]?=some x):∃u,us[i]?=some u/\RelV x u:=by
 induction r generalizing i with
 |nil=>rw[K6] at e;cases e
 |
  cons r t ih=>
  cases i with
  |zero=>cases e;exact⟨_,rfl,r⟩
  |succ i=>exact ih (i:=i) e
def Vals.set(r:RelV x u)(i:Nat)(q:Vals xs us):Vals (xs.set i x) (us.set i u):=by
 induction q generalizing i with
 |nil=>exact .nil
 |
  cons q t ih=>
  cases i with
  |zero=>exact .cons r t
  |succ i=>exact .cons q (ih i)
noncomputable def Vals.append(r:Vals xs us)(s:Vals ys ws):Vals (xs++ys) (us++ws):=by
 induction r with
 |nil=>exact s
 |cons r t ih=>exact .cons r ih
noncomputable def Vals.take(n:Nat)(r:Vals xs us):Vals (xs.take n) (us.take n):=by
 induction r generalizing n with
 |nil=>rw[LD,LD];exact .nil
 |
  cons r t ih=>
  cases n with
  |zero=>exact .nil
  |succ n=>exact .cons r (ih n)
noncomputable def Vals.drop(n:Nat)(r:Vals xs us):Vals (xs.drop n) (us.drop n):=by
 induction r generalizing n with
 |nil=>rw[L4,L4];exact .nil
 |
  cons r t ih=>
  cases n with
  |zero=>exact .cons r t
  |succ n=>exact ih n
def y9:Option V->Option Value->Prop
 |some v,some u=>RelV v u
 |none,none=>True
 |_,_=>False
def KV{κ:Type}:List (κ×V)->List (κ×Value)->Prop:=Paired λ(p:κ×V) (q:κ×Value)=>p.1=q.1/\RelV p.2 q.2
def kV:Key->V
 |.inl i=>.int i
 |.inr x=>.str x
inductive HO where
 |lst (xs:List V)
 |tup (xs:List V)
 |dK (kvs:List (Key×V)) |dT (kvs:List (List Key×V))
 |set (S:Int->Bool) (n:Nat)
 |ins (C dx:Addr) (fs:List (Str×V))
 |own (x:Addr)
 |xd (fs:List (Str×V))
 |met (f x:Addr)
 |rng (lo hi:Int)
 |frz (o:Obj) (u:HO)
 |tbl (ps:Array Value)
 |ext (φ:Heap->Prop)
abbrev Hp:=Addr->Option HO
def upd(H:Hp)(a:Addr)(o:HO):Hp:=λb=>if b=a then some o else H b
def cJ:upd H a o a=some o:=by unfold upd;rw[if_pos rfl]
def aL(h:b≠a):upd H a o b=H b:=by unfold upd;rw[if_neg h]
def bK{H:Hp}{a b:Addr}{o:HO}(h:H a=some o)(h':H b=none):a≠b:=by
 intro e;subst e;rw[h] at h';cases h'
section
variable(P:Program)(w:World)
def ObjOk(H:Hp)(h:Heap)(a:Addr):HO->Prop
 |.lst xs=>xs.length<=sizeLine/\∃(its:List Value) (n:Nat),Vals xs its/\h.get? a=some { cls:=.type "list",data:=.seq its.toArray n }
 |.tup xs=>xs.length<=sizeLine/\∃its:List Value,Vals xs its/\IsTup h a its.toArray
 |.dK kvs=>kvs.length<=sizeLine/\(a==sysModules)=false/\∃vs,KV kvs vs/\h.DictOf (rZ P w) a vs
 |.dT kvs=>kvs.length<=sizeLine/\(a==sysModules)=false/\∃xs:List (List Key×Addr×Value),
  Paired (λ(p:List Key×V) (q:List Key×Addr×Value)=>p.1=q.1/\H q.2.1=some (.tup (p.1.map kV))/\RelV p.2 q.2.2) kvs xs/\
  ∃o es ep,h.get? a=some o/\o.ExactDict/\o.data=.dict es ep/\es.toList=xs.map (entryOfKey (tupleKind (rZ P w)))/\(xs.map (·.1)).Nodup
 |.set S n=>h.SetOf (intKind P w) a S n
 |.ins C dx fs=>H dx=some (.own a)/\fs.length<=1000/\dx≠a/\h.get? a=some (W.instObj C dx)/\
  ∃mA,h.Ns1 dx mA/\(∀f,y9 (fs.lookup f) (mA f))/\PySem.Within mA (fs.map (·.1))
 |.own _=>∃o,h.get? a=some o
 |.xd fs=>∃mA,h.Ns1 a mA/\∀f,y9 (fs.lookup f) (mA f)
 |.rng lo hi=>∃t u v,h.get? a=some { cls:=.type "range",data:=.fields #[.int lo t,.int hi u,.int 1 v] }
 |.frz o u=>h.get? a=some o/\ObjOk H h a u
 |.tbl ps=>h.get? a=some { cls:=.none,data:=.fields ps }
 |.met f x=>h.get? a=some (W.methodObj (.ref f) (.ref x))
 |.ext φ=>φ h/\(∃o,h.get? a=some o)/\∀h1 h2:Heap,φ h1->(∀o,h1.get? a=some o->h2.get? a=some o)->φ h2
def HOk(H:Hp)(h:Heap):Prop:=∀a o,H a=some o->ObjOk P w H h a o
end
section
variable{P:Program}{w:World}{H H':Hp}{h h':Heap}{a:Addr}{o:HO}
def ObjOk.lt(x:ObjOk P w H h a o):a<h.objs.size:=by
 cases o with
 |lst xs=>obtain⟨_,_,_,_,e⟩:=x;exact v_ e
 |tup xs=>obtain⟨_,_,_,p⟩:=x;exact p.lt
 |dK kvs=>obtain⟨_,_,_,_,o,_,_,e,_⟩:=x;exact v_ e
 |dT kvs=>obtain⟨_,_,_,_,o,_,_,e,_⟩:=x;exact v_ e
 |set S n=>obtain⟨o,_,_,_,e,_⟩:=x;exact v_ e
 |ins C dx fs=>obtain⟨_,_,_,e,_⟩:=x;exact v_ e
 |own y=>obtain⟨_,e⟩:=x;exact v_ e
 |xd fs=>obtain⟨_,⟨_,_,_,e,_⟩,_⟩:=x;exact v_ e
 |rng lo hi=>obtain⟨_,_,_,e⟩:=x;exact v_ e
 |frz ob u=>obtain⟨e,_⟩:=x;exact v_ e
 |tbl ps=>exact v_ (show h.get? a=some _ from x)
 |met f y=>exact v_ (show h.get? a=some _ from x)
 |ext φ=>obtain⟨_,⟨_,e⟩,_⟩:=x;exact v_ e
def Paired.mapP(r:Paired F l₁ l₂)(f:∀a b,F a b->G a b):Paired G l₁ l₂:=by
 induction r with
 |nil=>exact .nil
 |cons r t ih=>exact .cons (f _ _ r) ih
def ObjOk.stay(x:ObjOk P w H h a o)(k:∀b u,(b=a\/H b=some (.own a))->h.get? b=some u->h'.get? b=some u)
 (ho:∀b,H b=some (.own a)->H' b=some (.own a)) (ht:∀b xs,H b=some (.tup xs)->H' b=some (.tup xs)):ObjOk P w H' h' a o:=by
 induction o with
 |lst xs=>obtain⟨z,its,n,r,e⟩:=x;exact⟨z,its,n,r,k _ _ (.inl rfl) e⟩
 |tup xs=>obtain⟨z,its,r,ob,e,c⟩:=x;exact⟨z,its,r,ob,k _ _ (.inl rfl) e,c⟩
 |dK kvs=>obtain⟨z,y,vs,r,ob,es,ep,e,c⟩:=x;exact⟨z,y,vs,r,ob,es,ep,k _ _ (.inl rfl) e,c⟩
 |
  dT kvs=>
  obtain⟨z,y,xs,r,ob,es,ep,e,c⟩:=x
  exact⟨z,y,xs,Paired.mapP r λp q z=>⟨z.1,ht _ _ z.2.1,z.2.2⟩,ob,es,ep,k _ _ (.inl rfl) e,c⟩
 |set S n=>obtain⟨ob,es,ep,t,e,c⟩:=x;exact⟨ob,es,ep,t,k _ _ (.inl rfl) e,c⟩
 |
  ins C dx fs=>
  obtain⟨d,z,ne,e,mA,⟨od,es,ep,e2,c⟩,r⟩:=x
  exact⟨ho _ d,z,ne,k _ _ (.inl rfl) e,mA,⟨od,es,ep,k _ _ (.inr d) e2,c⟩,r⟩
 |own y=>obtain⟨ob,e⟩:=x;exact⟨ob,k _ _ (.inl rfl) e⟩
 |xd fs=>obtain⟨mA,⟨od,es,ep,e,c⟩,r⟩:=x;exact⟨mA,⟨od,es,ep,k _ _ (.inl rfl) e,c⟩,r⟩
 |rng lo hi=>obtain⟨t,u,v,e⟩:=x;exact⟨t,u,v,k _ _ (.inl rfl) e⟩
 |frz ob u ih=>obtain⟨e,q⟩:=x;exact⟨k _ _ (.inl rfl) e,ih q⟩
 |
  tbl ps=>
  have e:h.get? a=some { cls:=.none,data:=.fields ps }:=x
  show h'.get? a=some { cls:=.none,data:=.fields ps }
  exact k a _ (.inl rfl) e
 |
  met f y=>
  have e:h.get? a=some (W.methodObj (.ref f) (.ref y)):=x
  show h'.get? a=some (W.methodObj (.ref f) (.ref y))
  exact k a _ (.inl rfl) e
 |ext φ=>obtain⟨p,⟨o,e⟩,st⟩:=x;exact⟨st _ _ p λo q=>k _ _ (.inl rfl) q,⟨o,k _ _ (.inl rfl) e⟩,st⟩
def HOk.lt(x:HOk P w H h)(e:H a=some o):a<h.objs.size:=(x a o e).lt
def HOk.fresh(x:HOk P w H h)(e:h.objs.size<=a):H a=none:=by
 cases q:H a with
 |none=>rfl
 |some u=>exact absurd (y_ (x.lt q) e) (K1 _)
def HOk.kept(x:HOk P w H h)(k:∀b u,h.get? b=some u->h'.get? b=some u):HOk P w H h':=λa o e=>
 (x a o e).stay (λb u _ q=>k b u q) (λ_ q=>q) λ_ _ q=>q
def HOk.laid(x:HOk P w H h)(k:∀b u,h.get? b=some u->h'.get? b=some u)(hp:h.objs.size<=a)(new:ObjOk P w (upd H a o) h' a o):HOk P w (upd H a o) h':=λb u e=>by
 have hn:=x.fresh hp
 by_cases hb:b=a
 ·subst hb;rw[cJ] at e;cases e;exact new
 ·rw[aL hb] at e
  exact (x b u e).stay (λc v _ q=>k c v q) (λc q=>by rw[aL (bK q hn)];exact q) λc xs q=>by rw[aL (bK q hn)];exact q
end
def Rd(H:Hp)(a:Addr)(u:HO):Prop:=H a=some u\/∃o,H a=some (.frz o u)
def Rd.ok(r:Rd H a u)(x:HOk P w H h):ObjOk P w H h a u:=by
 rcases r with r |⟨o,r⟩
 ·exact x a u r
 ·obtain⟨_,q⟩:=x a _ r
  exact q
def Mut:Option HO->Prop
 |some (.lst _)=>True
 |some (.dK _)=>True
 |some (.dT _)=>True
 |some (.set _ _)=>True
 |some (.ins _ _ _)=>True
 |some (.ext _)=>True
 |_=>False
section
variable{P:Program}{w:World}{H:Hp}{h h':Heap}{x e:Addr}{o':HO}
def HOk.write(ok:HOk P w H h)(mu:Mut (H x))(he:e=x\/H e=some (.own x))(k:∀b u,b≠e->h.get? b=some u->h'.get? b=some u)(heo:∃u,h'.get? e=some u)
 (new:ObjOk P w (upd H x o') h' x o'):HOk P w (upd H x o') h':=λb u q=>by
 have nown:∀c y,H c=some (.own y)->c≠x:=λc y r z=>by subst z;rw[r] at mu;exact mu
 have ntup:∀c xs,H c=some (.tup xs)->c≠x:=λc xs r z=>by subst z;rw[r] at mu;exact mu
 by_cases hb:b=x
 ·subst hb;rw[cJ] at q;cases q;exact new
 ·rw[aL hb] at q
  by_cases hbe:b=e
  ·have q':H b=some (.own x):=by
    rcases he with z |z
    ·exact absurd (hbe.trans z) hb
    ·rw[hbe];exact z
   rw[q] at q';cases q'
   obtain⟨v,hv⟩:=heo
   exact⟨v,by rw[hbe];exact hv⟩
  ·refine (ok b u q).stay (λc v hc r=>k c v ?_ r) (λc r=>by rw[aL (nown c b r)];exact r) λc xs r=>by rw[aL (ntup c xs r)];exact r
   rcases hc with rfl |hc
   ·exact hbe
   ·rintro rfl
    rcases he with z |z
    ·exact nown c b hc z
    ·rw[hc] at z;cases z;exact hb rfl
end
structure Un(fs ex:List Addr)(H H':Hp)(h h':Heap):Prop where
 keep:∀b o,h.get? b=some o->H b=none->b∉fs->b∉ex->h'.get? b=some o
 slot:∀b o,h.get? b=some o->H b=none->b∈fs->b∉ex->∃sl,h'.get? b=some { o with slots:=sl }
 free:∀b o,h.get? b=some o->H b=none->b∉ex->H' b=none
 there:∀b o,h.get? b=some o->b∉ex->∃o',h'.get? b=some o'
 tups:∀b xs,H b=some (.tup xs)->H' b=some (.tup xs)
 frzs:∀b o u,H b=some (.frz o u)->H' b=some (.frz o u)
 tbls:∀b ps,H b=some (.tbl ps)->∃more,H' b=some (.tbl (ps++more))
section
variable{fs fs' ex ex':List Addr}{H H1 H2:Hp}{h h1 h2 h':Heap}{a x e:Addr}{o:HO}
def Un.any(u:Un fs ex H H1 h h1)(q:h.get? b=some ob)(n:H b=none)(hx:b∉ex):∃sl,h1.get? b=some { ob with slots:=sl }:=by
 by_cases hb:b∈fs
 ·exact u.slot b ob q n hb hx
 ·exact⟨ob.slots,u.keep b ob q n hb hx⟩
noncomputable def Un.kept(k:∀b u,h.get? b=some u->h'.get? b=some u):Un fs ex H H h h':=
 ⟨λb ob q _ _ _=>k b ob q,λb ob q _ _ _=>⟨ob.slots,k b ob q⟩,λ_ _ _ n _=>n,λb ob q _=>⟨ob,k b ob q⟩,λ_ _ q=>q,λ_ _ _ q=>q,λ_ ps q=>⟨#[],by rw[q];simp⟩⟩
def Un.refl:Un fs ex H H h h:=Un.kept λ_ _ q=>q
def Un.laid(k:∀b u,h.get? b=some u->h'.get? b=some u)(hp:h.objs.size<=a)(hn:H a=none):Un fs ex H (upd H a o) h h' where
 keep:=λb u q _ _ _=>k b u q
 slot:=λb u q _ _ _=>⟨u.slots,k b u q⟩
 free:=λb u q n _=>by rw[aL (Kn (y_ (v_ q) hp))];exact n
 there:=λb u q _=>⟨u,k b u q⟩
 tups:=λb xs q=>by rw[aL (bK q hn)];exact q
 frzs:=λb u xs q=>by rw[aL (bK q hn)];exact q
 tbls:=λb ps q=>⟨#[],by rw[aL (bK q hn),q];simp⟩
def Un.write(mu:Mut (H x))(he:e=x\/H e=some (.own x))(k:∀b u,b≠e->h.get? b=some u->h'.get? b=some u)(heo:∃u,h'.get? e=some u):Un fs ex H (upd H x o) h h':=by
 have hx:∀b,H b=none->b≠x:=λb n z=>by subst z;rw[n] at mu;exact mu
 have hb:∀b,H b=none->b≠e:=λb n z=>by
  subst z
  rcases he with r |r
  ·exact hx b n r
  ·rw[n] at r;cases r
 have hm:∀b u,H b=some u->¬ Mut (some u)->b≠x:=λb u q nm z=>by subst z;rw[q] at mu;exact nm mu
 refine⟨λb u q n _ _=>k b u (hb b n) q,λb u q n _ _=>⟨u.slots,k b u (hb b n) q⟩,λb u q n _=>by rw[aL (hx b n)];exact n,λb u q _=>?_,
  λb xs q=>by rw[aL (hm b _ q λz=>z)];exact q,λb u xs q=>by rw[aL (hm b _ q λz=>z)];exact q,λb ps q=>⟨#[],by rw[aL (hm b _ q λz=>z),q];simp⟩⟩
 by_cases hbe:b=e
 ·subst hbe;exact heo
 ·exact⟨u,k b u hbe q⟩
end
def trk(h:Heap)(H:Hp):List Addr:=(List.range h.objs.size).filter λa=>(H a).isSome
def iD(h:Heap)(H:Hp):Heap:=W.hideAll h (trk h H)
def wa(h:Heap)(H:Hp):(iD h H).objs.size=h.objs.size:=W.hideAll_size _ _
def xG(e:h.get? b=some o)(n:H b=none):(iD h H).get? b=some o:=
 W.hideAll_get _ e λhm=>by
  have q:(H b).isSome=true:=(List.mem_filter.mp hm).2
  rw[n] at q;simp at q
def AX(e:(iD h H).get? b=some o):h.get? b=some o/\H b=none:=by
 have e':h.get? b=some o:=W.of_hideAll (trk h H) e
 refine⟨e',?_⟩
 cases q:H b with
 |none=>rfl
 |
  some x=>
  have hm:b∈trk h H:=List.mem_filter.mpr ⟨K3.mpr (v_ e'),by simp [q]⟩
  have z:(iD h H).get? b=none:=W.hideAll_none (trk h H) hm
  rw[z] at e;cases e
noncomputable def Bz(g h:Heap)(L:Addr):List (Addr×Obj):=(List.range h.objs.size).filterMap λa=>if a=L\/(g.get? a).isSome=true then none else (h.get? a).map λo=>(a,o)
def aV(g h:Heap)(L d:Addr):List (Addr×Obj):=(Bz g h L).filter λp=>decide (p.1≠d)
structure Mod(K:W.Frag)(mg:Na)(base:Heap):Prop where
 kin:K.In base
 glob:base.Ns mainGlobals mg
 blt:∃mb,base.Ns builtinsNs mb/\∀x:Str,x ≠ "__name__"->mb x=bootBuiltins x
 nolimit:base.NoLimit
structure Cx where
 prog:Program
 w:World
 K:W.Frag
 mg:Str->Option Value
 base:Heap
 A:Around
 N:List Str
 s₀:Shared
 H₀:Hp
 env:Env
 outer:List Env
 stack:List Env
 ex:List Addr
 fn:Str->Bool
 calm:Bool
 pn:List (Addr×Obj)
 xe:Value->Shared->Prop
noncomputable def frs(l:List Env):List Addr:=l.filterMap (·.frame)
abbrev Cx.fs(X:Cx):List Addr:=frs X.outer
def Vis(sc:Scope)(x:Str):Prop:=sc.names.lookup x=some .local\/sc.names.lookup x=some .cell\/sc.names.lookup x=some .free
def Loc(sc:Scope)(x:Str):Prop:=sc.names.lookup x=some .local\/sc.names.lookup x=some .cell
def Look(env:Env)(h:Heap)(m:Na)(x:Str)(u:Value):Prop:=
 (env.kindOf x=some .local/\m x=some u)\/((env.kindOf x=some .cell\/env.kindOf x=some .free)/\∃c,env.cells.lookup x=some c/\h.IsCell c (some u))
structure Cx.Ok(X:Cx):Prop where
 mod:Mod X.K X.mg X.base
 kind:X.env.scope.kind=.function
 glob:X.env.globals=mainGlobals
 blt:X.env.builtins=builtinsNs
 above:X.s₀.heap.objs.size<=X.env.locals
 inj:∀x y c,X.env.cells.lookup x=some c->X.env.cells.lookup y=some c->x=y
 has:∀x,(X.env.kindOf x=some .cell\/X.env.kindOf x=some .free)->∃c,X.env.cells.lookup x=some c
 cab:∀x c,X.fn x=true->X.env.cells.lookup x=some c->X.s₀.heap.objs.size<=c
 hd:X.calm=true->X.A.handled=none
 frames:X.A.frames=some X.stack
 stk:X.stack=X.outer\/(X.stack=X.env::X.outer/\X.env.frame=some X.env.locals)
 exf:∀b∈X.ex,b≠X.env.locals/\∀x c,X.env.cells.lookup x=some c->c≠b
 bs:∀b o,X.base.get? b=some o->X.s₀.heap.get? b=some o/\X.H₀ b=none
 bsz:X.base.objs.size<=X.s₀.heap.objs.size
 noex:∀b o,X.base.get? b=some o->b∉X.ex
 exfs:∀b∈X.ex,b∉X.fs
 funs:X.s₀.heap.FunFrames X.base X.outer
 frf:∀b∈X.fs,X.H₀ b=none
structure Inv(X:Cx)(pins:Nb)(σ:List (Option V))(H:Hp)(s:Shared):Prop where
 ok:X.Ok
 os:s.os=X.s₀.os
 bare:AllBare s.gens
 base:Un X.fs X.ex X.H₀ H X.s₀.heap s.heap
 loc:∃m,s.heap.Ns X.env.locals m/\∀(i:Nat) (x:Str) (v:V),X.N[i]?=some x->σ[i]?=some (some v)->Vis X.env.scope x->∃u,RelV v u/\Look X.env s.heap m x u
 cell:∀x c,X.env.cells.lookup x=some c->∃v,s.heap.IsCell c v
 free:H X.env.locals=none
 freeC:∀x c,X.env.cells.lookup x=some c->H c=none
 pin:∀p∈X.pn++pins,s.heap.get? p.1=some p.2/\H p.1=none/\p.1≠X.env.locals/\p.1∉X.fs/\∀v,p.2.data ≠ .cell v
 hok:HOk X.prog X.w H s.heap
 len:σ.length=X.N.length
section
variable{X:Cx}{pins:Nb}{σ:List (Option V)}{H H':Hp}{s:Shared}{h':Heap}
def Cx.Ok.nofr(ok:X.Ok)(e:X.base.get? b=some o):b∉X.fs:=λhb=>by
 have:=(ok.funs.mem hb).1
 rw[e] at this;cases this
def Inv.bs(I:Inv X pins σ H s):∀b o,X.base.get? b=some o->s.heap.get? b=some o/\H b=none:=λb o e=>
 ⟨I.base.keep b o (I.ok.bs b o e).1 (I.ok.bs b o e).2 (I.ok.nofr e) (I.ok.noex b o e),I.base.free b o (I.ok.bs b o e).1 (I.ok.bs b o e).2 (I.ok.noex b o e)⟩
def Inv.bk(I:Inv X pins σ H s):∀b o,X.base.get? b=some o->s.heap.get? b=some o:=λb o e=>(I.bs b o e).1
def Inv.mod(I:Inv X pins σ H s):Mod X.K X.mg X.base:=I.ok.mod
def Inv.kIn(I:Inv X pins σ H s):X.K.In s.heap:=I.ok.mod.kin.keeps I.bk
def Inv.lt(I:Inv X pins σ H s):X.env.locals<s.heap.objs.size:=let ⟨_,hn,_⟩:=I.loc;hn.lt
def Inv.sz(I:Inv X pins σ H s):X.s₀.heap.objs.size<=s.heap.objs.size:=x_ I.ok.above (Mx I.lt)
def Inv.nofs(I:Inv X pins σ H s)(h:s.heap.objs.size<=a):a∉X.fs:=λhb=>by
 obtain⟨_,o,ho,_⟩:=I.ok.funs.mem hb
 exact absurd (y_ (v_ ho) (x_ I.sz h)) (K1 _)
def Inv.cne(I:Inv X pins σ H s):∀x c,X.env.cells.lookup x=some c->c≠X.env.locals:=λx c e z=>by
 obtain⟨v,o,ho,hd⟩:=I.cell x c e
 obtain⟨m,⟨o',es,ep,ho',hd',_⟩,_⟩:=I.loc
 rw[z,ho'] at ho;cases ho;rw[hd'] at hd;cases hd
def Inv.funs(I:Inv X pins σ H s):s.heap.FunFrames X.base X.outer:=by
 have all:∀(l:List Env),(∀b∈frs l,b∈X.fs)->X.s₀.heap.FunFrames X.base l->s.heap.FunFrames X.base l:=by
  intro l
  induction l with
  |nil=>intro _ _;trivial
  |
   cons env r ih=>
   intro hs hl
   obtain⟨hk,⟨L,o,hf,hn,ho,hd⟩,hr⟩:=hl
   have hL:L∈X.fs:=hs L (by unfold frs;rw[Lg,hf];exact m_)
   obtain⟨sl,e⟩:=I.base.slot L o ho (I.ok.frf L hL) hL λz=>I.ok.exfs L z hL
   exact⟨hk,⟨L,_,hf,hn,e,hd⟩,ih (λb hb=>hs b (by unfold frs;rw[Lg,hf];exact i_ _ hb)) hr⟩
 exact all X.outer (λ_ hb=>hb) I.ok.funs
def Inv.stack(I:Inv X pins σ H s):s.heap.FunFrames X.base X.stack:=by
 rcases I.ok.stk with e |⟨e,hf⟩
 ·rw[e];exact I.funs
 ·rw[e]
  obtain⟨m,hn,_⟩:=I.loc
  refine .cons (by rw[I.ok.kind];decide) hf hn ?_ I.funs
  exact Mp (x_ I.ok.bsz I.ok.above)
def Inv.stkSub(I:Inv X pins σ H s):∀b∈frs X.stack,b∈X.env.locals::X.fs:=λb hb=>by
 rcases I.ok.stk with e |⟨e,hf⟩
 ·rw[e] at hb;exact i_ _ hb
 ·rw[e] at hb
  unfold frs at hb
  rw[Lg,hf] at hb
  exact hb
def Inv.stkFree(I:Inv X pins σ H s):∀b∈frs X.stack,H b=none:=λb hb=>by
 rcases B_.mp (I.stkSub b hb) with e |hb
 ·rw[e];exact I.free
 ·obtain⟨_,o,ho,_⟩:=I.ok.funs.mem hb
  exact I.base.free b o ho (I.ok.frf b hb) λz=>I.ok.exfs b z hb
def Inv.step{g':Array GenState}{t':Nat}{d':Drawn}{ch:List Addr}(I:Inv X pins σ H s)
 (hch:∀b∈ch,(b∈X.ex\/X.s₀.heap.objs.size<=b)/\b≠X.env.locals/\(∀x c,X.env.cells.lookup x=some c->c≠b)/\∀p∈X.pn++pins,p.1≠b)
 (keep:∀b o,b≠X.env.locals->b∉X.fs->b∉ch->s.heap.get? b=some o->H b=none->h'.get? b=some o)
 (slot:∀b o,b≠X.env.locals->b∈X.fs->b∉ch->s.heap.get? b=some o->H b=none->∃sl,h'.get? b=some { o with slots:=sl }) (free:∀b o,b∉ch->s.heap.get? b=some o->H b=none->H' b=none)
 (there:∀b o,b∉ch->s.heap.get? b=some o->∃o',h'.get? b=some o')
 (tups:∀b xs,H b=some (.tup xs)->H' b=some (.tup xs)) (frzs:∀b o u,H b=some (.frz o u)->H' b=some (.frz o u)) (tbls:∀b ps,H b=some (.tbl ps)->∃more,H' b=some (.tbl (ps++more)))
 (ns:∀m,s.heap.Ns X.env.locals m->h'.Ns X.env.locals m) (hok:HOk X.prog X.w H' h') (hg:AllBare g'):
 Inv X pins σ H' { s with heap:=h',gens:=g',drawn:=d',toks:=t' }:=by
 have neL:∀b o,X.s₀.heap.get? b=some o->b≠X.env.locals:=λb o e=>Kn (y_ (v_ e) I.ok.above)
 have neC:∀b o,X.s₀.heap.get? b=some o->b∉X.ex->b∉ch:=λb o e hx hb=>by
  rcases (hch b hb).1 with z |z
  ·exact hx z
  ·exact absurd (y_ (v_ e) z) (K1 _)
 have cellK:∀x c,X.env.cells.lookup x=some c->∀v,s.heap.IsCell c v->h'.IsCell c v:=λx c e v ⟨o,ho,hd⟩=>by
  have nch:c∉ch:=λz=>(hch c z).2.2.1 x c e rfl
  by_cases hc:c∈X.fs
  ·obtain⟨sl,q⟩:=slot c o (I.cne x c e) hc nch ho (I.freeC x c e)
   exact⟨_,q,hd⟩
  ·exact⟨o,keep c o (I.cne x c e) hc nch ho (I.freeC x c e),hd⟩
 refine⟨I.ok,I.os,hg,⟨λb o e n hb hx=>?_,λb o e n hb hx=>?_,λb o e n hx=>?_,λb o e hx=>?_,λb xs e=>tups b xs (I.base.tups b xs e),λb o xs e=>frzs b o xs (I.base.frzs b o xs e),λb ps e=>?_⟩,?_,λx c e=>?_,?_,λx c e=>?_,λp hp=>?_,hok,I.len⟩
 ·exact keep b o (neL b o e) hb (neC b o e hx) (I.base.keep b o e n hb hx) (I.base.free b o e n hx)
 ·obtain⟨sl,e1⟩:=I.base.slot b o e n hb hx
  obtain⟨sl',e2⟩:=slot b _ (neL b o e) hb (neC b o e hx) e1 (I.base.free b o e n hx)
  exact⟨sl',e2⟩
 ·obtain⟨o',e1⟩:=I.base.there b o e hx
  exact free b o' (neC b o e hx) e1 (I.base.free b o e n hx)
 ·obtain⟨o',e1⟩:=I.base.there b o e hx
  exact there b o' (neC b o e hx) e1
 ·obtain⟨m1,e1⟩:=I.base.tbls b ps e
  obtain⟨m2,e2⟩:=tbls b _ e1
  exact⟨m1++m2,by rw[e2,Array.append_assoc]⟩
 ·obtain⟨m,hn,hl⟩:=I.loc
  refine⟨m,ns m hn,λi x v e1 e2 e3=>?_⟩
  obtain⟨u,r,l⟩:=hl i x v e1 e2 e3
  refine⟨u,r,?_⟩
  rcases l with l |⟨k,c,e,z⟩
  ·exact .inl l
  ·exact .inr ⟨k,c,e,cellK x c e _ z⟩
 ·obtain⟨v,z⟩:=I.cell x c e
  exact⟨v,cellK x c e v z⟩
 ·obtain⟨m,⟨o,_,_,ho,_⟩,_⟩:=I.loc
  exact free _ o (λz=>(hch _ z).2.1 rfl) ho I.free
 ·obtain⟨v,o,ho,hd⟩:=I.cell x c e
  exact free c o (λz=>(hch c z).2.2.1 x c e rfl) ho (I.freeC x c e)
 ·obtain⟨e,n,ne,nf,d⟩:=I.pin p hp
  have nch:p.1∉ch:=λz=>(hch p.1 z).2.2.2 p hp rfl
  exact⟨keep p.1 p.2 ne nf nch e n,free p.1 p.2 nch e n,ne,nf,d⟩
def Inv.un{t':Nat}(I:Inv X pins σ H s)(u:Un X.fs [] H H' s.heap h')(hok:HOk X.prog X.w H' h'):Inv X pins σ H' { s with heap:=h',toks:=t' }:=by
 obtain⟨m,⟨o,es,ep,ho,r⟩,_⟩:=id I.loc
 obtain⟨sl,hL⟩:=u.any ho I.free (by simp)
 exact I.step (g':=s.gens) (d':=s.drawn) (ch:=[]) (λ_ z=>nomatch z) (λb o _ hb _ e n=>u.keep b o e n hb (by simp)) (λb o _ hb _ e n=>u.slot b o e n hb (by simp)) (λb o _ e n=>u.free b o e n (by simp)) (λb o _ e=>u.there b o e (by simp)) u.tups u.frzs u.tbls (λm' hm=>by
  obtain⟨o',es',ep',ho',r'⟩:=hm
  rw[ho] at ho';cases ho'
  exact⟨_,es',ep',hL,r'⟩) hok I.bare
def Inv.call{g':Array GenState}{t':Nat}{d':Drawn}{ch:List Addr}(I:Inv X pins σ H s)(u:Un (frs X.stack) ch H H' s.heap h')(hok:HOk X.prog X.w H' h')(hg:AllBare g')
 (hch:∀b∈ch,(b∈X.ex\/X.s₀.heap.objs.size<=b)/\b≠X.env.locals/\(∀x c,X.env.cells.lookup x=some c->c≠b)/\∀p∈X.pn++pins,p.1≠b):
 Inv X pins σ H' { s with heap:=h',gens:=g',drawn:=d',toks:=t' }:=by
 obtain⟨m,⟨o,es,ep,ho,r⟩,_⟩:=id I.loc
 obtain⟨sl,hL⟩:=u.any ho I.free λz=>(hch _ z).2.1 rfl
 exact I.step (ch:=ch) hch (λb o hL hb hc e n=>u.keep b o e n (λz=>(B_.mp (I.stkSub b z)).elim hL hb) hc) (λb o _ _ hc e n=>u.any e n hc) (λb o hc e n=>u.free b o e n hc) (λb o hc e=>u.there b o e hc) u.tups u.frzs u.tbls (λm' hm=>by
  obtain⟨o',es',ep',ho',r'⟩:=hm
  rw[ho] at ho';cases ho'
  exact⟨_,es',ep',hL,r'⟩) hok hg
def Inv.turned{t':Nat}{it:Addr}(I:Inv X pins σ H s)(k:∀b o,b≠it->s.heap.get? b=some o->h'.get? b=some o)(hn:H it=none)(hL:it≠X.env.locals)
 (h1:it∈X.ex\/X.s₀.heap.objs.size<=it) (h2:∀x c,X.env.cells.lookup x=some c->c≠it) (h3:∀p∈X.pn++pins,p.1≠it):Inv X pins σ H { s with heap:=h',toks:=t' }:=by
 have nit:∀b u,H b=some u->b≠it:=λb u e z=>by rw[z,hn] at e;cases e
 refine I.step (g':=s.gens) (d':=s.drawn) (ch:=[it]) (λb hb=>?_) (λb o _ _ hc e _=>k b o (λz=>hc (by simp [z])) e) (λb o _ _ hc e _=>⟨o.slots,k b o (λz=>hc (by simp [z])) e⟩) (λ_ _ _ _ n=>n)
  (λb o hc e=>⟨o,k b o (λz=>hc (by simp [z])) e⟩) (λ_ _ e=>e) (λ_ _ _ e=>e) (λb ps e=>⟨#[],by rw[e];simp⟩) (λm hm=>?_) (λb u e=>?_) I.bare
 ·have e:b=it:=by simpa using hb
  subst e
  exact⟨h1,hL,h2,h3⟩
 ·obtain⟨o,es,ep,ho,r⟩:=hm
  exact⟨o,es,ep,k _ o (Ne.symm hL) ho,r⟩
 ·refine (I.hok b u e).stay (λc v hc q=>k c v ?_ q) (λ_ q=>q) λ_ _ q=>q
  rcases hc with z |z
  ·rw[z];exact nit b u e
  ·exact nit c _ z
def Inv.tok(I:Inv X pins σ H s)(t:Nat):Inv X pins σ H { s with toks:=t }:=I.un (h':=s.heap) (t':=t) Un.refl I.hok
def Inv.kept(I:Inv X pins σ H s)(k:∀b u,s.heap.get? b=some u->h'.get? b=some u):Inv X pins σ H { s with heap:=h',toks:=t' }:=I.un (Un.kept k) (I.hok.kept k)
def Inv.laid(I:Inv X pins σ H s)(k:∀b u,s.heap.get? b=some u->h'.get? b=some u)(hp:s.heap.objs.size<=a)(new:ObjOk X.prog X.w (upd H a o) h' a o):
 Inv X pins σ (upd H a o) { s with heap:=h',toks:=t' }:=I.un (Un.laid k hp (I.hok.fresh hp)) (I.hok.laid k hp new)
def Inv.write(I:Inv X pins σ H s)(mu:Mut (H x))(he:e=x\/H e=some (.own x))(k:∀b u,b≠e->s.heap.get? b=some u->h'.get? b=some u)(heo:∃u,h'.get? e=some u)
 (new:ObjOk X.prog X.w (upd H x o) h' x o):Inv X pins σ (upd H x o) { s with heap:=h',toks:=t' }:=I.un (Un.write mu he k heo) (I.hok.write mu he k heo new)
def Inv.pins_of(I:Inv X pins σ H s)(h:∀p∈pins',s.heap.get? p.1=some p.2/\H p.1=none/\p.1≠X.env.locals/\p.1∉X.fs/\∀v,p.2.data ≠ .cell v):Inv X pins' σ H s:=
 ⟨I.ok,I.os,I.bare,I.base,I.loc,I.cell,I.free,I.freeC,λp hp=>(KC.mp hp).elim (λz=>I.pin p (Mu _ z)) (h p),I.hok,I.len⟩
def pK{N:List Str}(hN:N.Nodup){i j:Nat}{x:Str}(a:N[i]?=some x)(b:N[j]?=some x):i=j:=by
 obtain⟨h1,e1⟩:=h_.mp a
 obtain⟨h2,e2⟩:=h_.mp b
 exact (List.getElem_inj hN).mp (e1.trans e2.symm)
def nQ(I:Inv X pins σ H s)(hN:X.N.Nodup)(hi:X.N[i]?=some x)(hx:Loc X.env.scope x)(r:RelV v u)
 (h:∀s',Inv X pins (σ.set i (some v)) H s'->(∃a,Heap.SameBut a s.heap s'.heap/\(a=X.env.locals\/X.env.cells.lookup x=some a))->Q () s') (hf:X.fn x=true\/X.env.scope.names.lookup x=some .local):wpAny M A (storeName X.env x u) Q E s:=by
 obtain⟨m,hn,hl⟩:=id I.loc
 have hcls:(X.env.scope.kind == .class || (X.env.scope.kind == .module&&X.env.locals != X.env.globals))=false:=by rw[I.ok.kind];rfl
 have hiσ:i<σ.length:=by rw[I.len];exact (h_.mp hi).1
 have cne:=I.cne
 have tracked:∀{a:Addr}{h':Heap},(∃o,s.heap.get? a=some o/\H a=none)->Heap.SameBut a s.heap h'->HOk X.prog X.w H h':=λ{a h'} ha hs b ob e=>by
  obtain⟨_,_,hfree⟩:=ha
  refine (I.hok b ob e).stay (λc w' hc q=>(hs.2 c ?_).trans q) (λ_ q=>q) λ_ _ q=>q
  rintro rfl
  rcases hc with rfl |hc
  ·rw[hfree] at e;cases e
  ·rw[hfree] at hc;cases hc
 rcases hx with hk |hk
 ·refine wpAny_storeName_local hk hn (λh' hn' hs=>?_) hcls
  obtain⟨oL,_,_,hoL,_⟩:=id hn
  refine h _ ⟨I.ok,I.os,I.bare,⟨λb o e n hb hx=>?_,λb o e n hb hx=>?_,I.base.free,λb o e hx=>?_,I.base.tups,I.base.frzs,I.base.tbls⟩,⟨_,hn',λj y v' e1 e2 e3=>?_⟩,λy c e=>?_,I.free,I.freeC,λp hp=>?_,tracked ⟨oL,hoL,I.free⟩ hs,by simpa using I.len⟩ ⟨_,hs,.inl rfl⟩
  ·exact (hs.2 b (Kn (y_ (v_ e) I.ok.above))).trans (I.base.keep b o e n hb hx)
  ·obtain⟨sl,e1⟩:=I.base.slot b o e n hb hx
   exact⟨sl,(hs.2 b (Kn (y_ (v_ e) I.ok.above))).trans e1⟩
  ·obtain⟨o',e1⟩:=I.base.there b o e hx
   exact⟨o',(hs.2 b (Kn (y_ (v_ e) I.ok.above))).trans e1⟩
  ·by_cases hj:j=i
   ·subst hj
    rw[hi] at e1;cases e1
    rw[List.getElem?_set_self hiσ] at e2
    cases e2
    exact⟨u,r,.inl ⟨hk,by simp⟩⟩
   ·rw[Ms (Ne.symm hj)] at e2
    obtain⟨u',r',q⟩:=hl j y v' e1 e2 e3
    refine⟨u',r',?_⟩
    rcases q with ⟨k,e⟩ |⟨k,c,e,z⟩
    ·refine .inl ⟨k,?_⟩
     have:y≠x:=λe=>hj (pK hN e1 (e ▸ hi))
     simp [this,e]
    ·exact .inr ⟨k,c,e,z.sameBut hs (cne y c e)⟩
  ·obtain⟨w',z⟩:=I.cell y c e
   exact⟨w',z.sameBut hs (cne y c e)⟩
  ·obtain⟨e,n,ne,nf,d⟩:=I.pin p hp
   exact⟨(hs.2 p.1 ne).trans e,n,ne,nf,d⟩
 ·have hfn:X.fn x=true:=by
   rcases hf with z |z
   ·exact z
   ·rw[z] at hk;cases hk
  obtain⟨c,hc⟩:=I.ok.has x (.inl hk)
  obtain⟨w',z⟩:=I.cell x c hc
  refine wpAny_storeName_cell I.ok.kind hk hc z (λh' hc' hs=>?_)
  obtain⟨oc,hoc,hocd⟩:=id z
  refine h { s with heap:=h' } ⟨I.ok,I.os,I.bare,⟨λb o e n hb hx=>?_,λb o e n hb hx=>?_,I.base.free,λb o e hx=>?_,I.base.tups,I.base.frzs,I.base.tbls⟩,⟨m,hn.sameBut hs (Ne.symm (cne x c hc)),λj y v' e1 e2 e3=>?_⟩,λy c' e=>?_,I.free,I.freeC,λp hp=>?_,tracked ⟨oc,hoc,I.freeC x c hc⟩ hs,by simpa using I.len⟩ ⟨c,hs,.inr hc⟩
  ·exact (hs.2 b (Kn (y_ (v_ e) (I.ok.cab x c hfn hc)))).trans (I.base.keep b o e n hb hx)
  ·obtain⟨sl,e1⟩:=I.base.slot b o e n hb hx
   exact⟨sl,(hs.2 b (Kn (y_ (v_ e) (I.ok.cab x c hfn hc)))).trans e1⟩
  ·obtain⟨o',e1⟩:=I.base.there b o e hx
   exact⟨o',(hs.2 b (Kn (y_ (v_ e) (I.ok.cab x c hfn hc)))).trans e1⟩
  ·by_cases hj:j=i
   ·subst hj
    rw[hi] at e1;cases e1
    rw[List.getElem?_set_self hiσ] at e2
    cases e2
    exact⟨u,r,.inr ⟨.inl hk,c,hc,hc'⟩⟩
   ·rw[Ms (Ne.symm hj)] at e2
    obtain⟨u',r',q⟩:=hl j y v' e1 e2 e3
    refine⟨u',r',?_⟩
    rcases q with q |⟨k,c',e,z'⟩
    ·exact .inl q
    ·refine .inr ⟨k,c',e,z'.sameBut hs ?_⟩
     rintro rfl
     exact hj (pK hN e1 (I.ok.inj _ _ _ e hc ▸ hi))
  ·by_cases hcc:c'=c
   ·subst hcc;exact⟨_,hc'⟩
   ·obtain⟨w2,z2⟩:=I.cell y c' e
    exact⟨w2,z2.sameBut hs hcc⟩
  ·obtain⟨e,n,ne,nf,d⟩:=I.pin p hp
   refine⟨(hs.2 p.1 ?_).trans e,n,ne,nf,d⟩
   intro q
   rw[q,hoc] at e
   have q':oc=p.2:=z_ e
   exact d w' (by rw[<- q'];exact hocd)
def ja(I:Inv X pins σ H s)(hN:X.N.Nodup)(hi:X.N[i]?=some x)(hx:Loc X.env.scope x)(r:RelV v u)
 (h:∀s',Inv X pins (σ.set i (some v)) H s'->Q () s') (hf:X.fn x=true\/X.env.scope.names.lookup x=some .local):wpAny M A (storeName X.env x u) Q E s:=
 nQ I hN hi hx r (λs' I' _=>h s' I') hf
def Inv.call'(I:Inv X pins σ H s)(ho:s'.os=s.os)(u:Un (frs X.stack) ch H H' s.heap s'.heap)(hok:HOk X.prog X.w H' s'.heap)(hg:AllBare s'.gens)
 (hch:∀b∈ch,(b∈X.ex\/X.s₀.heap.objs.size<=b)/\b≠X.env.locals/\(∀x c,X.env.cells.lookup x=some c->c≠b)/\∀p∈X.pn++pins,p.1≠b):Inv X pins σ H' s':=by
 obtain⟨h',g',d',t',o'⟩:=s'
 have e:o'=s.os:=ho
 subst e
 exact I.call (g':=g') (t':=t') (d':=d') u hok hg hch
end
abbrev XK:=Value->Option Addr->Hp->Prop
abbrev St:=List (Option V)
abbrev VK:=V->Hp->Prop
abbrev TE:=St->Hp->VK->Prop
abbrev TT:=St->Hp->(Bool->Hp->Prop)->Prop
abbrev TA:=St->Hp->(List V->Hp->Prop)->Prop
structure Ends where
 nx:St->Hp->Prop
 rt:VK
 bk:St->Hp->Prop:=λ_ _=>False
 ct:St->Hp->Prop:=λ_ _=>False
abbrev TS:=Ends->St->Hp->Prop
def EP(X:Cx)(pins:Nb)(σ:St)(Q:VK)(u:Value)(s':Shared):Prop:=∃v H',Inv X pins σ H' s'/\RelV v u/\Q v H'
def TP(X:Cx)(pins:Nb)(σ:St)(Q:Bool->Hp->Prop)(b:Bool)(s':Shared):Prop:=∃H',Inv X pins σ H' s'/\Q b H'
def AP(X:Cx)(pins:Nb)(σ:St)(Q:List V->Hp->Prop)(us:List Value)(s':Shared):Prop:=∃vs H',Inv X pins σ H' s'/\Vals vs us/\Q vs H'
def SP(X:Cx)(pins:Nb)(D:Ends)(f:Flow)(s':Shared):Prop:=
 match f with
 |.next=>∃σ' H',Inv X pins σ' H' s'/\D.nx σ' H'
 |.brk=>∃σ' H',Inv X pins σ' H' s'/\D.bk σ' H'
 |.cont=>∃σ' H',Inv X pins σ' H' s'/\D.ct σ' H'
 |.ret u=>∃v σ' H',Inv X pins σ' H' s'/\RelV v u/\D.rt v H'
def PE(X:Cx)(e:Expr)(t:TE):Prop:=
 ∀(pins:Nb) (s:Shared) (σ:St) (H:Hp) (Q:VK),Inv X pins σ H s->t σ H Q->wpAny (model X.prog X.w) X.A (eval e X.env) (EP X pins σ Q) X.xe s
def PT(X:Cx)(e:Expr)(t:TT):Prop:=
 ∀(pins:Nb) (s:Shared) (σ:St) (H:Hp) (Q:Bool->Hp->Prop),Inv X pins σ H s->t σ H Q->wpAny (model X.prog X.w) X.A (isTrue e X.env (eval e X.env)) (TP X pins σ Q) X.xe s
def PW(X:Cx)(e:Expr)(t:TT):Prop:=
 ∀(gl:Sem Value) (pins:Nb) (s:Shared) (σ:St) (H:Hp) (Q:Bool->Hp->Prop),Inv X pins σ H s->t σ H Q->wpAny (model X.prog X.w) X.A (isTrue e X.env gl) (TP X pins σ Q) X.xe s
noncomputable def PW.pt(h:PW X e t):PT X e t:=h _
def PA(X:Cx)(es:List Expr)(t:TA):Prop:=
 ∀(pos:Pos) (pins:Nb) (s:Shared) (σ:St) (H:Hp) (Q:List V->Hp->Prop),Inv X pins σ H s->t σ H Q->wpAny (model X.prog X.w) X.A (spliced (backTo pos (starEach es X.env))) (AP X pins σ Q) X.xe s
def PS(X:Cx)(st:Stmt)(t:TS):Prop:=
 ∀(pins:Nb) (s:Shared) (σ:St) (H:Hp) (D:Ends),Inv X pins σ H s->t D σ H->wpAny (model X.prog X.w) X.A (exec st X.env) (SP X pins D) X.xe s
def PSs(X:Cx)(st:List Stmt)(t:TS):Prop:=
 ∀(pins:Nb) (s:Shared) (σ:St) (H:Hp) (D:Ends),Inv X pins σ H s->t D σ H->wpAny (model X.prog X.w) X.A (execs st X.env) (SP X pins D) X.xe s
noncomputable def thn(h:wpAny M A t Q E s)(hQ:∀a s,Q a s->Q' a s):wpAny M A t Q' E s:=KH h hQ λ_ _ x=>x
section
variable{X:Cx}
def tVar(i:Nat):TE:=λσ H Q=>∃v,σ[i]?=some (some v)/\Q v H
def tC(v:V):TE:=λ_ H Q=>Q v H
def Gv(hN:X.N[i]?=some x)(hv:Vis X.env.scope x)(hd:(x==("__debug__" : Str))=false)(hcd:(x==("__classdict__" : Str))=false):PE X (.Name x pos) (tVar i):=by
 intro pins s σ H Q I h
 obtain⟨v,e,h⟩:=h
 obtain⟨m,hn,hl⟩:=I.loc
 obtain⟨u,r,l⟩:=hl i x v hN e hv
 have em:EP X pins σ Q u s:=⟨v,H,I,r,h⟩
 rcases l with ⟨hk,hm⟩ |⟨hk,c,hc,hcell⟩
 ·exact wpAny_Name (wpAny_loadName_local I.ok.kind hk hn hm em) hd
 ·rcases hk with hk |hk
  ·exact wpAny_Name (wpAny_loadName_cell I.ok.kind hk hc hcell em) hd
  ·exact wpAny_Name (wpAny_loadName_free I.ok.kind hk hc hcell em hcd) hd
def vn{i j pos}:PE X (.Constant (.int i) j pos) (tC (.int i)):=λ_ _ _ H _ I h=>wpAny_Constant_int ⟨.int i,H,I.tok _,⟨_,rfl⟩,h⟩
def Ip{b j pos}:PE X (.Constant (.bool b) j pos) (tC (.bl b)):=λ_ _ _ H _ I h=>Constant_bool ⟨.bl b,H,I,rfl,h⟩
def Hl{j pos}:PE X (.Constant .none j pos) (tC .non):=λ_ _ _ H _ I h=>Constant_none ⟨.non,H,I,rfl,h⟩
def Ex{x j pos}:PE X (.Constant (.str x) j pos) (tC (.str x)):=λ_ _ _ H _ I h=>Calls.Constant_str ⟨.str x,H,I.tok _,⟨_,rfl⟩,h⟩
def Gl(X:Cx)(x:Str):Prop:=X.env.kindOf x=some .globalImplicit
def mR(I:Inv X pins σ H s)(hg:Gl X x)(hm:X.mg x=some u)(h:Q u s)
 (hd:(x==("__debug__" : Str))=false):wpAny (model X.prog X.w) X.A (eval (.Name x pos) X.env) Q E s:=
 Calls.Name_function_global I.ok.kind hg (Calls.loadGlobal_global (by rw[I.ok.glob];exact I.mod.glob.keeps I.bk) hm h) hd
def jq(I:Inv X pins σ H s)(hg:Gl X x)(hm:X.mg x=none)(hv:bootBuiltins x=some u)(h:Q u s)
 (hn:x ≠ "__name__":=by decide) (hd:(x==("__debug__" : Str))=false:=by decide):wpAny (model X.prog X.w) X.A (eval (.Name x pos) X.env) Q E s:=by
 obtain⟨mb,h1,h2⟩:=I.mod.blt
 exact Calls.Name_function_global I.ok.kind hg (Calls.loadGlobal_builtin (by rw[I.ok.glob];exact I.mod.glob.keeps I.bk) hm (by rw[I.ok.blt];exact h1.keeps I.bk) ((h2 x hn).trans hv) h) hd
def CD(hg:Gl X x)(hm:X.mg x=some u)(r:RelV v u)(hd:(x==("__debug__" : Str))=false):PE X (.Name x pos) (tC v):=
 λ_ _ _ H _ I h=>mR I hg hm ⟨v,H,I,r,h⟩ hd
def A7(hg:Gl X x)(hm:X.mg x=none)(hv:bootBuiltins x=some u)(r:RelV v u)(hn:x ≠ "__name__")(hd:(x==("__debug__" : Str))=false):PE X (.Name x pos) (tC v):=
 λ_ _ _ H _ I h=>jq I hg hm hv ⟨v,H,I,r,h⟩ hn hd
variable{a b:Expr}{ta tb:TE}{pos:Pos}
def tB(t:TE):TT:=λσ H Q=>t σ H λx H1=>∃c,x=.bl c/\Q c H1
def Hu(h:PE X e t)(he:∀gl,isTrue e X.env gl=(do let v <- gl;standAt e.pos;holding [v] (truthy v))):PT X e (tB t):=by
 intro pins s σ H Q I hw
 refine isTrue_plain (thn (h pins s σ H _ I hw) λv s1 ⟨x,H1,I1,r1,q1⟩=>?_) (he _)
 obtain⟨d,rfl,q⟩:=q1
 cases r1
 exact K8 ⟨H1,I1,q⟩
variable{tA tB':TT}{aV:List Expr}
def tAnd(t u:TT):TT:=λσ H Q=>t σ H λc H1=>if c=true then u σ H1 Q else Q false H1
def tOr(t u:TT):TT:=λσ H Q=>t σ H λc H1=>if c=true then Q true H1 else u σ H1 Q
def tNot(t:TT):TT:=λσ H Q=>t σ H λc H1=>Q (!c) H1
def AD(ha:PT X a tA):PW X (.BoolOp .And [a] pos) tA:=by
 intro wh pins s σ H Q I h
 refine isTrue_and (thn (ha pins s σ H Q I h) λc s1 e=>?_)
 cases c with
 |true=>exact isTrue_and_nil e
 |false=>exact e
def DL(ha:PT X a tA):PW X (.BoolOp .Or [a] pos) tA:=by
 intro wh pins s σ H Q I h
 refine isTrue_or (thn (ha pins s σ H Q I h) λc s1 e=>?_)
 cases c with
 |false=>exact isTrue_or_nil e
 |true=>exact e
def Gi(ha:PT X a tA)(hb:PW X (.BoolOp .And (b::aV) pos) tB'):PW X (.BoolOp .And (a::b::aV) pos) (tAnd tA tB'):=by
 intro wh pins s σ H Q I h
 refine isTrue_and (thn (ha pins s σ H _ I h) λc s1 ⟨H1,I1,q1⟩=>?_)
 cases c with
 |true=>exact hb wh pins s1 σ H1 Q I1 q1
 |false=>exact⟨H1,I1,q1⟩
def IH(ha:PT X a tA)(hb:PW X (.BoolOp .Or (b::aV) pos) tB'):PW X (.BoolOp .Or (a::b::aV) pos) (tOr tA tB'):=by
 intro wh pins s σ H Q I h
 refine isTrue_or (thn (ha pins s σ H _ I h) λc s1 ⟨H1,I1,q1⟩=>?_)
 cases c with
 |true=>exact⟨H1,I1,q1⟩
 |false=>exact hb wh pins s1 σ H1 Q I1 q1
def FU(ha:PT X a tA):PT X (.UnaryOp .Not a pos) (tNot tA):=by
 intro pins s σ H Q I h
 exact isTrue_not (ha pins s σ H (λc H1=>Q (!c) H1) I h)
def J7(ta tb:TE):TE:=λσ H Q=>ta σ H λx H1=>∃c,x=.bl c/\if c=true then tb σ H1 Q else Q (.bl false) H1
def Hy(ta:TE):TE:=λσ H Q=>ta σ H λx H1=>∃c,x=.bl c/\Q (.bl (!c)) H1
noncomputable def D5{op}(h:PE X a t):PE X (.BoolOp op [a] pos) t:=λpins s σ H Q I hw=>BoolOp_one (h pins s σ H Q I hw)
def DX(ha:PE X a ta)(hb:PE X (.BoolOp .And (b::aV) pos) tb):PE X (.BoolOp .And (a::b::aV) pos) (J7 ta tb):=by
 intro pins s σ H Q I h
 refine BoolOp_and (thn (ha pins s σ H _ I h) λv s1 ⟨x,H1,I1,r1,q1⟩=>?_)
 obtain⟨c,rfl,q1⟩:=q1
 cases r1
 refine K8 ?_
 cases c with
 |true=>exact hb pins s1 σ H1 Q I1 q1
 |false=>exact⟨.bl false,H1,I1,rfl,q1⟩
def F8(ha:PE X a ta):PE X (.UnaryOp .Not a pos) (Hy ta):=by
 intro pins s σ H Q I h
 refine UnaryOp_ (thn (ha pins s σ H _ I h) λv s1 ⟨x,H1,I1,r1,q1⟩=>?_)
 obtain⟨c,rfl,q1⟩:=q1
 cases r1
 exact not_of (K8 ⟨.bl (!c),H1,I1,rfl,q1⟩)
end
def SqL(K:W.Frag)(H:Hp)(a:Addr)(xs:List V):Prop:=
 Rd H a (.lst xs)\/
  ∃(o:Obj) (its:Array Value) (n:Nat),K.lookup a=some o/\o.cls=.type "list" /\ o.dict=none/\o.data=.seq its n/\its.size<=sizeLine/\Vals xs its.toList
def SqT(K:W.Frag)(H:Hp)(a:Addr)(xs:List V):Prop:=
 Rd H a (.tup xs)\/
  ∃(o:Obj) (its:Array Value) (n:Nat),K.lookup a=some o/\o.cls=.type "tuple" /\ o.data=.seq its n/\its.size<=sizeLine/\Vals xs its.toList
noncomputable def absV:Value->Option V
 |.none=>some .non
 |.bool b=>some (.bl b)
 |.int i _=>some (.int i)
 |.str x _=>some (.str x)
 |.bytes b _=>some (.byt b)
 |.float b _=>some (.flt b)
 |.ref a=>some (.ref a)
 |.type n=>some (.ty n)
 |_=>none
def RelV.abs(r:RelV x u):absV u=some x:=by
 cases x with
 |non=>cases r;rfl
 |bl _=>cases r;rfl
 |int _=>obtain⟨t,rfl⟩:=r;rfl
 |str _=>obtain⟨t,rfl⟩:=r;rfl
 |byt _=>obtain⟨t,rfl⟩:=r;rfl
 |flt _=>obtain⟨t,rfl⟩:=r;rfl
 |ref _=>cases r;rfl
 |ty _=>cases r;rfl
def RelV.inj(r:RelV x u)(q:RelV y u):x=y:=z_ (r.abs.symm.trans q.abs)
def Vals.inj(r:Vals xs us)(q:Vals ys us):xs=ys:=by
 induction r generalizing ys with
 |nil=>cases q;rfl
 |
  cons r t ih=>
  cases q with
  |cons q t'=>rw[r.inj q,ih t']
section
variable{X:Cx}{pins:Nb}{σ:St}{H:Hp}{s:Shared}{a:Addr}{xs ys:List V}
noncomputable def SqL.of{K:W.Frag}(h:H a=some (.lst xs)):SqL K H a xs:=.inl (.inl h)
noncomputable def SqT.of{K:W.Frag}(h:H a=some (.tup xs)):SqT K H a xs:=.inl (.inl h)
def Inv.list(I:Inv X pins σ H s)(h:SqL X.K H a xs):∃its:List Value,Vals xs its/\PlainL s.heap a its.toArray/\xs.length<=sizeLine:=by
 rcases h with h |⟨o,its,n,hk,hc,hd,hs,hz,r⟩
 ·obtain⟨z,its,n,r,e⟩:=h.ok I.hok
  exact⟨its,r,⟨_,n,e,rfl,rfl,rfl⟩,z⟩
 ·refine⟨its.toList,r,⟨o,n,I.kIn a o hk,hc,hd,by simpa using hs⟩,?_⟩
  have e:=r.length
  simp only[MD] at e
  omega
def Inv.tuple(I:Inv X pins σ H s)(h:SqT X.K H a xs):∃its:List Value,Vals xs its/\IsTup s.heap a its.toArray/\xs.length<=sizeLine:=by
 rcases h with h |⟨o,its,n,hk,hc,hs,hz,r⟩
 ·obtain⟨z,its,r,p⟩:=h.ok I.hok
  exact⟨its,r,p,z⟩
 ·refine⟨its.toList,r,⟨o,I.kIn a o hk,hc,n,by simpa using hs⟩,?_⟩
  have e:=r.length
  simp only[MD] at e
  omega
def Inv.list_inj(I:Inv X pins σ H s)(h:SqL X.K H a xs)(h':SqL X.K H a ys):xs=ys:=by
 obtain⟨its,r,⟨o,n,e,_,_,d⟩,_⟩:=I.list h
 obtain⟨its',r',⟨o',n',e',_,_,d'⟩,_⟩:=I.list h'
 rw[e] at e';cases e'
 rw[d] at d'
 injection d' with d1 _
 have:its=its':=by simpa using Lj Array.toList d1
 subst this
 exact r.inj r'
def Inv.tuple_inj(I:Inv X pins σ H s)(h:SqT X.K H a xs)(h':SqT X.K H a ys):xs=ys:=by
 obtain⟨its,r,⟨o,e,_,n,d⟩,_⟩:=I.tuple h
 obtain⟨its',r',⟨o',e',_,n',d'⟩,_⟩:=I.tuple h'
 rw[e] at e';cases e'
 rw[d] at d'
 injection d' with d1 _
 have:its=its':=by simpa using Lj Array.toList d1
 subst this
 exact r.inj r'
end
section
variable{X:Cx}{pins:Nb}{σ:St}{H:Hp}{s:Shared}{E:Nc}
end
section
variable{X:Cx}{st:Stmt}{aV:List Stmt}{t u:TS}{e:Expr}{te:TE}{pos:Pos}
def Ki:TS:=λD σ H=>D.nx σ H
def tSeq(t u:TS):TS:=λD σ H=>t { D with nx:=u D } σ H
def BM:PSs X [] Ki:=λ_ _ σ H _ I h=>MC ⟨σ,H,I,h⟩
def yo(h1:PS X st t)(h2:PSs X aV u):PSs X (st::aV) (tSeq t u):=by
 intro pins s σ H D I h
 refine wpAny_execs_cons (thn (h1 pins s σ H { D with nx:=u D } I h) λf s1 q=>?_)
 cases f with
 |
  next=>
  obtain⟨σ',H',I',q⟩:=q
  exact h2 pins s1 σ' H' D I' q
 |ret v=>exact q
 |brk=>exact q
 |cont=>exact q
def BU(h1:PS X st t):PSs X [st] t:=by
 intro pins s σ H D I h
 refine wpAny_execs_cons (thn (h1 pins s σ H D I h) λf s1 q=>?_)
 cases f with
 |next=>exact MC q
 |ret v=>exact q
 |brk=>exact q
 |cont=>exact q
def Inv.quiet(I:Inv X pins σ H s):interactive X.env=false:=by simp [interactive,I.ok.kind]
def J2(te:TE):TS:=λD σ H=>te σ H λ_ H1=>D.nx σ H1
def B2(he:PE X e te)(hs:swapsWith e none pos.line X.env=pure false):PS X (.Expr e pos) (J2 te):=by
 intro pins s σ H D I h
 exact wpAny_Expr_any (thn (he pins s σ H _ I h) λv s1 ⟨x,H1,I1,r1,q1⟩=>⟨σ,H1,I1,q1⟩) I.quiet hs
def tRet(te:TE):TS:=λD σ H=>te σ H D.rt
def G5(he:PE X e te):PS X (.Return (some e) pos) (tRet te):=by
 intro pins s σ H D I h
 exact wpAny_Return_some (thn (he pins s σ H _ I h) λv s1 ⟨x,H1,I1,r1,q1⟩=>⟨x,σ,H1,I1,r1,q1⟩)
def tIfS(c:TT)(t u:TS):TS:=λD σ H=>c σ H λb H1=>if b=true then t D σ H1 else u D σ H1
def JY(hc:PT X c tc)(ha:PSs X a t)(hb:PSs X b u):PS X (.If c a b pos) (tIfS tc t u):=by
 intro pins s σ H D I h
 refine wpAny_If (thn (hc pins s σ H _ I h) λd s1 ⟨H1,I1,q1⟩=>?_)
 cases d with
 |true=>exact ha pins s1 σ H1 D I1 q1
 |false=>exact hb pins s1 σ H1 D I1 q1
end
abbrev TG:=V->St->Hp->(St->Hp->Prop)->Prop
abbrev TGs:=List V->St->Hp->(St->Hp->Prop)->Prop
def PG(X:Cx)(target:Expr)(t:TG):Prop:=
 ∀
  (pins:Nb) (s:Shared) (σ:St) (H:Hp) (v:V) (u:Value) (Q:St->Hp->Prop),Inv X pins σ H s->RelV v u->t v σ H Q->
  wpAny (model X.prog X.w) X.A (assign target X.env u) (λ_ s'=>∃σ' H',Inv X pins σ' H' s'/\Q σ' H') X.xe s
def PGs(X:Cx)(ts:List Expr)(t:TGs):Prop:=
 ∀
  (pins:Nb) (s:Shared) (σ:St) (H:Hp) (vs:List V) (us:List Value) (Q:St->Hp->Prop),Inv X pins σ H s->Vals vs us->t vs σ H Q->
  wpAny (model X.prog X.w) X.A (assignInOrder ((assignEach ts X.env).map (·.2)) us) (λ_ s'=>∃σ' H',Inv X pins σ' H' s'/\Q σ' H') X.xe s
abbrev yX:=V->V->V->Hp->(Hp->Prop)->Prop
def uL(X:Cx)(t:yX):Prop:=
 ∀
  (pins:Nb) (s:Shared) (σ:St) (H:Hp) (o i v:V) (ov iv u:Value) (Q:Hp->Prop),Inv X pins σ H s->RelV o ov->RelV i iv->RelV v u->t o i v H Q->
  wpAny (model X.prog X.w) X.A (setItem ov iv u) (λ_ s'=>∃H',Inv X pins σ H' s'/\Q H') X.xe s
section
variable{X:Cx}{pos:Pos}
def lX(i:Nat):TG:=λv σ H Q=>Q (σ.set i (some v)) H
def CG(hN:X.N.Nodup)(hi:X.N[i]?=some x)(hx:Loc X.env.scope x)(hf:X.fn x=true\/X.env.scope.names.lookup x=some .local):PG X (.Name x pos) (lX i):=by
 intro pins s σ H v u Q I r h
 exact wpAny_assign_Name (ja I hN hi hx r (λs' I'=>⟨_,H,I',h⟩) hf)
def gNil:TGs:=λvs σ H Q=>vs=[]/\Q σ H
def Js(t:TG)(u:TGs):TGs:=λvs σ H Q=>∃v r,vs=v::r/\t v σ H λσ' H'=>u r σ' H' Q
def B5:PGs X [] gNil:=by
 intro pins s σ H vs us Q I r h
 obtain⟨e,h⟩:=h
 subst e
 cases r
 exact assignInOrder_nil ⟨σ,H,I,h⟩
def x9(h1:PG X e t)(h2:PGs X es u)
 (hs:(assignEach (e::es) X.env).map (·.2)=assign e X.env::(assignEach es X.env).map (·.2)):PGs X (e::es) (Js t u):=by
 intro pins s σ H vs us Q I r h
 obtain⟨v,vr,e1,h⟩:=h
 subst e1
 cases r with
 |
  cons r rr=>
  rw[hs]
  refine assignInOrder_cons (thn (h1 pins s σ H _ _ _ I r h) λ_ s1 ⟨σ1,H1,I1,q1⟩=>?_)
  exact h2 pins s1 σ1 H1 _ _ Q I1 rr q1
def gTup(K:W.Frag)(n:Nat)(t:TGs):TG:=λv σ H Q=>∃a xs,v=.ref a/\SqT K H a xs/\xs.length=n/\t xs σ H Q
def u5(hc:X.calm=true)(h:PGs X es t)
 (hn:(assignEach es X.env).length=n) (hst:(assignEach es X.env).findIdx? (·.1)=none):PG X (.Tuple es k pos) (gTup X.K n t):=by
 intro pins s σ H v u Q I r hw
 obtain⟨a,xs,e1,hq,hl,hw⟩:=hw
 subst e1
 cases r
 obtain⟨its,rv,ht,hz⟩:=I.tuple hq
 refine assign_Tuple_tuple (I.ok.hd hc) ht (by simp [hn,<- hl,rv.length]) hst λh' hx=>?_
 have I1:Inv X pins σ H { s with heap:=h' }:=I.kept (t':=s.toks) λb o e=>hx b o (Kn (v_ e)) e
 exact h pins _ σ H xs _ Q I1 (by simpa using rv) hw
def gSub(to ti:TE)(t:yX):TG:=λv σ H Q=>to σ H λo H1=>ti σ H1 λi H2=>t o i v H2 λH3=>Q σ H3
def GQ(ho:PE X o to)(hi:PE X i ti)(hs:uL X t)
 (ha:∀v,assign (.Subscript o i pos) X.env v=(do
  let ov <- holding [v] (eval o X.env)
  let iv <- holding [v,ov] (eval i X.env)
  standAt pos
  holding [v,ov,iv] (setItem ov iv v)
  release [v,ov,iv] [])):PG X (.Subscript o i pos) (gSub to ti t):=by
 intro pins s σ H v u Q I r h
 rw[ha]
 refine j_ (LG (thn (ho pins s σ H _ I h) λov s1 ⟨x,H1,I1,r1,q1⟩=>?_))
 refine j_ (LG (thn (hi pins s1 σ H1 _ I1 q1) λiv s2 ⟨y,H2,I2,r2,q2⟩=>?_))
 refine j_ (Mm (j_ (LG (thn (hs pins s2 σ H2 x y v ov iv u _ I2 r1 r2 r q2) λ_ s3 ⟨H3,I3,q3⟩=>?_))))
 exact wpAny_release ⟨σ,H3,I3,q3⟩
def qP(te:TE)(g:TG):TS:=λD σ H=>te σ H λx H1=>g x σ H1 D.nx
def Fw(he:PE X e te)(hg:PG X tg g)(hs:swapsWithSole [tg] e pos.line X.env=pure false)(hw:swappedStores [tg] e X.env=pure none)
 (h1:(assignEach [tg] X.env).map (·.2)=[assign tg X.env]):PS X (.Assign [tg] e pos) (qP te g):=by
 intro pins s σ H D I h
 refine wpAny_Assign_stores (thn (he pins s σ H _ I h) λv s1 ⟨x,H1,I1,r1,q1⟩=>?_) hs hw
 rw[h1]
 exact thn (hg pins s1 σ H1 x v _ I1 r1 q1) λ_ s2 q=>q
def Dv(hN:X.N.Nodup)(hi:X.N[i]?=some x)(hx:Loc X.env.scope x)(he:PE X e te)(hs:swapsWith e (some (.Name x pos')) pos.line X.env=pure false)(hf:X.fn x=true\/X.env.scope.names.lookup x=some .local):
 PS X (.Assign [.Name x pos'] e pos) (qP te (lX i)):=by
 intro pins s σ H D I h
 refine wpAny_Assign_Name (thn (he pins s σ H _ I h) λv s1 ⟨y,H1,I1,r1,q1⟩=>?_) hs
 exact ja I1 hN hi hx r1 (λs2 I2=>⟨_,H1,I2,q1⟩) hf
def tPar(i j:Nat)(ta:TA):TS:=λD σ H=>ta σ H λvs H1=>∃v w,vs=[v,w]/\D.nx ((σ.set i (some v)).set j (some w)) H1
def D8{kt k2 pt2}(hc:X.calm=true)(hN:X.N.Nodup)(hi:X.N[i]?=some x)(hj:X.N[j]?=some y)(hij:i≠j)
 (hx:X.env.scope.names.lookup x=some .local) (hy:X.env.scope.names.lookup y=some .local) (ha:PA X [a,b] ta)
 (hw:swappedStores [.Tuple [.Name x px,.Name y py] kt pt] (.Tuple [a,b] k2 pt2) X.env=pure (some [x,y]))
 (hs:swapsWithSole [.Tuple [.Name x px,.Name y py] kt pt] (.Tuple [a,b] k2 pt2) pos.line X.env=pure false):
 PS X (.Assign [.Tuple [.Name x px,.Name y py] kt pt] (.Tuple [a,b] k2 pt2) pos) (tPar i j ta):=by
 intro pins s σ H D I h
 rw[exec_Assign_arm]
 refine j_ (Mm ?_)
 rw[hs]
 refine j_ (D_ ?_)
 rw[if_neg (by decide)]
 refine j_ (Tuple_ (thn (ha _ pins s σ H _ I h) λus s1 ⟨vs,H1,I1,r1,q1⟩=>?_))
 obtain⟨v,w,e1,q1⟩:=q1
 subst e1
 obtain⟨u1,u2,rfl,rv,rw'⟩:∃u1 u2,us=[u1,u2]/\RelV v u1/\RelV w u2:=by
  cases r1 with
  |
   cons p q=>
   cases q with
   |
    cons p' q'=>
    cases q'
    exact⟨_,_,rfl,p,p'⟩
 refine K7 ?_ (by show 2<=sizeLine;decide)
 have I2:Inv X pins σ H1 { s1 with heap:=s1.heap.push { cls:=.type "tuple",data:=.seq [u1,u2].toArray } }:=I1.kept (t':=s1.toks) λb o e=>s_ _ e
 rw[hw]
 refine j_ (D_ ?_)
 show wpAny (model X.prog X.w) X.A (do rule "assign.swapped-stores";let items <- unpackItems (.ref s1.heap.objs.size) 2 none;assignInOrder [λv=>bindName X.env y v,λv=>bindName X.env x v] items.reverse;pure Flow.next) _ _ _
 refine j_ (wpAny_rule (j_ (unpackItems_tuple (items:=#[u1,u2]) (I.ok.hd hc) (IsTup.new s1.heap _) λh' hx'=>?_)))
 have I3:=I2.kept (h':=h') (t':=s1.toks) λb o e=>hx' b o (Kn (v_ e)) e
 show wpAny _ _ (assignInOrder [λv=>bindName X.env y v,λv=>bindName X.env x v] [u2,u1] >>= λ_=>pure Flow.next) _ _ _
 refine j_ (assignInOrder_cons (wpAny_bindName (ja I3 hN hj (.inl hy) rw' (λs2 I4=>?_) (.inr hy))))
 refine assignInOrder_cons (wpAny_bindName (ja I4 hN hi (.inl hx) rv (λs3 I5=>assignInOrder_nil (D_ ?_)) (.inr hx)))
 rw[List.set_comm _ _ (Ne.symm hij)] at I5
 exact⟨_,H1,I5,q1⟩
end
section
variable{X:Cx}{pos:Pos}
def Eo(c:TT)(tb:TS):TS:=λD σ H=>∃W:Nat->St->Hp->Prop,(∃m,W m σ H)/\∀m σ H,W m σ H->
 c σ H λb H1=>if b=true then ∃N:St->Hp->Prop,(∀σ' H',N σ' H'->∃m',m'<m/\W m' σ' H')/\tb { D with nx:=N,ct:=N,bk:=D.nx } σ H1 else D.nx σ H1
def zE(hp:PassesOwn (model X.prog X.w) X.A X.env X.xe)(hc:PT X c tc)(hb:PSs X body tb):PS X (.While c body [] pos) (Eo tc tb):=by
 intro pins s σ H D I h
 obtain⟨W,⟨m0,w0⟩,turn⟩:=h
 refine wpAny_While (codeAny_whileLoop (λn s'=>∃σ' H',Inv X pins σ' H' s'/\W n σ' H') ?_ m0 ⟨σ,H,I,w0⟩)
 rintro n s1 ⟨σ1,H1,I1,w1⟩
 refine Lu hp (thn (hc pins s1 σ1 H1 _ I1 (turn n σ1 H1 w1)) λb s2 ⟨H2,I2,q2⟩=>?_)
 cases b with
 |
  true=>
  obtain⟨N,hN,q2⟩:=q2
  rw[if_pos rfl]
  refine Lu hp (thn (hb pins s2 σ1 H2 _ I2 q2) λf s3 q3=>?_)
  cases f with
  |
   next=>
   obtain⟨σ3,H3,I3,n3⟩:=q3
   obtain⟨m',hm,w3⟩:=hN σ3 H3 n3
   exact⟨m',hm,σ3,H3,I3,w3⟩
  |
   cont=>
   obtain⟨σ3,H3,I3,n3⟩:=q3
   obtain⟨m',hm,w3⟩:=hN σ3 H3 n3
   exact⟨m',hm,σ3,H3,I3,w3⟩
  |brk=>exact q3
  |ret v=>exact q3
 |
  false=>
  rw[if_neg p_]
  exact MC ⟨σ1,H2,I2,q2⟩
end
structure It where
 go:Nat->Hp->Prop
 yld:Nat->Hp->V->Hp->Prop
 stop:Nat->Hp->Prop
def FpOk(X:Cx)(pins:Nb)(H:Hp)(b:Addr):Prop:=
 H b=none/\b≠X.env.locals/\b∉X.fs/\(b∈X.ex\/X.s₀.heap.objs.size<=b)/\(∀x c,X.env.cells.lookup x=some c->c≠b)/\∀p∈X.pn++pins,p.1≠b
def Inv.fpOk(I:Inv X pins σ H s)(hb:s.heap.objs.size<=b)(hn:H' b=none):FpOk X pins H' b:=by
 refine⟨hn,Nat.ne_of_gt (y_ I.lt hb),I.nofs hb,.inr (x_ I.sz hb),λx c e z=>?_,λp hp z=>?_⟩
 ·obtain⟨v,q⟩:=I.cell x c e
  exact absurd (y_ q.lt (by rw[z];exact hb)) (K1 _)
 ·exact absurd (y_ (v_ (I.pin p hp).1) (by rw[z];exact hb)) (K1 _)
structure Turn(P:Program)(w:World)(K:W.Frag)(tg:Expr)(J:It)(fp:List Addr)(it:Addr)(tn:Nat->Heap->Prop):Prop where
 mem:it∈fp
 obj:∀i h,tn i h->∀b∈fp,∃o,h.get? b=some o/\∀v,o.data ≠ .cell v
 keep:∀i h h',tn i h->(∀b∈fp,∀o,h.get? b=some o->h'.get? b=some o)->tn i h'
 item:∀(X:Cx),X.prog=P->X.w=w->X.K=K->X.calm=true->∀(i:Nat) (pins:Nb) (s:Shared) (σ:St) (H:Hp) (E:Nc),Inv X pins σ H s->(∀b∈fp,FpOk X pins H b)->tn i s.heap->J.go i H->
  wpAny (model P w) X.A (pyNext (.ref it)) (λr s1=>∃u,r=some u/\
   wpAny (model P w) X.A (letOwnedTupleGo tg (.ref it) u) (λ_ s2=>∃x H',Inv X pins σ H' s2/\RelV x u/\J.yld i H x H'/\tn (i+1) s2.heap/\∀b∈fp,H' b=none) E s1) E s
 done:∀(X:Cx),X.prog=P->X.w=w->X.K=K->X.calm=true->∀(i:Nat) (pins:Nb) (s:Shared) (σ:St) (H:Hp) (E:Nc),Inv X pins σ H s->(∀b∈fp,FpOk X pins H b)->tn i s.heap->J.stop i H->
  wpAny (model P w) X.A (pyNext (.ref it)) (λr s1=>r=none/\Inv X pins σ H s1) E s
 self:∀(A:Around) (i:Nat) (s:Shared) (Q:Nc) (E:Nc),tn i s.heap->Q (.ref it) s->wpAny (model P w) A (pyIter (.ref it)) Q E s
abbrev TI:=St->Hp->(It->Hp->Prop)->Prop
def PIE(X:Cx)(pins:Nb)(σ:St)(tg:Expr)(R:It->Hp->Prop)(itv:Value)(s2:Shared):Prop:=
 ∃(it:Addr) (fp:List Addr) (tn:Nat->Heap->Prop) (J:It) (H':Hp),itv=.ref it/\Inv X pins σ H' s2/\Turn X.prog X.w X.K tg J fp it tn/\tn 0 s2.heap/\(∀b∈fp,FpOk X pins H' b)/\R J H'
def PI(X:Cx)(tg al:Expr)(wi:TI):Prop:=
 ∀
  (pins:Nb) (s:Shared) (σ:St) (H:Hp) (R:It->Hp->Prop),Inv X pins σ H s->wi σ H R->
  wpAny (model X.prog X.w) X.A (eval al X.env) (λv s1=>wpAny (model X.prog X.w) X.A (pyIter v) (PIE X pins σ tg R) X.xe s1) X.xe s
def tw(ho:s.heap.get? it=some o)(hc:o.cls=.type n)(hd:o.data=.fields vs)
 (hn:["enumerate", "zip", "dict_itemiterator", "dict_reverseitemiterator", "odict_iterator", "itertools.zip_longest", "itertools.pairwise"].contains n=false) (hQ:Q () s):wpAny M A (letOwnedTupleGo tg (.ref it) u) Q E s:=by
 unfold letOwnedTupleGo
 cases tg
  <;> first
  |exact D_ hQ
  |(cases u <;> first
   |exact D_ hQ
   |(
    refine j_ (wpAny_load ho ?_)
    rw[hc,hd]
    show wpAny M A (if (["enumerate", "zip", "dict_itemiterator", "dict_reverseitemiterator", "odict_iterator", "itertools.zip_longest", "itertools.pairwise"].contains n&&vs[0]?==some (rawInt _))=true then _ else _) Q E s
    rw[if_neg (by intro h;rw[hn,Bool.false_and] at h;cases h)]
    exact D_ hQ))
def Itl(K:W.Frag)(a:Addr):It:=
 ⟨λi H=>∃xs x,SqL K H a xs/\xs[i]?=some x,λi H x H'=>H'=H/\∀xs,SqL K H a xs->xs[i]?=some x,λi H=>∃xs,SqL K H a xs/\xs.length<=i⟩
def Itt(K:W.Frag)(a:Addr):It:=
 ⟨λi H=>∃xs x,SqT K H a xs/\xs[i]?=some x,λi H x H'=>H'=H/\∀xs,SqT K H a xs->xs[i]?=some x,λi H=>∃xs,SqT K H a xs/\xs.length<=i⟩
noncomputable def Itr(lo:Int)(n:Nat):It:=⟨λi _=>i<n,λi H x H'=>H'=H/\x=.int (lo+i),λi _=>n<=i⟩
def xj{P:Program}{w:World}{K:W.Frag}{tg:Expr}(a it:Addr):Turn P w K tg (Itl K a) [it] it (λi h=>h.IsListIter it a i) where
 mem:=by simp
 obj:=λi h st b hb=>by
  have e:b=it:=by simpa using hb
  subst e
  obtain⟨o,e,c,d⟩:=st
  exact⟨o,e,λv z=>by rw[d] at z;cases z⟩
 keep:=λi h h' st k=>st.at λo e=>k it (by simp) o e
 item:=by
  intro X hP hw hK hc i pins s σ H E I hf st hg
  subst hP hw hK
  obtain⟨xs,x,hq,hx⟩:=hg
  obtain⟨its,rv,p,hz⟩:=I.list hq
  obtain⟨u,hu,ru⟩:=rv.get hx
  obtain⟨f0,f1,f2,f3,f4,f5⟩:=hf it (by simp)
  refine wpAny_pyNext_list_item st p.isList (x:=u) (by simpa using hu) λh' st' sb=>?_
  have I1:Inv X pins σ H { s with heap:=h' }:=I.turned (t':=s.toks) (λb o hb e=>(sb.2 b hb).trans e) f0 f1 f3 f4 f5
  obtain⟨o,e,c,d⟩:=id st'
  exact⟨u,rfl,tw (s:={ s with heap:=h' }) e c d (by decide) ⟨x,H,I1,ru,⟨rfl,λys hy=>by rw[I.list_inj hy hq];exact hx⟩,st',λb hb=>(hf b hb).1⟩⟩
 done:=by
  intro X hP hw hK hc i pins s σ H E I hf st hg
  subst hP hw hK
  obtain⟨xs,hq,hx⟩:=hg
  obtain⟨its,rv,p,hz⟩:=I.list hq
  obtain⟨f0,f1,f2,f3,f4,f5⟩:=hf it (by simp)
  have hl:=rv.length
  exact wpAny_pyNext_list_end (I.ok.hd hc) st p.isList (by simp;omega) λh' eb=>⟨rfl,I.turned (t':=s.toks) (λb o hb e=>eb b o hb e) f0 f1 f3 f4 f5⟩
 self:=λ_ _ _ _ _ st h=>wpAny_pyIter_listiter st h
def uI{P:Program}{w:World}{K:W.Frag}{tg:Expr}(a it:Addr):Turn P w K tg (Itt K a) [it] it (λi h=>h.IsTupleIter it a i) where
 mem:=by simp
 obj:=λi h st b hb=>by
  have e:b=it:=by simpa using hb
  subst e
  obtain⟨o,e,c,d⟩:=st
  exact⟨o,e,λv z=>by rw[d] at z;cases z⟩
 keep:=λi h h' st k=>st.at λo e=>k it (by simp) o e
 item:=by
  intro X hP hw hK hc i pins s σ H E I hf st hg
  subst hP hw hK
  obtain⟨xs,x,hq,hx⟩:=hg
  obtain⟨its,rv,p,hz⟩:=I.tuple hq
  obtain⟨u,hu,ru⟩:=rv.get hx
  obtain⟨f0,f1,f2,f3,f4,f5⟩:=hf it (by simp)
  refine wpAny_pyNext_tuple_item st (show s.heap.IsTuple a its.toArray from p) (x:=u) (by simpa using hu) λh' st' sb=>?_
  have I1:Inv X pins σ H { s with heap:=h' }:=I.turned (t':=s.toks) (λb o hb e=>(sb.2 b hb).trans e) f0 f1 f3 f4 f5
  obtain⟨o,e,c,d⟩:=id st'
  exact⟨u,rfl,tw (s:={ s with heap:=h' }) e c d (by decide) ⟨x,H,I1,ru,⟨rfl,λys hy=>by rw[I.tuple_inj hy hq];exact hx⟩,st',λb hb=>(hf b hb).1⟩⟩
 done:=by
  intro X hP hw hK hc i pins s σ H E I hf st hg
  subst hP hw hK
  obtain⟨xs,hq,hx⟩:=hg
  obtain⟨its,rv,p,hz⟩:=I.tuple hq
  obtain⟨f0,f1,f2,f3,f4,f5⟩:=hf it (by simp)
  have hl:=rv.length
  exact wpAny_pyNext_tuple_end (I.ok.hd hc) st (show s.heap.IsTuple a its.toArray from p) (by simp;omega) λh' eb=>⟨rfl,I.turned (t':=s.toks) (λb o hb e=>eb b o hb e) f0 f1 f3 f4 f5⟩
 self:=λ_ _ _ _ _ st h=>wpAny_pyIter_tupleiter st h
def tF{P:Program}{w:World}{K:W.Frag}{tg:Expr}(it:Addr)(lo:Int)(n:Nat):Turn P w K tg (Itr lo n) [it] it (λi h=>IsRangeIter h it (lo+(i:Nat)*1) ((n:Int)-(i:Nat)) 1) where
 mem:=by simp
 obj
  := λi h st b hb=>by
  have e:b=it:=by simpa using hb
  subst e
  exact⟨_,st,λv z=>by
   have z':Data.fields _=Data.cell v:=z
   cases z'⟩
 keep:=λi h h' st k=>k it (by simp) _ st
 item:=by
  intro X hP hw hK hc i pins s σ H E I hf st hg
  subst hP hw hK
  obtain⟨f0,f1,f2,f3,f4,f5⟩:=hf it (by simp)
  have W:=Walks.range (prog:=X.prog) (w:=X.w) (I.ok.hd hc) it lo 1 n
  refine W.item i s _ _ hg st λv h' tk hv st' kk=>?_
  obtain⟨t,rfl⟩:=hv
  have I1:Inv X pins σ H { s with heap:=h',toks:=tk }:=I.turned (λb o hb e=>kk b o (by simpa using hb) e) f0 f1 f3 f4 f5
  refine⟨_,rfl,tw (s:={ s with heap:=h',toks:=tk }) (n:="range_iterator") st' rfl rfl (by decide) ⟨.int (lo+i),H,I1,⟨t,?_⟩,⟨rfl,rfl⟩,st',λb hb=>(hf b hb).1⟩⟩
  rw[Int.mul_one]
 done:=by
  intro X hP hw hK hc i pins s σ H E I hf st hg
  subst hP hw hK
  obtain⟨f0,f1,f2,f3,f4,f5⟩:=hf it (by simp)
  exact wpAny_pyNext_range_end (I.ok.hd hc) st (by have:n<=i:=hg;omega) λh' eb=>⟨rfl,I.turned (t':=s.toks) (λb o hb e=>eb b o hb e) f0 f1 f3 f4 f5⟩
 self:=λ_ _ _ _ _ st h=>wpAny_pyIter_rangeiter st h
section
variable{X:Cx}{tg:Expr}
def xD{pins:Nb}{σ:St}{H:Hp}{s:Shared}{R:It->Hp->Prop}{E:Nc}{lo hi:Int}{t u v:Tok}{tk:Nat}(I:Inv X pins σ H s)(h1:-(2^62)<=lo)(h2:lo<2^62)(h3:-(2^62)<=hi)(h4:hi<2^62)
 (q:R (Itr lo (hi-lo).toNat) H):wpAny (model X.prog X.w) X.A (pyIter (.ref s.heap.objs.size)) (PIE X pins σ tg R) E { s with heap:=s.heap.push { cls:=.type "range",data:=.fields #[.int lo t,.int hi u,.int 1 v] },toks:=tk }:=by
 refine wpAny_pyIter_range (IsRange.new ..) (small_one h1 h2 h3 h4) ?_
 have I1:Inv X pins σ H { s with heap:=s.heap.push { cls:=.type "range",data:=.fields #[.int lo t,.int hi u,.int 1 v] },toks:=tk }:=I.kept λb o e=>s_ _ e
 refine⟨(s.heap.push { cls:=.type "range",data:=.fields #[.int lo t,.int hi u,.int 1 v] }).objs.size,[(s.heap.push { cls:=.type "range",data:=.fields #[.int lo t,.int hi u,.int 1 v] }).objs.size],_,_,H,rfl,
  I1.kept (t':=tk) λb o e=>s_ _ e,tF _ lo (hi-lo).toNat,?_,λb hb=>?_,q⟩
 ·have e1:lo+((0:Nat):Int)*1=lo:=by simp
  have e2:(((hi-lo).toNat:Nat):Int)-((0:Nat):Int)=Builtin.Range.rangeSize lo hi 1:=by rw[rangeSize_one];split <;> omega
  show IsRangeIter _ _ (lo+((0:Nat):Int)*1) ((((hi-lo).toNat:Nat):Int)-((0:Nat):Int)) 1
  rw[e1,e2]
  exact Km _ rfl
 ·have e:b=(s.heap.push { cls:=.type "range",data:=.fields #[.int lo t,.int hi u,.int 1 v] }).objs.size:=by simpa using hb
  subst e
  exact I1.fpOk (n_ _) (I1.hok.fresh (n_ _))
def J3(ta:TA):TI:=λσ H R=>ta σ H λvs H1=>∃j:Int,vs=[.int j]/\-(2^62)<=j/\j<2^62/\R (Itr 0 j.toNat) H1
def wQ(hg:Gl X "range")(hm:X.mg "range"=none)(ha:PA X [a] ta)(hs:starEach [a] X.env=[(false,eval a X.env)]):PI X tg (.Call (.Name "range" p) [a] [] pos) (J3 ta):=by
 intro pins s σ H R I h
 refine Call_ (jq I hg hm boot_range (LX (thn (ha pos pins s σ H _ I h) λus s1 ⟨vs,H1,I1,r1,q1⟩=>?_) hs rfl))
 obtain⟨j,e,q1,q2,q⟩:=q1
 subst e
 cases r1 with
 |
  cons r rr=>
  cases rr
  obtain⟨t,rfl⟩:=r
  exact call_range_1 (xD I1 (by omega) (by omega) q1 q2 (by simpa using q))
def tFor(wi:TI)(g:TG)(tb:TS):TS:=λD σ H=>wi σ H λJ H1=>∃W:Nat->Nat->St->Hp->Prop,(∃m,W 0 m σ H1)/\∀i m σ H,W i m σ H->
 (J.stop i H/\D.nx σ H)\/(J.go i H/\∃N:St->Hp->Prop,(∀σ' H',N σ' H'->∃m',m'<m/\W (i+1) m' σ' H')/\∀x H',J.yld i H x H'->g x σ H' λσ2 H2=>tb { D with nx:=N,ct:=N,bk:=D.nx } σ2 H2)
noncomputable def jw(fp:List Addr)(h:Heap):List (Addr×Obj):=fp.filterMap λb=>(h.get? b).map λo=>(b,o)
def gc(hb:b∈fp)(e:h.get? b=some o):(b,o)∈jw fp h:=List.mem_filterMap.mpr ⟨b,hb,by rw[e];rfl⟩
def v7(hp:p∈jw fp h):p.1∈fp/\h.get? p.1=some p.2:=by
 obtain⟨b,hb,e⟩:=List.mem_filterMap.mp hp
 cases q:h.get? b with
 |none=>rw[q] at e;cases e
 |
  some o=>
  rw[q] at e
  have e':(b,o)=p:=z_ e
  subst e'
  exact⟨hb,q⟩
def Inv.pinned(I:Inv X pins σ H s)(hf:∀b∈fp,FpOk X pins H b)(ho:∀b∈fp,∃o,s.heap.get? b=some o/\∀v,o.data ≠ .cell v):Inv X (pins++jw fp s.heap) σ H s:=
 I.pins_of λp hp=>(KC.mp hp).elim (λz=>I.pin p (Ko _ z)) λz=>by
  obtain⟨hb,e⟩:=v7 z
  obtain⟨f0,f1,f2,_⟩:=hf p.1 hb
  obtain⟨o,e',d⟩:=ho p.1 hb
  rw[e] at e';cases e'
  exact⟨e,f0,f1,f2,d⟩
def Inv.unpinned(I:Inv X (pins++pl) σ H s):Inv X pins σ H s:=I.pins_of λp hp=>I.pin p (Ko _ (Mu _ hp))
def FA(hp:PassesOwn (model X.prog X.w) X.A X.env X.xe)(hc:X.calm=true)(hi:PI X tg al wi)(hg:PG X tg g)(hb:PSs X body tb)
 (hs:∀x,foldedSetIterable al X.env x=pure x):PS X (.For tg al body [] pos) (tFor wi g tb):=by
 intro pins s σ H D I h
 refine wpAny_For (thn (hi pins s σ H _ I h) λv s1 h1=>thn h1 λitv s2 h2=>?_) hs
 obtain⟨it,fp,tn,J,H2,e,I2,T,st2,f2,W,⟨m0,w0⟩,turn⟩:=h2
 subst e
 have stat:∀{H':Hp},(∀b∈fp,H' b=none)->∀b∈fp,FpOk X pins H' b:=λhn b hb=>⟨hn b hb,(f2 b hb).2⟩
 refine codeAny_forLoop_any (λn s'=>∃i σ' H',Inv X pins σ' H' s'/\tn i s'.heap/\(∀b∈fp,H' b=none)/\W i n σ' H') ?_ m0 ⟨0,σ,H2,I2,st2,λb hb=>(f2 b hb).1,w0⟩
 rintro n s3 ⟨i,σ3,H3,I3,st3,fr3,w3⟩
 rcases turn i n σ3 H3 w3 with ⟨stop,qn⟩ |⟨go,N,hN,step⟩
 ·refine Lu hp (thn (T.done X rfl rfl rfl hc i pins s3 σ3 H3 X.xe I3 (stat fr3) st3 stop) λr s4 ⟨hr,I4⟩=>?_)
  subst hr
  exact MC ⟨σ3,H3,I4,qn⟩
 ·refine Lu hp (thn (T.item X rfl rfl rfl hc i pins s3 σ3 H3 X.xe I3 (stat fr3) st3 go) λr s4 ⟨u,hr,h4⟩=>?_)
  subst hr
  refine Lu hp (thn h4 λ_ s5 ⟨x,H5,I5,r5,y5,st5,fr5⟩=>?_)
  have I5':=I5.pinned (stat fr5) (T.obj _ _ st5)
  refine Lu hp (thn (hg _ s5 σ3 H5 x u _ I5' r5 (step x H5 y5)) λ_ s6 ⟨σ6,H6,I6,q6⟩=>?_)
  refine Lu hp (thn (hb _ s6 σ6 H6 _ I6 q6) λf s7 q7=>?_)
  have again:∀{σ7:St}{H7:Hp},Inv X (pins++jw fp s5.heap) σ7 H7 s7->N σ7 H7->∃m,m<n/\∃i σ' H',Inv X pins σ' H' s7/\tn i s7.heap/\(∀b∈fp,H' b=none)/\W i m σ' H':=λ{σ7 H7} I7 n7=>by
   obtain⟨m',hm,w7⟩:=hN σ7 H7 n7
   refine⟨m',hm,i+1,σ7,H7,I7.unpinned,T.keep _ _ _ st5 λb hb o e=>(I7.pin (b,o) (Ko _ (Ko _ (gc hb e)))).1,λb hb=>?_,w7⟩
   obtain⟨o,e,d⟩:=T.obj _ _ st5 b hb
   exact (I7.pin (b,o) (Ko _ (Ko _ (gc hb e)))).2.1
  cases f with
  |next=>obtain⟨σ7,H7,I7,n7⟩:=q7;exact again I7 n7
  |cont=>obtain⟨σ7,H7,I7,n7⟩:=q7;exact again I7 n7
  |brk=>obtain⟨σ7,H7,I7,q7⟩:=q7;exact⟨σ7,H7,I7.unpinned,q7⟩
  |ret v=>obtain⟨x7,σ7,H7,I7,r7,q7⟩:=q7;exact⟨x7,σ7,H7,I7.unpinned,r7,q7⟩
end
abbrev R2:=V->V->Hp->VK->Prop
def OpR(X:Cx)(f:Value->Value->Sem Value)(r:R2):Prop:=
 ∀
  (pins:Nb) (s:Shared) (σ:St) (H:Hp) (x y:V) (v u:Value) (Q:VK),Inv X pins σ H s->RelV x v->RelV y u->r x y H Q->
  wpAny (model X.prog X.w) X.A (f v u) (EP X pins σ Q) X.xe s
def UnR(X:Cx)(f:Value->Sem Value)(r:V->Hp->VK->Prop):Prop:=
 ∀
  (pins:Nb) (s:Shared) (σ:St) (H:Hp) (x:V) (v:Value) (Q:VK),Inv X pins σ H s->RelV x v->r x H Q->
  wpAny (model X.prog X.w) X.A (f v) (EP X pins σ Q) X.xe s
def CallR(X:Cx)(f:Value)(r:List V->Hp->VK->Prop):Prop:=
 ∀
  (pins:Nb) (s:Shared) (σ:St) (H:Hp) (xs:List V) (us:List Value) (Q:VK),Inv X pins σ H s->Vals xs us->r xs H Q->
  wpAny (model X.prog X.w) X.A (call f us) (EP X pins σ Q) X.xe s
def tOp(r:R2)(ta tb:TE):TE:=λσ H Q=>ta σ H λx H1=>tb σ H1 λy H2=>r x y H2 Q
def tUn(r:V->Hp->VK->Prop)(ta:TE):TE:=λσ H Q=>ta σ H λx H1=>r x H1 Q
def rI(C:Int->Int->Prop)(g:Int->Int->V):R2:=λx y H Q=>∃i j,x=.int i/\y=.int j/\C i j/\Q (g i j) H
def rI0(g:Int->Int->V):R2:=λx y H Q=>∃i j,x=.int i/\y=.int j/\Q (g i j) H
def rU(g:Int->V):V->Hp->VK->Prop:=λx H Q=>∃i,x=.int i/\Q (g i) H
section
variable{X:Cx}{a b c:Expr}{ta tb tc:TE}{pos:Pos}
def yO(ha:PE X a ta)(hb:PE X b tb){pins:Nb}{s:Shared}{σ:St}{H:Hp}{R:V->V->Hp->Prop}(I:Inv X pins σ H s)
 (h:ta σ H λx H1=>tb σ H1 λy H2=>R x y H2) {Q:Nc}{f:Value->Value->Sem Value}
 (hf:∀v u s2 x y H2,Inv X pins σ H2 s2->RelV x v->RelV y u->R x y H2->wpAny (model X.prog X.w) X.A (f v u) Q X.xe s2):
 wpAny (model X.prog X.w) X.A (eval a X.env) (λv s₁=>wpAny (model X.prog X.w) X.A (eval b X.env) (λu s₂=>wpAny (model X.prog X.w) X.A (f v u) Q X.xe s₂) X.xe s₁) X.xe s:=by
 refine thn (ha pins s σ H _ I h) λv s1 ⟨x,H1,I1,r1,q1⟩=>?_
 refine thn (hb pins s1 σ H1 _ I1 q1) λu s2 ⟨y,H2,I2,r2,q2⟩=>?_
 exact hf v u s2 x y H2 I2 r1 r2 q2
def IQ(ho:OpR X (binaryOp op) r)(ha:PE X a ta)(hb:PE X b tb):PE X (.BinOp a op b pos) (tOp r ta tb):=by
 intro pins s σ H Q I h
 exact wpAny_BinOp (yO ha hb I h λv u s2 x y H2 I2 rx ry q=>ho pins s2 σ H2 x y v u Q I2 rx ry q)
def IC(ho:UnR X (unaryOp op) r)(ha:PE X a ta):PE X (.UnaryOp op a pos) (tUn r ta):=by
 intro pins s σ H Q I h
 exact UnaryOp_ (thn (ha pins s σ H _ I h) λv s1 ⟨x,H1,I1,r1,q1⟩=>ho pins s1 σ H1 x v Q I1 r1 q1)
def opI{f:Value->Value->Sem Value}{C:Int->Int->Prop}{g:Int->Int->Int}
 (rule:∀(i j:Int) (t u:Tok) (s:Shared) (Q:Nc) (E:Nc),C i j->Q (.int (g i j) s.toks) { s with toks:=s.toks+1 }->wpAny (model X.prog X.w) X.A (f (.int i t) (.int j u)) Q E s):
 OpR X f (rI C λi j=>.int (g i j)):=by
 intro pins s σ H x y v u Q I rx ry h
 obtain⟨i,j,rfl,rfl,hc,q⟩:=h
 obtain⟨t,rfl⟩:=rx
 obtain⟨t',rfl⟩:=ry
 exact rule i j t t' s _ _ hc ⟨.int (g i j),H,I.tok _,⟨_,rfl⟩,q⟩
def opI0{f:Value->Value->Sem Value}{g:Int->Int->Int}
 (rule:∀(i j:Int) (t u:Tok) (s:Shared) (Q:Nc) (E:Nc),Q (.int (g i j) s.toks) { s with toks:=s.toks+1 }->wpAny (model X.prog X.w) X.A (f (.int i t) (.int j u)) Q E s):
 OpR X f (rI0 λi j=>.int (g i j)):=by
 intro pins s σ H x y v u Q I rx ry h
 obtain⟨i,j,rfl,rfl,q⟩:=h
 obtain⟨t,rfl⟩:=rx
 obtain⟨t',rfl⟩:=ry
 exact rule i j t t' s _ _ ⟨.int (g i j),H,I.tok _,⟨_,rfl⟩,q⟩
def uD{f:Value->Value->Sem Value}{g:Int->Int->Bool}
 (rule:∀(i j:Int) (t u:Tok) (s:Shared) (Q:Nc) (E:Nc),Q (.bool (g i j)) s->wpAny (model X.prog X.w) X.A (f (.int i t) (.int j u)) Q E s):
 OpR X f (rI0 λi j=>.bl (g i j)):=by
 intro pins s σ H x y v u Q I rx ry h
 obtain⟨i,j,rfl,rfl,q⟩:=h
 obtain⟨t,rfl⟩:=rx
 obtain⟨t',rfl⟩:=ry
 exact rule i j t t' s _ _ ⟨.bl (g i j),H,I,rfl,q⟩
def fM(i j:Int):Prop:=0<=j/\j<=1000000/\i.natAbs<2^64
def CMul(i j:Int):Prop:=(-(2^64)<i/\i<2^64)\/(-(2^64)<j/\j<2^64)
noncomputable def CMul.ok(h:CMul i j):IntMulOk i j:=by
 rcases h with ⟨h1,h2⟩ |⟨h1,h2⟩
 ·exact .of_left (intBits_le_64 h1 h2)
 ·exact .of_right (intBits_le_64 h1 h2)
def GY:OpR X (binaryOp .Add) (rI0 λi j=>.int (i+j)):=opI0 λ_ _ _ _ _ _ _ q=>add_int q
def Fl:OpR X (binaryOp .Sub) (rI0 λi j=>.int (i-j)):=opI0 λ_ _ _ _ _ _ _ q=>sub_int q
def Dl:OpR X (binaryOp .Mult) (rI CMul λi j=>.int (i*j)):=opI λ_ _ _ _ _ _ _ hc q=>mul_int q hc.ok
def Bg:OpR X (binaryOp .Mod) (rI (λ_ j=>j≠0) λi j=>.int (i.fmod j)):=opI λ_ _ _ _ _ _ _ hc q=>mod_int' hc q
def Fd:OpR X (binaryOp .Pow) (rI fM λi j=>.int (i^j.toNat)):=opI λ_ _ _ _ _ _ _ hc q=>pow_int_small hc.1 hc.2.1 hc.2.2 q
def Gx:OpR X (binaryOp .LShift) (rI fM λi j=>.int (i*2^j.toNat)):=opI λ_ _ _ _ _ _ _ hc q=>lshift_int_small hc.1 hc.2.1 hc.2.2 q
def unI{f:Value->Sem Value}{g:Int->Int}
 (rule:∀(i:Int) (t:Tok) (s:Shared) (Q:Nc) (E:Nc),Q (.int (g i) s.toks) { s with toks:=s.toks+1 }->wpAny (model X.prog X.w) X.A (f (.int i t)) Q E s):
 UnR X f (rU λi=>.int (g i)):=by
 intro pins s σ H x v Q I rx h
 obtain⟨i,rfl,q⟩:=h
 obtain⟨t,rfl⟩:=rx
 exact rule i t s _ _ ⟨.int (g i),H,I.tok _,⟨_,rfl⟩,q⟩
def Fz:UnR X (unaryOp .USub) (rU λi=>.int (-i)):=unI λ_ _ _ _ _ q=>neg_int q
end
section
variable{X:Cx}{a b c:Expr}{ta tb tc:TE}{pos:Pos}
def jy(I:Inv X pins σ H s)(q:Q (.bl k) H)(e:k=k'):EP X pins σ Q (.bool k') s:=by
 subst e
 exact⟨.bl k,H,I,rfl,q⟩
def uh:OpR X (compareOp .Lt) (rI0 λi j=>.bl (decide (i<j))):=uD λ_ _ _ _ _ _ _ q=>lt_int q
def JH:OpR X (compareOp .LtE) (rI0 λi j=>.bl (decide (i<=j))):=uD λ_ _ _ _ _ _ _ q=>le_int q
def Ad:OpR X (compareOp .Gt) (rI0 λi j=>.bl (decide (j<i))):=uD λ_ _ _ _ _ _ _ q=>gt_int q
def Am:OpR X (compareOp .GtE) (rI0 λi j=>.bl (decide (j<=i))):=uD λ_ _ _ _ _ _ _ q=>ge_int q
def CI:OpR X (compareOp .IsNot) (λx y H Q=>y=.non/\Q (.bl (!decide (x=.non))) H):=by
 intro pins s σ H x y v u Q I rx ry h
 obtain⟨rfl,q⟩:=h
 cases ry
 refine isnot_none_gen (jy I q ?_)
 cases x <;> first
  |(cases rx;rfl)
  |(obtain⟨t,rfl⟩:=rx;rfl)
def OpR.or(h:OpR X f r)(h':OpR X f r'):OpR X f (λx y H Q=>r x y H Q\/r' x y H Q):=by
 intro pins s σ H x y v u Q I rx ry q
 rcases q with q |q
 ·exact h pins s σ H x y v u Q I rx ry q
 ·exact h' pins s σ H x y v u Q I rx ry q
def uY(b:Expr)(h:op ≠ .In:=by decide)(h2:op ≠ .NotIn:=by decide):behindInMarks op b=false:=by
 have e1:(op==CmpOp.In)=false:=by cases op <;> first |rfl |exact absurd rfl h
 have e2:(op==CmpOp.NotIn)=false:=by cases op <;> first |rfl |exact absurd rfl h2
 cases b <;> simp [behindInMarks,e1,e2]
def BY(ho:OpR X (compareOp op) r)(ha:PE X a ta)(hb:PE X b tb)(hm:behindInMarks op b=false):PE X (.Compare a [op] [b] pos) (tOp r ta tb):=by
 intro pins s σ H Q I h
 exact wpAny_Compare1 (yO ha hb I h λv u s2 x y H2 I2 rx ry q=>ho pins s2 σ H2 x y v u Q I2 rx ry q) hm
def Ap(t:TE):TT:=λσ H Q=>t σ H λx H'=>∃k,x=.bl k/\Q k H'
def Bd(ho:OpR X (compareOp op) r)(ha:PE X a ta)(hb:PE X b tb)(hm:behindInMarks op b=false):PT X (.Compare a [op] [b] pos) (Ap (tOp r ta tb)):=by
 intro pins s σ H Q I h
 refine wpAny_isTrue_Compare1 (thn (ha pins s σ H _ I h) λv s1 ⟨x,H1,I1,r1,q1⟩=>thn (hb pins s1 σ H1 _ I1 q1) λu s2 ⟨y,H2,I2,r2,q2⟩=>
  thn (ho pins s2 σ H2 x y v u _ I2 r1 r2 q2) λc s3 ⟨z,H3,I3,r3,k,e,q3⟩=>?_) hm
 subst e
 cases r3
 exact K8 ⟨H3,I3,q3⟩
def uW(r r':R2)(ta tb tc:TE):TE:=λσ H Q=>ta σ H λx H1=>tb σ H1 λy H2=>r x y H2 λz H3=>∃k,z=.bl k/\
 (if k=true then tc σ H3 λw' H4=>r' y w' H4 Q else Q (.bl false) H3)
def ya(ho:OpR X (compareOp op) r)(ho':OpR X (compareOp op') r')(ha:PE X a ta)(hb:PE X b tb)(hc:PE X c tc)
 (hm:lastMarks [op,op'] [b,c]=false):PT X (.Compare a [op,op'] [b,c] pos) (Ap (uW r r' ta tb tc)):=by
 intro pins s σ H Q I h
 refine isTrue_chain (thn (ha pins s σ H _ I h) λv s1 ⟨x,H1,I1,r1,q1⟩=>test_link (thn (hb pins s1 σ H1 _ I1 q1) λu s2 ⟨y,H2,I2,r2,q2⟩=>
  thn (ho pins s2 σ H2 x y v u _ I2 r1 r2 q2) λd s3 ⟨z,H3,I3,r3,k,e,q3⟩=>?_)) hm
 subst e
 cases r3
 refine K8 ?_
 cases k with
 |
  false=>
  obtain⟨k',e',q'⟩:=q3
  cases e'
  exact ite_ff ⟨H3,I3,q'⟩
 |
  true=>
  refine ite_tt (test_last (thn (hc pins s3 σ H3 _ I3 q3) λw' s4 ⟨z',H4,I4,r4,q4⟩=>thn (ho' pins s4 σ H4 y z' u w' _ I4 r2 r4 q4) λd' s5 ⟨z2,H5,I5,r5,k2,e2,q5⟩=>?_))
  subst e2
  cases r5
  exact K8 ⟨H5,I5,q5⟩
def jo:(sizeLine:Nat)<2^63:=by rw[sizeLine_eq];decide
def fU(r:Vals [x] us):∃u,us=[u]/\RelV x u:=by
 cases r with
 |cons r1 r2=>cases r2;exact⟨_,rfl,r1⟩
def lJ(r:Vals [x,y] us):∃u w',us=[u,w']/\RelV x u/\RelV y w':=by
 cases r with
 |
  cons r1 r2=>
  cases r2 with
  |cons r3 r4=>cases r4;exact⟨_,_,rfl,r1,r3⟩
def yw:CallR X (.builtin "abs") (λxs H Q=>∃i,xs=[.int i]/\Q (.int (if i<0 then -i else i)) H):=by
 intro pins s σ H xs us Q I r h
 obtain⟨i,rfl,q⟩:=h
 obtain⟨u,rfl,t,rfl⟩:=fU r
 exact call_abs_int λu tk=>⟨.int (if i<0 then -i else i),H,I.tok _,⟨_,rfl⟩,q⟩
def we(hc:X.calm=true):CallR X (.builtin "max") (λxs H Q=>∃i j,xs=[.int i,.int j]/\Q (.int (if j>i then j else i)) H):=by
 intro pins s σ H xs us Q I r h
 obtain⟨i,j,rfl,q⟩:=h
 obtain⟨u,w',rfl,⟨t,rfl⟩,⟨t',rfl⟩⟩:=lJ r
 refine max_two_ints (I.ok.hd hc) λh' tk k=>⟨_,H,I.kept k,?_,q⟩
 by_cases hj:j>i
 ·rw[if_pos hj,if_pos hj];exact⟨_,rfl⟩
 ·rw[if_neg hj,if_neg hj];exact⟨_,rfl⟩
def vQ(hc:X.calm=true):CallR X (.builtin "min") (λxs H Q=>∃i j,xs=[.int i,.int j]/\Q (.int (if j<i then j else i)) H):=by
 intro pins s σ H xs us Q I r h
 obtain⟨i,j,rfl,q⟩:=h
 obtain⟨u,w',rfl,⟨t,rfl⟩,⟨t',rfl⟩⟩:=lJ r
 refine min_two_ints (I.ok.hd hc) λh' tk k=>⟨_,H,I.kept k,?_,q⟩
 by_cases hj:j<i
 ·rw[if_pos hj,if_pos hj];exact⟨_,rfl⟩
 ·rw[if_neg hj,if_neg hj];exact⟨_,rfl⟩
def vR:CallR X (.type "int") (λxs H Q=>(∃i,xs=[.int i]/\Q (.int i) H)\/∃k,xs=[.bl k]/\Q (.int (if k then 1 else 0)) H):=by
 intro pins s σ H xs us Q I r h
 rcases h with ⟨i,rfl,q⟩ |⟨k,rfl,q⟩
 ·obtain⟨u,rfl,t,rfl⟩:=fU r
  exact call_int_int ⟨.int i,H,I,⟨_,rfl⟩,q⟩
 ·obtain⟨u,rfl,r1⟩:=fU r
  cases r1
  exact call_int_bool ⟨.int (if k then 1 else 0),H,I.tok _,⟨_,rfl⟩,q⟩
end
structure ObjM(h:Heap)(x dx C:Addr)(mA:Na):Prop where
 obj:h.get? x=some (W.instObj C dx)
 ns:h.Ns1 dx mA
 ne:dx≠x
def vy{h:Heap}{dx:Addr}{mA:Na}(n:h.Ns1 dx mA):∃od,h.get? dx=some od/\∀name,W.lookIn name od=some (mA name):=by
 obtain⟨o,es,ep,ho,hd,hk,_,hm⟩:=n
 refine⟨o,ho,λname=>?_⟩
 have e:=hm name
 unfold nsFind findBy at e
 rw[<- Array.find?_toList] at e
 unfold W.lookIn
 rw[hd]
 dsimp only
 split
 ·rename_i y q
  rw[q] at e
  exact Lj some e
 ·rename_i q
  rw[q] at e
  have a:es.toList.any (·.refKey)=false:=by
   rw[List.any_eq_false]
   intro y hy
   obtain⟨z,t,hkey⟩:=hk y (Array.mem_toList_iff.mp hy)
   simp [DictEntry.refKey,hkey]
  have a':¬ es.toList.any (·.refKey)=true:=by rw[a];exact p_
  rw[if_neg a']
  exact Lj some e
def ObjM.look(I:ObjM h x dx C mA):∃od,W.InstAt h x (W.instObj C dx) C (some od)/\∀name,W.lookIn name od=some (mA name):=
 let ⟨od,ho,hl⟩:=vy I.ns
 ⟨od,⟨I.obj,rfl,rfl,ho⟩,hl⟩
section
variable{prog:Program}{w:World}{A:Around}{E:Nc}{s:Shared}{K:W.Frag}{x dx C f:Addr}{mA:Na}{name:Str}{v:Value}
end
section
variable{P:Program}{w:World}{H H':Hp}{h h':Heap}{a C dx:Addr}{fs fs':List (Str×V)}
def AS(hok:HOk P w H h)(e:H a=some (.ins C dx fs)):∃mA,ObjM h a dx C mA/\(∀f,y9 (fs.lookup f) (mA f))/\PySem.Within mA (fs.map (·.1))/\fs.length<=1000/\H dx=some (.own a):=by
 obtain⟨d,z,ne,ob,mA,n,r,q⟩:=(show ObjOk P w H h a (.ins C dx fs) from hok a _ e)
 exact⟨mA,⟨ob,n,ne⟩,r,q,z,d⟩
end
structure Cls(K:W.Frag)(C:Addr):Prop where
 pg:W.plainGet K C Str.empty=true
 hd:W.hasDictIn K C=true
 po:W.plainOver K C=true
 sa:W.findIn K (.ref C) "__setattr__"=some (some (.builtin "object.__setattr__"))
noncomputable def Cls.get{K:W.Frag}{C:Addr}(c:Cls K C)(f:Str):W.plainGet K C f=true:=c.pg
section
variable{X:Cx}{pins:Nb}{σ:St}{H:Hp}{s:Shared}{a C dx:Addr}{fs:List (Str×V)}{f:Str}{v:V}{A:Around}{E:Nc}
end
section
variable{X:Cx}{o e value:Expr}{f:Str}{pos pos' tpos:Pos}{ta tv:TE}
end
section
variable{X:Cx}{pins:Nb}{σ:St}{H:Hp}{s:Shared}{A:Around}{E:Nc}{Q:Nc}{c:Value}{b:Bool}
inductive TyOf(K:W.Frag)(H:Hp):V->Value->Prop where
 |non:TyOf K H .non (.type "NoneType")
 |bl (x:Bool):TyOf K H (.bl x) (.type "bool")
 |int (i:Int):TyOf K H (.int i) (.type "int")
 |str (x:Str):TyOf K H (.str x) (.type "str")
 |flt (x:UInt64):TyOf K H (.flt x) (.type "float")
 |lst {a:Addr}{xs:List V} (e:H a=some (.lst xs)):TyOf K H (.ref a) (.type "list")
 |frz {a:Addr}{o:Obj}{xs:List V} (e:H a=some (.frz o (.lst xs))):TyOf K H (.ref a) (.type "list")
 |tup {a:Addr}{xs:List V} (e:H a=some (.tup xs)):TyOf K H (.ref a) (.type "tuple")
 |dK {a:Addr}{kvs:List (Key×V)} (e:H a=some (.dK kvs)):TyOf K H (.ref a) (.type "dict")
 |dT {a:Addr}{kvs:List (List Key×V)} (e:H a=some (.dT kvs)):TyOf K H (.ref a) (.type "dict")
 |ins {a C dx:Addr}{fs:List (Str×V)} (e:H a=some (.ins C dx fs)) (cl:Cls K C) (ha:W.findIn K (.ref C) "__class__"=some (some (.builtin "object.__class__")))
  (hn:W.specialIn K (.builtin "object.__class__") "__get__"=some (some (.builtin "getset_descriptor.__get__"))) (htk:W.takesIn K (.builtin "object.__class__")=some true)
  (hm:W.mroIn K C (.type "object")=some true):TyOf K H (.ref a) (.ref C)
end
structure Room(k:Nat)(A:Around):Prop where
 hd:A.handled=none
 dp:A.depth+3*k+5<recursionLimit
 un:A.units+16*k+200<cLine
def Room.mono(r:Room k A)(h:j<=k):Room j A:=⟨r.hd,by have:=r.dp;omega,by have:=r.un;omega⟩
def Room.deeper(r:Room (k+1) A)(env:Env):Room k (A.deeper env):=
 ⟨r.hd,by have:=r.dp;show A.depth+1+3*k+5<_;omega,by have:=r.un;show A.units+3+16*k+200<_;omega⟩
def Room.depth(r:Room k A):A.depth<recursionLimit:=by have:=r.dp;omega
def Room.units(r:Room k A):A.units+64<cLine:=by have:=r.un;omega
def tNil:TA:=λ_ H Q=>Q [] H
def Kg(ta:TE)(tr:TA):TA:=λσ H Q=>ta σ H λx H1=>tr σ H1 λxs H2=>Q (x::xs) H2
section
variable{X:Cx}{e:Expr}{es:List Expr}{te:TE}{t:TA}{pos:Pos}
def Hi:PA X [] tNil:=λ_ _ _ _ H Q I h=>Calls.spliced_nil ⟨[],H,I,.nil,h⟩
def AI(ha:PE X e te)(hr:PA X es t)(hs:starEach (e::es) X.env=(false,eval e X.env)::starEach es X.env):PA X (e::es) (Kg te t):=by
 intro pos pins s σ H Q I h
 rw[hs]
 show wpAny _ _ (spliced ((false,eval e X.env)::backTo pos (starEach es X.env))) _ _ s
 refine Calls.spliced_cons (thn (ha pins s σ H _ I h) λu s1 ⟨x,H1,I1,r1,q1⟩=>?_)
 exact thn (hr pos pins s1 σ H1 _ I1 q1) λus s2 ⟨xs,H2,I2,r2,q2⟩=>⟨x::xs,H2,I2,.cons r1 r2,q2⟩
def tTup(t:TA):TE:=λσ H Q=>t σ H λxs H1=>xs.length<=sizeLine/\∀p,H1 p=none->Q (.ref p) (upd H1 p (.tup xs))
def tLst(t:TA):TE:=λσ H Q=>t σ H λxs H1=>xs.length<=sizeLine/\∀p,H1 p=none->Q (.ref p) (upd H1 p (.lst xs))
def GZ{x1}(h:PA X es t):PE X (.Tuple es x1 pos) (tTup t):=by
 intro pins s σ H Q I hq
 refine wpAny_Tuple_spliced (thn (h pos pins s σ H _ I hq) λus s1 ⟨xs,H1,I1,r,z,q⟩=>⟨by rw[<- r.length];exact z,?_⟩)
 have hf:H1 s1.heap.objs.size=none:=I1.hok.fresh (n_ _)
 refine⟨.ref s1.heap.objs.size,upd H1 s1.heap.objs.size (.tup xs),I1.laid (t':=s1.toks) (λb u e=>s_ _ e) (n_ _) ?_,rfl,q _ hf⟩
 exact⟨z,us,r,⟨_,Km _ rfl,rfl,_,rfl⟩⟩
def EX(h:PA X es t):PE X (.List es pos) (tLst t):=by
 intro pins s σ H Q I hq
 refine wpAny_List_spliced (thn (h pos pins s σ H _ I hq) λus s1 ⟨xs,H1,I1,r,z,q⟩=>⟨by rw[<- r.length];exact z,?_⟩)
 have hf:H1 s1.heap.objs.size=none:=I1.hok.fresh (n_ _)
 refine⟨.ref s1.heap.objs.size,upd H1 s1.heap.objs.size (.lst xs),I1.laid (t':=s1.toks) (λb u e=>s_ _ e) (n_ _) ?_,rfl,q _ hf⟩
 exact⟨z,us,0,r,Km _ rfl⟩
end
abbrev Sp:=List V->Hp->VK->XK->Prop
abbrev CXT:=List Env->Hp->Shared->XK->Value->Shared->Prop
structure Env0(P:Program)(w:World)(K:W.Frag)(mg:Na)(base:Heap)(A:Around)(outer:List Env)(s:Shared)(H:Hp):Prop where
 frames:A.frames=some outer
 mod:Mod K mg base
 bs:∀b o,base.get? b=some o->s.heap.get? b=some o/\H b=none
 bsz:base.objs.size<=s.heap.objs.size
 funs:s.heap.FunFrames base outer
 frf:∀b∈frs outer,H b=none
 hok:HOk P w H s.heap
 bare:AllBare s.gens
def CE(outer:List Env)(P:Program)(w:World)(H:Hp)(s:Shared)(Q:VK)(u:Value)(s':Shared):Prop:=
 ∃v H',s'.os=s.os/\AllBare s'.gens/\Un (frs outer) [] H H' s.heap s'.heap/\HOk P w H' s'.heap/\RelV v u/\Q v H'
def CR(CX:CXT)(outer:List Env)(P:Program)(w:World)(H:Hp)(s:Shared)(Q:VK)(E:XK)(r:Result)(s':Shared):Prop:=
 match r with
 |.ok (.ret u)=>CE outer P w H s Q u s'
 |.ok _=>False
 |.error e=>CX outer H s E e s'
structure FnOk(P:Program)(w:World)(K:W.Frag)(mg:Na)(base:Heap)(CX:CXT)(k:Nat)(f:Addr)(fd:FuncData)(ps:List Str)(sp:Sp):Prop where
 len:∀vs H Q E,sp vs H Q E->vs.length=ps.length
 run:∀(A:Around) (outer:List Env) (s:Shared) (H:Hp) (args:Args) (us:List Value) (vs:List V) (Q:VK) (E:XK),Room k A->Env0 P w K mg base A outer s H->BindsTo s fd args (ps.zip us)->Vals vs us->sp vs H Q E->
  codeAny (model P w) A (.call (.ref f) args) (CR CX outer P w H s Q E) s
def FnOk.imp{P:Program}{w:World}{K:W.Frag}{mg:Na}{base:Heap}{CX:CXT}{k:Nat}{f:Addr}{fd:FuncData}{ps:List Str}{sp sp':Sp}(F:FnOk P w K mg base CX k f fd ps sp)
 (h:∀vs H Q E,sp' vs H Q E->sp vs H Q E):FnOk P w K mg base CX k f fd ps sp':=
 ⟨λvs H Q E q=>F.len vs H Q E (h _ _ _ _ q),λA outer s H args us vs Q E hr he hb hv hs=>F.run A outer s H args us vs Q E hr he hb hv (h _ _ _ _ hs)⟩
section
variable{X:Cx}{pins:Nb}{σ:St}{H:Hp}{s s':Shared}
def Inv.env0(I:Inv X pins σ H s):Env0 X.prog X.w X.K X.mg X.base X.A X.stack s H:=
 ⟨I.ok.frames,I.ok.mod,I.bs,x_ I.ok.bsz I.sz,I.stack,I.stkFree,I.hok,I.bare⟩
def Inv.after(I:Inv X pins σ H s)(h:CE X.stack X.prog X.w H s Q u s'):EP X pins σ Q u s':=by
 obtain⟨v,H',os,bare,un,hok,r,q⟩:=h
 obtain⟨hh,g,d,t,os'⟩:=s'
 obtain rfl:os'=s.os:=os
 exact⟨v,H',I.call (h':=hh) (g':=g) (d':=d) (t':=t) (ch:=[]) un hok bare (λb z=>absurd z (by simp)),r,q⟩
end
def Binds(K:W.Frag)(fd:FuncData)(ps:List Str)(ds:List Value):Prop:=
 ∀(s:Shared) (us:List Value),K.In s.heap->(us++ds).length=ps.length->BindsTo s fd ⟨us,[]⟩ (ps.zip (us++ds))
def Binds.all{K:W.Frag}{fd:FuncData}{ps:List Str}(h:∀us:List Value,us.length=ps.length->bindArgs fd ⟨us,[]⟩=pure (ps.zip us)):Binds K fd ps []:=λs us _ hl=>by
 rw[Lq] at hl ⊢
 exact .of_eq (h us hl)
def pv(CX:CXT)(X:Cx)(E:XK):Prop:=∀(pins:Nb) (σ:St) (H:Hp) (s:Shared) (e:Value) (s':Shared),Inv X pins σ H s->CX X.stack H s E e s'->X.xe e s'
section
variable{X:Cx}{CX:CXT}{k:Nat}{f C:Addr}{fd:FuncData}{ps:List Str}{sp:Sp}{dvs:List V}{ds:List Value}{E:XK}{x m:Str}{p pos apos:Pos}{e o:Expr}{es:List Expr}{ta:TE}{t:TA}
end
section
variable{X:Cx}{CX:CXT}{k:Nat}{f C:Addr}{fd:FuncData}{ps ks:List Str}{sp:Sp}{E:XK}{x m:Str}{p pos apos kpos:Pos}{e o:Expr}{es:List Expr}{kws:List Keyword}{te ta:TE}{t tk:TA}{nm:Option Str}
variable{g:List Value->List Value->List Value}{gV:List V->List V->List V}
end
structure FnScope(N P:List Str)(sc:Scope):Prop where
 kind:sc.kind=.function
 co:sc.isCoroutine=false
 gen:sc.isGenerator=false
 nd:N.Nodup
 pre:N.take P.length=P
 par:∀x∈P,sc.names.lookup x=some .local\/sc.names.lookup x=some .cell
 nofree:∀y∈sc.names,y.2 ≠ .free
theorem nH{kindOf:Str->Option NameKind}{x:Str}:∀{binds:List (Str×Value)}{m:Na},(∀v,(x,v)∉binds)->bindL kindOf binds m x=m x
 | [],_,_=>rfl
 |
  (n,v)::r,m,h=>by
  unfold bindL
  rw[nH λw hw=>h w (i_ _ hw)]
  split
  ·have:x≠n:=by rintro rfl;exact h v m_
   simp [this]
  ·rfl
theorem nv{kindOf:Str->Option NameKind}{x:Str}:∀{binds:List (Str×Value)}{m:Na},(∀v,(x,v)∉binds)->bindC kindOf binds m x=m x
 | [],_,_=>rfl
 |
  (n,v)::r,m,h=>by
  unfold bindC
  rw[nv λw hw=>h w (i_ _ hw)]
  split
  ·rfl
  ·have:x≠n:=by rintro rfl;exact h v m_
   simp [this]
theorem nR{kindOf:Str->Option NameKind}{x:Str}{v:Value}:∀{P:List Str}{vs:List Value}{i:Nat}{m:Na},P.Nodup->P[i]?=some x->vs[i]?=some v->kindOf x=some .local->
 bindL kindOf (P.zip vs) m x=some v
 | [],_,_,_,_,h,_,_=>by simp at h
 |_::_,[],_,_,_,_,h,_=>by simp at h
 |
  p::P,w::vs,0,m,nd,h1,h2,hk=>by
  simp at h1 h2;subst h1;subst h2
  show bindL kindOf ((p,w)::P.zip vs) m p=_
  unfold bindL
  rw[nH λv hv=>(Mw.mp nd).1 (List.of_mem_zip hv).1,if_pos hk]
  simp
 |
  p::P,w::vs,i+1,m,nd,h1,h2,hk=>by
  show bindL kindOf ((p,w)::P.zip vs) m x=_
  unfold bindL
  exact nR (i:=i) (Mw.mp nd).2 (by simpa using h1) (by simpa using h2) hk
theorem nE{kindOf:Str->Option NameKind}{x:Str}{v:Value}:∀{P:List Str}{vs:List Value}{i:Nat}{m:Na},P.Nodup->P[i]?=some x->vs[i]?=some v->kindOf x≠some .local->
 bindC kindOf (P.zip vs) m x=some v
 | [],_,_,_,_,h,_,_=>by simp at h
 |_::_,[],_,_,_,_,h,_=>by simp at h
 |
  p::P,w::vs,0,m,nd,h1,h2,hk=>by
  simp at h1 h2;subst h1;subst h2
  show bindC kindOf ((p,w)::P.zip vs) m p=_
  unfold bindC
  rw[nv λv hv=>(Mw.mp nd).1 (List.of_mem_zip hv).1,if_neg hk]
  simp
 |
  p::P,w::vs,i+1,m,nd,h1,h2,hk=>by
  show bindC kindOf ((p,w)::P.zip vs) m x=_
  unfold bindC
  exact nE (i:=i) (Mw.mp nd).2 (by simpa using h1) (by simpa using h2) hk
def eI(N:List Str)(vs:List V):St:=vs.map some++List.replicate (N.length-vs.length) none
def dG(CX:CXT)(P:Program)(w:World)(K:W.Frag)(mg:Na)(base:Heap)(N:List Str)(qual:Str)(scope:Scope)(f:Addr)(cd:Value)(A:Around)(outer:List Env)(s:Shared)(H:Hp)(E:XK):Cx where
 prog:=P
 w:=w
 K:=K
 mg:=mg
 base:=base
 A:=A.deeper (envOfC qual scope s.heap.objs.size f cd)
 N:=N
 s₀:=s
 H₀:=H
 env:=envOfC qual scope s.heap.objs.size f cd
 outer:=outer
 stack:=envOfC qual scope s.heap.objs.size f cd::outer
 ex:=[]
 calm:=true
 fn:=λ_=>true
 pn:=[]
 xe:=λe s'=>wpAny (model P w) (A.deeper (envOfC qual scope s.heap.objs.size f cd)) (leaving (envOfC qual scope s.heap.objs.size f cd) e) (λ_ s''=>CX outer H s E e s'') (λe' s''=>CX outer H s E e' s'') s'
def oT{sc:Scope}{n:Nat}{x:Str}(h:sc.names.lookup x=some .cell):∃c,(cellsFrom n sc.names []).lookup x=some c:=by
 have q:=W.cellsFrom_some sc.names n [] (.inl h)
 exact KZ.mp q
def xm{CX:CXT}{P:Program}{w:World}{K:W.Frag}{mg:Na}{base:Heap}{N ps:List Str}{qual:Str}{scope:Scope}{f:Addr}{cd:Value}{A:Around}{outer:List Env}{s s1:Shared}{H:Hp}{E:XK}{us:List Value}{vs:List V}
 (S:FnScope N ps scope) (hd:A.handled=none) (e0:Env0 P w K mg base A outer s H) (hl:vs.length=ps.length) (r:Vals vs us)
 (x:InCallC s s.heap.objs.size (bindL (envOfC qual scope s.heap.objs.size f cd).kindOf (ps.zip us) λ_=>none) (cellsFrom (s.heap.objs.size+1) scope.names []) (bindC (envOfC qual scope s.heap.objs.size f cd).kindOf (ps.zip us) λ_=>none) s1):
 Inv (dG CX P w K mg base N qual scope f cd A outer s H E) [] (eI N vs) H s1:=by
 have hpl:ps.length<=N.length:=by have:=Lj List.length S.pre;rw[Kw] at this;omega
 obtain⟨h1,tk,rfl,hk⟩:=x.done
 have noA:∀b:Addr,b∉(dG CX P w K mg base N qual scope f cd A outer s H E).ex:=λb z=>absurd (show b∈([]:List Addr) from z) (by simp)
 refine⟨⟨e0.mod,S.kind,rfl,rfl,n_ _,λy z c h1 h2=>?_,λy hy=>?_,λy c _ h=>?_,λ_=>hd,Around.frames_deeper e0.frames,.inr ⟨rfl,rfl⟩,λb z=>absurd z (noA b),e0.bs,e0.bsz,λb _ _=>noA b,λb z=>absurd z (noA b),e0.funs,e0.frf⟩,
  rfl,e0.bare,Un.kept hk,⟨_,x.toInCall.ns,λi y v h1 h2 h3=>?_⟩,λy c h=>⟨_,x.cell y c h⟩,e0.hok.fresh (n_ _),λy c h=>?_,λp hp=>absurd (show p∈([]:Nb) from hp) (by simp),e0.hok.kept hk,?_⟩
 ·exact name_of_addr x.apart (K9 h1) (K9 h2)
 ·have hy:scope.names.lookup y=some .cell\/scope.names.lookup y=some .free:=hy
  rcases hy with hy |hy
  ·exact oT hy
  ·exact absurd rfl (S.nofree _ (K9 hy))
 ·exact Mx (x.above y c (K9 h))
 ·have hi:i<vs.length:=by
   unfold eI at h2
   by_cases hi:i<vs.length
   ·exact hi
   ·rw[Ku (by simpa using hi)] at h2
    rw[KQ] at h2
    split at h2 <;> cases h2
  have ha:vs[i]?=some v:=by
   unfold eI at h2
   rw[E_ (by simpa using hi),t_] at h2
   cases e:vs[i]? with
   |none=>rw[e] at h2;cases h2
   |some a=>rw[e] at h2;cases h2;rfl
  obtain⟨u,hu,rv⟩:=r.get ha
  have hp:ps[i]?=some y:=by
   rw[<- S.pre,List.getElem?_take_of_lt (by omega)];exact h1
  have ndP:ps.Nodup:=by rw[<- S.pre];exact S.nd.sublist (List.take_sublist _ _)
  refine⟨u,rv,?_⟩
  rcases S.par y (K2 hp) with k |k
  ·exact .inl ⟨k,nR ndP hp hu k⟩
  ·obtain⟨c,e⟩:=oT (n:=s.heap.objs.size+1) k
   refine .inr ⟨.inl k,c,e,?_⟩
   have q:=x.cell y c e
   rw[nE ndP hp hu (by show scope.names.lookup y≠_;rw[k];decide)] at q
   exact q
 ·exact e0.hok.fresh (Mx (x.above y c (K9 h)))
 ·unfold eI
  show _=N.length
  rw[r_,g_,KJ]
  omega
def Jp{CX:CXT}{P:Program}{w:World}{K:W.Frag}{mg:Na}{base:Heap}{k:Nat}{f:Addr}{name qual:Str}{params:Arguments}{body:List Stmt}{scope:Scope}{dV kV doc pm cdv ct oc:Value}{an od:Option Addr}
 {osl:Array (Option Value)}{N ps:List Str}{sp:Sp} (lk:K.lookup f=some ⟨oc,od,.func (W.fnOf name qual params body scope dV kV doc pm an cdv ct),osl⟩) (hcd:W.codeIn K cdv qual=true) (S:FnScope N ps scope)
 (len:∀vs H Q E,sp vs H Q E->vs.length=ps.length)
 (f_:∀(A:Around) (outer:List Env) (s:Shared) (H:Hp) (vs:List V) (Q:VK) (E:XK),Room k (A.deeper (envOfC qual scope s.heap.objs.size f cdv))->sp vs H Q E->
  ∃t,PSs (dG CX P w K mg base N qual scope f cdv A outer s H E) body t/\t { nx:=λ_ H'=>Q .non H',rt:=Q } (eI N vs) H):
 FnOk P w K mg base CX (k+1) f (W.fnOf name qual params body scope dV kV doc pm an cdv ct) ps sp:=by
 refine⟨len,λA outer s H args us vs Q E hr e0 hb r hsp=>?_⟩
 have hl:=len _ _ _ _ hsp
 have KX:K.In s.heap:=e0.mod.kin.keeps λb o e=>(e0.bs b o e).1
 have lim:s.heap.NoLimit:=e0.mod.nolimit.keeps λb o e=>(e0.bs b o e).1
 have hkind:∀y∈ps.zip us,scope.names.lookup y.1=some .local\/(scope.names.lookup y.1=some .cell/\((cellsFrom (s.heap.objs.size+1) scope.names []).lookup y.1).isSome=true):=λ⟨n,v⟩ hy=>by
  rcases S.par n (List.of_mem_zip hy).1 with q |q
  ·exact .inl q
  ·exact .inr ⟨q,W.cellsFrom_some _ _ _ (.inl q)⟩
 refine codeAny_call_function hr.depth (KX _ _ lk) rfl S.co S.gen rfl (W.codeRec_of KX hcd) (hb _ _ _ _ ?_)
 refine wpAny_newFunctionEnv_cells S.kind hkind λenv he s1 x=>?_
 subst he
 refine⟨lim.keeps x.toInCall.keep,codeAny_func ?_⟩
 obtain⟨t,ht,hq⟩:=f_ A outer s H vs Q E (hr.deeper _) hsp
 have I:Inv (dG CX P w K mg base N qual scope f cdv A outer s H E) [] (eI N vs) H s1:=xm S hr.hd e0 hl r x
 refine KH (ht [] s1 (eI N vs) H _ I hq) (λfl s' hs=>?_) λe s' hs=>hs
 have em:∀{σ':St}{H':Hp}{v:V}{u:Value},Inv (dG CX P w K mg base N qual scope f cdv A outer s H E) [] σ' H' s'->RelV v u->Q v H'->CE outer P w H s Q u s':=
  λ{σ' H' v u} J rv q=>⟨v,H',J.os,J.bare,J.base,J.hok,rv,q⟩
 cases fl with
 |
  ret u=>
  obtain⟨v,σ',H',J,rv,q⟩:=hs
  exact em J rv q
 |
  next=>
  obtain⟨σ',H',J,q⟩:=hs
  exact em (v:=V.non) (u:=Value.none) J rfl q
 |
  brk=>
  obtain⟨_,_,_,q⟩:=hs
  exact False.elim q
 |
  cont=>
  obtain⟨_,_,_,q⟩:=hs
  exact False.elim q
section
variable{X:Cx}{x:Str}{p pos:Pos}{e:Expr}{es:List Expr}{t:TA}{id T:String}{r:List V->Hp->VK->Prop}
def tCB(r:List V->Hp->VK->Prop)(t:TA):TE:=λσ H Q=>t σ H λvs H1=>r vs H1 Q
def xJ(hc:CallR X (.builtin id) r)(hg:Gl X x)(hm:X.mg x=none)(hv:bootBuiltins x=some (.builtin id))(ha:PA X (e::es) t)(hn:x ≠ "__name__")(hdb:(x==("__debug__" : Str))=false)
 (he:starEach (e::es) X.env=(false,eval e X.env)::starEach es X.env) (hpl:(backTo pos (starEach es X.env)).any (·.1)=false):PE X (.Call (.Name x p) (e::es) [] pos) (tCB r t):=by
 intro pins s σ H Q I h
 refine wpAny_Call_Name_kw (jq I hg hm hv ?_ hn hdb)
 exact PyProof.Rows.callWith_builtin1 (thn (ha pos pins s σ H _ I h) λus s1 ⟨vs,H1,I1,r1,q1⟩=>hc pins s1 σ H1 vs us Q I1 r1 q1) he hpl
def vW(hc:CallR X (.type T) r)(hg:Gl X x)(hm:X.mg x=none)(hv:bootBuiltins x=some (.type T))(ha:PA X (e::es) t)(hn:x ≠ "__name__")(hdb:(x==("__debug__" : Str))=false)
 (he:starEach (e::es) X.env=(false,eval e X.env)::starEach es X.env) (hpl:(backTo pos (starEach es X.env)).any (·.1)=false):PE X (.Call (.Name x p) (e::es) [] pos) (tCB r t):=by
 intro pins s σ H Q I h
 refine wpAny_Call_Name_kw (jq I hg hm hv ?_ hn hdb)
 exact LX (thn (ha pos pins s σ H _ I h) λus s1 ⟨vs,H1,I1,r1,q1⟩=>hc pins s1 σ H1 vs us Q I1 r1 q1) he hpl
end
end L2
namespace HT
open PySem PyProof.Rows
section
open PySem.SeqAt
open PySem.AutoSeq1 (wpAny_loadPart')
open PySem.MeetsSeq PySem.MeetsSeq2 PySem.MeetsSeq3
end
section
variable{prog:Program}{w:World}{A:Around}{E:Nc}{s:Shared}
def cat_tup(ht:IsTup s.heap t vs.toArray)(hb:IsTup s.heap b ws.toArray)(hv:vs≠[])
 (h1:ws=[]->Q (.ref t) s) (h2:ws≠[]->Q (.ref s.heap.objs.size) { s with heap:=s.heap.push { cls:=.type "tuple",data:=.seq (vs++ws).toArray } })
 (hsz:vs.length+ws.length<=sizeLine):wpAny (model prog w) A (binaryOp .Add (.ref t) (.ref b)) Q E s:=by
 obtain⟨⟨cls,dd,data,sl⟩,ho,hc,n,hd⟩:=id ht
 obtain⟨⟨cls2,dd2,data2,sl2⟩,ho2,hc2,n2,hd2⟩:=id hb
 simp only at hc hd hc2 hd2
 subst hc hd hc2 hd2
 have e:vs.toArray++ws.toArray=(vs++ws).toArray:=by simp
 by_cases hw:ws=[]
 ·exact concat_meets ⟨_,ho,rfl⟩ ⟨_,ho2,rfl⟩ noFill_tuple_add seq_tuple_add Ml Mf (Mc _ _)
   (tuple_addW1 t b vs.toArray ws.toArray n n2 dd dd2 sl sl2 (by simpa using hv) (by simp [hw])) ⟨ho,ho2,h1 hw⟩
 ·refine concat_meets ⟨_,ho,rfl⟩ ⟨_,ho2,rfl⟩ noFill_tuple_add seq_tuple_add Ml Mf (Mc _ _)
   (tuple_addW2 t b vs.toArray ws.toArray n n2 dd dd2 sl sl2 (by simpa using hv) (by simpa using hw) (by rw[u_,u_];exact hsz)) ⟨ho,ho2,?_⟩
  rw[e]
  exact h2 hw
noncomputable def sIx(n d:Nat):Option Int->Nat
 |none=>d
 |some v=>if v<0 then (v+(n:Int)).toNat else min v.toNat n
def sIx_none(n d:Nat):sIx n d none=d:=rfl
def sIx_nat(n d k:Nat):sIx n d (some (k:Int))=min k n:=by
 show (if (k:Int)<0 then ((k:Int)+(n:Int)).toNat else min (k:Int).toNat n)=min k n
 rw[if_neg (by omega),G_]
def CY(n d:Nat)(hd:d<=n)(o:Option Int):sIx n d o<=n:=by
 cases o with
 |none=>exact hd
 |
  some v=>
  show (if v<0 then (v+(n:Int)).toNat else min v.toNat n)<=n
  by_cases hv:v<0
  ·rw[if_pos hv];omega
  ·rw[if_neg hv];exact Nat.min_le_right _ _
def sx(v:Int)(n d:Nat):(if v<0 then max (v+(n:Int)) 0 else min v (n:Int))=((sIx n d (some v):Nat):Int):=by
 show (if v<0 then max (v+(n:Int)) 0 else min v (n:Int))=(((if v<0 then (v+(n:Int)).toNat else min v.toNat n):Nat):Int)
 by_cases hv:v<0
 ·simp only[if_pos hv];omega
 ·simp only[if_neg hv];omega
def tj(lo hi:Option Int)(n:Nat):Builtin.Slice.sliceAdjust lo hi 1 (n:Int)=(((sIx n 0 lo:Nat):Int),((sIx n n hi:Nat):Int)):=by
 have h1:¬ ((1:Int)<0):=by omega
 unfold Builtin.Slice.sliceAdjust
 simp only[h1,Md]
 refine Prod.ext ?_ ?_
 ·cases lo with
  |none=>rfl
  |some v=>exact sx v n 0
 ·cases hi with
  |none=>rfl
  |some v=>exact sx v n n
def uq(i j:Nat):Builtin.Slice.slicePlaces (i:Int) (j:Int) 1=j-i:=by
 unfold Builtin.Slice.slicePlaces
 have h1:(1:Int)>0:=by omega
 simp only[h1,LV,Int.ediv_one]
 split <;> omega
noncomputable def me(p:IsPart v o)(h:Q o s):wpAny (model prog w) A (Builtin.Slice.slicePartIndex v) Q E s:=by
 cases p with
 |none=>exact slicePart_none h
 |int i t=>exact slicePart_int h
def kC{sl:Addr}{vl vu:Value}{lo hi:Option Int}{n:Nat}{Q:Int×Int×Nat->Shared->Prop}(hs:s.heap.IsSliceOf sl vl vu .none)(pl:IsPart vl lo)(pu:IsPart vu hi)
 (h:Q (((sIx n 0 lo:Nat):Int),1,sIx n n hi-sIx n 0 lo) s):wpAny (model prog w) A (Builtin.Slice.sliceApplied (.ref sl) (pure (n:Int))) Q E s:=by
 obtain⟨os,hos,hcs,hds⟩:=id hs
 unfold Builtin.Slice.sliceApplied Builtin.Slice.sliceFields
 refine j_ (j_ (L6 hos hds (x:=vl) rfl (j_ (L6 hos hds (x:=vu) rfl (j_ (L6 hos hds (x:=.none) rfl (D_ ?_)))))))
 refine j_ (slicePart_none ?_)
 show wpAny _ _ (if ((1:Int)==0)=true then _ else _) _ _ s
 rw[if_neg (by decide)]
 refine j_ (me pl (j_ (me pu (j_ (D_ ?_)))))
 show wpAny _ _ (match Builtin.Slice.sliceAdjust lo hi 1 (n:Int) with |(lo,hi)=>pure (lo,(1:Int),Builtin.Slice.slicePlaces lo hi 1)) _ _ s
 rw[tj lo hi n]
 show wpAny _ _ (pure (((sIx n 0 lo:Nat):Int),(1:Int),Builtin.Slice.slicePlaces ((sIx n 0 lo:Nat):Int) ((sIx n n hi:Nat):Int) 1)) _ _ s
 rw[uq]
 exact D_ h
def xS(xs:Array Value)(i k:Nat):((List.range k).filterMap λ(m:Nat)=>xs[((i:Int)+(m:Int)*1).toNat]?).toArray=((xs.toList.drop i).take k).toArray:=by
 have e:(λ(m:Nat)=>xs[((i:Int)+(m:Int)*1).toNat]?)=λm=>xs[i+m]?:=by
  funext m
  have:((i:Int)+(m:Int)*1).toNat=i+m:=by omega
  rw[this]
 rw[e]
 have:=pick_run xs i k
 rw[List.filterMap_map] at this
 have e2:((λx=>xs[x]?) ∘ λx=>i+x)=λm=>xs[i+m]?:=rfl
 rw[e2] at this
 rw[this]
def getItem_tuple_cut{t sl:Addr}{items:Array Value}{vl vu:Value}{lo hi:Option Int}{Q:Nc}(ht:IsTup s.heap t items)(hs:s.heap.IsSliceOf sl vl vu .none)(pl:IsPart vl lo)(pu:IsPart vu hi)
 (hw:¬ (sIx items.size 0 lo=0/\sIx items.size items.size hi=items.size))
 (h:Q (.ref s.heap.objs.size) { s with heap:=s.heap.push { cls:=.type "tuple",data:=.seq ((items.toList.drop (sIx items.size 0 lo)).take (sIx items.size items.size hi-sIx items.size 0 lo)).toArray } })
 (hsz:items.size<=sizeLine):wpAny (model prog w) A (getItem (.ref t) (.ref sl)) Q E s:=by
 have htake:sizeOk (.seq ((items.toList.drop (sIx items.size 0 lo)).take (sIx items.size items.size hi-sIx items.size 0 lo)).toArray):=by
  show ((items.toList.drop (sIx items.size 0 lo)).take (sIx items.size items.size hi-sIx items.size 0 lo)).toArray.size<=sizeLine
  rw[u_,Kw,KD,MD]
  omega
 have hj:sIx items.size items.size hi<=items.size:=CY _ _ (n_ _) hi
 obtain⟨os,hos,hcs,hds⟩:=id hs
 have hTs:s.TypeIs (.ref sl) "slice":=⟨os,hos,hcs⟩
 unfold getItem
 try with_reducible refine LG ?_
 first |refine j_ (D_ ?_) |skip
 refine j_ (wpAny_sequenceKey ht.typeIs (by decide) ?_)
 refine j_ (Mg (name:=Str.ofString "__getitem__") ht.typeIs PyProof.Rows.slot_tuple_getitem
  (wpAny_call_entry PyProof.Rows.slot_tuple_getitem ht.typeIs entry_tuple_getitem ?_ (args_tuple_getitem _ _)))
 show wpAny _ _ (Builtin.Tuple.tupleItemsOf (.ref t) >>= _) _ _ s
 refine j_ (tupleItemsOf_ ht ?_)
 refine j_ (wpAny_typeOf hTs ?_)
 rw[if_pos (by decide)]
 refine j_ (kC hs pl pu ?_)
 have hno:¬ ((((sIx items.size 0 lo:Nat):Int)==0&&(1:Int)==1&&(sIx items.size items.size hi-sIx items.size 0 lo)==items.size)=true):=by
  intro q
  rw[k_,k_] at q
  have q1:((sIx items.size 0 lo:Nat):Int)=0:=eq_of_beq q.1.1
  have q2:sIx items.size items.size hi-sIx items.size 0 lo=items.size:=eq_of_beq q.2
  exact hw ⟨by omega,by omega⟩
 show wpAny _ _ (if (((sIx items.size 0 lo:Nat):Int)==0&&(1:Int)==1&&(sIx items.size items.size hi-sIx items.size 0 lo)==items.size)=true then _ else _) _ _ s
 rw[if_neg hno,xS]
 first
  |exact j_ (m:=Builtin.Tuple.tupleExact _) (K7 (D_ ⟨_,rfl,D_ h⟩) htake)
  |exact j_ (m:=Builtin.Tuple.tupleExact _) (K7 (j_ (D_ (D_ ⟨_,rfl,D_ h⟩))) htake)
  |exact j_ (j_ (m:=Builtin.Tuple.tupleExact _) (K7 (D_ (D_ ⟨_,rfl,D_ h⟩)) htake))
  |exact j_ (j_ (m:=Builtin.Tuple.tupleExact _) (K7 (D_ ⟨_,rfl,D_ h⟩) htake))
end
end HT
namespace L2
open PySem PySem.Spec PyProof.Rows
abbrev TO:=St->Hp->(Option Int->Hp->Prop)->Prop
def PO(X:Cx)(e:Option Expr)(t:TO):Prop:=
 ∀
  (pins:Nb) (s:Shared) (σ:St) (H:Hp) (Q:Option Int->Hp->Prop),Inv X pins σ H s->t σ H Q->
  wpAny (model X.prog X.w) X.A (evalPart e X.env) (λu s'=>∃o H',Inv X pins σ H' s'/\IsPart u o/\Q o H') X.xe s
def Cd:TO:=λ_ H Q=>Q none H
def HZ(t:TE):TO:=λσ H Q=>t σ H λx H1=>∃i,x=.int i/\Q (some i) H1
section
variable{X:Cx}{e:Expr}{te:TE}{lo hi:Option Expr}{tl th:TO}{pos p2:Pos}
def AR:PO X none Cd:=by
 intro pins s σ H Q I h
 rw[evalPart_none]
 exact D_ ⟨none,H,I,.none,h⟩
def Bc(h:PE X e te):PO X (some e) (HZ te):=by
 intro pins s σ H Q I hw
 rw[evalPart_some]
 refine thn (h pins s σ H _ I hw) λu s1 ⟨x,H1,I1,r1,q1⟩=>?_
 obtain⟨i,rfl,q⟩:=q1
 obtain⟨t,rfl⟩:=r1
 exact⟨some i,H1,I1,.int i t,q⟩
def SlR(X:Cx)(r:V->Option Int->Option Int->Hp->VK->Prop):Prop:=
 ∀
  (pins:Nb) (s:Shared) (σ:St) (H:Hp) (x:V) (v vl vu:Value) (lo hi:Option Int) (sl:Addr) (Q:VK),Inv X pins σ H s->RelV x v->s.heap.IsSliceOf sl vl vu .none->IsPart vl lo->IsPart vu hi->r x lo hi H Q->
  ∃T id,typeLookup (.type T) "__getitem__"=pure (some (.builtin id))/\s.TypeIs v T/\wpAny (model X.prog X.w) X.A (getItem v (.ref sl)) (EP X pins σ Q) X.xe s
def SlR.or(h:SlR X r)(h':SlR X r'):SlR X (λx lo hi H Q=>r x lo hi H Q\/r' x lo hi H Q):=by
 intro pins s σ H x v vl vu lo hi sl Q I rx hs pl pu q
 rcases q with q |q
 ·exact h pins s σ H x v vl vu lo hi sl Q I rx hs pl pu q
 ·exact h' pins s σ H x v vl vu lo hi sl Q I rx hs pl pu q
def tSl(r:V->Option Int->Option Int->Hp->VK->Prop)(te:TE)(tl th:TO):TE:=λσ H Q=>te σ H λx H1=>tl σ H1 λl H2=>th σ H2 λu H3=>r x l u H3 Q
def zb(hr:SlR X r)(he:PE X e te)(hl:PO X lo tl)(hu:PO X hi th):PE X (.Subscript e (.Slice lo hi none p2) pos) (tSl r te tl th):=by
 intro pins s σ H Q I h
 refine Subscript_ (thn (he pins s σ H _ I h) λv s1 ⟨x,H1,I1,r1,q1⟩=>?_)
 refine wpAny_Slice (thn (hl pins s1 σ H1 _ I1 q1) λvl s2 ⟨l,H2,I2,pl,q2⟩=>thn (hu pins s2 σ H2 _ I2 q2) λvu s3 ⟨u,H3,I3,pu,q3⟩=>?_)
 rw[evalPart_none]
 refine D_ ?_
 have I4:Inv X pins σ H3 { s3 with heap:=s3.heap.push { cls:=.type "slice",data:=.fields #[vl,vu,.none] } }:=I3.kept (t':=s3.toks) λb ob q=>s_ _ q
 obtain⟨T,id,hT,ht,hg⟩:=hr pins { s3 with heap:=s3.heap.push { cls:=.type "slice",data:=.fields #[vl,vu,.none] } } σ H3 x v vl vu l u s3.heap.objs.size Q I4 r1 (Heap.IsSliceOf.new ..) pl pu q3
 show wpAny (model X.prog X.w) X.A (subscriptTail e (.Slice lo hi none p2) v (.ref s3.heap.objs.size)) (EP X pins σ Q) X.xe { s3 with heap:=s3.heap.push { cls:=.type "slice",data:=.fields #[vl,vu,.none] } }
 exact tail_any (ops:=[.ref s3.heap.objs.size,v]) ht hT hg (by with_unfolding_all rfl)
def jv(xs:List V)(lo hi:Option Int):List V:=(xs.drop (HT.sIx xs.length 0 lo)).take (HT.sIx xs.length xs.length hi-HT.sIx xs.length 0 lo)
def j6(xs:List V)(lo hi:Option Int):(jv xs lo hi).length<=xs.length:=by
 unfold jv
 rw[Kw,KD]
 omega
def rSlT(K:W.Frag):V->Option Int->Option Int->Hp->VK->Prop:=λx lo hi H Q=>∃a xs,x=.ref a/\SqT K H a xs/\
 ¬ (HT.sIx xs.length 0 lo=0/\HT.sIx xs.length xs.length hi=xs.length)/\∀p,H p=none->Q (.ref p) (upd H p (.tup (jv xs lo hi)))
def EI:SlR X (rSlT X.K):=by
 intro pins s σ H x v vl vu lo hi sl Q I rx hs pl pu h
 obtain⟨a,xs,rfl,hx,hw,q⟩:=h
 cases rx
 obtain⟨its,r,ht,hz⟩:=I.tuple hx
 have bi:its.toArray.size=xs.length:=by rw[u_];exact r.length.symm
 refine⟨"tuple",_,PyProof.Rows.slot_tuple_getitem.lookup,ht.typeIs,?_⟩
 refine HT.getItem_tuple_cut ht hs pl pu (by rw[bi];exact hw) ?_ (by rw[bi];exact hz)
 rw[bi]
 refine⟨.ref s.heap.objs.size,_,I.laid (t':=s.toks) (o:=.tup (jv xs lo hi)) (λb ob q=>s_ _ q) (n_ _) ?_,rfl,q _ (I.hok.fresh (n_ _))⟩
 exact⟨x_ (j6 xs lo hi) hz,_,(r.drop (HT.sIx xs.length 0 lo)).take (HT.sIx xs.length xs.length hi-HT.sIx xs.length 0 lo),IsTup.new _ _⟩
def jM(K:W.Frag):R2:=λx y H Q=>∃a b xs ys,x=.ref a/\y=.ref b/\SqT K H a xs/\SqT K H b ys/\xs≠[]/\xs.length+ys.length<=sizeLine/\
 (ys=[]->Q (.ref a) H)/\(ys≠[]->∀p,H p=none->Q (.ref p) (upd H p (.tup (xs++ys))))
def Vals.nil_iff(r:Vals xs us):us=[] ↔ xs=[]:=by
 cases r with
 |nil=>simp
 |cons _ _=>simp
def Br:OpR X (binaryOp .Add) (jM X.K):=by
 intro pins s σ H x y v u Q I rx ry h
 obtain⟨a,b,xs,ys,rfl,rfl,ha,hb,hx,hz,q1,q2⟩:=h
 cases rx
 cases ry
 obtain⟨its,r1,p1,_⟩:=I.tuple ha
 obtain⟨its2,r2,p2,_⟩:=I.tuple hb
 refine HT.cat_tup p1 p2 (λz=>hx (r1.nil_iff.mp z)) (λz=>⟨.ref a,H,I,rfl,q1 (r2.nil_iff.mp z)⟩) (λz=>?_) (by rw[<- r1.length,<- r2.length];exact hz)
 refine⟨.ref s.heap.objs.size,_,I.laid (t':=s.toks) (o:=.tup (xs++ys)) (λb ob q=>s_ _ q) (n_ _) ?_,rfl,q2 (λw=>z (r2.nil_iff.mpr w)) _ (I.hok.fresh (n_ _))⟩
 exact⟨by rw[r_];exact hz,_,r1.append r2,IsTup.new _ _⟩
end
noncomputable def ixN(n:Nat)(i:Int):Option Nat:=if 0<=i then (if i<n then some i.toNat else none) else if -(n:Int)<=i then some (i+n).toNat else none
def atI{α:Type}(xs:List α)(i:Int):Option α:=(ixN xs.length i).bind λj=>xs[j]?
def rO(h:ixN n i=some j):seqIndex? i n=some j/\j<n/\-(n:Int)<=i/\i<n:=by
 unfold ixN at h
 by_cases h0:0<=i
 ·rw[if_pos h0] at h
  by_cases h1:i<n
  ·rw[if_pos h1] at h
   have e:i.toNat=j:=z_ h
   exact⟨by rw[seqIndex_of h0 h1,e],by omega,by omega,h1⟩
  ·rw[if_neg h1] at h;cases h
 ·rw[if_neg h0] at h
  by_cases h1:-(n:Int)<=i
  ·rw[if_pos h1] at h
   have e:(i+n).toNat=j:=z_ h
   exact⟨by rw[seqIndex_neg (by omega) h1,e],by omega,h1,by omega⟩
  ·rw[if_neg h1] at h;cases h
def sO(h:atI xs i=some v):∃j,seqIndex? i xs.length=some j/\xs[j]?=some v/\j<xs.length/\-(xs.length:Int)<=i/\i<xs.length:=by
 unfold atI at h
 cases e:ixN xs.length i with
 |none=>rw[e] at h;cases h
 |
  some j=>
  rw[e] at h
  obtain⟨h1,h2,h3,h4⟩:=rO e
  exact⟨j,h1,h,h2,h3,h4⟩
def mU(b:Expr):Prop:=∀o i,subscripted b false o i=operate [o,i] (getItem o i)
def IxR(X:Cx)(r:R2):Prop:=
 ∀
  (value slice:Expr) (pins:Nb) (s:Shared) (σ:St) (H:Hp) (x y:V) (v u:Value) (Q:VK),Inv X pins σ H s->RelV x v->RelV y u->r x y H Q->
  subscripted slice false v u=operate [v,u] (getItem v u)->wpAny (model X.prog X.w) X.A (subscriptTail value slice v u) (EP X pins σ Q) X.xe s
def MtR(X:Cx)(id:String)(r:V->List V->Hp->VK->Prop):Prop:=
 ∀
  (pins:Nb) (s:Shared) (σ:St) (H:Hp) (x:V) (xs:List V) (v:Value) (us:List Value) (Q:VK),Inv X pins σ H s->RelV x v->Vals xs us->r x xs H Q->
  wpAny (model X.prog X.w) X.A (call (.builtin id) (v::us)) (EP X pins σ Q) X.xe s
section
variable{X:Cx}{a b:Expr}{ta tb:TE}{pos:Pos}
def IxR.or(h:IxR X r)(h':IxR X r'):IxR X (λx y H Q=>r x y H Q\/r' x y H Q):=by
 intro value slice pins s σ H x y v u Q I rx ry q hs
 rcases q with q |q
 ·exact h value slice pins s σ H x y v u Q I rx ry q hs
 ·exact h' value slice pins s σ H x y v u Q I rx ry q hs
def HK(hr:IxR X r)(ha:PE X a ta)(hb:PE X b tb)(hs:mU b):PE X (.Subscript a b pos) (tOp r ta tb):=by
 intro pins s σ H Q I h
 exact Subscript_ (yO ha hb I h λv u s2 x y H2 I2 rx ry q=>hr a b pins s2 σ H2 x y v u Q I2 rx ry q (hs _ _))
def uj(K:W.Frag):R2:=λx y H Q=>∃p xs i v,x=.ref p/\y=.int i/\SqL K H p xs/\atI xs i=some v/\Q v H
def uC(K:W.Frag):R2:=λx y H Q=>∃p xs i v,x=.ref p/\y=.int i/\SqT K H p xs/\atI xs i=some v/\Q v H
def AY:IxR X (uj X.K):=by
 intro value slice pins s σ H x y v u Q I rx ry h hs
 obtain⟨p,xs,i,z,rfl,rfl,hq,he,q⟩:=h
 cases rx
 obtain⟨t,rfl⟩:=ry
 obtain⟨its,r,pl,hz⟩:=I.list hq
 obtain⟨j,h1,h2,h3,h4,h5⟩:=sO he
 obtain⟨w,ew,rw'⟩:=r.get h2
 have hl:=r.length
 have hn:=jo
 have em:EP X pins σ Q w s:=⟨z,H,I,rw',q⟩
 by_cases h0:0<=i
 ·have hj:i.toNat=j:=by
   rw[seqIndex_of h0 h5] at h1
   exact z_ h1
  exact item_listR pl.isList h0 (by omega) (by rw[hj];simpa using ew) em hs
 ·have hj:(i+(its.toArray.size:Int)).toNat=j:=by
   rw[seqIndex_neg (by omega) h4] at h1
   rw[u_,<- hl]
   exact z_ h1
  exact subscriptTail_builtinR (x:=w) pl.isList.typeIs slot_list_getitem.lookup
   (wpAny_getItem_list_neg (Q:=λr s'=>r=w/\EP X pins σ Q r s') pl.isList (by omega) (by rw[u_] <;> omega) (by omega) (by rw[hj];simpa using ew) ⟨rfl,em⟩) hs
def Gf:IxR X (uC X.K):=by
 intro value slice pins s σ H x y v u Q I rx ry h hs
 obtain⟨p,xs,i,z,rfl,rfl,hq,he,q⟩:=h
 cases rx
 obtain⟨t,rfl⟩:=ry
 obtain⟨its,r,pl,hz⟩:=I.tuple hq
 obtain⟨j,h1,h2,h3,h4,h5⟩:=sO he
 obtain⟨w,ew,rw'⟩:=r.get h2
 have hl:=r.length
 have hn:=jo
 have em:EP X pins σ Q w s:=⟨z,H,I,rw',q⟩
 exact subscriptTail_builtinR (x:=w) pl.typeIs slot_tuple_getitem.lookup
  (getItem_tuple (j:=j) (Q:=λr s'=>r=w/\EP X pins σ Q r s') pl (by omega) (by omega) (by rw[u_,<- hl];exact h1) (by simpa using ew) ⟨rfl,em⟩) hs
def t6(its:List Value)(n j:Nat)(u:Value):Obj.mapSeq (·.setIfInBounds j u) { cls:=.type "list",data:=.seq its.toArray n }={ cls:=.type "list",data:=.seq (its.set j u).toArray n }:=by
 simp [Obj.mapSeq]
def Inv.lst(I:Inv X pins σ H s)(h:H p=some (.lst xs)):
 ∃(its:List Value) (n:Nat),Vals xs its/\s.heap.get? p=some { cls:=.type "list",data:=.seq its.toArray n }/\xs.length<=sizeLine:=by
 obtain⟨z,its,n,r,e⟩:=I.hok p _ h
 exact⟨its,n,r,e,z⟩
def Inv.lstUpd{pins:Nb}{σ:St}{H:Hp}{s:Shared}{p:Addr}{xs ys:List V}{its its':List Value}{n n':Nat}{f:Obj->Obj}(I:Inv X pins σ H s)(h:H p=some (.lst xs))
 (ho:s.heap.get? p=some { cls:=.type "list",data:=.seq its.toArray n }) (hf:f { cls:=.type "list",data:=.seq its.toArray n }={ cls:=.type "list",data:=.seq its'.toArray n' }) (r:Vals ys its') (hz:ys.length<=sizeLine) (t:Nat):
 Inv X pins σ (upd H p (.lst ys)) { s with heap:=s.heap.update p f,toks:=t }:=by
 have e:(s.heap.update p f).get? p=some { cls:=.type "list",data:=.seq its'.toArray n' }:=by
  rw[Heap.get?_update_self f ho (by rw[hf] <;> rfl),hf]
 refine I.write (x:=p) (e:=p) (by rw[h];trivial) (.inl rfl) (λb u hb q=>(Mh _ _ (Ne.symm hb)).trans q) ⟨_,e⟩ ?_
 exact⟨hz,its',n',r,e⟩
def tU:V->V->V->Hp->(Hp->Prop)->Prop:=λo i v H Q=>∃p xs k j,o=.ref p/\i=.int k/\H p=some (.lst xs)/\ixN xs.length k=some j/\Q (upd H p (.lst (xs.set j v)))
def o3:uL X tU:=by
 intro pins s σ H o i v ov iv u Q I ro ri rv h
 obtain⟨p,xs,k,j,rfl,rfl,hp,hj,q⟩:=h
 cases ro
 obtain⟨t,rfl⟩:=ri
 obtain⟨its,n,r,ho,hz⟩:=I.lst hp
 obtain⟨h1,h2,h3,h4⟩:=rO hj
 have hl:=r.length
 have hn:=jo
 have I':Inv X pins σ (upd H p (.lst (xs.set j v))) { s with heap:=s.heap.update p (Obj.mapSeq (·.setIfInBounds j u)) }:=
  I.lstUpd hp ho (t6 its n j u) (r.set rv j) (by rw[A_];exact hz) s.toks
 by_cases h0:0<=k
 ·have hk:k.toNat=j:=by
   rw[seqIndex_of h0 h4] at h1
   exact z_ h1
  exact W.ki_setAt ho h0 (by omega) (by rw[u_,<- hl];exact h4) (by rw[hk];exact⟨_,I',q⟩)
 ·have hk:(k+(its.toArray.size:Int)).toNat=j:=by
   rw[seqIndex_neg (by omega) h3] at h1
   rw[u_,<- hl]
   exact z_ h1
  exact W.ki_setBack ho (by omega) (by rw[u_,<- hl];exact h3) (by omega) (by rw[hk];exact⟨_,I',q⟩)
def p8(lo hi:Option Int)(n:Nat):(sliceBounds lo hi none n).1=((HT.sIx n 0 lo:Nat):Int)/\(sliceBounds lo hi none n).2.1=((HT.sIx n n hi:Nat):Int)/\(sliceBounds lo hi none n).2.2=1:=by
 refine⟨?_,?_,rfl⟩
 ·cases lo with
  |none=>simp [sliceBounds,HT.sIx]
  |
   some i=>
   simp only[sliceBounds,HT.sIx,Option.getD_none,show (1:Int)>0 by decide,LV]
   by_cases h:i<0
   ·simp only[h,LV] <;> omega
   ·simp only[h,Md] <;> omega
 ·cases hi with
  |none=>simp [sliceBounds,HT.sIx]
  |
   some i=>
   simp only[sliceBounds,HT.sIx,Option.getD_none,show (1:Int)>0 by decide,LV]
   by_cases h:i<0
   ·simp only[h,LV] <;> omega
   ·simp only[h,Md] <;> omega
def oi(its:List Value)(lo hi:Option Int):slicePick its.toArray lo hi none=((its.drop (HT.sIx its.length 0 lo)).take (HT.sIx its.length its.length hi-HT.sIx its.length 0 lo)).toArray:=by
 obtain⟨h1,h2,h3⟩:=p8 lo hi its.toArray.size
 unfold slicePick
 rw[h1,h2,h3]
 simp only[sliceRange_one,pick_run,u_] <;> rfl
def rSlL(K:W.Frag):V->Option Int->Option Int->Hp->VK->Prop:=λx lo hi H Q=>∃a xs,x=.ref a/\SqL K H a xs/\∀p,H p=none->Q (.ref p) (upd H p (.lst (jv xs lo hi)))
def AW:SlR X (rSlL X.K):=by
 intro pins s σ H x v vl vu lo hi sl Q I rx hs pl pu h
 obtain⟨a,xs,rfl,hx,q⟩:=h
 cases rx
 obtain⟨its,r,ht,hz⟩:=I.list hx
 have bi:=r.length
 refine⟨"list",_,slot_list_getitem.lookup,ht.isList.typeIs,?_⟩
 refine wpAny_getItem_list_slice ht.isList hs pl pu .none (by simp) ?_ (by rw[u_] <;> omega)
 rw[oi,<- bi]
 refine⟨.ref s.heap.objs.size,_,I.laid (t':=s.toks) (o:=.lst (jv xs lo hi)) (λb ob q=>s_ _ q) (n_ _) ?_,rfl,q _ (I.hok.fresh (n_ _))⟩
 exact⟨x_ (j6 xs lo hi) hz,_,0,(r.drop (HT.sIx xs.length 0 lo)).take (HT.sIx xs.length xs.length hi-HT.sIx xs.length 0 lo),Km _ rfl⟩
noncomputable def flatV:V->Bool
 |.non=>true
 |.bl _=>true
 |.int _=>true
 |.str _=>true
 |_=>false
noncomputable def eqV:V->V->Bool
 |.non,.non=>true
 |.bl a,.bl b=>a==b
 |.bl a,.int b=>(if a then 1 else 0)==b
 |.int a,.bl b=>a==(if b then 1 else 0)
 |.int a,.int b=>a==b
 |.str a,.str b=>a==b
 |_,_=>false
def oZ:CallR X (.builtin "len") (λxs H Q=>∃p ys,xs=[.ref p]/\(SqL X.K H p ys\/SqT X.K H p ys)/\Q (.int ys.length) H):=by
 intro pins s σ H xs us Q I r h
 obtain⟨p,ys,rfl,hq,q⟩:=h
 obtain⟨u,rfl,rx⟩:=fU r
 cases rx
 have hn:=jo
 rcases hq with hq |hq
 ·obtain⟨its,r',pl,hz⟩:=I.list hq
  have bi:=r'.length
  exact Calls.call_len_list pl.isList (by simp only[u_] <;> omega) ⟨.int ys.length,H,I.tok _,⟨s.toks+1,by rw[u_,bi]⟩,q⟩
 ·obtain⟨its,r',pl,hz⟩:=I.tuple hq
  have bi:=r'.length
  exact len_tuple pl (by simp only[u_] <;> omega) ⟨.int ys.length,H,I.tok _,⟨s.toks+1,by rw[u_,bi]⟩,q⟩
def qU:CallR X (.builtin "len") (λxs H Q=>∃z,xs=[.str z]/\z.length<=sizeLine/\Q (.int z.length) H):=by
 intro pins s σ H xs us Q I r h
 obtain⟨z,rfl,hz,q⟩:=h
 obtain⟨u,rfl,t,rfl⟩:=fU r
 have hn:=jo
 exact len_str (by omega) ⟨.int z.length,H,I.tok _,⟨_,rfl⟩,q⟩
def CallR.or(h:CallR X f r)(h':CallR X f r'):CallR X f (λxs H Q=>r xs H Q\/r' xs H Q):=by
 intro pins s σ H xs us Q I rs q
 rcases q with q |q
 ·exact h pins s σ H xs us Q I rs q
 ·exact h' pins s σ H xs us Q I rs q
def qx:CallR X (.type "list") (λxs H Q=>∃p ys,xs=[.ref p]/\(SqL X.K H p ys\/SqT X.K H p ys)/\∀l,H l=none->Q (.ref l) (upd H l (.lst ys))):=by
 intro pins s σ H xs us Q I r h
 obtain⟨p,ys,rfl,hq,q⟩:=h
 obtain⟨u,rfl,rx⟩:=fU r
 cases rx
 have em:∀(its:List Value),Vals ys its->ys.length<=sizeLine->∀(h':Heap) (c':Nat),(∀b o',s.heap.get? b=some o'->h'.get? b=some o')->
  h'.get? s.heap.objs.size=some { cls:=.type "list",dict:=none,data:=.seq its.toArray c',slots:=#[] }->EP X pins σ Q (.ref s.heap.objs.size) { s with heap:=h' }:=λits r' hz h' c' kp e=>
  ⟨.ref s.heap.objs.size,_,I.laid (t':=s.toks) kp (n_ _) (show ObjOk X.prog X.w _ h' _ (.lst ys) from ⟨hz,its,c',r',e⟩),rfl,q _ (I.hok.fresh (n_ _))⟩
 rcases hq with hq |hq
 ·obtain⟨its,r',pl,hz⟩:=I.list hq
  have bi:=r'.length
  obtain⟨o,ho,hc,n,hd⟩:=pl.isList
  exact call_list_seq p (.inl rfl) ho hc hd (λh' c' kp e=>em its r' hz h' c' kp e) (by simp only[u_] <;> omega)
 ·obtain⟨its,r',pl,hz⟩:=I.tuple hq
  have bi:=r'.length
  obtain⟨o,ho,hc,n,hd⟩:=pl
  exact call_list_seq p (.inr rfl) ho hc hd (λh' c' kp e=>em its r' hz h' c' kp e) (by simp only[u_] <;> omega)
def tyV(K:W.Frag)(T:String)(x:V)(H:Hp):Prop:=match x with
 |.str _=>T="str"
 |.int _=>T="int"
 |.ref p=>(T="list" /\ ∃xs,SqL K H p xs)\/(T="tuple" /\ ∃o,K.lookup p=some o/\o.cls=.type "tuple" /\ o.dict=none)\/
  (T="dict" /\ ((∃kvs,H p=some (.dK kvs))\/∃kvs,H p=some (.dT kvs)))\/(T="set" /\ ∃S n,H p=some (.set S n))
 |_=>False
def uR(I:Inv X pins σ H s)(r:RelV x v)(ty:tyV X.K T x H):
 s.TypeIs v T/\∀a,v=.ref a->∃ob,s.heap.get? a=some ob/\ob.dict=none:=by
 cases x with
 |
  str z=>
  obtain⟨t,rfl⟩:=r
  cases (show T="str" from ty)
  exact⟨typeIs_str s z t,λ_ e=>nomatch e⟩
 |
  int i=>
  obtain⟨t,rfl⟩:=r
  cases (show T="int" from ty)
  exact⟨typeIs_int s i t,λ_ e=>nomatch e⟩
 |
  ref p=>
  cases r
  rcases ty with ⟨rfl,xs,hq⟩ |⟨rfl,o,hk,hc,hd⟩ |⟨rfl,hk⟩ |⟨rfl,S,n,hk⟩
  ·obtain⟨its,_,pl,_⟩:=I.list hq
   refine⟨pl.isList.typeIs,λa e=>?_⟩
   cases e
   obtain⟨o,n,e,c,hd,_⟩:=pl
   exact⟨o,e,hd⟩
  ·refine⟨⟨o,I.kIn p o hk,hc⟩,λa e=>?_⟩
   cases e
   exact⟨o,I.kIn _ o hk,hd⟩
  ·have z:∃o,s.heap.get? p=some o/\o.ExactDict:=by
    rcases hk with ⟨kvs,hk⟩ |⟨kvs,hk⟩
    ·obtain⟨_,_,_,_,o,_,_,e,ex,_⟩:=I.hok p _ hk
     exact⟨o,e,ex⟩
    ·obtain⟨_,_,_,_,o,_,_,e,ex,_⟩:=I.hok p _ hk
     exact⟨o,e,ex⟩
   obtain⟨o,e,ex⟩:=z
   refine⟨⟨o,e,ex.1⟩,λa e2=>?_⟩
   cases e2
   exact⟨o,e,ex.2.1⟩
  ·obtain⟨o,_,_,_,e,ex,_⟩:=I.hok p _ hk
   refine⟨⟨o,e,ex.1⟩,λa e2=>?_⟩
   cases e2
   exact⟨o,e,ex.2.1⟩
 |_=>exact False.elim ty
def tBM0(K:W.Frag)(T:String)(r:V->List V->Hp->VK->Prop)(to:TE):TE:=λσ H Q=>to σ H λx H1=>tyV K T x H1/\r x [] H1 Q
def tBM(K:W.Frag)(T:String)(r:V->List V->Hp->VK->Prop)(to:TE)(t:TA):TE:=λσ H Q=>to σ H λx H1=>tyV K T x H1/\t σ H1 λxs H2=>r x xs H2 Q
variable{o e:Expr}{es:List Expr}{to:TE}{t:TA}{name:Str}{apos cpos:Pos}{T id:String}{r:V->List V->Hp->VK->Prop}
def Gz(pa:PlainAttrs T)(slot:Slot T name id)(hty:typeOf (.builtin id)=pure (.type "method_descriptor"))(hm:MtR X id r)(ho:PE X o to)
 (e_:attributeBase o name X.env (eval o X.env)=eval o X.env) (ge:(apos.endLine==cpos.line)=true):PE X (.Call (.Attribute o name apos) [] [] cpos) (tBM0 X.K T r to):=by
 intro pins s σ H Q I h
 refine wpAny_Call_method0_late e_ ge (thn (ho pins s σ H _ I h) λv s1 ⟨x,H1,I1,r1,ty,q1⟩=>?_)
 obtain⟨h1,h2⟩:=uR I1 r1 ty
 exact⟨T,id,pa,slot,hty,h1,h2,Calls.callWith_builtin rfl (PySem.evalArgs_none (hm pins s1 σ H1 x [] v [] Q I1 r1 .nil q1))⟩
def HF(pa:PlainAttrs T)(slot:Slot T name id)(hty:typeOf (.builtin id)=pure (.type "method_descriptor"))(hm:MtR X id r)(ho:PE X o to)(ha:PA X (e::es) t)
 (e_:attributeBase o name X.env (eval o X.env)=eval o X.env)
 (hfew:((backTo cpos (starEach (e::es) X.env)).all (λx=>!x.1)&&(backToKw cpos (keywordEach [] X.env)).all (λx=>x.1.isSome)
  && decide ((e::es).length+([]:List Keyword).length+(if ([]:List Keyword).isEmpty then 0 else 1)<30))=true)
 (ge:(apos.endLine==cpos.line)=true) (hs:starEach (e::es) X.env=(false,eval e X.env)::starEach es X.env) (ce:(backTo cpos (starEach es X.env)).any (·.1)=false):
 PE X (.Call (.Attribute o name apos) (e::es) [] cpos) (tBM X.K T r to t):=by
 intro pins s σ H Q I h
 refine wpAny_Call_method_late e_ hfew ge rfl (thn (ho pins s σ H _ I h) λv s1 ⟨x,H1,I1,r1,ty,q1⟩=>?_)
 obtain⟨h1,h2⟩:=uR I1 r1 ty
 refine⟨T,id,pa,slot,hty,h1,h2,?_⟩
 have hA:=ha cpos pins s1 σ H1 _ I1 q1
 rw[hs] at hA ⊢
 refine Calls.callWith_builtin (by show (false || (backTo cpos (starEach es X.env)).any (·.1))=false;rw[ce] <;> rfl) (Calls.evalArgs_plain ?_)
 exact thn hA λus s2 ⟨vs,H2,I2,r2,q2⟩=>hm pins s2 σ H2 x vs v us Q I2 r1 r2 q2
end
def MtM(X:Cx)(id:String)(r:V->List V->Hp->VK->Prop):Prop:=
 ∀
  (pins:Nb) (s:Shared) (σ:St) (H:Hp) (x:V) (xs:List V) (v:Value) (us:List Value) (Q:VK),Inv X pins σ H s->RelV x v->Vals xs us->r x xs H Q->
  wpAny (model X.prog X.w) X.A (call (.builtin id) (v::us)) (EP X pins σ Q) X.xe s
def Vals.one(r:Vals [x] us):∃u,us=[u]/\RelV x u:=by
 cases r with
 |cons r t=>cases t;exact⟨_,rfl,r⟩
theorem Vals.zero:∀{us:List Value},Vals [] us->us=[]
 |_,.nil=>rfl
noncomputable def Vals.dropLast(h:Vals xs us):Vals xs.dropLast us.dropLast:=by
 induction h with
 |nil=>exact .nil
 |
  cons r t ih=>
  cases t with
  |nil=>exact .nil
  |cons q t'=>exact .cons r ih
theorem Vals.rep(h:Vals xs us):∀k:Nat,Vals (List.replicate k xs).flatten (List.replicate k us).flatten
 |0=>.nil
 |
  k+1=>by
  rw[Ky,Ky,KS,KS]
  exact Vals.append h (Vals.rep h k)
def t5{α:Type}(l:List α):l.eraseIdx (l.length-1)=l.dropLast:=by
 induction l with
 |nil=>rfl
 |
  cons a r ih=>
  cases r with
  |nil=>rfl
  |
   cons b r=>
   have e:(a::b::r).length-1=((b::r).length-1)+1:=by
    have h1:(a::b::r).length=r.length+2:=rfl
    have h2:(b::r).length=r.length+1:=rfl
    omega
   rw[e,List.eraseIdx_cons_succ,ih]
   all_goals rfl
theorem nO(its:List Value):∀(k:Nat) (acc:List Value),
 List.foldl (λx1 x2=>x1++x2) acc.toArray (List.replicate k its.toArray)=(acc++(List.replicate k its).flatten).toArray
 |0,acc=>by simp
 |
  k+1,acc=>by
  have e:acc.toArray++its.toArray=(acc++its).toArray:=by simp
  have e2:(acc++its)++(List.replicate k its).flatten=acc++(List.replicate (k+1) its).flatten:=by
   rw[Ky,KS,LO]
  rw[<- e2,<- nO its k (acc++its),<- e,Ky,List.foldl_cons]
section
variable{X:Cx}{pins:Nb}{σ:St}{H:Hp}{s:Shared}{l b:Addr}{xs ys zs:List V}
def Inv.lset{its its':List Value}{n:Nat}{f:Array Value->Array Value}{t':Nat}(I:Inv X pins σ H s)(hH:H l=some (.lst xs))
 (e:s.heap.get? l=some { cls:=.type "list",data:=.seq its.toArray n }) (hf:f its.toArray=its'.toArray) (hv:Vals ys its') (hz:ys.length<=sizeLine):
 Inv X pins σ (upd H l (.lst ys)) { s with heap:=s.heap.update l (Obj.mapSeq f),toks:=t' }:=by
 have q:=PySem.IsL.update e f
 rw[hf] at q
 refine I.write (x:=l) (e:=l) (by rw[hH];exact trivial) (.inl rfl) (λb' u hb hu=>(Mh s.heap (Obj.mapSeq f) (Ne.symm hb)).trans hu) ⟨_,q⟩ ?_
 exact⟨hz,its',_,hv,q⟩
def Inv.lnew(I:Inv X pins σ H s)(hv:Vals ys its)(hz:ys.length<=sizeLine):
 Inv X pins σ (upd H s.heap.objs.size (.lst ys)) { s with heap:=s.heap.push { cls:=.type "list",data:=.seq its.toArray },toks:=t' }:=
 I.laid (λ_ _ q=>s_ _ q) (n_ _) ⟨hz,its,0,hv,Km _ rfl⟩
def Inv.fresh(I:Inv X pins σ H s):H s.heap.objs.size=none:=I.hok.fresh (n_ _)
def Inv.lstM(I:Inv X pins σ H s)(hH:H l=some (.lst xs)):xs.length<=sizeLine/\∃(its:List Value) (n:Nat),Vals xs its/\xs.length=its.length/\s.heap.get? l=some { cls:=.type "list",data:=.seq its.toArray n }:=by
 obtain⟨z,its,n,r,e⟩:=I.hok l _ hH
 exact⟨z,its,n,r,r.length,e⟩
def xu{n:Nat}(h:n<=sizeLine):Builtin.List.listTooLong n=false:=by
 unfold Builtin.List.listTooLong
 exact w_ (by omega)
end
section
variable{X:Cx}
def nq:V->List V->Hp->VK->Prop:=λx vs H Q=>∃l xs y,x=.ref l/\vs=[y]/\H l=some (.lst xs)/\xs.length<sizeLine/\Q .non (upd H l (.lst (xs++[y])))
def wD:MtM X "list.append" nq:=by
 intro pins s σ H x vs v us Q I rx rv h
 obtain⟨l,xs,y,rfl,rfl,hH,hz,q⟩:=h
 cases rx
 obtain⟨u,rfl,ru⟩:=rv.one
 obtain⟨z,its,n,r,hl,e⟩:=I.lstM hH
 refine MB F.slot_list_append ⟨_,e,rfl⟩ F.entry_list_append (F.args_list_append_2 _ _) (PySem.list_append l its.toArray n u (by rw[u_];omega)) ⟨e,?_⟩
 refine⟨.non,_,I.lset (its':=its++[u]) hH e (by simp) (r.append (.cons ru .nil)) ?_,rfl,q⟩
 rw[r_,La]
 omega
def yn:V->List V->Hp->VK->Prop:=λx vs H Q=>∃l xs y,x=.ref l/\vs=[]/\H l=some (.lst xs)/\xs[xs.length-1]?=some y/\Q y (upd H l (.lst xs.dropLast))
def Hj:MtM X "list.pop" yn:=by
 intro pins s σ H x vs v us Q I rx rv h
 obtain⟨l,xs,y,rfl,rfl,hH,hy,q⟩:=h
 cases rx
 have hus:=rv.zero
 subst hus
 obtain⟨z,its,n,r,hl,e⟩:=I.lstM hH
 obtain⟨u,hu,ru⟩:=r.get hy
 have hy':its.toArray[its.toArray.size-1]?=some u:=by
  show its.toArray[its.length-1]?=some u
  rw[<- Array.getElem?_toList,<- hl]
  exact hu
 refine MB F.slot_list_pop ⟨_,e,rfl⟩ F.entry_list_pop (F.args_list_pop_1 _) (MeetsSeq.list_pop_last l its.toArray n u hy' (by rw[u_];omega)) ⟨e,?_⟩
 refine⟨y,_,I.lset (its':=its.dropLast) hH e ?_ r.dropLast ?_,ru,q⟩
 ·show its.toArray.eraseIdxIfInBounds (its.toArray.size-1)=its.dropLast.toArray
  rw[u_,List.eraseIdxIfInBounds_toArray,t5]
 ·rw[List.length_dropLast]
  omega
def mz:R2:=λx y H Q=>∃l b xs zs,x=.ref l/\y=.ref b/\H l=some (.lst xs)/\H b=some (.lst zs)/\xs.length+zs.length<=sizeLine/\∀p,H p=none->Q (.ref p) (upd H p (.lst (xs++zs)))
def ER:OpR X (binaryOp .Add) mz:=by
 intro pins s σ H x y v u Q I rx ry h
 obtain⟨l,b,xs,zs,rfl,rfl,hH,hB,hz,q⟩:=h
 cases rx
 cases ry
 obtain⟨z,its,n,r,hl,e⟩:=I.lstM hH
 obtain⟨z2,its2,n2,r2,hl2,e2⟩:=I.lstM hB
 refine PySem.P.add_list e e2 ?_ (by rw[u_,u_];omega)
 have ea:its.toArray++its2.toArray=(its++its2).toArray:=by simp
 rw[ea]
 exact⟨.ref _,_,I.lnew (t':=s.toks) (r.append r2) (by rw[r_];omega),rfl,q _ I.fresh⟩
def xU:R2:=λx y H Q=>∃l k xs,x=.ref l/\y=.int k/\H l=some (.lst xs)/\-(2^63)<=k/\k<2^63/\xs.length*k.toNat<=sizeLine/\
 ∀p,H p=none->Q (.ref p) (upd H p (.lst (List.replicate k.toNat xs).flatten))
def A4(xs:List α)(k:Nat):(List.replicate k xs).flatten.length=k*xs.length:=by
 induction k with
 |zero=>simp
 |succ k ih=>rw[Ky,KS,r_,ih,Nat.succ_mul,Nat.add_comm]
def EU:OpR X (binaryOp .Mult) xU:=by
 intro pins s σ H x y v u Q I rx ry h
 obtain⟨l,k,xs,rfl,rfl,hH,h1,h2,hz,q⟩:=h
 cases rx
 obtain⟨t,rfl⟩:=ry
 obtain⟨z,its,n,r,hl,e⟩:=I.lstM hH
 have bi:its.toArray.size*k.toNat<=sizeLine:=by rw[u_,<- hl];exact hz
 have hcap:¬ its.toArray.size*k.toNat>(2^63-1)/8:=by
  have:(sizeLine:Nat)<=(2^63-1)/8:=by decide
  omega
 have hfit:¬ (!Builtin.List.listFitsIndex k)=true:=by
  rw[fitsIndex_both h1 h2]
  exact p_
 have hlong:¬ Builtin.List.listTooLong (its.toArray.size*k.toNat)=true:=by
  rw[xu bi]
  exact p_
 have hnew:List.foldl (λx1 x2=>x1++x2) #[] (List.replicate (if its.toArray.isEmpty=true then 0 else k.toNat) its.toArray)=(List.replicate k.toNat its).flatten.toArray:=by
  have f0:∀m:Nat,List.foldl (λx1 x2=>x1++x2) #[] (List.replicate m its.toArray)=(List.replicate m its).flatten.toArray:=λm=>by
   have:=nO its m []
   rw[KU] at this
   exact this
  rw[f0]
  cases its with
  |nil=>simp
  |cons a r'=>rw[if_neg (by simp)]
 refine wpAny_binaryOp_repeat_ref (T:="list") (U:="int") (by decide) ⟨_,e,rfl⟩ (λs'=>typeIs_int s' k t) noFill_list_mul F.fills_int_mul F.slot_int_rmul repeat_list F.slot_int_index.lookup
  (MB F.slot_int_rmul (typeIs_int s k t) F.entry_int_rmul (F.args_int_rmul_2 _ _) (int___rmul___int_list k t l its.toArray n)
   ⟨e,rfl,⟨_,e,rfl⟩,MB F.slot_list_mul ⟨_,e,rfl⟩ F.entry_list_mul (F.args_list_mul_2 _ _) (AutoListH.list___mul___list_int_3 l its.toArray n k t hfit hcap hlong) ⟨e,?_⟩⟩)
 rw[hnew]
 exact⟨.ref _,_,I.lnew (t':=s.toks) (r.rep k.toNat) (by rw[A4,Nat.mul_comm];exact hz),rfl,q _ I.fresh⟩
end
section
variable{prog:Program}{w:World}{A:Around}{E:Nc}{s:Shared}
set_option maxRecDepth 100000 in
end
section
variable{X:Cx}
end
end L2
namespace Att
open PySem PySem.W PySem.Calls PyProof.Rows
def l9:∀(ns:List Int) (vs:List Value),WellAll P h vs (ns.map WData.int)->IntsAre vs ns:=by
 intro ns
 induction ns with
 |
  nil=>
  intro vs w
  rw[KL] at w
  cases w
  exact .nil
 |
  cons n ns ih=>
  intro vs w
  rw[C_] at w
  cases w with
  |
   cons a b=>
   cases a
   exact .cons _ _ (ih _ b)
def wU{l:OpenLaw}{n:Nat}(hn:l.most=some n){P:Params}{h:Heap}{args:List WData}{vals:List Value}
 (hpre:l.row.toRowW.claim.pre args=true) (hwl:WellAll P h vals args):
 ∃a vs ns,vals=[Value.ref a]/\args=[WData.list (ns.map WData.int)]/\h.get? a=some { cls:=.type "list",data:=.seq vs.toArray }/\IntsAre vs ns/\ns.length<=n:=by
 have hsh:WShape.hasAll [] args [.list .int]=true:=(pre_splitW hpre).1
 have hc:l.pre.holds [] { args:=args }=true:=(pre_splitW hpre).2
 obtain⟨d,r,rfl,h1,h2⟩:=hasAllW_cons hsh
 obtain rfl:=hasAllW_nil h2
 obtain⟨xs,rfl,h3⟩:=hasW_list h1
 obtain⟨ns,rfl⟩:=items_int h3
 have bi:ns.length<=n:=by
  unfold OpenLaw.pre at hc
  have h4:(WTm.not (.lt (.lit (.int (n:Int))) (.len (.arg 0)))).holds [] { args:=[.list (ns.map .int)] }=true:=by
   have h4:=(holds_andW hc).1
   rw[hn] at h4
   exact h4
  have h5:=condW_of h4 (w_not (w_lt w_lit (w_len_list (w_arg rfl))))
  rw[g_] at h5
  refine Nat.le_of_not_lt λq=>?_
  have q':(n:Int)<((ns.length:Nat):Int):=by omega
  first
   |(rw[F_ q'] at h5;exact absurd h5 (by decide))
   |(simp at h5;omega)
 cases hwl with
 |
  cons w1 w2=>
  cases w2
  cases w1 with
  |list ho hall=>exact⟨_,_,ns,rfl,rfl,ho,l9 ns _ hall,bi⟩
def v5(l:OpenLaw)(args:List WData):l.row.toRowW.claim.post args (.bool true) args=true:=
 postW_of (r:=l.row.toRowW) (X:=(true==true))
  (show WShape.has [] (.bool true) .bool=true by first |rfl |decide |simp [WShape.has,WShape.arms,WShape.armsAll])
  (show (WTm.eq .res (.lit (.bool true))).value [] { args:=args,res:=some (.bool true),after:=args }=some (.bool (true==true)) from w_eq_bool (w_res rfl) w_lit) rfl
def attach_call{l:OpenLaw}{n:Nat}{q:Program}{loose:List Str}{XP:(Str->Option Value)->Heap->Prop}{YP:World->Heap->Prop}{d:DefRec}
 (hn:l.most=some n) (hdf:d.params.defaults=[])
 (call:∀(w:World) (s₀ s₁:Shared) (mg mb:Na) (fa:Addr) (o:Obj) (pm cd doc:Value) (a:Addr) (vs:List Value) (ns:List Int),
  Ground q loose [] XP w s₀ mg mb s₁.heap->YP w s₁.heap->
  s₁.heap.get? fa=some o->o.data=.func (docDef d.name d.params d.body d.scope pm cd doc)->s₁.heap.CodeRec cd d.name->mg d.name=some (.ref fa)->
  s₁.heap.get? a=some { cls:=.type "list",data:=.seq vs.toArray }->IntsAre vs ns->ns.length<=n->s₁.gens=#[]->
  codeAny (model l.prog w) callerA (.call (.ref fa) ⟨[.ref a],[]⟩) (λr s'=>r=.ok (.ret (.bool true))/\OldK s₁.heap s'.heap/\s'.os=s₁.os/\AllBare s'.gens) s₁):
 WalkO q loose XP YP l.row.toRowW d [] (λf vs=>PySem.call f vs):=by
 intro w s₀ s₁ mg mb G Y fa o pm cd doc dV kV ho hd hcd hD hmg hg args vals as hpre hlay hrd hwl hlo
 obtain rfl:dV=.none:=Dflts.none hD hdf
 obtain rfl:kV=.none:=Dflts.noKw hD
 obtain⟨a,vs,ns,rfl,rfl,hobj,hints,bi⟩:=wU hn hpre hwl
 refine enter_call (codeAny_mono (call w s₀ s₁ mg mb fa o pm cd doc a vs ns G Y ho (fd_plain hd) hcd hmg hobj hints bi hg) λr s' hq=>?_)
 obtain⟨rfl,h2,h3,h4⟩:=hq
 exact⟨.inl ⟨.bool true,.bool true,[],rfl,λ_=>rfl,.bool true,v5 l _,λ_=>⟨List.Pairwise.nil,λ_ hm=>(nomatch hm)⟩⟩,h2,h3,h4⟩
section
variable{prog:Program}{w:World}{A:Around}{E:Nc}{s:Shared}{K:Frag}
noncomputable def ledger(h:Heap)(L d:Addr):List (Addr×Obj):=(List.range h.objs.size).filterMap λa=>if a=L\/a=d then none else (h.get? a).map λo=>(a,o)
end
end Att
namespace L2
open PySem PySem.Spec PyProof.Rows
theorem nC:∀{vs:List Value}{ns:List Int},IntsAre vs ns->Vals (ns.map V.int) vs
 |_,_,.nil=>.nil
 |_,_,.cons n t h=>.cons ⟨t,rfl⟩ (nC h)
def nt(H:Hp):Prop:=∀b,H b=none\/∃o xs,H b=some (.frz o (.lst xs))
def xW{P:Program}{w:World}{K:W.Frag}{mg mb:Na}{CX:CXT}{k:Nat}{fa a:Addr}{fd:FuncData}{x:Str}{sp:Sp}{s₁:Shared}{vs:List Value}{ns:List Int}
 (KX:K.In s₁.heap) (hns:s₁.heap.Ns mainGlobals mg) (hb:s₁.heap.Ns builtinsNs mb) (hbb:∀x:Str,x ≠ "__name__"->mb x=bootBuiltins x) (hlim:s₁.heap.NoLimit) (hg:s₁.gens=#[])
 (ha:s₁.heap.get? a=some { cls:=.type "list",data:=.seq vs.toArray }) (hi:IntsAre vs ns) (hl:ns.length<=sizeLine) (hr:Room k callerA)
 (F:∀base:Heap,K.In base->base.Ns mainGlobals mg->FnOk P w K mg base CX k fa fd [x] sp) (hbind:∀(s:Shared) (u:Value),BindsTo s fd ⟨[u],[]⟩ [(x,u)])
 (hsp:∀H:Hp,nt H->SqL K H a (ns.map V.int)->sp [.ref a] H (λv _=>v=.bl true) λ_ _ _=>False)
 (hCX:∀H e s',CX [] H s₁ (λ_ _ _=>False) e s'->False):
 codeAny (model P w) callerA (.call (.ref fa) ⟨[.ref a],[]⟩) (λr s'=>r=.ok (.ret (.bool true))/\OldK s₁.heap s'.heap/\s'.os=s₁.os/\AllBare s'.gens) s₁:=by
 have rv:=nC hi
 have lenV:=hi.length
 have core
  : ∀H:Hp,nt H->SqL K H a (ns.map V.int)->HOk P w H s₁.heap->(∀b,H b≠none->b=a)->(H a≠none->K.lookup a=none)->
  codeAny (model P w) callerA (.call (.ref fa) ⟨[.ref a],[]⟩) (λr s'=>r=.ok (.ret (.bool true))/\OldK s₁.heap s'.heap/\s'.os=s₁.os/\AllBare s'.gens) s₁:=by
  intro H hO hS hok hA hK
  have base_of:∀{b:Addr}{o:Obj},s₁.heap.get? b=some o->H b=none->(iD s₁.heap H).get? b=some o:=λe n=>xG e n
  have noA:∀{b:Addr}{o:Obj}{es:Array DictEntry}{ep:Nat},s₁.heap.get? b=some o->o.data=.dict es ep->H b=none:=λ{b o es ep} e d=>by
   cases q:H b with
   |none=>rfl
   |
    some u=>
    have e':b=a:=hA b (by rw[q];simp)
    subst e'
    rw[ha] at e;cases e
    have d':Data.seq vs.toArray _=Data.dict es ep:=d
    cases d'
  have nsK:∀{b:Addr}{m:Na},s₁.heap.Ns b m->(iD s₁.heap H).Ns b m:=λ{b m} ⟨o,es,ep,e,d,r⟩=>⟨o,es,ep,base_of e (noA e d),d,r⟩
  have hKb:K.In (iD s₁.heap H):=λb o e=>base_of (KX b o e) (by
   cases q:H b with
   |none=>rfl
   |
    some u=>
    have e':b=a:=hA b (by rw[q];simp)
    subst e'
    rw[hK (by rw[q];simp)] at e;cases e)
  have hM:Mod K mg (iD s₁.heap H):=⟨hKb,nsK hns,⟨mb,nsK hb,hbb⟩,let ⟨mc,h1,h2⟩:=hlim;⟨mc,nsK h1,h2⟩⟩
  have e0:Env0 P w K mg (iD s₁.heap H) callerA [] s₁ H:=⟨rfl,hM,λb o e=>AX e,Nat.le_of_eq (wa _ _),trivial,λb hb=>absurd (show b∈([]:List Addr) from hb) (by simp),hok,.of_eq hg⟩
  refine codeAny_mono ((F _ hKb (nsK hns)).run callerA [] s₁ H ⟨[.ref a],[]⟩ [.ref a] [.ref a] _ _ hr e0 (hbind s₁ (.ref a)) (.cons rfl .nil) (hsp H hO hS)) λr s' h=>?_
  cases r with
  |error e=>exact (hCX H e s' h).elim
  |
   ok fl=>
   cases fl with
   |next=>exact False.elim h
   |brk=>exact False.elim h
   |cont=>exact False.elim h
   |
    ret u=>
    obtain⟨v,H',os,bare,un,hok',r',q⟩:=h
    have q':v=.bl true:=q
    subst q'
    obtain rfl:u=Value.bool true:=r'
    refine⟨rfl,OldK.of_keep λb o e=>?_,os,bare⟩
    cases q:H b with
    |none=>exact un.keep b o e q (by intro z;exact absurd (show b∈([]:List Addr) from z) (by simp)) (by simp)
    |
     some u=>
     rcases hO b with z |⟨ob,xs,z⟩
     ·rw[q] at z;cases z
     ·have z2:=un.frzs b ob _ z
      obtain⟨e1,_⟩:=hok b _ z
      obtain⟨e2,_⟩:=hok' b _ z2
      rw[e] at e1;cases e1
      exact e2
 cases hk:K.lookup a with
 |
  some o=>
  have e:=KX a o hk
  rw[ha] at e
  cases e
  refine core (λ_=>none) (λ_=>.inl rfl) (.inr ⟨_,vs.toArray,_,hk,rfl,rfl,rfl,by rw[u_,lenV];exact hl,by simpa using rv⟩) (λb u z=>by have z':(none:Option HO)=some u:=z;cases z') (λb z=>absurd rfl z) λz=>absurd rfl z
 |
  none=>
  refine core (λb=>if b=a then some (.frz { cls:=.type "list",data:=.seq vs.toArray } (.lst (ns.map V.int))) else none) (λb=>?_) (.inl (.inr ⟨{ cls:=.type "list",data:=.seq vs.toArray },if_pos rfl⟩)) (λb u z=>?_) (λb z=>?_) λ_=>hk
  ·by_cases hb:b=a
   ·exact .inr ⟨_,_,if_pos hb⟩
   ·exact .inl (if_neg hb)
  ·by_cases hb:b=a
   ·have z':=(if_pos hb).symm.trans z
    cases z'
    subst hb
    exact⟨ha,by rw[g_];exact hl,vs,_,rv,ha⟩
   ·have z':=(if_neg hb).symm.trans z
    cases z'
  ·by_cases hb:b=a
   ·exact hb
   ·exact absurd (if_neg hb) z
abbrev KOf{K:W.Frag}{h:Heap}(_:K.In h):W.Frag:=K
def walk_of{l:W.OpenLaw}{n k:Nat}{q:Program}{loose:List Str}{XP:(Str->Option Value)->Heap->Prop}{YP:World->Heap->Prop}{d:DefRec}{K:Params->W.Frag}{CX:World->CXT}{sp:World->Sp}{x:Str}
 (hn:l.most=some n) (hn2:n<=sizeLine) (hdf:d.params.defaults=[]) (hr:Room k callerA)
 (hY:∀(w:World) (h:Heap),YP w h->(K w.params).In h)
 (F:∀(w:World) (mg:Na) (fa:Addr) (h:Heap),(K w.params).In h->h.Ns mainGlobals mg->mg d.name=some (.ref fa)->
  ∃
   fd:FuncData,(∀(s:Shared) (u:Value),BindsTo s fd ⟨[u],[]⟩ [(x,u)])/\
   ∀base:Heap,(K w.params).In base->base.Ns mainGlobals mg->FnOk l.prog w (K w.params) mg base (CX w) k fa fd [x] (sp w))
 (hsp:∀(w:World) (H:Hp) (a:Addr) (ns:List Int),ns.length<=n->nt H->SqL (K w.params) H a (ns.map V.int)->sp w [.ref a] H (λv _=>v=.bl true) λ_ _ _=>False)
 (hCX:∀(w:World) (H:Hp) (s:Shared) (e:Value) (s':Shared),CX w [] H s (λ_ _ _=>False) e s'->False):
 W.WalkO q loose XP YP l.row.toRowW d [] (λf vs=>PySem.call f vs):=by
 refine Att.attach_call hn hdf λw s₀ s₁ mg mb fa o pm cd doc a vs ns G Y ho hd hcd hmg hobj hints bi hg=>?_
 have KX:=hY w _ Y
 obtain⟨fd,hb,hF⟩:=F w mg fa _ KX G.T.g hmg
 exact xW KX G.T.g G.T.b G.T.builtins G.T.nolimit hg hobj hints (x_ bi hn2) hr hF hb (λH hO hS=>hsp w H a ns bi hO hS) λH e s'=>hCX w H s₁ e s'
noncomputable def cW(s:Stmt):Arguments:=match s with
 |.FunctionDef _ a _ _ _ _ _ _ _ _=>a
 |_=>{ posonlyargs:=[],args:=[],vararg:=none,kwonlyargs:=[],kw_defaults:=[],kwarg:=none,defaults:=[] }
noncomputable def bF(s:Stmt):List Stmt:=match s with
 |.FunctionDef _ _ b _ _ _ _ _ _ _=>b
 |_=>[]
noncomputable def az(s:Stmt):Scope:=match s with
 |.FunctionDef _ _ _ _ _ _ sc _ _ _=>sc
 |_=>{ kind:=.function,names:=[],isGenerator:=false,isCoroutine:=false }
abbrev E0:XK:=λ_ _ _=>False
structure Fun(K:W.Frag)(x qual:Str)(st:Stmt)(f:Addr)(fd:FuncData):Prop where
 ex:∃(oc:Value) (od:Option Addr) (kV doc pm:Value) (an:Option Addr) (cdv ct:Value) (osl:Array (Option Value)),
  fd=W.fnOf x qual (cW st) (bF st) (az st) .none kV doc pm an cdv ct/\K.lookup f=some ⟨oc,od,.func fd,osl⟩/\W.codeIn K cdv qual=true
 kp:W.keepIn K (.ref f)=true
section
variable{P:Program}{w:World}{K:W.Frag}{mg:Na}{base:Heap}
def Fun.binds{x qual:Str}{st:Stmt}{f:Addr}{fd:FuncData}{ps:List Str}(F:Fun K x qual st f fd)
 (h:∀(kV doc pm:Value) (an:Option Addr) (cdv ct:Value) (us:List Value),us.length=ps.length->bindArgs (W.fnOf x qual (cW st) (bF st) (az st) .none kV doc pm an cdv ct) ⟨us,[]⟩=pure (ps.zip us)):Binds K fd ps []:=by
 obtain⟨oc,od,kV,doc,pm,an,cdv,ct,osl,rfl,lk,hcd⟩:=F.ex
 exact .all (h kV doc pm an cdv ct)
def C2{x qual:Str}{st:Stmt}{f:Addr}{oc:Value}{od an:Option Addr}{osl:Array (Option Value)}{kV doc pm cdv ct:Value}(l:K.lookup f=some ⟨oc,od,.func (W.fnOf x qual (cW st) (bF st) (az st) .none kV doc pm an cdv ct),osl⟩)
 (c:W.codeIn K cdv qual=true) (k:W.keepIn K (.ref f)=true):Fun K x qual st f (W.fnOf x qual (cW st) (bF st) (az st) .none kV doc pm an cdv ct):=⟨⟨oc,od,kV,doc,pm,an,cdv,ct,osl,rfl,l,c⟩,k⟩
end
def Jy(hr:Room k A):A.units+1<cLine:=LJ (Nat.add_le_add_left (by decide:1<=64) _) hr.units
section
variable{X:Cx}
end
section
variable{X:Cx}{pins:Nb}{σ:St}{H:Hp}{s:Shared}
def Inv.track{a:Addr}{o:HO}(I:Inv X pins σ H s)(hn:H a=none)(h0:X.s₀.heap.get? a=none)(hL:a≠X.env.locals)(hc:∀x c,X.env.cells.lookup x=some c->c≠a)
 (hp:∀p∈X.pn++pins,p.1≠a) (new:ObjOk X.prog X.w (upd H a o) s.heap a o):Inv X pins σ (upd H a o) s:=by
 have ne:∀b u,H b=some u->b≠a:=λb u e z=>by rw[z,hn] at e;cases e
 have ne0:∀b u,X.s₀.heap.get? b=some u->b≠a:=λb u e z=>by rw[z,h0] at e;cases e
 refine⟨I.ok,I.os,I.bare,⟨I.base.keep,I.base.slot,λb u e n hx=>?_,I.base.there,λb xs e=>?_,λb u xs e=>?_,λb ps e=>?_⟩,I.loc,I.cell,?_,λx c e=>?_,λp hp'=>?_,λb u e=>?_,I.len⟩
 ·rw[aL (ne0 b u e)];exact I.base.free b u e n hx
 ·have q:=I.base.tups b xs e
  rw[aL (ne _ _ q)];exact q
 ·have q:=I.base.frzs b u xs e
  rw[aL (ne _ _ q)];exact q
 ·obtain⟨m,q⟩:=I.base.tbls b ps e
  exact⟨m,by rw[aL (ne _ _ q)];exact q⟩
 ·rw[aL (Ne.symm hL)];exact I.free
 ·rw[aL (hc x c e)];exact I.freeC x c e
 ·obtain⟨e,n,r⟩:=I.pin p hp'
  exact⟨e,by rw[aL (hp p hp')];exact n,r⟩
 ·by_cases hb:b=a
  ·subst hb;rw[cJ] at e;cases e;exact new
  ·rw[aL hb] at e
   exact (I.hok b u e).stay (λc v _ q=>q) (λc q=>by rw[aL (ne _ _ q)];exact q) λc xs q=>by rw[aL (ne _ _ q)];exact q
end
theorem iJ{env:Env}:∀{names:List (Str×NameKind)} (cs:List (Str×Addr)),(∀x∈names,x.2=.free->∃c,env.cells.lookup x.1=some c)->(∀x c,cs.lookup x=some c->env.cells.lookup x=some c)->
 ∃
  cl,(forIn names cs λ(x:Str×NameKind) (r:List (Str×Addr))=>if (x.2==NameKind.free)=true then do let a <- cellOf env x.1;pure (ForInStep.yield ((x.1,a)::r)) else pure (ForInStep.yield r):Sem (List (Str×Addr)))=pure cl/\
  (∀x c,cl.lookup x=some c->env.cells.lookup x=some c)/\(∀x c,cs.lookup x=some c->∃c',cl.lookup x=some c')/\∀x∈names,x.2=.free->∃c,cl.lookup x.1=some c
 | [],cs,_,h=>⟨cs,by simp,h,λx c e=>⟨c,e⟩,λ_ hx=>nomatch hx⟩
 |
  (n,k)::r,cs,hf,h=>by
  rw[List.forIn_cons]
  by_cases hk:k=.free
  ·subst hk
   obtain⟨c,hc⟩:=hf (n,.free) m_ rfl
   have hcell:cellOf env n=pure c:=by unfold cellOf;rw[hc]
   have h':∀x d,((n,c)::cs).lookup x=some d->env.cells.lookup x=some d:=λx d e=>by
    rw[Li] at e
    cases q:x==n with
    |true=>rw[q] at e;cases e;rw[Kx.mp q];exact hc
    |false=>rw[q] at e;exact h x d e
   obtain⟨cl,e1,e2,e3,e4⟩:=iJ (env:=env) (names:=r) ((n,c)::cs) (λx hx=>hf x (i_ _ hx)) h'
   have top:∃c',cl.lookup n=some c':=e3 n c (by rw[Li];simp)
   refine⟨cl,?_,e2,λx d e=>?_,λx hx hfr=>?_⟩
   ·simp only[beq_self_eq_true,LV,hcell]
    exact e1
   ·by_cases q:x=n
    ·rw[q];exact top
    ·exact e3 x d (by rw[Li,(o_.mpr q:(x==n)=false)];exact e)
   ·rcases B_.mp hx with rfl |hx
    ·exact top
    ·exact e4 x hx hfr
  ·have hb:(k==NameKind.free)=false:=by simpa using hk
   obtain⟨cl,e1,e2,e3,e4⟩:=iJ (env:=env) (names:=r) cs (λx hx=>hf x (i_ _ hx)) h
   refine⟨cl,?_,e2,e3,λx hx hfr=>?_⟩
   ·simp only[hb,Lm,Md]
    exact e1
   ·rcases B_.mp hx with rfl |hx
    ·exact absurd hfr hk
    ·exact e4 x hx hfr
def og{env:Env}{scope:Scope}(hf:∀x∈scope.names,x.2=.free->∃c,env.cells.lookup x.1=some c):
 ∃cl,closureFor scope env=pure cl/\(∀x c,cl.lookup x=some c->env.cells.lookup x=some c)/\∀x∈scope.names,x.2=.free->∃c,cl.lookup x.1=some c:=by
 obtain⟨cl,e1,e2,_,e4⟩:=iJ (env:=env) (names:=scope.names) [] hf (λx c e=>by simp at e)
 refine⟨cl,?_,e2,e4⟩
 unfold closureFor
 simp only[e1]
 rfl
def aQ(X:Cx)(N:List Str)(scope:Scope)(cl:List (Str×Addr))(C:Addr)(s₂:Shared)(H:Hp)(fp:List Addr):Cx:=
 { X with N:=N,s₀:=s₂,H₀:=H,env:=compEnvC scope cl C X.env,outer:=X.stack,stack:=X.stack,ex:=fp,fn:=λ_=>false,pn:=[],xe:=λ_ _=>False }
def fB(sub:Nd)(σ:St):St:=sub.map λo=>o.bind λi=>(σ[i]?).bind id
def LcW(J:It)(sub:Nd)(g:TG)(tc:TT)(te:TE)(σ:St)(H1:Hp)(Q:VK):Prop:=∃W:Nat->Nat->List V->St->Hp->Prop,(∃m,W 0 m [] (fB sub σ) H1)/\∀i m ys σ H,W i m ys σ H->
 (J.stop i H/\ys.length<=sizeLine/\∀D,H D=none->Q (.ref D) (upd H D (.lst ys)))\/
 (J.go i H/\ys.length<sizeLine/\∃Nx:List V->St->Hp->Prop,(∀ys' σ' H',Nx ys' σ' H'->∃m',m'<m/\W (i+1) m' ys' σ' H')/\
  ∀x H',J.yld i H x H'->g x σ H' λσ2 H2=>tc σ2 H2 λb H3=>if b=true then te σ2 H3 λy H4=>Nx (ys++[y]) σ2 H4 else Nx ys σ2 H3)
def iO(wi:TI)(sub:Nd)(g:TG)(tc:TT)(te:TE):TE:=λσ H Q=>wi σ H λJ H1=>LcW J sub g tc te σ H1 Q
abbrev xY:TT:=λ_ H Q=>Q true H
section
variable{prog:Program}{w:World}{A:Around}{R:Result->Shared->Prop}{s:Shared}
def qr{c_ target al:Expr}{ifs:List Expr}{scope:Scope}{pos:Pos}{it acc:Value}{env:Env}(I:Nat->Shared->Prop)
 (turn
  : ∀n s,I n s->wpAny (model prog w) A (pyNext it) (λr s₁=>match r with
  |none=>R (.ok .next) s₁
  |some v=>wpAny (model prog w) A (letOwnedTupleGo target it v) (λ_ s₁'=>wpAny (model prog w) A (assign target env v) (λ_ s₂=>
   wpAny (model prog w) A (forIn ifs true λc r=>if r=true then do let ok <- isTrue c env (eval c env);pure (ForInStep.yield ok) else pure (ForInStep.yield r))
    (λok s₃=>if ok=true then wpAny (model prog w) A (eval c_ env) (λx s₄=>wpAny (model prog w) A (call (.builtin "list.append") [acc,x]) (λ_ s₅=>∃m,m<n/\I m s₅) (λ_ _=>False) s₄) (λ_ _=>False) s₃
     else ∃m,m<n/\I m s₃) (λ_ _=>False) s₂) (λ_ _=>False) s₁') (λ_ _=>False) s₁) (λ_ _=>False) s)
 (n:Nat) (h:I n s):
 codeAny (model prog w) A (.compLoop (.ListComp c_ [⟨target,al,ifs,0⟩] scope pos) 0 it acc env) R s:=by
 refine codeAny_loop rfl I (λn s hI=>?_) n h
 show wpAny _ _ ((compTurn (.ListComp c_ [⟨target,al,ifs,0⟩] scope pos) 0 it acc env).onRaise (λx=>do noteFrame x env;theTreesLotGoes x)) _ _ s
 refine wpAny_noted ?_
 rw[compTurn_list]
 refine KH (E:=λ_ _=>False) ?_ (λ_ _ q=>q) λ_ _ q=>q.elim
 refine j_ (Mm (j_ (KH (turn n s hI) (λr s₁ h₁=>?_) λ_ _ h'=>h')))
 cases r with
 |none=>exact D_ h₁
 |
  some v=>
  refine j_ (KH h₁ (λ_ s₁' h₁'=>?_) λ_ _ h'=>h')
  refine j_ (KH h₁' (λ_ s₂ h₂=>?_) λ_ _ h'=>h')
  refine j_ (KH h₂ (λok s₃ h₃=>?_) λ_ _ h'=>h')
  cases ok with
  |
   true=>
   simp only[LV] at h₃ ⊢
   refine j_ (j_ (KH h₃ (λx s₄ h₄=>?_) λ_ _ h'=>h'))
   refine j_ (KH h₄ (λ_ s₅ h₅=>?_) λ_ _ h'=>h')
   exact D_ (D_ ⟨rfl,h₅⟩)
  |
   false=>
   simp only[Lm,Md] at h₃ ⊢
   first
    |exact j_ (D_ (D_ ⟨rfl,h₃⟩))
    |exact D_ ⟨rfl,h₃⟩
end
section
variable{X:Cx}
def PTs(X:Cx)(ifs:List Expr)(t:TT):Prop:=
 ∀
  (pins:Nb) (s:Shared) (σ:St) (H:Hp) (Q:Bool->Hp->Prop),Inv X pins σ H s->t σ H Q->
  wpAny (model X.prog X.w) X.A (forIn ifs true λc r=>if r=true then do let ok <- isTrue c X.env (eval c X.env);pure (ForInStep.yield ok) else pure (ForInStep.yield r)) (TP X pins σ Q) X.xe s
def sd:PTs X [] (λ_ H Q=>Q true H):=λpins s σ H Q I h=>by
 rw[List.forIn_nil]
 exact D_ ⟨H,I,h⟩
structure LcEnd(X:Cx)(pins:Nb)(σ:St)(Q:VK)(D C:Addr)(s4:Shared):Prop where
 ns:∃m,s4.heap.Ns C m
 dc:D<C
 fr:X.env.locals<D
 cell:∀x c,X.env.cells.lookup x=some c->c<D
 pin:∀p∈X.pn++pins,p.1<D
 sz:X.s₀.heap.objs.size<=D
 inv:∃H',H' C=none/\Q (.ref D) H'/\∀h',Heap.SameBut C s4.heap h'->Inv X pins σ H' { s4 with heap:=h' }
def rQ{c_ al tg:Expr}{ifs:List Expr}{scope:Scope}{pos:Pos}{wi:TI}{g:TG}{tc:TT}{te:TE}{N:List Str}{sub:Nd}{use:Option (Value->Sem Unit)}{R:Nc}{pins:Nb}{s:Shared}{σ:St}{H:Hp}{Q:VK}{fpos:Pos}
 (hc:X.calm=true) (hi:PI X tg al wi)
 (hk:scope.kind=.function) (hnc:∀x∈scope.names,x.2 ≠ .cell) (be:∀x∈scope.names,x.2=.local->scope.names.lookup x.1=some .local)
 (hfr:∀x∈scope.names,x.2=.free->X.env.kindOf x.1=some .cell\/X.env.kindOf x.1=some .free)
 (hsl:sub.length=N.length) (bn:∀(j i:Nat) (x:Str),sub[j]?=some (some i)->N[j]?=some x->X.N[i]?=some x/\scope.names.lookup x=some .free)
 (hg:∀cl C s₂ H fp,PG (aQ X N scope cl C s₂ H fp) tg g) (ht:∀cl C s₂ H fp,PTs (aQ X N scope cl C s₂ H fp) ifs tc) (he:∀cl C s₂ H fp,PE (aQ X N scope cl C s₂ H fp) c_ te)
 (hs:∀x,foldedSetIterable al X.env x=pure x) (I:Inv X pins σ H s) (h:iO wi sub g tc te σ H Q)
 (em:∀D C s4,LcEnd X pins σ Q D C s4->compPost (model X.prog X.w) X.A X.xe use R (.ref D) C (.ok .next) s4):
 wpAny (model X.prog X.w) X.A (comprehension (.ListComp c_ [⟨tg,al,ifs,0⟩] scope pos) scope X.env fpos (newList []) false (eval al X.env) use) R X.xe s:=by
 obtain⟨cl,hclos,hcl,hclf⟩:=og (env:=X.env) (scope:=scope) λx hx hf=>I.ok.has x.1 (hfr x hx hf)
 refine wpAny_comprehension_free rfl hs hclos hk be ?_
 show wpAny _ _ (eval al X.env) _ _ _
 refine thn (hi pins s σ H _ I h) λv s1 h1=>thn h1 λitv s2 h2=>?_
 obtain⟨it,fp,tn,J,H2,e,I2,T,st2,f2,W,⟨m0,w0⟩,turn⟩:=h2
 subst e
 refine K7 (wpAny_newFunctionEnv hnc (by intro y hy;simp at hy) (λh₁ hns₁ hsb₁=>?_) hk)
 dsimp only at hns₁ hsb₁ ⊢
 generalize hH2:s2.heap.push { cls:=.type "list",dict:=none,data:=.seq ([]:List Value).toArray }=G2 at hns₁ hsb₁ ⊢
 have hC:G2.objs.size=s2.heap.objs.size+1:=by rw[<- hH2,Heap.size_push]
 have hDC:s2.heap.objs.size≠G2.objs.size:=by omega
 have below:∀b,b<s2.heap.objs.size->b≠G2.objs.size/\b≠s2.heap.objs.size:=λb hb=>⟨by omega,by omega⟩
 have old:∀b o,s2.heap.get? b=some o->h₁.get? b=some o:=λb o e=>hsb₁.extBut b o (below b (v_ e)).1 (s_ _ (hH2 ▸ s_ _ e))
 have hD₁:h₁.get? s2.heap.objs.size=some { cls:=.type "list",dict:=none,data:=.seq ([]:List Value).toArray }:=hsb₁.extBut _ _ hDC (s_ _ (hH2 ▸ Km _ rfl))
 have fresh:∀a,s2.heap.objs.size<=a->s2.heap.get? a=none:=λa ha=>Mp ha
 have cellOld:∀x c,cl.lookup x=some c->c<s2.heap.objs.size:=λx c e=>by
  obtain⟨v,z⟩:=I2.cell x c (hcl x c e)
  exact z.lt
 have fpOld:∀b∈fp,b<s2.heap.objs.size:=λb hb=>by
  obtain⟨o,e,_⟩:=T.obj _ _ st2 b hb
  exact v_ e
 let Y:Cx:=aQ X N scope cl G2.objs.size s2 H2 fp
 have okY:Y.Ok
  := by
  refine⟨I2.ok.mod,?_,I2.ok.glob,I2.ok.blt,?_,λx y c e1 e2=>I2.ok.inj x y c (hcl x c e1) (hcl y c e2),λx hx=>?_,λx c hfn _=>absurd hfn p_,I2.ok.hd,I2.ok.frames,.inl rfl,
   λb hb=>⟨?_,λx c e z=>?_⟩,I2.bs,x_ I2.ok.bsz I2.sz,λb o e hb=>?_,λb hb hf=>?_,I2.stack,I2.stkFree⟩
  ·show (relabel scope X.env).kind=.function
   exact hk
  ·show s2.heap.objs.size<=G2.objs.size
   omega
  ·have hx':(
    relabel scope X.env).names.lookup x=some .cell\/(relabel scope X.env).names.lookup x=some .free:=hx
   have:∃k,
    (x,k)∈scope.names/\k=.free:=by
    have gen:∀(names:List (Str×NameKind)),(∀y∈names,y.2 ≠ .cell)->∀kk,(kk=NameKind.cell\/kk=NameKind.free)->(names.map λ(n,k)=>if (k==NameKind.free&&X.env.scope.kind == .function&&X.env.kindOf n==some .cell) then (n,NameKind.cell) else (n,k)).lookup x=some kk->∃k,(x,k)∈names/\k=.free:=by
     intro names
     induction names with
     |nil=>intro _ kk _ e;simp at e
     |
      cons y r ih=>
      intro hn kk hkk e
      obtain⟨n,k⟩:=y
      rw[C_,Li] at e
      by_cases hkf:k=.free
      ·subst hkf
       by_cases hxn:x=n
       ·exact⟨.free,by rw[hxn];exact m_,rfl⟩
       ·have hb:(x==(if (NameKind.free==NameKind.free&&X.env.scope.kind == .function&&X.env.kindOf n==some .cell)=true then (n,NameKind.cell) else (n,NameKind.free)).1)=false:=by
         split <;> exact o_.mpr hxn
        rw[hb] at e
        obtain⟨k',m,q⟩:=ih (λz hz=>hn z (i_ _ hz)) kk hkk e
        exact⟨k',i_ _ m,q⟩
      ·have hb0:(k==NameKind.free&&X.env.scope.kind == .function&&X.env.kindOf n==some .cell)=false:=by
        have:(k==NameKind.free)=false:=by simpa using hkf
        rw[this];rfl
       rw[hb0] at e
       simp only[Lm,Md] at e
       cases q:x==n with
       |
        true=>
        rw[q] at e
        have e':k=kk:=z_ e
        subst e'
        rcases hkk with z |z
        ·exact absurd z (hn (n,k) m_)
        ·exact absurd z hkf
       |
        false=>
        rw[q] at e
        obtain⟨k',m,q⟩:=ih (λz hz=>hn z (i_ _ hz)) kk hkk e
        exact⟨k',i_ _ m,q⟩
    rcases hx' with z |z
    ·exact gen scope.names hnc _ (.inl rfl) z
    ·exact gen scope.names hnc _ (.inr rfl) z
   obtain⟨k,m,q⟩:=this
   exact hclf (x,k) m q
  ·show b≠G2.objs.size
   exact (below b (fpOld b hb)).1
  ·exact (f2 b hb).2.2.2.2.1 x c (hcl x c e) z
  ·rcases (f2 b hb).2.2.2.1 with z |z
   ·exact I2.ok.noex b o e z
   ·exact absurd (y_ (v_ e) (x_ I2.ok.bsz z)) (K1 _)
  ·have hf':b∈frs X.stack:=hf
   rcases B_.mp (I2.stkSub b hf') with z |z
   ·exact (f2 b hb).2.1 z
   ·exact (f2 b hb).2.2.1 z
 have startLoc
  : ∃m,h₁.Ns G2.objs.size m/\∀(i:Nat) (x:Str) (v:V),N[i]?=some x->(fB sub σ)[i]?=some (some v)->Vis (relabel scope X.env) x->∃u,RelV v u/\Look Y.env h₁ m x u:=by
  refine⟨_,hns₁,λj x v e1 e2 e3=>?_⟩
  unfold fB at e2
  rw[t_] at e2
  cases q:sub[j]? with
  |none=>rw[q] at e2;cases e2
  |
   some o=>
   rw[q] at e2
   cases o with
   |none=>cases e2
   |
    some i=>
    obtain⟨hNi,hfree⟩:=bn j i x q e1
    have e2':(σ[i]?).bind id=some v:=z_ e2
    have e2'':σ[i]?=some (some v):=by
     cases z:σ[i]? with
     |none=>rw[z] at e2';cases e2'
     |some y=>rw[z] at e2';rw[show y=some v from e2']
    obtain⟨m2,hn2,hl2⟩:=I2.loc
    have hkx:=hfr (x,.free) (K9 hfree) rfl
    obtain⟨u,r,l⟩:=hl2 i x v hNi e2'' (by rcases hkx with z |z;exact .inr (.inl z);exact .inr (.inr z))
    refine⟨u,r,.inr ⟨?_,?_⟩⟩
    ·rcases e3
      with z |z |z
     ·exfalso
      have gen:∀(names:List (Str×NameKind)),names.lookup x=some .free->(names.map λ(n,k)=>if (k==NameKind.free&&X.env.scope.kind == .function&&X.env.kindOf n==some .cell) then (n,NameKind.cell) else (n,k)).lookup x=some .local->False:=by
       intro names
       induction names with
       |nil=>intro e _;simp at e
       |
        cons y r ih=>
        intro e1 e2
        obtain⟨n,k⟩:=y
        rw[Li] at e1
        rw[C_,Li] at e2
        by_cases hxn:x=n
        ·have hb1:(x==n)=true:=Kx.mpr hxn
         rw[hb1] at e1
         have:k=.free:=z_ e1
         subst this
         split at e2
         ·rename_i hq
          split at e2 <;> cases e2
         ·rename_i hq
          split at hq <;> (rw[hb1] at hq;cases hq)
        ·have hb1:(x==n)=false:=o_.mpr hxn
         rw[hb1] at e1
         refine ih e1 ?_
         split at e2
         ·rename_i hq
          split at hq <;> (rw[hb1] at hq;cases hq)
         ·exact e2
      exact gen scope.names hfree z
     ·exact .inl z
     ·exact .inr z
    ·obtain⟨c,hc'⟩:=hclf (x,.free) (K9 hfree) rfl
     refine⟨c,hc',?_⟩
     rcases l with ⟨k,_⟩ |⟨_,c2,ec2,z⟩
     ·rcases hkx with z |z <;> (rw[k] at z;cases z)
     ·have:=hcl x c hc'
      rw[ec2] at this
      cases this
      obtain⟨oc,hoc,hd⟩:=z
      exact⟨oc,old _ _ hoc,hd⟩
 have pinD:∀{σ':St}{H':Hp}{s':Shared}{pl:Nb}{o:Obj},Inv Y pl σ' H' s'->s'.heap.get? s2.heap.objs.size=some o->(∀v,o.data ≠ .cell v)->H' s2.heap.objs.size=none->Inv Y [(s2.heap.objs.size,o)] σ' H' s':=λ{σ' H' s' pl o} IY e d n=>
  IY.pins_of λp hp=>by
   have e':p=(s2.heap.objs.size,o):=by simpa using hp
   subst e'
   refine⟨e,n,?_,?_,d⟩
   ·show s2.heap.objs.size≠G2.objs.size
    omega
   ·intro hf
    have hf':s2.heap.objs.size∈frs X.stack:=hf
    obtain⟨_,o',ho',_⟩:=I2.stack.mem hf'
    exact absurd (v_ ho') (K1 _)
 have fpY:∀{H':Hp}{pl:Nb},(∀b∈fp,H' b=none)->(∀p∈pl,p.1∉fp)->∀b∈fp,FpOk Y pl H' b:=λ{H' pl} hn hp b hb=>by
  refine⟨hn b hb,?_,?_,.inl hb,λx c e=>?_,λp hp'=>?_⟩
  ·exact (okY.exf b hb).1
  ·exact okY.exfs b hb
  ·exact (okY.exf b hb).2 x c e
  ·intro z
   have hp'':p∈pl:=by simpa [Y,aQ] using hp'
   exact hp p hp'' (by rw[z];exact hb)
 have hDfp:s2.heap.objs.size∉fp:=λz=>K1 _ (fpOld _ z)
 have loop
  : ∀s₃:Shared,s₃={ s2 with heap:=h₁,toks:=s2.toks+([]:List (Str×Value)).length }->
  codeAny (model X.prog X.w) X.A (.compLoop (.ListComp c_ [⟨tg,al,ifs,0⟩] scope pos) 0 (.ref it) (.ref s2.heap.objs.size) (compEnvC scope cl G2.objs.size X.env))
   (compPost (model X.prog X.w) X.A X.xe use R (.ref s2.heap.objs.size) G2.objs.size) s₃:=by
  rintro s₃ rfl
  have IY0:Inv Y [(s2.heap.objs.size,{ cls:=.type "list",dict:=none,data:=.seq ([]:List Value).toArray })] (fB sub σ) H2 { s2 with heap:=h₁,toks:=s2.toks+([]:List (Str×Value)).length }:=by
   have J0:Inv Y [] (fB sub σ) H2 { s2 with heap:=h₁,toks:=s2.toks+([]:List (Str×Value)).length }:=by
    refine⟨okY,rfl,I2.bare,Un.kept old,startLoc,λx c e=>?_,I2.hok.fresh (by show s2.heap.objs.size<=G2.objs.size;omega),λx c e=>I2.freeC x c (hcl x c e),λp hp=>absurd (show p∈([]:Nb) from hp) (by simp),I2.hok.kept old,?_⟩
    ·obtain⟨v,oc,hoc,hd⟩:=I2.cell x c (hcl x c e)
     exact⟨v,oc,old _ _ hoc,hd⟩
    ·show (fB sub σ).length=N.length
     unfold fB
     rw[g_];exact hsl
   exact pinD J0 hD₁ (λv z=>by cases z) I2.fresh
  refine qr (λn s'=>∃(i:Nat) (ys:List V) (its:List Value) (k:Nat) (σ':St) (H':Hp),Inv Y [(s2.heap.objs.size,{ cls:=.type "list",dict:=none,data:=.seq its.toArray k })] σ' H' s'/\Vals ys its/\tn i s'.heap/\(∀b∈fp,H' b=none)/\W i n ys σ' H') ?_ m0
   ⟨0,[],[],0,fB sub σ,H2,IY0,.nil,T.keep _ _ _ st2 (λb hb o e=>old b o e),λb hb=>(f2 b hb).1,w0⟩
  rintro n s3 ⟨i,ys,its,k,σ3,H3,I3,rv,st3,fr3,w3⟩
  have npl:∀(o:Obj),∀p∈[(s2.heap.objs.size,o)],p.1∉fp:=λo p hp=>by
   have e':p=(s2.heap.objs.size,o):=by simpa using hp
   subst e'
   exact hDfp
  rcases turn i n ys σ3 H3 w3 with ⟨stop,hz,qn⟩ |⟨go,hz,Nx,hNx,step⟩
  ·refine KH (T.done Y rfl rfl rfl hc i _ s3 σ3 H3 (λ_ _=>False) I3 (fpY fr3 (npl _)) st3 stop) (λr s4 ⟨hr,I4⟩=>?_) λ_ _ z=>z
   subst hr
   obtain⟨m4,hn4,_⟩:=I4.loc
   have hCfree:H3 G2.objs.size=none:=I4.free
   have hD4:=I4.pin (s2.heap.objs.size,{ cls:=.type "list",dict:=none,data:=.seq its.toArray k }) (Ko _ m_)
   have un4:Un (frs X.stack) fp H2 H3 s2.heap s4.heap:=I4.base
   have ne2:∀b o,s2.heap.get? b=some o->b≠G2.objs.size:=λb o e=>(below b (v_ e)).1
   have hDfree:H3 s2.heap.objs.size=none:=hD4.2.1
   have sz0:X.s₀.heap.objs.size<=s2.heap.objs.size:=I2.sz
   refine em s2.heap.objs.size G2.objs.size s4 ⟨⟨m4,hn4⟩,by rw[hC];exact Nat.lt_succ_self _,I2.lt,λx c e=>?_,λp hp=>v_ (I2.pin p hp).1,sz0,upd H3 s2.heap.objs.size (.lst ys),by rw[aL (Ne.symm hDC)];exact hCfree,qn _ hDfree,λh' hs'=>?_⟩
   ·obtain⟨v,q⟩:=I2.cell x c e
    exact q.lt
   have up:∀b o,b≠G2.objs.size->s4.heap.get? b=some o->h'.get? b=some o:=λb o hb e=>hs'.extBut b o hb e
   have un5:Un (frs X.stack) fp H2 H3 s2.heap h':=by
    refine⟨λb o e n hb hx=>up b o (ne2 b o e) (un4.keep b o e n hb hx),λb o e n hb hx=>?_,un4.free,λb o e hx=>?_,un4.tups,un4.frzs,un4.tbls⟩
    ·obtain⟨sl,q⟩:=un4.slot b o e n hb hx
     exact⟨sl,up b _ (ne2 b o e) q⟩
    ·obtain⟨o',q⟩:=un4.there b o e hx
     exact⟨o',up b _ (ne2 b o e) q⟩
   have hok5:HOk X.prog X.w H3 h':=λb u e=>(I4.hok b u e).stay (λc v hcc q=>up c v (λz=>by
    rcases hcc with zz |zz
    ·rw[zz] at z;rw[z,hCfree] at e;cases e
    ·rw[z,hCfree] at zz;cases zz) q) (λ_ q=>q) λ_ _ q=>q
   have I5:Inv X pins σ H3 { s4 with heap:=h' }:=I2.call' (s':={ s4 with heap:=h' }) (ch:=fp) I4.os un5 hok5 I4.bare λb hb=>by
    obtain⟨_,g1,_,g3,g4,g5⟩:=f2 b hb
    exact⟨g3,g1,g4,g5⟩
   refine I5.track (o:=.lst ys) hDfree (Mp sz0) (Nat.ne_of_gt I2.lt) (λx c e z=>?_) (λp hp z=>?_) ?_
   ·obtain⟨v,q⟩:=I2.cell x c e
    exact absurd q.lt (by rw[z];exact K1 _)
   ·exact absurd (v_ (I2.pin p hp).1) (by rw[z];exact K1 _)
   ·exact⟨hz,its,k,rv,up _ _ hDC hD4.1⟩
  ·refine KH (T.item Y rfl rfl rfl hc i _ s3 σ3 H3 (λ_ _=>False) I3 (fpY fr3 (npl _)) st3 go) (λr s4 ⟨u,hr,h4⟩=>?_) λ_ _ z=>z
   subst hr
   refine KH h4 (λ_ s5 ⟨x,H5,I5,r5,y5,st5,fr5⟩=>?_) λ_ _ z=>z
   have I5':=I5.pinned (fpY fr5 (npl _)) (T.obj _ _ st5)
   refine KH (hg cl G2.objs.size s2 H2 fp _ s5 σ3 H5 x u _ I5' r5 (step x H5 y5)) (λ_ s6 ⟨σ6,H6,I6,q6⟩=>?_) λ_ _ z=>z
   refine KH (ht cl G2.objs.size s2 H2 fp _ s6 σ6 H6 _ I6 q6) (λok s7 ⟨H7,I7,q7⟩=>?_) λ_ _ z=>z
   have back:∀{σ':St}{H':Hp}{s':Shared},Inv Y ([(s2.heap.objs.size,{ cls:=.type "list",dict:=none,data:=.seq its.toArray k })]++jw fp s5.heap) σ' H' s'->tn (i+1) s'.heap/\∀b∈fp,H' b=none:=λ{σ' H' s'} IB=>by
    refine⟨T.keep _ _ _ st5 λb hb o e=>(IB.pin (b,o) (Ko _ (Ko _ (gc hb e)))).1,λb hb=>?_⟩
    obtain⟨o,e,d⟩:=T.obj _ _ st5 b hb
    exact (IB.pin (b,o) (Ko _ (Ko _ (gc hb e)))).2.1
   cases ok with
   |
    false=>
    rw[if_neg p_] at q7
    obtain⟨m',hm,w7⟩:=hNx _ _ _ q7
    rw[if_neg p_]
    obtain⟨t7,f7⟩:=back I7
    exact⟨m',hm,i+1,ys,its,k,σ6,H7,I7.unpinned,rv,t7,f7,w7⟩
   |
    true=>
    rw[if_pos rfl] at q7
    rw[if_pos rfl]
    refine KH (he cl G2.objs.size s2 H2 fp _ s7 σ6 H7 _ I7 q7) (λy s8 ⟨yv,H8,I8,r8,q8⟩=>?_) λ_ _ z=>z
    obtain⟨m',hm,w8⟩:=hNx _ _ _ q8
    obtain⟨t8,f8⟩:=back I8
    have I9:=I8.unpinned
    have hD9:=I9.pin (s2.heap.objs.size,{ cls:=.type "list",dict:=none,data:=.seq its.toArray k }) (Ko _ m_)
    have e9:s8.heap.get? s2.heap.objs.size=some { cls:=.type "list",dict:=none,data:=.seq its.toArray k }:=hD9.1
    have bi:=rv.length
    refine MB F.slot_list_append ⟨_,e9,rfl⟩ F.entry_list_append (F.args_list_append_2 _ _) (PySem.list_append _ its.toArray k y (by rw[u_];omega)) ⟨e9,?_⟩
    have q9:=PySem.IsL.update e9 (λxs=>xs.push y)
    have ea:its.toArray.push y=(its++[y]).toArray:=by simp
    rw[ea] at q9
    have k9:∀b o,b≠s2.heap.objs.size->s8.heap.get? b=some o->(s8.heap.update s2.heap.objs.size (Obj.mapSeq λxs=>xs.push y)).get? b=some o:=λb o hb e=>(Mh _ _ (Ne.symm hb)).trans e
    have I10:Inv Y [] σ6 H8 { s8 with heap:=s8.heap.update s2.heap.objs.size (Obj.mapSeq λxs=>xs.push y) }:=
     (I9.pins_of (pins':=[]) (λp hp=>nomatch hp)).turned (t':=s8.toks) k9 hD9.2.1 hD9.2.2.1 (.inr (n_ _)) (λx c e z=>absurd (cellOld x c e) (by rw[z];exact K1 _))
      (λp hp=>absurd (show p∈([]:Nb) from hp) (by simp))
    refine⟨m',hm,i+1,ys++[yv],its++[y],_,σ6,H8,pinD I10 q9 (λv z=>by cases z) hD9.2.1,rv.append (.cons r8 .nil),?_,f8,w8⟩
    exact T.keep _ _ _ t8 λb hb o e=>k9 b o (λz=>hDfp (by rw[<- z];exact hb)) e
 exact codeAny_compStart_list (loop _ rfl) (T.self _ 0 _ _ _ (T.keep _ _ _ st2 λb hb o e=>old b o e) (loop _ rfl))
def Ej{c_ al tg:Expr}{ifs:List Expr}{scope:Scope}{pos:Pos}{wi:TI}{g:TG}{tc:TT}{te:TE}{N:List Str}{sub:Nd}
 (hc:X.calm=true) (hi:PI X tg al wi)
 (hk:scope.kind=.function) (hnc:∀x∈scope.names,x.2 ≠ .cell) (be:∀x∈scope.names,x.2=.local->scope.names.lookup x.1=some .local)
 (hfr:∀x∈scope.names,x.2=.free->X.env.kindOf x.1=some .cell\/X.env.kindOf x.1=some .free)
 (hsl:sub.length=N.length) (bn:∀(j i:Nat) (x:Str),sub[j]?=some (some i)->N[j]?=some x->X.N[i]?=some x/\scope.names.lookup x=some .free)
 (hg:∀cl C s₂ H fp,PG (aQ X N scope cl C s₂ H fp) tg g) (ht:∀cl C s₂ H fp,PTs (aQ X N scope cl C s₂ H fp) ifs tc) (he:∀cl C s₂ H fp,PE (aQ X N scope cl C s₂ H fp) c_ te)
 (hs:∀x,foldedSetIterable al X.env x=pure x):
 PE X (.ListComp c_ [⟨tg,al,ifs,0⟩] scope pos) (iO wi sub g tc te):=by
 intro pins s σ H Q I h
 rw[eval_ListComp]
 refine rQ hc hi hk hnc be hfr hsl bn hg ht he hs I h λD C s4 e=>?_
 obtain⟨m,hm⟩:=e.ns
 obtain⟨H',_,q,i⟩:=e.inv
 exact⟨m,hm,λh' hs'=>⟨.ref D,H',i h' hs',rfl,q⟩⟩
def fy(M:List Str)(names:List (Str×NameKind))(sub:Nd)(N:List Str):Bool:=(sub.zip N).all λp=>match p.1 with
 |none=>true
 |some i=>M[i]?==some p.2&&names.lookup p.2==some .free
def oX{M:List Str}{names:List (Str×NameKind)}{sub:Nd}{N:List Str}(h:fy M names sub N=true)(j i:Nat)(x:Str)(h1:sub[j]?=some (some i))(h2:N[j]?=some x):
 M[i]?=some x/\names.lookup x=some .free:=by
 unfold fy at h
 rw[I_] at h
 have hm:(some i,x)∈sub.zip N:=by
  refine K2 (i:=j) ?_
  rw[List.getElem?_zip_eq_some]
  exact⟨h1,h2⟩
 have q:=h _ hm
 simp only[k_,Kx] at q
 exact q
def g0(kn names:List (Str×NameKind)):Bool:=names.all λx=>x.2 != .free || kn.lookup x.1==some .cell || kn.lookup x.1==some .free
def rJ{kn names:List (Str×NameKind)}(h:g0 kn names=true):∀x∈names,x.2=.free->kn.lookup x.1=some .cell\/kn.lookup x.1=some .free:=λx hx hf=>by
 unfold g0 at h
 rw[I_] at h
 have q:=h x hx
 rw[hf] at q
 simpa using q
def Jb{c_ al tg:Expr}{scope:Scope}{pos:Pos}{wi:TI}{g:TG}{te:TE}(M:List Str)(kn:List (Str×NameKind))(N:List Str)(sub:Nd)
 (hc:X.calm=true) (hi:PI X tg al wi)
 (hg:∀cl C s₂ H fp,PG (aQ X N scope cl C s₂ H fp) tg g) (he:∀cl C s₂ H fp,PE (aQ X N scope cl C s₂ H fp) c_ te)
 (hM:X.N=M) (hkn:X.env.scope.names=kn) (bn:fy M scope.names sub N=true)
 (hk:scope.kind=.function) (hnc:∀x∈scope.names,x.2 ≠ .cell) (be:∀x∈scope.names,x.2=.local->scope.names.lookup x.1=some .local)
 (hfr:g0 kn scope.names=true)
 (hsl:sub.length=N.length) (hs:∀x,foldedSetIterable al X.env x=pure x):
 PE X (.ListComp c_ [⟨tg,al,[],0⟩] scope pos) (iO wi sub g xY te):=
 Ej hc hi hk hnc be (by subst hkn;exact rJ hfr) hsl (by subst hM;exact oX bn) hg (λcl C s₂ H fp=>sd) he hs
end
end L2
namespace L2
open PySem PySem.Spec PyProof.Rows PySem.W PySem.Builtin PySem.Builtin.ObjectAttr PySem.Builtin.Getset_descriptor
structure XCls(K:W.Frag)(C:Addr):Prop where
 cls:(clsIn K C).isSome=true
 ga:findIn K (.ref C) "__getattribute__"=some (some (.builtin "BaseException.__getattribute__"))
 gt:findIn K (.ref C) "__getattr__"=some none
 at_:findIn K (.ref C) "__class__"=some (some (.builtin "object.__class__"))
 gs:specialIn K (.builtin "object.__class__") "__get__"=some (some (.builtin "getset_descriptor.__get__"))
 tk:takesIn K (.builtin "object.__class__")=some true
 mo:mroIn K C (.type "object")=some true
 mb:mroIn K C (.type "BaseException")=some true
section
variable{prog:Program}{w:World}{A:Around}{E:Nc}{K:W.Frag}{x C:Addr}{o:Obj}
noncomputable def iU(hx:h.get? x=some o)(hc:o.cls=.ref C):Looks M h (typeOf (.ref x)) (.ref C):=hc ▸ (Looks.ld hx).andThen .now
noncomputable def xN(X:K.In h)(T:XCls K C):Looks M h (find (.ref x) (.ref C) "__class__") (.bind (.builtin "getset_descriptor.__get__") (.builtin "object.__class__")):=by
 have L1:=looks_findIn (M:=M) X T.at_
 have L2:Looks M h (getOf (some (.builtin "object.__class__"))) (some (.builtin "getset_descriptor.__get__")):=looks_specialIn X T.gs
 have L3:=looks_takesIn (M:=M) X T.tk
 refine L1.andThen (L2.andThen ?_)
 exact (show Looks M h (dataDescriptor? (some (.builtin "object.__class__")) (some (.builtin "getset_descriptor.__get__"))) (some (.builtin "getset_descriptor.__get__",.builtin "object.__class__")) from L3.andThen .now).andThen (Looks.tag .now)
def nZ(X:K.In s.heap)(hx:s.heap.get? x=some o)(hc:o.cls=.ref C)(T:XCls K C)
 (h:R (.ok (.ret (.ref C))) s):codeAny (model prog w) A (.call (.builtin "getset_descriptor.__get__") ⟨[.builtin "object.__class__",.ref x,tp],[]⟩) R s:=by
 obtain⟨hh,g,dr,t,os⟩:=s
 have L0:=iU (M:=model prog w) hx hc
 have L1:=looks_mroIn (M:=model prog w) X T.mo
 refine codeAny_call_builtin KF.slot_gs.plain KF.entry_gs (KF.slot_gs.check _ _ _ _ _ _ _ _ KF.type_class (KF.args_gs _ _ _) ?_)
 unfold Builtin.«getset_descriptor.__get__» descrGet
 rw[dga_obj]
 refine j_ (D_ ?_)
 unfold descrGetter descrCheckInstance descrNameAndClass isInstance
 simp only[KF.owner_class]
 repeat lk
 refine⟨Code.quiet_builtin _ (by decide),codeAny_builtin KF.entry_class ?_⟩
 unfold Builtin.«object.__class__» shownTypeOf
 repeat lk
 exact h
def uX(X:K.In s.heap)(hx:s.heap.get? x=some o)(hc:o.cls=.ref C)(T:XCls K C)(hq:Q () s):
 wpAny M A (checkBuiltinCall "BaseException.__getattribute__" ⟨[.ref x,nameV],[]⟩) Q E s:=by
 obtain⟨h,g,dr,t,os⟩:=s
 have hk:builtinKind "BaseException.__getattribute__"=some .slot:=by decide
 have hsplit:splitId "BaseException.__getattribute__"=some ("BaseException", "__getattribute__"):=by decide
 have ha:=PySem.F.args_bexc_ga (.ref x) nameV
 have L0:=iU (M:=M) hx hc
 have LM:=looks_mroIn (M:=M) X T.mb
 have LI:Looks M h (isInstance (.ref x) (.type "BaseException")) true:=L0.andThen LM
 simp only[checkBuiltinCall,hk,hsplit]
 refine j_ ?_
 refine LI.at ?_
 repeat (first |wp_step)
 all_goals exact hq
def GS(X:K.In s.heap)(hx:s.heap.get? x=some o)(hc:o.cls=.ref C)(T:XCls K C)(h:Q (some (.ref C)) { s with toks:=s.toks+1 }):
 wpAny (model prog w) A (getAttr? (.ref x) "__class__") Q E s:=by
 obtain⟨hh,g,d,t,os⟩:=s
 have L0:=iU (M:=model prog w) hx hc
 have L1:=looks_findIn (M:=model prog w) X T.ga
 have L2:=looks_findIn (M:=model prog w) X T.gt
 have LF:=xN (M:=model prog w) (x:=x) X T
 have f3:=PySem.F.excAttr_ValueError.ga.bind (.ref x)
 have hx2:(Value.builtin "BaseException.__getattribute__" == Value.builtin "object.__getattribute__")=false:=by decide
 unfold getAttr? getAttrBy? getAttrBy
 refine j_ (wpAny_mkText (j_ (wpAny_attempt (LG (j_ (L0.at (j_ (L1.at ?_))))))))
 dsimp only
 rw[if_neg (by rw[hx2];simp)]
 unfold getAttrByItsOwn hookBefore
 rw[if_pos (show onTheHeap (Value.ref C)=true from rfl)]
 refine j_ (L2.at ?_)
 unfold callGetattribute
 refine j_ (wpAny_attempt (LG ?_))
 rw[if_neg (by simp)]
 unfold boundAndCalled
 refine j_ (wpAny_of_eq f3 ?_)
 refine wpAny_call (codeAny_call_builtin PySem.F.excAttr_ValueError.ga.plain PySem.F.entry_bexc_ga (uX X hx hc T ?_))
 unfold Builtin.«object.__getattribute__»
 repeat (first |(refine j_ (L0.at ?_)) |(refine j_ (LF.at ?_)) |wp_step)
 refine nZ (s:=⟨hh,g,d,t+1,os⟩) X hx hc T ?_
 repeat (first |exact h |wp_step)
def yI(x:Addr)(C:Addr)(h:Heap):Prop:=∃o vs,h.get? x=some o/\o.cls=.ref C/\o.data=.fields vs
def yi(T:XCls K C):KitX K (.ref x) (.ref C) (yI x C) where
 ty:=λM h _ ⟨o,_,hx,hc,_⟩=>iU hx hc
 it:=λM h X _=>by
  obtain⟨cd,hcd⟩:=KZ.mp T.cls
  unfold clsIn at hcd
  split at hcd
  ·rename_i c' d' cd' sl' ho
   intro A' Q' E' s' k q
   unfold isType loadHead
   exact j_ (wpAny_loadPart (k _ _ (X _ _ ho)) (D_ q))
  ·cases hcd
 ne:=λh tp dd its n sl X htp=>by
  obtain⟨cd,hcd⟩:=KZ.mp T.cls
  refine Bool.eq_false_iff.mpr λq=>?_
  have e:C=tp:=Value.ref.inj (Kx.mp q)
  subst e
  unfold clsIn at hcd
  split at hcd
  ·rename_i c' d' cd' sl' ho
   have z:=(X _ _ ho).symm.trans htp
   cases z
  ·cases hcd
 ca:=λX ⟨o,_,hx,hc,_⟩ k=>GS X hx hc T k
end
inductive TyX(K:W.Frag)(H:Hp):V->Value->Prop where
 |of {x:V}{t:Value} (h:TyOf K H x t):TyX K H x t
 |exc {a C:Addr} (e:H a=some (.ext (yI a C))) (T:XCls K C):TyX K H (.ref a) (.ref C)
 |sqT {a:Addr}{xs:List V} (h:SqT K H a xs):TyX K H (.ref a) (.type "tuple")
 |sqL {a:Addr}{xs:List V} (h:SqL K H a xs):TyX K H (.ref a) (.type "list")
section
variable{X:Cx}{pins:Nb}{σ:St}{H:Hp}{s:Shared}{A:Around}{E:Nc}{Q:Nc}{c:Value}{b:Bool}
def rX(I:Inv X pins σ H s)(rx:RelV x u)(ty:TyX X.K H x t):∃Hh:Heap->Prop,KitX X.K u t Hh/\Hh s.heap/\u ≠ .builtin "__main__.__loader__#opaque":=by
 cases ty with
 |
  exc ea T=>
  cases (show u=Value.ref _ from rx)
  exact⟨_,yi T,(I.hok _ _ ea).1,λz=>nomatch z⟩
 |
  sqT h=>
  cases (show u=Value.ref _ from rx)
  obtain⟨its,rv,⟨o,e,c,_⟩,_⟩:=I.tuple h
  exact⟨_,kitx_tuple,⟨o,e,c⟩,λz=>nomatch z⟩
 |
  sqL h=>
  cases (show u=Value.ref _ from rx)
  obtain⟨its,rv,⟨o,n,e,c,_⟩,_⟩:=I.list h
  exact⟨_,kitx_list,⟨o,e,c⟩,λz=>nomatch z⟩
 |
  of ty=>
  cases ty with
  |non=>cases (show u=Value.none from rx);exact⟨_,kitx_none,True.intro,λz=>nomatch z⟩
  |bl y=>cases (show u=Value.bool y from rx);exact⟨_,kitx_bool,True.intro,λz=>nomatch z⟩
  |int i=>obtain⟨t,q⟩:=(show ∃t,u=Value.int i t from rx);cases q;exact⟨_,kitx_int,True.intro,λz=>nomatch z⟩
  |str y=>obtain⟨t,q⟩:=(show ∃t,u=Value.str y t from rx);cases q;exact⟨_,kitx_str,True.intro,λz=>nomatch z⟩
  |flt y=>obtain⟨t,q⟩:=(show ∃t,u=Value.float y t from rx);cases q;exact⟨_,kitx_float,True.intro,λz=>nomatch z⟩
  |
   @lst a xs ea=>
   cases (show u=Value.ref a from rx)
   obtain⟨_,_,n,_,h1⟩:=(show ObjOk X.prog X.w H s.heap a (.lst xs) from I.hok a _ ea)
   exact⟨_,kitx_list,⟨_,h1,rfl⟩,λz=>nomatch z⟩
  |
   @frz a ob xs ea=>
   cases (show u=Value.ref a from rx)
   obtain⟨_,_,_,n,_,h1⟩:=(show ObjOk X.prog X.w H s.heap a (.frz ob (.lst xs)) from I.hok a _ ea)
   exact⟨_,kitx_list,⟨_,h1,rfl⟩,λz=>nomatch z⟩
  |
   @tup a xs ea=>
   cases (show u=Value.ref a from rx)
   obtain⟨_,_,_,p⟩:=(show ObjOk X.prog X.w H s.heap a (.tup xs) from I.hok a _ ea)
   obtain⟨o,h1,h2,_⟩:=p
   exact⟨_,kitx_tuple,⟨o,h1,h2⟩,λz=>nomatch z⟩
  |
   @dK a kvs ea=>
   cases (show u=Value.ref a from rx)
   obtain⟨_,_,vs,_,p⟩:=(show ObjOk X.prog X.w H s.heap a (.dK kvs) from I.hok a _ ea)
   obtain⟨o,es,ep,h1,h2,_⟩:=p
   exact⟨_,kitx_dict,⟨o,h1,h2.1⟩,λz=>nomatch z⟩
  |
   @dT a kvs ea=>
   cases (show u=Value.ref a from rx)
   obtain⟨_,_,xs,_,o,es,ep,h1,h2,_⟩:=(show ObjOk X.prog X.w H s.heap a (.dT kvs) from I.hok a _ ea)
   exact⟨_,kitx_dict,⟨o,h1,h2.1⟩,λz=>nomatch z⟩
  |
   @ins a C dx fs ea cl ha hn htk hm=>
   cases (show u=Value.ref a from rx)
   obtain⟨mA,O,_⟩:=AS I.hok ea
   obtain⟨od,J,_⟩:=O.look
   exact⟨_,kitx_own (cl.get _) cl.hd ha hn htk hm,J,λz=>nomatch z⟩
end
section
variable{X:Cx}
noncomputable def eF:V->Option Value
 |.ref C=>some (.ref C)
 |.ty T=>some (.type T)
 |_=>none
def pG(h:eF c=some v)(r:RelV c u):u=v:=by
 cases c with
 |ref C=>cases r;exact z_ h
 |ty T=>cases r;exact z_ h
 |_=>cases h
theorem nI:∀{cs:List V}{us vs:List Value},cs.mapM eF=some vs->Vals cs us->us=vs
 |
  [],_,vs,h,.nil=>by
  have h':some ([]:List Value)=some vs:=h
  exact z_ h'
 |
  c::cs,_,vs,h,.cons r rr=>by
  rw[LR] at h
  cases q:eF c with
  |none=>rw[q] at h;cases h
  |
   some v=>
   rw[q] at h
   cases q2:cs.mapM eF with
   |none=>rw[q2] at h;cases h
   |
    some vs'=>
    rw[q2] at h
    have h':some (v::vs')=some vs:=h
    cases h'
    rw[pG q r,nI q2 rr]
def yM:CallR X (.builtin "isinstance") (λxs H Q=>∃x c t v b,xs=[x,c]/\TyX X.K H x t/\eF c=some v/\kitOne X.K t v=some b/\Q (.bl b) H):=by
 intro pins s σ H xs us Q I r h
 obtain⟨x,c,t,v,b,rfl,ty,hc,hk,q⟩:=h
 obtain⟨u,w',rfl,rx,rc⟩:=lJ r
 obtain rfl:=pG hc rc
 obtain⟨Hh,Z,p,hne⟩:=rX I rx ty
 exact kia_one Z I.kIn p hk hne λtk=>⟨.bl b,H,I.tok _,rfl,q⟩
end
end L2
namespace L2
open PySem PySem.Spec PyProof.Rows
def ObjOk.there(x:ObjOk P w H h a o):∃u,h.get? a=some u:=by
 cases o with
 |lst xs=>obtain⟨_,_,_,_,e⟩:=x;exact⟨_,e⟩
 |tup xs=>obtain⟨_,_,_,ob,e,_⟩:=x;exact⟨_,e⟩
 |dK kvs=>obtain⟨_,_,_,_,o,_,_,e,_⟩:=x;exact⟨_,e⟩
 |dT kvs=>obtain⟨_,_,_,_,o,_,_,e,_⟩:=x;exact⟨_,e⟩
 |set S n=>obtain⟨o,_,_,_,e,_⟩:=x;exact⟨_,e⟩
 |ins C dx fs=>obtain⟨_,_,_,e,_⟩:=x;exact⟨_,e⟩
 |own y=>exact x
 |xd fs=>obtain⟨_,⟨_,_,_,e,_⟩,_⟩:=x;exact⟨_,e⟩
 |rng lo hi=>obtain⟨_,_,_,e⟩:=x;exact⟨_,e⟩
 |frz ob u=>obtain⟨e,_⟩:=x;exact⟨_,e⟩
 |tbl ps=>exact⟨_,show h.get? a=some _ from x⟩
 |met f y=>exact⟨_,show h.get? a=some _ from x⟩
 |ext φ=>obtain⟨_,e,_⟩:=x;exact e
structure Fly(P:Program)(w:World)(outer:List Env)(H:Hp)(h₀:Heap)(H':Hp)(ea:Addr)(cls:Value)(h:Heap)(B:Heap)(t:Addr):Prop where
 un:Un (frs outer) [] H H' h₀ h
 hok:HOk P w H' h
 fl:Heap.FlyingW B outer ea cls (.ref t) h
 old:∀b o,h₀.get? b=some o->b∉frs outer->∃o',B.get? b=some o'
 trk:∀b o,H' b=some o->∃o',B.get? b=some o'
def CX1(P:Program)(w:World):CXT:=λouter H s E e s'=>∃(ea t:Addr) (cls:Value) (H':Hp) (B:Heap),e=.ref ea/\s'.os=s.os/\AllBare s'.gens/\Fly P w outer H s.heap H' ea cls s'.heap B t/\E cls none H'
def o7(h:env.frame=some L):frs (env::outer)=L::frs outer:=by
 unfold frs
 rw[Lg,h]
section
variable{P:Program}{w:World}{outer:List Env}{H H':Hp}{h₀ h h' B:Heap}{ea t L:Addr}{cls:Value}
def Fly.step(F:Fly P w outer H h₀ H' ea cls h B t)(fl':Heap.FlyingW B outer' ea cls (.ref t) h')(up:h.UpToSlots h'):
 Un (frs outer) [] H H' h₀ h'/\HOk P w H' h':=by
 have st:=F.fl.1
 have tR:∀b o,(∃o',B.get? b=some o')->h.get? b=some o->h'.get? b=some o:=λb o ⟨o',e⟩ q=>by
  have z:=st b o' e
  rw[q] at z;cases z
  exact fl'.1 b _ e
 have frame:∀b o,b∈frs outer->h.get? b=some o->∃sl,h'.get? b=some { o with slots:=sl }:=λb o hb q=>by
  obtain⟨_,o',ho',hd⟩:=F.fl.2.2.1.mem hb
  rw[q] at ho';cases ho'
  exact up b o q hd
 refine⟨⟨λb o e n hb hx=>tR b o (F.old b o e hb) (F.un.keep b o e n hb hx),λb o e n hb hx=>?_,F.un.free,λb o e hx=>?_,F.un.tups,F.un.frzs,F.un.tbls⟩,λa o e=>?_⟩
 ·obtain⟨sl,q⟩:=F.un.slot b o e n hb hx
  obtain⟨sl',q'⟩:=frame b _ hb q
  exact⟨sl',q'⟩
 ·obtain⟨o',q⟩:=F.un.there b o e hx
  by_cases hb:b∈frs outer
  ·obtain⟨sl,q'⟩:=frame b _ hb q
   exact⟨_,q'⟩
  ·exact⟨o',tR b o' (F.old b o e hb) q⟩
 ·refine (F.hok a o e).stay (λb u hb q=>tR b u ?_ q) (λ_ q=>q) λ_ _ q=>q
  rcases hb with z |z
  ·rw[z];exact F.trk a o e
  ·exact F.trk b _ z
end
structure Cx.Top(X:Cx):Prop where
 ex:X.ex=[]
 stk:X.stack=X.env::X.outer
 fr:X.env.frame=some X.env.locals
section
variable{X:Cx}{pins:Nb}{σ:St}{H:Hp}{s s':Shared}{E:XK}{e:Value}
def u6(T:X.Top)(hA:A.frames=some X.stack)(I:Inv X pins σ H s)(h:CX1 X.prog X.w X.stack H s E e s'):
 wpAny (model X.prog X.w) A (leaving X.env e) (λ_ s''=>CX1 X.prog X.w X.outer X.H₀ X.s₀ E e s'') E' s':=by
 obtain⟨ea,t,cls,H',B,rfl,os,bare,F,q⟩:=h
 have F0:=F
 rw[T.stk] at F
 have hf:=o7 (outer:=X.outer) T.fr
 refine wpAny_leaves_onW (by rw[hA,T.stk]) T.fr F.fl λh'' fl'' up=>?_
 obtain⟨un2,hok2⟩:=F.step fl'' up
 have exn:∀b,b∉X.ex:=λb z=>by rw[T.ex] at z;cases z
 have neL:∀b o,X.s₀.heap.get? b=some o->b≠X.env.locals:=λb o e=>Kn (y_ (v_ e) I.ok.above)
 have notin:∀b o,X.s₀.heap.get? b=some o->b∉frs X.outer->b∉frs (X.env::X.outer):=λb o e hb z=>by
  rw[hf] at z
  rcases B_.mp z with z |z
  ·exact neL b o e z
  ·exact hb z
 refine⟨ea,t,cls,H',B,rfl,os.trans I.os,bare,⟨⟨λb o e n hb hx=>?_,λb o e n hb hx=>?_,λb o e n hx=>?_,λb o e hx=>?_,λb xs e=>un2.tups b xs (I.base.tups b xs e),λb o xs e=>un2.frzs b o xs (I.base.frzs b o xs e),λb ps e=>?_⟩,hok2,fl'',λb o e hb=>?_,F.trk⟩,q⟩
 ·exact un2.keep b o (I.base.keep b o e n hb (exn b)) (I.base.free b o e n (exn b)) (notin b o e hb) (by simp)
 ·obtain⟨sl,e1⟩:=I.base.slot b o e n hb (exn b)
  obtain⟨sl',e2⟩:=un2.slot b _ e1 (I.base.free b o e n (exn b)) (by rw[hf];exact i_ _ hb) (by simp)
  exact⟨sl',e2⟩
 ·obtain⟨o',e1⟩:=I.base.there b o e (exn b)
  exact un2.free b o' e1 (I.base.free b o e n (exn b)) (by simp)
 ·obtain⟨o',e1⟩:=I.base.there b o e (exn b)
  exact un2.there b o' e1 (by simp)
 ·obtain⟨m1,e1⟩:=I.base.tbls b ps e
  obtain⟨m2,e2⟩:=un2.tbls b _ e1
  exact⟨m1++m2,by rw[e2,Array.append_assoc]⟩
 ·obtain⟨o',e1⟩:=I.base.there b o e (exn b)
  exact F.old b o' e1 (notin b o e hb)
def za(T:X.Top)(hA:A.frames=some X.stack)(I:Inv X pins σ H s)(hx:Heap.MadeExcOf s.heap h' ea cls args)(q:E cls none H):
 wpAny (model X.prog X.w) A (leaving X.env (.ref ea)) (λ_ s''=>CX1 X.prog X.w X.outer X.H₀ X.s₀ E (.ref ea) s'') E' { s with heap:=h' }:=by
 have hf:=o7 (outer:=X.outer) T.fr
 have stk:=I.stack
 rw[T.stk] at stk
 have hin:∀env∈(X.env::X.outer),∀b,env.frame=some b->b∈frs (X.env::X.outer):=λenv he b hb=>List.mem_filterMap.mpr ⟨env,he,hb⟩
 refine wpAny_leaves_madeW (base:=W.hideAll s.heap (frs (X.env::X.outer))) (h:=s.heap) (by rw[hA,T.stk]) T.fr (λb o q=>W.of_hideAll _ q) (W.funFrames_hide stk hin) hx λh'' t fl tup tn up=>?_
 have inB:∀b o,s.heap.get? b=some o->b∉frs (X.env::X.outer)->(W.hideAll s.heap (frs (X.env::X.outer))).get? b=some o:=λb o e hb=>W.hideAll_get _ e hb
 have free:∀b∈frs (X.env::X.outer),H b=none:=λb hb=>I.stkFree b (by rw[T.stk];exact hb)
 have up2:s.heap.UpToSlots h'':=(Heap.UpToSlots.of_keeps hx.keeps).trans up
 have exn:∀b,b∉X.ex:=λb z=>by rw[T.ex] at z;cases z
 have neL:∀b o,X.s₀.heap.get? b=some o->b≠X.env.locals:=λb o e=>Kn (y_ (v_ e) I.ok.above)
 have notin:∀b o,X.s₀.heap.get? b=some o->b∉frs X.outer->b∉frs (X.env::X.outer):=λb o e hb z=>by
  rw[hf] at z
  rcases B_.mp z with z |z
  ·exact neL b o e z
  ·exact hb z
 have trk:∀b o,H b=some o->∃o',(W.hideAll s.heap (frs (X.env::X.outer))).get? b=some o':=λb o e=>by
  obtain⟨u,hu⟩:=(I.hok b o e).there
  exact⟨u,inB b u hu λz=>by rw[free b z] at e;cases e⟩
 refine⟨ea,t,cls,H,_,rfl,I.os,I.bare,⟨⟨λb o e n hb hx=>?_,λb o e n hb hx=>?_,λb o e n hx=>?_,λb o e hx=>?_,I.base.tups,I.base.frzs,I.base.tbls⟩,λa o e=>?_,fl,λb o e hb=>?_,trk⟩,q⟩
 ·exact fl.1 b o (inB b o (I.base.keep b o e n hb (exn b)) (notin b o e hb))
 ·obtain⟨sl,e1⟩:=I.base.slot b o e n hb (exn b)
  obtain⟨_,o',ho',hd⟩:=I.ok.funs.mem hb
  rw[e] at ho';cases ho'
  obtain⟨sl',e2⟩:=up2 b _ e1 hd
  exact⟨sl',e2⟩
 ·exact I.base.free b o e n (exn b)
 ·obtain⟨o',e1⟩:=I.base.there b o e (exn b)
  by_cases hb:b∈frs X.outer
  ·obtain⟨_,o2,ho2,hd⟩:=I.funs.mem hb
   rw[e1] at ho2;cases ho2
   obtain⟨sl',e2⟩:=up2 b _ e1 hd
   exact⟨_,e2⟩
  ·exact⟨o',fl.1 b o' (inB b o' e1 (notin b o e hb))⟩
 ·refine (I.hok a o e).stay (λb u hb q=>?_) (λ_ q=>q) λ_ _ q=>q
  refine fl.1 b u (inB b u q λz=>?_)
  rcases hb with y |y
  ·rw[y] at z;rw[free a z] at e;cases e
  ·rw[free b z] at y;cases y
 ·obtain⟨o',e1⟩:=I.base.there b o e (exn b)
  exact⟨o',inB b o' e1 (notin b o e hb)⟩
end
section
variable{P:Program}{w:World}{K:W.Frag}{mg:Na}{base:Heap}{N:List Str}{qual:Str}{scope:Scope}{f:Addr}{cd:Value}{A:Around}{outer:List Env}{s:Shared}{H:Hp}{E:XK}
def zW:(dG (CX1 P w) P w K mg base N qual scope f cd A outer s H E).Top:=⟨rfl,rfl,rfl⟩
def Aa:pv (CX1 P w) (dG (CX1 P w) P w K mg base N qual scope f cd A outer s H E) E:=λpins σ H s e s' I h=>u6 zW I.ok.frames I h
def HA:pv (CX1 P w) X E0:=λpins σ H s e s' I ⟨_,_,_,_,_,_,_,_,_,q⟩=>q.elim
def yz:PassesOwn (model P w) (dG (CX1 P w) P w K mg base N qual scope f cd A outer s H E).A (dG (CX1 P w) P w K mg base N qual scope f cd A outer s H E).env (dG (CX1 P w) P w K mg base N qual scope f cd A outer s H E).xe:=PassesOwn.leaving
def Rz(X:Cx)(E:XK):Prop:=∀(pins:Nb) (σ:St) (H:Hp) (s:Shared) (h':Heap) (ea:Addr) (cls:Value) (args:List Value),Inv X pins σ H s->Heap.MadeExcOf s.heap h' ea cls args->E cls none H->X.xe (.ref ea) { s with heap:=h' }
def rz1:Rz (dG (CX1 P w) P w K mg base N qual scope f cd A outer s H E) E:=λpins σ H s h' ea cls args I hx q=>za zW I.ok.frames I hx q
def Fun.okR{x qual:Str}{st:Stmt}{f:Addr}{fd:FuncData}{N ps:List Str}{k:Nat}{sp:Sp}(F:Fun K x qual st f fd)(S:FnScope N ps (az st))(len:∀vs H Q E,sp vs H Q E->vs.length=ps.length)
 (f_:∀(cdv:Value) (A:Around) (outer:List Env) (s:Shared) (H:Hp) (vs:List V) (Q:VK) (E:XK),Room k (A.deeper (envOfC qual (az st) s.heap.objs.size f cdv))->sp vs H Q E->
  ∃t,PSs (dG (CX1 P w) P w K mg base N qual (az st) f cdv A outer s H E) (bF st) t/\t { nx:=λ_ H'=>Q .non H',rt:=Q } (eI N vs) H):FnOk P w K mg base (CX1 P w) (k+1) f fd ps sp:=by
 obtain⟨oc,od,kV,doc,pm,an,cdv,ct,osl,rfl,lk,hcd⟩:=F.ex
 exact Jp lk hcd S len λA outer s H vs Q E hr hsp=>f_ cdv A outer s H vs Q E hr hsp
end
abbrev kJ:List Value:=[.type "ValueError",.type "Exception",.type "BaseException",.type "object"]
def uV{K:W.Frag}{h:Heap}{C:Addr}(X:K.In h)(q:W.excIn K C kJ "ValueError.__new__"=true):
 ∃bm N nm q' bs hdct sn sub ab col dd k0 k1 k2 k3 k5 mN,h.get? C=some (excClassObj nm q' C N bs bm hdct sn sub ab col dd k0 k1 k2 k3 k5 "ValueError.__new__")/\h.Ns N mN/\mN "__init__"=none/\OwnTail h kJ bm:=by
 unfold W.excIn at q
 split at q
 ·rename_i dd cd sl ho
  split at q
  ·rename_i C' bm k0 k1 k2 k3 n k5 hm hs
   simp only[k_,Kx,Bool.not_eq_true'] at q
   obtain⟨⟨⟨⟨⟨rfl,rfl⟩,hdel⟩,ht⟩,hok⟩,hni⟩:=q
   obtain⟨nm,bs,mro,ns,qn,hd,sn,sub,ab,col,del⟩:=cd
   dsimp only at hm hdel hok hni
   subst hm hdel
   have hsl:sl=#[k0,k1,k2,k3,some (.builtin "ValueError.__new__"),k5]:=by
    obtain⟨l⟩:=sl
    simp only at hs
    rw[hs]
   subst hsl
   exact⟨bm,ns,nm,qn,bs,hd,sn,sub,ab,col,dd,k0,k1,k2,k3,k5,_,X _ _ ho,.of_isNs (W.isNs_of_in X hok),W.nsMap_none_of_in X hok hni,W.tail_of_in X ht⟩
  ·cases q
 ·cases q
section
variable{X:Cx}{x:Str}{C:Addr}{E:XK}{np cpos pos:Pos}{e₀:Expr}{es:List Expr}{ta:TA}
def GU(C:Addr)(E:XK)(ta:TA):TS:=λ_ σ H=>ta σ H λvs H1=>vs.length<=sizeLine/\E (.ref C) none H1
def xo(hc:X.calm=true)(hR:Rz X E)(hg:Gl X x)(hm:X.mg x=some (.ref C))(hq:W.excIn X.K C kJ "ValueError.__new__"=true)(ha:PA X (e₀::es) ta)
 (he:starEach (e₀::es) X.env=(false,eval e₀ X.env)::starEach es X.env) (ce:(backTo cpos (starEach es X.env)).any (·.1)=false) (hd:(x==("__debug__" : Str))=false):
 PS X (.Raise (some (.Call (.Name x np) (e₀::es) [] cpos)) none pos) (GU C E ta):=by
 intro pins s σ H D I h
 obtain⟨bm,N,nm,q',bs,hdct,sn,sub,ab,col,dd,k0,k1,k2,k3,k5,mN,hC,hN,hni,T⟩:=uV I.ok.mod.kin hq
 refine wpAny_Raise_call_subT (C:=C) (nm:=nm) (q:=q') (N:=N) (bs:=bs) (bm:=bm) (hdct:=hdct) (sn:=sn) (sub:=sub) (ab:=ab) (col:=col) (dd:=dd) (k0:=k0) (k1:=k1) (k2:=k2) (k3:=k3) (k5:=k5)
  PySem.F.excBase_ValueError (mN:=mN) (T.hasType PySem.F.excBase_ValueError.hasBase) (I.ok.hd hc) (by rw[he];show (false || (backTo cpos (starEach es X.env)).any (·.1))=false;rw[ce];rfl) hni (mR I hg hm ⟨rfl,?_⟩ hd)
 have hA:=ha cpos pins s σ H _ I h
 rw[he] at hA ⊢
 refine Calls.evalArgs_plain (thn hA λus s2 ⟨vs,H2,I2,r2,hz,q2⟩=>⟨rfl,by rw[<- r2.length];exact hz,I2.bk _ _ hC,hN.keeps I2.bk,T.keeps I2.bk,λh' e hm'=>?_⟩)
 exact hR pins σ H2 s2 h' e _ _ I2 hm' q2
end
abbrev XS:=St->XK
abbrev TEx:=St->Hp->VK->XK->Prop
abbrev TSx:=Ends->XS->St->Hp->Prop
def XP(X:Cx)(pins:Nb)(E:XS)(e:Value)(s':Shared):Prop:=∃σ1 H1 s1,Inv X pins σ1 H1 s1/\CX1 X.prog X.w X.stack H1 s1 (E σ1) e s'
def PEx(X:Cx)(e:Expr)(t:TEx):Prop:=
 ∀(pins:Nb) (s:Shared) (σ:St) (H:Hp) (Q:VK) (E:XS),Inv X pins σ H s->t σ H Q (E σ)->wpAny (model X.prog X.w) X.A (eval e X.env) (EP X pins σ Q) (XP X pins E) s
section
variable{X:Cx}{st:Stmt}{aV:List Stmt}{t u:TSx}{e:Expr}{es:List Expr}{te:TEx}{pos p:Pos}{x:Str}{f:Addr}{fd:FuncData}{ps:List Str}{sp:Sp}{k:Nat}{ta:TA}{dvs:List V}{ds:List Value}
end
section
variable{X:Cx}{pins:Nb}{σ:St}{H:Hp}{s:Shared}{ea:Addr}
end
structure XHand(K:W.Frag)(C:Addr):Prop where
 ty:W.typeIn K (.ref C)=some (.type "type")
 cls:(W.clsIn K C).isSome=true
 mb:W.mroIn K C (.type "BaseException")=some true
section
variable{X:Cx}{x n:Str}{C:Addr}{i:Nat}{body suite:List Stmt}{b₀:Stmt}{tb:TSx}{ts:TS}{np hpos pos:Pos}
end
mutual
inductive Rep(K:W.Frag)(H:Hp):V->PyData->Prop where
 |non:Rep K H .non .none
 |bl (b:Bool):Rep K H (.bl b) (.bool b)
 |int (i:Int):Rep K H (.int i) (.int i)
 |str (x:Str):Rep K H (.str x) (.str x)
 |tup {a:Addr}{xs:List V}{ds:List PyData} (h:SqT K H a xs) (r:Reps K H xs ds):Rep K H (.ref a) (.tuple ds)
 |lst {a:Addr}{xs:List V}{ds:List PyData} (h:SqL K H a xs) (r:Reps K H xs ds):Rep K H (.ref a) (.list ds)
inductive Reps(K:W.Frag)(H:Hp):List V->List PyData->Prop where
 |nil:Reps K H [] []
 |cons {x:V}{d:PyData}{xs:List V}{ds:List PyData} (r:Rep K H x d) (rr:Reps K H xs ds):Reps K H (x::xs) (d::ds)
end
section
variable{X:Cx}{pins:Nb}{σ:St}{H H':Hp}{s:Shared}{K:W.Frag}
def Rep.reads(I:Inv X pins σ H s)(r:Rep X.K H v d)(q:RelV v u):∃as,Reads s.heap u d as:=
 Rep.rec (motive_1:=λv d _=>∀u,RelV v u->∃as,Reads s.heap u d as) (motive_2:=λvs ds _=>∀us,Vals vs us->∃as,ReadsAll s.heap us ds as)
  (λu r=>by cases r;exact⟨_,.none⟩) (λb u r=>by cases r;exact⟨_,.bool b⟩) (λi u r=>by obtain⟨t,rfl⟩:=r;exact⟨_,.int i t⟩) (λx u r=>by obtain⟨t,rfl⟩:=r;exact⟨_,.str x t⟩)
  (λh _ ih u r=>by
   cases r
   obtain⟨its,rv,⟨o,e,c,n,d⟩,_⟩:=I.tuple h
   obtain⟨as,q⟩:=ih _ rv
   exact⟨as,.tuple e c d (by simpa using q)⟩)
  (λh _ ih u r=>by
   cases r
   obtain⟨its,rv,⟨o,n,e,c,_,d⟩,_⟩:=I.list h
   obtain⟨as,q⟩:=ih _ rv
   exact⟨_,.list e c d (by simpa using q)⟩)
  (λus r=>by cases r;exact⟨_,.nil⟩)
  (λ_ _ a b us q=>by
   cases q with
   |
    cons q1 q2=>
    obtain⟨as,h1⟩:=a _ q1
    obtain⟨bs,h2⟩:=b _ q2
    exact⟨_,.cons h1 h2⟩) r u q
end
section
variable{X:Cx}
noncomputable def shp(d:PyData):Bool:=d.canLay0&&decide (d.depth<=160)
def jC(h:shp d=true):d.canLay0=true:=(Bool.and_eq_true_iff.mp h).1
def qT{A:Around}{d e:PyData}(h:shp d=true)(hu:A.units+180<cLine):A.units+min d.depth e.depth<cLine:=by
 have h1:d.depth<=160:=of_decide_eq_true (Bool.and_eq_true_iff.mp h).2
 have h2:min d.depth e.depth<=d.depth:=Nat.min_le_left _ _
 omega
def sT(K:W.Frag):R2:=λx y H Q=>∃dx dy,Rep K H x dx/\Rep K H y dy/\shp dx=true/\shp dy=true/\Q (.bl (PyData.eqv dx dy)) H
def tZ(K:W.Frag):R2:=λx y H Q=>∃dx dy,Rep K H x dx/\Rep K H y dy/\shp dx=true/\shp dy=true/\Q (.bl (!PyData.eqv dx dy)) H
def D9(hu:X.A.units+180<cLine):OpR X (compareOp .Eq) (sT X.K):=by
 intro pins s σ H x y v u Q I rx ry h
 obtain⟨dx,dy,r1,r2,h1,h2,q⟩:=h
 obtain⟨as,q1⟩:=r1.reads I rx
 obtain⟨bs,q2⟩:=r2.reads I ry
 exact SeqAt.compareEq_reads q1 q2 (jC h1) (jC h2) (qT h1 hu) (jy I q rfl)
def DC(hu:X.A.units+180<cLine):OpR X (compareOp .NotEq) (tZ X.K):=by
 intro pins s σ H x y v u Q I rx ry h
 obtain⟨dx,dy,r1,r2,h1,h2,q⟩:=h
 obtain⟨as,q1⟩:=r1.reads I rx
 obtain⟨bs,q2⟩:=r2.reads I ry
 exact SeqAt.compareNe_reads q1 q2 (jC h1) (jC h2) (qT h1 hu) (jy I q rfl)
open PySem.Builtin.Int (intBits)
def CDivB(i j:Int):Prop:=j≠0/\intBits j<=8000
def Aw(i j:Int):Prop:=intBits i<=100000/\intBits j<=100000
def xX:OpR X (binaryOp .FloorDiv) (rI CDivB λi j=>.int (i.fdiv j)):=opI λi j _ _ _ _ _ hc q=>floordiv_int hc.1 q (.inl (PyProof.noPylong_of_log2 (by
 have h:=hc.2
 have h0:=hc.1
 unfold intBits at h
 have hb:(j==0)=false:=by simpa using h0
 rw[hb] at h
 simp only[Lm,Md] at h
 omega)))
def Ct:OpR X (binaryOp .Mult) (rI Aw λi j=>.int (i*j)):=opI λi j _ _ _ _ _ hc q=>mul_int q (PySem.IntMulOk.of_le hc.1 hc.2 (by decide))
def vg(bs:List Bool):((List.range bs.length).all λi=>bs.getD i false)=bs.all id:=by
 rw[Mo,I_,I_]
 constructor
 ·intro h x hx
  obtain⟨i,hi,rfl⟩:=List.mem_iff_getElem.mp hx
  have:=h i (K3.mpr hi)
  simpa [H_,hi] using this
 ·intro h i hi
  have hi':=K3.mp hi
  have:=h bs[i] (Ks hi')
  simpa [H_,hi'] using this
def yU(hc:X.calm=true):CallR X (.builtin "all") (λxs H Q=>∃(a:Addr) (bs:List Bool),xs=[.ref a]/\SqL X.K H a (bs.map V.bl)/\Q (.bl (bs.all id)) H):=by
 intro pins s σ H xs us Q I r h
 obtain⟨a,bs,rfl,hq,q⟩:=h
 obtain⟨u,rfl,ru⟩:=fU r
 cases ru
 obtain⟨its,rv,p,hz⟩:=I.list hq
 have hl:=rv.length
 rw[g_] at hl
 have hlt:a<s.heap.objs.size:=by obtain⟨o,n,e,_⟩:=p;exact v_ e
 refine call_all_walk (wpAny_pyIter_list p.isList ?_)
 refine⟨s.heap.objs.size,_,_,_,_,_,λi=>bs.getD i false,rfl,Walks.list (A:=X.A.in1) (I.ok.hd hc) s.heap.objs.size a (Kn hlt) its.toArray,⟨⟨_,Km _ rfl,rfl,rfl⟩,(p.keeps λb o e=>s_ _ e).isList⟩,λi v s' Q' E' hP hQ=>?_,λh' tk hk=>?_⟩
 ·have hP':its[i]?=some v:=by simpa using hP
  have hi:i<bs.length:=by rw[hl];exact (h_.mp hP').1
  have hb:(bs.map V.bl)[i]?=some (V.bl bs[i]):=by simp [hi]
  obtain⟨u,hu,ru⟩:=rv.get hb
  rw[hP'] at hu
  cases hu
  cases ru
  refine K8 ?_
  have e:bs.getD i false=bs[i]:=by simp [H_,hi]
  show Q' bs[i] s'
  rw[<- e]
  exact hQ
 ·have e1:its.toArray.size=bs.length:=by rw[u_,hl]
  rw[e1,vg]
  have hn:H s.heap.objs.size=none:=I.fresh
  have I1:Inv X pins σ H { s with heap:=s.heap.push { cls:=.type "list_iterator",dict:=none,data:=.fields #[.ref a,rawInt 0] } }:=I.kept (t':=s.toks) λb o e=>s_ _ e
  refine⟨.bl _,H,?_,rfl,q⟩
  refine I.kept (t':=tk) λb o e=>?_
  have hne:b≠s.heap.objs.size:=Kn (v_ e)
  exact hk b o (by simpa using hne) (s_ _ e)
end
structure Def(K:W.Frag)(mg:Na)(x:Str)(st:Stmt):Prop where
 ex:∃f fd,Fun K x x st f fd/\mg x=some (.ref f)
def wx{K:W.Frag}{h:Heap}{mg:Na}{x:Str}{st:Stmt}{f:Addr}{oc:Value}{od an:Option Addr}{osl:Array (Option Value)}{kV doc pm cdv ct:Value}(X:K.In h)(G:h.Ns mainGlobals mg)
 (a:W.nsIn K mainGlobals x=some (some (.ref f))) (l:K.lookup f=some ⟨oc,od,.func (W.fnOf x x (cW st) (bF st) (az st) .none kV doc pm an cdv ct),osl⟩)
 (c:W.codeIn K cdv x=true) (k:W.keepIn K (.ref f)=true):Def K mg x st:=⟨f,_,C2 l c k,W.mg_of X G a⟩
def Fun.look{K:W.Frag}{x qual:Str}{st:Stmt}{f:Addr}{fd:FuncData}(F:Fun K x qual st f fd):∃oc od osl,K.lookup f=some ⟨oc,od,.func fd,osl⟩:=by
 obtain⟨oc,od,kV,doc,pm,an,cdv,ct,osl,rfl,lk,hcd⟩:=F.ex
 exact⟨oc,od,osl,lk⟩
structure Callee(P:Program)(w:World)(K:W.Frag)(mg:Na)(base:Heap)(x:Str)(k:Nat)(ps:List Str)(sp:Sp):Prop where
 ex:∃f fd,FnOk P w K mg base (CX1 P w) k f fd ps sp/\mg x=some (.ref f)/\W.keepIn K (.ref f)=true/\Binds K fd ps []/\∃oc od osl,K.lookup f=some ⟨oc,od,.func fd,osl⟩
section
variable{P:Program}{w:World}{K:W.Frag}{mg:Na}{base:Heap}{x:Str}{st:Stmt}{k:Nat}{ps N:List Str}{sp:Sp}
def Callee.imp(C:Callee P w K mg base x k ps sp)(h:∀vs H Q E,sp' vs H Q E->sp vs H Q E):Callee P w K mg base x k ps sp':=by
 obtain⟨f,fd,F,r⟩:=C.ex
 exact⟨f,fd,F.imp h,r⟩
def Def.okR(D:Def K mg x st)(S:FnScope N ps (az st))
 (hb:∀(kV doc pm:Value) (an:Option Addr) (cdv ct:Value) (us:List Value),us.length=ps.length->bindArgs (W.fnOf x x (cW st) (bF st) (az st) .none kV doc pm an cdv ct) ⟨us,[]⟩=pure (ps.zip us))
 (len:∀vs H Q E,sp vs H Q E->vs.length=ps.length)
 (f_:∀(f:Addr) (cdv:Value) (A:Around) (outer:List Env) (s:Shared) (H:Hp) (vs:List V) (Q:VK) (E:XK),Room k (A.deeper (envOfC x (az st) s.heap.objs.size f cdv))->sp vs H Q E->
  ∃t,PSs (dG (CX1 P w) P w K mg base N x (az st) f cdv A outer s H E) (bF st) t/\t { nx:=λ_ H'=>Q .non H',rt:=Q } (eI N vs) H):Callee P w K mg base x (k+1) ps sp:=by
 obtain⟨f,fd,F,m⟩:=D.ex
 exact⟨f,fd,F.okR S len (f_ f),m,F.kp,F.binds hb,F.look⟩
end
section
variable{X:Cx}{x:Str}{p pos:Pos}{e:Expr}{es:List Expr}{ta:TA}{k:Nat}{ps:List Str}{sp:Sp}{E:XK}
end
section
variable{X:Cx}{K:W.Frag}{tg l:Expr}{tl:TE}
def oU(h:X.K=K)(hc:X.calm=true):CallR X (.builtin "all") (λxs H Q=>∃(a:Addr) (bs:List Bool),xs=[.ref a]/\SqL K H a (bs.map V.bl)/\Q (.bl (bs.all id)) H):=by subst h;exact yU hc
def Room.u180(r:Room k A):A.units+180<cLine:=by have:=r.un;omega
def eqDK(h:X.K=K)(hu:X.A.units+180<cLine):OpR X (compareOp .Eq) (sT K):=by subst h;exact D9 hu
def neDK(h:X.K=K)(hu:X.A.units+180<cLine):OpR X (compareOp .NotEq) (tZ K):=by subst h;exact DC hu
end
section
variable{X:Cx}
def Ht{c_ al tg:Expr}{ifs:List Expr}{scope:Scope}{pos:Pos}{wi:TI}{g:TG}{tc:TT}{te:TE}{N:List Str}{sub:Nd}{iT:Nat}{xT:Str}{px spos:Pos}
 (hc:X.calm=true) (hN:X.N.Nodup) (hix:X.N[iT]?=some xT) (hxl:Loc X.env.scope xT) (hi:PI X tg al wi)
 (hk:scope.kind=.function) (hnc:∀x∈scope.names,x.2 ≠ .cell) (be:∀x∈scope.names,x.2=.local->scope.names.lookup x.1=some .local)
 (hfr:∀x∈scope.names,x.2=.free->X.env.kindOf x.1=some .cell\/X.env.kindOf x.1=some .free)
 (hsl:sub.length=N.length) (bn:∀(j i:Nat) (x:Str),sub[j]?=some (some i)->N[j]?=some x->X.N[i]?=some x/\scope.names.lookup x=some .free)
 (hg:∀cl C s₂ H fp,PG (aQ X N scope cl C s₂ H fp) tg g) (ht:∀cl C s₂ H fp,PTs (aQ X N scope cl C s₂ H fp) ifs tc) (he:∀cl C s₂ H fp,PE (aQ X N scope cl C s₂ H fp) c_ te)
 (hsw:swapsWith (.ListComp c_ [⟨tg,al,ifs,0⟩] scope pos) (some (.Name xT px)) spos.line X.env=pure true)
 (hs:∀x,foldedSetIterable al X.env x=pure x) (hf:X.fn xT=true\/X.env.scope.names.lookup xT=some .local):
 PS X (.Assign [.Name xT px] (.ListComp c_ [⟨tg,al,ifs,0⟩] scope pos) spos) (qP (iO wi sub g tc te) (lX iT)):=by
 intro pins s σ H D0 I h
 rw[exec_Assign_Name_used _ _ _ _ hsw]
 refine j_ (Mm (j_ ?_))
 show wpAny _ X.A (do let _ <- comprehension (.ListComp c_ [⟨tg,al,ifs,0⟩] scope pos) scope X.env _ (newList []) false (eval al X.env) (some (assign (.Name xT px) X.env))) _ _ s
 refine j_ (KH (rQ (use:=some (assign (.Name xT px) X.env)) (R:=λ_ s'=>SP X pins D0 .next s') hc hi hk hnc be hfr hsl bn hg ht he hs I h λD C s4 e=>?_) (λ_ s' hq=>D_ (D_ hq)) λ_ _ e=>e)
 obtain⟨m,hm⟩:=e.ns
 obtain⟨H',hC,q,i⟩:=e.inv
 have dc:=e.dc
 have fr:=e.fr
 refine wpAny_assign_Name (nQ (v:=.ref D) (i s4.heap ⟨rfl,λ_ _=>rfl⟩) hN hix hxl rfl (λs7 I7 ⟨a7,sb7,ha7⟩=>?_) hf)
 have ha:a7<D:=by
  rcases ha7 with z |z
  ·rw[z];exact fr
  ·exact e.cell xT a7 z
 refine⟨m,hm.sameBut sb7 (Nat.ne_of_gt (Nat.lt_trans ha dc)),λh8 hs8=>⟨_,_,I7.turned (it:=C) (t':=s7.toks) (λb o hb e=>hs8.extBut b o hb e) hC (Nat.ne_of_gt (Nat.lt_trans fr dc)) (.inr (x_ e.sz (Mx dc))) (λx c q=>Kn (Nat.lt_trans (e.cell x c q) dc)) (λp hp=>Kn (Nat.lt_trans (e.pin p hp) dc)),q⟩⟩
def HE{c_ al tg:Expr}{scope:Scope}{pos px spos:Pos}{wi:TI}{g:TG}{te:TE}{iT:Nat}{xT:Str}(M:List Str)(kn:List (Str×NameKind))(N:List Str)(sub:Nd)
 (hc:X.calm=true) (hN:X.N.Nodup) (hix:X.N[iT]?=some xT) (hxl:Loc X.env.scope xT) (hi:PI X tg al wi)
 (hg:∀cl C s₂ H fp,PG (aQ X N scope cl C s₂ H fp) tg g) (he:∀cl C s₂ H fp,PE (aQ X N scope cl C s₂ H fp) c_ te)
 (hsw:swapsWith (.ListComp c_ [⟨tg,al,[],0⟩] scope pos) (some (.Name xT px)) spos.line X.env=pure true)
 (hM:X.N=M) (hkn:X.env.scope.names=kn) (bn:fy M scope.names sub N=true)
 (hk:scope.kind=.function) (hnc:∀x∈scope.names,x.2 ≠ .cell) (be:∀x∈scope.names,x.2=.local->scope.names.lookup x.1=some .local)
 (hfr:g0 kn scope.names=true)
 (hsl:sub.length=N.length) (hs:∀x,foldedSetIterable al X.env x=pure x) (hf:X.fn xT=true\/X.env.scope.names.lookup xT=some .local):
 PS X (.Assign [.Name xT px] (.ListComp c_ [⟨tg,al,[],0⟩] scope pos) spos) (qP (iO wi sub g xY te) (lX iT)):=
 Ht hc hN hix hxl hi hk hnc be (by subst hkn;exact rJ hfr) hsl (by subst hM;exact oX bn) hg (λcl C s₂ H fp=>sd) he hsw hs hf
end
theorem sQ:∀{ns:List Int}{its:List Value},Vals (ns.map V.int) its->IntsAre its ns
 | [],_,h=>by cases h;exact .nil
 |
  i::r,_,h=>by
  cases h with
  |
   cons h1 h2=>
   obtain⟨t,rfl⟩:=h1
   exact .cons i t (sQ h2)
def ju{X:Cx}{K:W.Frag}(hK:X.K=K)(hc:X.calm=true):CallR X (.builtin "sum") (λxs H Q=>∃(a:Addr) (ns:List Int),xs=[.ref a]/\SqL K H a (ns.map V.int)/\Q (.int ns.sum) H):=by
 subst hK
 intro pins s σ H xs us Q I r h
 obtain⟨a,ns,rfl,hq,q⟩:=h
 obtain⟨u,rfl,ru⟩:=fU r
 cases ru
 obtain⟨its,rv,p,hz⟩:=I.list hq
 have hi:=sQ rv
 obtain⟨ys,hy⟩:=hi.allInts.items
 have hn:numsOf its.toArray.toList=ns:=by rw[show its.toArray.toList=its from rfl,hi.numsOf]
 have pl:=p.isList
 rw[hy] at pl hn
 rw[nums_intItems] at hn
 refine sum_intListG (I.ok.hd hc) pl λh' tk t' hk=>?_
 rw[preSum_eq,Ll (by simp),hn]
 exact⟨.int ns.sum,H,I.kept (t':=tk) hk,⟨_,rfl⟩,q⟩
end L2
namespace Fr
noncomputable def dv(a b:Int):Int:=if b<0 then -((Int.gcd a b:Nat):Int) else ((Int.gcd a b:Nat):Int)
def T(a b:Int):Int:=a.fdiv (dv a b)
def B(a b:Int):Int:=b.fdiv (dv a b)
noncomputable def p9(hb:b≠0):0<Int.gcd a b:=Int.gcd_pos_of_ne_zero_right a hb
def dv_ne(hb:b≠0):dv a b≠0:=by
 have:=p9 (a:=a) hb
 unfold dv
 split <;> omega
def yV(a b:Int):dv a b ∣ a:=by
 have h:((Int.gcd a b:Nat):Int) ∣ a:=Int.gcd_dvd_left a b
 unfold dv
 split
 ·exact Int.neg_dvd.mpr h
 ·exact h
def ye(a b:Int):dv a b ∣ b:=by
 have h:((Int.gcd a b:Nat):Int) ∣ b:=Int.gcd_dvd_right a b
 unfold dv
 split
 ·exact Int.neg_dvd.mpr h
 ·exact h
def sR{a d q:Int}(hd:d≠0)(h:a=d*q):a.fdiv d=q:=by
 rw[h,Ma]
 exact Int.mul_fdiv_cancel q hd
def T_mul(hb:b≠0):T a b*dv a b=a:=by
 obtain⟨q,h⟩:=yV a b
 have:T a b=q:=sR (dv_ne hb) h
 rw[this,Ma];exact h.symm
def B_mul(hb:b≠0):B a b*dv a b=b:=by
 obtain⟨q,h⟩:=ye a b
 have:B a b=q:=sR (dv_ne hb) h
 rw[this,Ma];exact h.symm
def B_pos(hb:b≠0):0<B a b:=by
 have h:=B_mul (a:=a) hb
 have hg:=p9 (a:=a) hb
 generalize hx:B a b=x at h ⊢
 unfold dv at h
 split at h
 ·rename_i hneg
  have h2:x*((Int.gcd a b:Nat):Int)=-b:=by rw[Int.mul_neg] at h;omega
  rcases Int.lt_or_le 0 x with z |z
  ·exact z
  ·have:x*((Int.gcd a b:Nat):Int)<=0:=Int.mul_nonpos_of_nonpos_of_nonneg z (by omega)
   omega
 ·rename_i hpos
  rcases Int.lt_or_le 0 x with z |z
  ·exact z
  ·have:x*((Int.gcd a b:Nat):Int)<=0:=Int.mul_nonpos_of_nonpos_of_nonneg z (by omega)
   omega
def cross(hb:b≠0):T a b*b=a*B a b:=by
 have h1:=T_mul (a:=a) hb
 have h2:=B_mul (a:=a) hb
 generalize T a b=x at *
 generalize B a b=y at *
 generalize dv a b=d at *
 rw[<- h2,<- h1]
 rw[<- K0,Mb]
def dv_abs(a b:Int):(dv a b).natAbs=Int.gcd a b:=by
 unfold dv
 split <;> simp
def low(hb:b≠0):Int.gcd (T a b) (B a b)=1:=by
 have h1:=T_mul (a:=a) hb
 have h2:=B_mul (a:=a) hb
 have hg:=p9 (a:=a) hb
 have e1:a.natAbs=(T a b).natAbs*Int.gcd a b:=by rw[<- dv_abs a b,<- KR,h1]
 have e2:b.natAbs=(B a b).natAbs*Int.gcd a b:=by rw[<- dv_abs a b,<- KR,h2]
 have e3:Int.gcd a b=Nat.gcd ((T a b).natAbs*Int.gcd a b) ((B a b).natAbs*Int.gcd a b):=by rw[<- e1,<- e2];rfl
 rw[Nat.gcd_mul_right] at e3
 show Nat.gcd (T a b).natAbs (B a b).natAbs=1
 generalize Nat.gcd (T a b).natAbs (B a b).natAbs=k at *
 generalize Int.gcd a b=g at *
 have:(1:Nat)*g=k*g:=by omega
 exact (Nat.eq_of_mul_eq_mul_right hg this).symm
def uniq(hy:0<y)(hy':0<y')(h:Int.gcd x y=1)(h':Int.gcd x' y'=1)(e:x*y'=x'*y):x=x'/\y=y':=by
 have c1:Nat.Coprime y.natAbs x.natAbs:=by rw[Nat.coprime_comm];exact h
 have c2:Nat.Coprime y'.natAbs x'.natAbs:=by rw[Nat.coprime_comm];exact h'
 have e1:x.natAbs*y'.natAbs=x'.natAbs*y.natAbs:=by rw[<- KR,<- KR,e]
 have d1:y.natAbs ∣ y'.natAbs:=c1.dvd_of_dvd_mul_left (by rw[e1];exact Nat.dvd_mul_left _ _)
 have d2:y'.natAbs ∣ y.natAbs:=c2.dvd_of_dvd_mul_left (by rw[<- e1];exact Nat.dvd_mul_left _ _)
 have ey:y.natAbs=y'.natAbs:=Nat.dvd_antisymm d1 d2
 have ey':y=y':=by omega
 subst ey'
 exact⟨LZ (by omega) e,rfl⟩
def tR(hb:b≠0)(hd:d≠0)(e:a*d=c*b):T a b=T c d/\B a b=B c d:=by
 refine uniq (B_pos hb) (B_pos hd) (low hb) (low hd) ?_
 have h1:=cross (a:=a) hb
 have h2:=cross (a:=c) hd
 have hbd:b*d≠0:=Lc hb hd
 refine LZ hbd ?_
 calc T a b*B c d*(b*d)=(T a b*b)*(B c d*d):=by rw[K0,LN (B c d) b d,<- K0]
  _=(a*B a b)*(B c d*d):=by rw[h1]
  _=(a*d)*(B c d*B a b):=by rw[K0 a,K0 a,LN (B a b),LN d,Ma (B a b) d]
  _=(c*b)*(B c d*B a b):=by rw[e]
  _=(c*B c d)*(B a b*b):=by rw[K0 c,K0 c,LN b,Ma b (B a b)]
  _=(T c d*d)*(B a b*b):=by rw[<- h2]
  _=T c d*B a b*(b*d):=by rw[K0,K0,LN d,Ma d b]
def self(hb:0<b)(h:Int.gcd a b=1):T a b=a/\B a b=b:=
 uniq (B_pos (by omega)) hb (low (by omega)) h (cross (by omega))
def euc(m n:Nat):Nat.gcd n (m % n)=Nat.gcd m n:=by
 rw[Nat.gcd_comm,<- Nat.gcd_rec,Nat.gcd_comm]
end Fr
set_option maxHeartbeats 1000000
namespace L2
open PySem PySem.Spec PyProof.Rows
def Inv.turnedL{X:Cx}{pins:Nb}{σ:St}{H:Hp}{s:Shared}{h':Heap}{t':Nat}{ch:List Addr}(I:Inv X pins σ H s)(k:∀b o,b∉ch->s.heap.get? b=some o->h'.get? b=some o)(hf:∀b∈ch,FpOk X pins H b):Inv X pins σ H { s with heap:=h',toks:=t' }:=by
 have away:∀b u,H b=some u->b∉ch:=λb u e z=>by have:=(hf b z).1;rw[e] at this;cases this
 refine I.step (g':=s.gens) (d':=s.drawn) (ch:=ch) (λb hb=>⟨(hf b hb).2.2.2.1,(hf b hb).2.1,(hf b hb).2.2.2.2.1,(hf b hb).2.2.2.2.2⟩) (λb o _ _ hc e _=>k b o hc e) (λb o _ _ hc e _=>⟨o.slots,k b o hc e⟩) (λ_ _ _ _ n=>n)
  (λb o hc e=>⟨o,k b o hc e⟩) (λ_ _ e=>e) (λ_ _ _ e=>e) (λb ps e=>⟨#[],by rw[e];simp⟩) (λm hm=>?_) (λb u e=>?_) I.bare
 ·obtain⟨o,es,ep,ho,r⟩:=hm
  exact⟨o,es,ep,k _ o (λz=>(hf _ z).2.1 rfl) ho,r⟩
 ·refine (I.hok b u e).stay (λc v hc q=>k c v ?_ q) (λ_ q=>q) λ_ _ q=>q
  rcases hc with z |z
  ·rw[z];exact away b u e
  ·exact away c _ z
def FpOk.up(f:FpOk X pins H b)(hn:b≠p):FpOk X pins (upd H p o) b:=⟨by rw[aL hn];exact f.1,f.2⟩
def uQ(hj:s.heap.IsTupleIter j t n)(ht:s.heap.IsTuple t its)(hv:its[n]?=some v)
 (k:∀h',h'.IsTupleIter j t (n+1)->Heap.SameBut j s.heap h'->Q v { s with heap:=h' }):wpAny (model prog w) A (Builtin.SmallTypes.nextOf (.ref j)) Q E s:=by
 obtain⟨oj,ej,cj,dj⟩:=id hj
 obtain⟨ot,et,_,m,dt⟩:=ht
 unfold Builtin.SmallTypes.nextOf
 refine j_ (Mg (name:=Str.ofString "__next__") hj.typeIs Lv (wpAny_call_entry Lv hj.typeIs F.entry_tuple_iterator_next ?_ (F.args_tuple_iterator_next_1 _)))
 show wpAny _ _ (field (.ref j) 0 >>= _) _ _ s
 refine j_ (L6 ej dj (x:=.ref t) rfl ?_)
 show wpAny _ _ (if (Value.ref t==Value.none)=true then _ else _) _ _ s;rw[if_neg (show ¬ ((Value.ref t==Value.none)=true) from p_)]
 show wpAny _ _ (field (.ref j) 1 >>= _) _ _ s
 refine j_ (L6 ej dj (x:=.int n 0) rfl ?_)
 show wpAny _ _ (seqItems? (.ref t) >>= _) _ _ s;refine j_ (wpAny_seqItems et dt ?_)
 simp only[G_,hv]
 refine j_ (wpAny_setField ej dj (by simp) (D_ ⟨v,rfl,D_ (k _ ?_ (Heap.SameBut.update ..))⟩))
 exact⟨_,Heap.get?_update_self _ ej (Obj.isFreed_of_fields (Obj.data_mapFields dj _)),(Obj.cls_mapFields ..).trans cj,by rw[Obj.data_mapFields dj];simp [rawInt]⟩
def mV(hh:A.handled=none)(hj:s.heap.IsTupleIter j t n)(ht:s.heap.IsTuple t its)(hv:its[n]?=none)
 (k:∀h' e,Heap.ExtBut j s.heap h'->(∃o,h'.get? e=some o/\o.cls=.type "StopIteration")->E (.ref e) { s with heap:=h' }):wpAny (model prog w) A (Builtin.SmallTypes.nextOf (.ref j)) Q E s:=by
 obtain⟨oj,ej,cj,dj⟩:=id hj
 obtain⟨ot,et,_,m,dt⟩:=ht
 unfold Builtin.SmallTypes.nextOf
 refine j_ (Mg (name:=Str.ofString "__next__") hj.typeIs Lv (wpAny_call_entry Lv hj.typeIs F.entry_tuple_iterator_next ?_ (F.args_tuple_iterator_next_1 _)))
 show wpAny _ _ (field (.ref j) 0 >>= _) _ _ s
 refine j_ (L6 ej dj (x:=.ref t) rfl ?_)
 show wpAny _ _ (if (Value.ref t==Value.none)=true then _ else _) _ _ s;rw[if_neg (show ¬ ((Value.ref t==Value.none)=true) from p_)]
 show wpAny _ _ (field (.ref j) 1 >>= _) _ _ s
 refine j_ (L6 ej dj (x:=.int n 0) rfl ?_)
 show wpAny _ _ (seqItems? (.ref t) >>= _) _ _ s;refine j_ (wpAny_seqItems et dt ?_)
 simp only[G_,hv]
 refine j_ (wpAny_rule (j_ (wpAny_setField ej dj (by simp) ?_)));show wpAny _ _ (newExc (.type "StopIteration") [] >>= _) _ _ _
 refine j_ ?_;simp only[newExc,newTuple]
 refine j_ (K7 ?_ (by size_fits));refine j_ (m:=firstArgMember _ _) (wpAny_of_eq (a:=Value.none) (by first |rfl |(simp only[firstArgMember];rfl)) ?_)
 refine K7 ?_ (by size_fits);simp only[raiseNew]
 refine j_ (wpAny_handled ?_);first |rw[show A.in1.handled=none from hh] |rw[hh]
 refine j_ (D_ (wpAny_throw ?_));exact k _ _ (((Heap.SameBut.update ..).extBut.push _).push _) ⟨_,Km _ rfl,rfl⟩
def Gr(hh:A.handled=none)(j t:Addr)(ne:t≠j)(its:Array Value):Draws prog w A j [j,t] its.size (λi v=>its[i]?=some v) (λi h=>h.IsTupleIter j t i/\h.IsTuple t its) where
 live:=λ_ _ z=>let ⟨o,e,_⟩:=z.1;⟨o,e⟩
 frame:=λ_ _ _ z k=>⟨z.1.at λo e=>k j (by simp) o e,let ⟨o,e,r⟩:=z.2;⟨o,k t (by simp) o e,r⟩⟩
 item:=λi s Q E hi z k=>uQ z.1 z.2 (v:=its[i]) (by simp [hi]) λh' z' sb=>k _ h' s.toks (by simp [hi]) ⟨z',let ⟨o,e,r⟩:=z.2;⟨o,(sb.2 t ne).trans e,r⟩⟩ sb
 done:=λs Q E z k=>mV hh z.1 z.2 (by simp) k
def u9(l:Addr)(its:Array Value)(n:Nat)(dc:Option Addr)(sl:Array (Option Value)):
 Meets (Builtin.«enumerate.__new__» ⟨[.type "enumerate",.ref l],[]⟩) (λ_ R s=>s.heap.get? l=some { cls:=.type "tuple",dict:=dc,data:=.seq its n,slots:=sl }/\
  R
   (.ok (.ret (.ref (s.heap.push { cls:=.type "tuple_iterator",data:=.fields #[.ref l,.int 0 0] }).objs.size)))
   { s with heap:=(s.heap.push { cls:=.type "tuple_iterator",data:=.fields #[.ref l,.int 0 0] }).push { cls:=.type "enumerate",data:=.fields #[.none,.bool false,.ref s.heap.objs.size,rawInt 0,.none,.none] } }):=
 .of_wp λprog w A R s h=>by
  obtain⟨hp,g,d,tk,os⟩:=s;obtain⟨hl,h⟩:=h
  have bn:=sub_enumerate
  have hT:Heap.IsTuple (Shared.heap ⟨hp,g,d,tk,os⟩) l its:=⟨_,hl,rfl,n,rfl⟩
  wp_walk using L_ hl
  refine wpAny_stack_any λst=>D_ ?_
  split
  ·rename_i c _ _ _ _ _
   cases (c==Value.type "enumerate") <;> (wp_walk using L_ hl,wpAny_pyIter_tuple hT;exact⟨_,rfl,h⟩)
  ·wp_walk using L_ hl,wpAny_pyIter_tuple hT;exact⟨_,rfl,h⟩
def tJ(hT:s.heap.IsTuple l its)
 (k:∀h',IsEnum h' (s.heap.objs.size+1) s.heap.objs.size 0 .none->h'.IsTupleIter s.heap.objs.size l 0->h'.objs.size=s.heap.objs.size+2->(∀b o,s.heap.get? b=some o->h'.get? b=some o)->Q (.ref (s.heap.objs.size+1)) { s with heap:=h' }):
 wpAny (model prog w) A (call (.type "enumerate") [.ref l]) Q E s:=by
 obtain⟨⟨c,dc,dt,sl⟩,hl,hc,n,hd⟩:=hT
 have hc':c=.type "tuple":=hc
 have hd':dt=.seq its n:=hd
 subst hc' hd'
 refine callType_new F.called_enumerate (by decide) (F.typeCall_enumerate_1 _) (F.newCall_enumerate_1 _) (λobj=>F.args_object_init_2 obj _) F.entry_enumerate_new (u9 l its n dc sl) ⟨hl,?_⟩
 have z1:(s.heap.push { cls:=.type "tuple_iterator",data:=.fields #[.ref l,.int 0 0] }).objs.size=s.heap.objs.size+1:=Heap.size_push ..
 show _/\_
 rw[z1]
 have he:IsEnum ((s.heap.push { cls:=.type "tuple_iterator",data:=.fields #[.ref l,.int 0 0] }).push { cls:=.type "enumerate",data:=.fields #[.none,.bool false,.ref s.heap.objs.size,rawInt 0,.none,.none] }) (s.heap.objs.size+1) s.heap.objs.size 0 .none:=by
  have z2:=Km (s.heap.push { cls:=.type "tuple_iterator",data:=.fields #[.ref l,.int 0 0] }) (o:={ cls:=.type "enumerate",data:=.fields #[.none,.bool false,.ref s.heap.objs.size,rawInt 0,.none,.none] }) rfl
  rw[z1] at z2;exact z2
 exact⟨⟨_,he,rfl⟩,k _ he ⟨_,s_ _ (Km _ rfl),rfl,rfl⟩ (by rw[Heap.size_push,z1]) λb o x=>s_ _ (s_ _ x)⟩
def SqB(K:W.Frag)(b:Bool)(H:Hp)(a:Addr)(xs:List V):Prop:=match b with
 |true=>SqL K H a xs
 |false=>SqT K H a xs
def ItB(b:Bool)(h:Heap)(j a:Addr)(i:Nat):Prop:=match b with
 |true=>h.IsListIter j a i
 |false=>h.IsTupleIter j a i
def SqB.inj(I:Inv X pins σ H s)(x:SqB X.K b H a xs)(y:SqB X.K b H a ys):xs=ys:=by
 cases b with
 |true=>exact I.list_inj x y
 |false=>exact I.tuple_inj x y
def xE(K:W.Frag)(b:Bool)(a:Addr):It:=
 ⟨λi H=>∃xs x,SqB K b H a xs/\xs[i]?=some x,λi H x H'=>∃p u,x=.ref p/\H p=none/\H'=upd H p (.tup [.int (i:Nat),u])/\∀xs,SqB K b H a xs->xs[i]?=some u,λi H=>∃xs,SqB K b H a xs/\xs.length=i⟩
def rF(I:Inv X pins σ H s)(hh:X.A.handled=none)(hq:SqB X.K b H a xs)(hj:ItB b s.heap j a i):
 ∃(its:List Value) (St:Nat->Heap->Prop),Vals xs its/\Draws X.prog X.w X.A.in1 j [j,a] its.length (λi v=>its[i]?=some v) St/\St i s.heap/\(∀i h,St i h->ItB b h j a i)/\∃o n,s.heap.get? a=some o/\o.cls=.type (if b then "list" else "tuple")/\o.data=.seq its.toArray n:=by
 cases b with
 |
  true=>
  obtain⟨its,rv,p,hz⟩:=I.list hq
  obtain⟨o,n,e,c,d,ds⟩:=p
  have hL:s.heap.IsList a its.toArray:=⟨o,e,c,n,ds⟩
  have hj':s.heap.IsListIter j a i:=hj
  have ne:a≠j:=λz=>by
   subst z
   obtain⟨o',e',c',_⟩:=hj'
   rw[e] at e';cases e'
   rw[c] at c';exact absurd (Value.type.inj c') (by decide)
  have D:=Draws.list (prog:=X.prog) (w:=X.w) (A:=X.A.in1) hh j a ne its.toArray
  refine⟨its,λi h=>h.IsListIter j a i/\h.IsList a its.toArray,rv,?_,⟨hj',hL⟩,λ_ _ z=>z.1,o,n,e,c,ds⟩
  have e1:its.toArray.size=its.length:=by simp
  have e2:(λ(i:Nat) (v:Value)=>its.toArray[i]?=some v)=λi v=>its[i]?=some v:=by funext i v;simp
  rw[e1,e2] at D
  exact D
 |
  false=>
  obtain⟨its,rv,p,hz⟩:=I.tuple hq
  have hT:s.heap.IsTuple a its.toArray:=p
  obtain⟨o,e,c,n,ds⟩:=id hT
  have hj':s.heap.IsTupleIter j a i:=hj
  have ne:a≠j:=λz=>by
   subst z
   obtain⟨o',e',c',_⟩:=hj'
   rw[e] at e';cases e'
   rw[c] at c';exact absurd (Value.type.inj c') (by decide)
  have D:=Gr (prog:=X.prog) (w:=X.w) (A:=X.A.in1) hh j a ne its.toArray
  refine⟨its,λi h=>h.IsTupleIter j a i/\h.IsTuple a its.toArray,rv,?_,⟨hj',hT⟩,λ_ _ z=>z.1,o,n,e,c,ds⟩
  have e1:its.toArray.size=its.length:=by simp
  have e2:(λ(i:Nat) (v:Value)=>its.toArray[i]?=some v)=λi v=>its[i]?=some v:=by funext i v;simp
  rw[e1,e2] at D
  exact D
def rW(z:ItB b h j a i):∃o,h.get? j=some o/\(∀v,o.data ≠ .cell v)/\o.cls=.type (if b then "list_iterator" else "tuple_iterator"):=by
 cases b with
 |true=>obtain⟨o,e,c,d⟩:=z;exact⟨o,e,(λv y=>by rw[d] at y;cases y),c⟩
 |false=>obtain⟨o,e,c,d⟩:=z;exact⟨o,e,(λv y=>by rw[d] at y;cases y),c⟩
def qE(z:ItB b h j a i)(k:∀o,h.get? j=some o->h'.get? j=some o):ItB b h' j a i:=by
 cases b with
 |true=>obtain⟨o,e,r⟩:=z;exact⟨o,k o e,r⟩
 |false=>obtain⟨o,e,r⟩:=z;exact⟨o,k o e,r⟩
def v9{P:Program}{w:World}{K:W.Frag}{elts:List Expr}{x1:Nat}{tp:Pos}(b:Bool)(a e j:Addr)(hej:e≠j):Turn P w K (.Tuple elts x1 tp) (xE K b a) [e,j] e (λi h=>(∃old,IsEnum h e j ((i:Nat):Int) old)/\ItB b h j a i) where
 mem:=by simp
 obj
  := λi h st c hc=>by
  rcases B_.mp hc with rfl |hc
  ·obtain⟨old,he⟩:=st.1
   exact⟨_,he,λv z=>by cases z⟩
  ·have:c=j:=by simpa using hc
   subst this
   obtain⟨o,q1,q2,_⟩:=rW st.2
   exact⟨o,q1,q2⟩
 keep:=λi h h' st k=>⟨let ⟨old,he⟩:=st.1;⟨old,k e (by simp) _ he⟩,qE st.2 λo q=>k j (by simp) o q⟩
 item:=
  by
  intro X hP hw hK hc i pins s σ H E I hf st hg
  subst hP hw hK
  obtain⟨xs,x,hq,hx⟩:=hg
  obtain⟨⟨old,he⟩,hj⟩:=st
  obtain⟨its,St,rv,D,hst,hSt,oa,na,ea,ca,da⟩:=rF I (I.ok.hd hc) hq hj
  obtain⟨u,hu,ru⟩:=rv.get hx
  have hlt:i<its.length:=(h_.mp hu).1
  have hea:e≠a:=λz=>by
   subst z
   rw[he] at ea;cases ea
   cases b <;> exact absurd (Value.type.inj ca) (by decide)
  refine wpAny_pyNext_enum_itemD D he hst hlt hej (by simp [hej,hea]) λy h' tk hy heo hst' ht hsz hk=>?_
  have:y=u:=by rw[hu] at hy;exact (z_ hy).symm
  subst this
  refine⟨_,rfl,wpAny_letOwnedTupleGo_enum (s:={ s with heap:=h',toks:=tk+1 }) heo λh2 he2 sb=>?_⟩
  have hT:H s.heap.objs.size=none:=I.hok.fresh (n_ _)
  have hef:=v_ he
  obtain⟨oj,q1,_,_⟩:=rW hj
  have hjf:=v_ q1
  have I1:Inv X pins σ (upd H s.heap.objs.size (.tup [.int (i:Nat),x])) { s with heap:=s.heap.push { cls:=.type "tuple",data:=.seq #[.int (i:Nat) tk,y] },toks:=s.toks }:=
   I.laid (t':=s.toks) (λc o q=>s_ _ q) (n_ _) ⟨by show 2<=sizeLine;decide,[.int (i:Nat) tk,y],.cons ⟨tk,rfl⟩ (.cons ru .nil),⟨_,Km _ rfl,rfl,_,rfl⟩⟩
  have sb':Heap.SameBut e h' h2:=sb
  have I2:Inv X pins σ (upd H s.heap.objs.size (.tup [.int (i:Nat),x])) { s with heap:=h2,toks:=tk+1 }:=
   Inv.turnedL (s:={ s with heap:=s.heap.push { cls:=.type "tuple",data:=.seq #[.int (i:Nat) tk,y] },toks:=s.toks }) (ch:=[e,j]) (t':=tk+1) I1 (λc o hc' q=>by
    have c1:c≠e:=λz=>hc' (by simp [z])
    have c2:c≠j:=λz=>hc' (by simp [z])
    rw[sb'.2 c c1]
    by_cases z:c=s.heap.objs.size
    ·subst z
     have q':(s.heap.push { cls:=.type "tuple",data:=.seq #[.int (i:Nat) tk,y] }).get? s.heap.objs.size=some o:=q
     rw[Km _ rfl] at q'
     cases q'
     exact ht
    ·refine hk c o c1 c2 ?_
     have q':(s.heap.push { cls:=.type "tuple",data:=.seq #[.int (i:Nat) tk,y] }).get? c=some o:=q
     rw[Heap.get?_push_ne _ _ _ z] at q'
     exact q') λc hc'=>by
    rcases B_.mp hc' with rfl |hc'
    ·exact (hf c (by simp)).up (Kn hef)
    ·have:c=j:=by simpa using hc'
     subst this
     exact (hf c (by simp)).up (Kn hjf)
  refine⟨.ref s.heap.objs.size,_,I2,rfl,⟨_,x,rfl,hT,rfl,λys hy'=>by rw[SqB.inj I hy' hq];exact hx⟩,⟨⟨y,he2⟩,qE (hSt _ _ hst') λo q=>(sb'.2 j (Ne.symm hej)).trans q⟩,λc hc'=>?_⟩
  rcases B_.mp hc' with rfl |hc'
  ·exact ((hf c (by simp)).up (Kn hef)).1
  ·have:c=j:=by simpa using hc'
   subst this
   exact ((hf c (by simp)).up (Kn hjf)).1
 done:=by
  intro X hP hw hK hc i pins s σ H E I hf st hg
  subst hP hw hK
  obtain⟨xs,hq,hx⟩:=hg
  obtain⟨⟨old,he⟩,hj⟩:=st
  obtain⟨its,St,rv,D,hst,hSt,oa,na,ea,ca,da⟩:=rF I (I.ok.hd hc) hq hj
  have hl:=rv.length
  subst hx
  rw[hl] at hst
  refine wpAny_pyNext_enum_endD D he hst λh' eb=>⟨rfl,Inv.turnedL (ch:=[j]) (t':=s.toks) I (λc o hc' q=>eb c o (λz=>hc' (by simp [z])) q) λc hc'=>?_⟩
  have:c=j:=by simpa using hc'
  subst this
  exact hf c (by simp)
 self:=λ_ _ _ _ _ st h=>let ⟨_,he⟩:=st.1;wpAny_pyIter_enum he h
def CB(hg:Gl X "enumerate")(hm:X.mg "enumerate"=none)(ha:PA X [l] tl)(hs:starEach [l] X.env=[(false,eval l X.env)]):
 PI X (.Tuple elts x1 tp) (.Call (.Name "enumerate" p) [l] [] pos) (λσ H R=>tl σ H λvs H1=>∃(b:Bool) (a:Addr) (xs:List V),vs=[.ref a]/\SqB X.K b H1 a xs/\R (xE X.K b a) H1):=by
 intro pins s σ H R I h
 refine Call_ (jq I hg hm boot_enumerate (LX (thn (ha pos pins s σ H _ I h) λus s1 ⟨vs,H1,I1,r1,q1⟩=>?_) hs rfl))
 obtain⟨b,a,xs,e,hq,q⟩:=q1
 subst e
 cases r1 with
 |
  cons r rr=>
  cases rr
  cases r
  have em:∀h',IsEnum h' (s1.heap.objs.size+1) s1.heap.objs.size 0 .none->ItB b h' s1.heap.objs.size a 0->(∀c o,s1.heap.get? c=some o->h'.get? c=some o)->
   wpAny (model X.prog X.w) X.A (pyIter (.ref (s1.heap.objs.size+1))) (PIE X pins σ (.Tuple elts x1 tp) R) X.xe { s1 with heap:=h' }:=λh' he hj hk=>by
   refine wpAny_pyIter_enum he ⟨s1.heap.objs.size+1,[s1.heap.objs.size+1,s1.heap.objs.size],_,_,H1,rfl,I1.kept (t':=s1.toks) λc o z=>hk c o z,v9 b a _ _ (Nat.succ_ne_self _),⟨⟨.none,he⟩,hj⟩,λc hc=>?_,q⟩
   rcases B_.mp hc with rfl |hc
   ·exact I1.fpOk (Nat.le_succ _) (I1.hok.fresh (Nat.le_succ _))
   ·have:c=s1.heap.objs.size:=by simpa using hc
    subst this
    exact I1.fpOk (n_ _) (I1.hok.fresh (n_ _))
  cases b with
  |
   true=>
   obtain⟨its,rv,pp,hz⟩:=I1.list hq
   exact call_enumerate_list pp.isList λh' he hit _ hk=>em h' he hit hk
  |
   false=>
   obtain⟨its,rv,pp,hz⟩:=I1.tuple hq
   exact tJ (show s1.heap.IsTuple a its.toArray from pp) λh' he hit _ hk=>em h' he hit hk
section
variable{prog:Program}{w:World}{A:Around}{E:Nc}{s:Shared}{b1 b2:Bool}{z p q j1 j2 a1 a2:Addr}{n:Nat}{xs ys:Array Value}{x y u v:Value}
end
def ItZ(K:W.Frag)(b c:Bool)(a d:Addr):It:=
 ⟨λi H=>∃xs ys x y,SqB K b H a xs/\SqB K c H d ys/\xs[i]?=some x/\ys[i]?=some y,
  λi H x H'=>∃p u v,x=.ref p/\H p=none/\H'=upd H p (.tup [u,v])/\(∀xs,SqB K b H a xs->xs[i]?=some u)/\∀ys,SqB K c H d ys->ys[i]?=some v,
  λi H=>∃xs ys,SqB K b H a xs/\SqB K c H d ys/\(xs[i]?=none\/ys[i]?=none)⟩
inductive D where
 |non |bl (b:Bool) |int (i:Int) |str (x:Str) |ty (n:String) |glb (x:Str) |exc (x:Str) |tup (xs:List D) |ref (n:Nat) |kl (xs:List D)
 deriving Inhabited
inductive Ob where
 |lst (xs:List D) |fz (xs:List D) |set (xs:List Int) |dct (kvs:List (Key×D)) |any
 deriving Inhabited
abbrev AH:=List Ob
abbrev AE:=List (Option D)
inductive R(α:Type) where
 |ok (a:α) (h:AH) |exc (c:Str) (h:AH) |stuck
inductive SR where
 |nx (ae:AE) (h:AH) |rt (d:D) (h:AH) |bk (ae:AE) (h:AH) |ct (ae:AE) (h:AH) |exc (c:Str) (ae:AE) (h:AH) |stuck
abbrev ME:=AE->AH->R D
abbrev MT:=AE->AH->R Bool
abbrev MA:=AE->AH->R (List D)
abbrev MS:=AE->AH->SR
abbrev Fn:=List D->AH->R D
def R.bind{α β:Type}(r:R α)(f:α->AH->R β):R β:=match r with
 |.ok a h=>f a h
 |.exc c h=>.exc c h
 |.stuck=>.stuck
section
variable(K:W.Frag)(mg:Na)
mutual
inductive RelD(ρ:List Addr)(H:Hp):D->V->Prop where
 |non:RelD ρ H .non .non
 |bl (b:Bool):RelD ρ H (.bl b) (.bl b)
 |int (i:Int):RelD ρ H (.int i) (.int i)
 |str (x:Str):RelD ρ H (.str x) (.str x)
 |ty (n:String):RelD ρ H (.ty n) (.ty n)
 |glb {x:Str}{a:Addr} (m:mg x=some (.ref a)):RelD ρ H (.glb x) (.ref a)
 |exc {x:Str}{a C:Addr} (m:mg x=some (.ref C)) (e:H a=some (.ext (yI a C))):RelD ρ H (.exc x) (.ref a)
 |tup {p:Addr}{vs:List V}{ds:List D} (h:SqT K H p vs) (r:RelDs ρ H ds vs):RelD ρ H (.tup ds) (.ref p)
 |ref {n:Nat}{a:Addr} (e:ρ[n]?=some a):RelD ρ H (.ref n) (.ref a)
 |kl {a:Addr}{vs:List V}{ds:List D} (h:∃(o:Obj) (its:Array Value) (n:Nat),K.lookup a=some o/\o.cls=.type "list" /\ o.dict=none/\o.data=.seq its n/\its.size<=sizeLine/\Vals vs its.toList) (r:RelDs ρ H ds vs):RelD ρ H (.kl ds) (.ref a)
inductive RelDs(ρ:List Addr)(H:Hp):List D->List V->Prop where
 |nil:RelDs ρ H [] []
 |cons {d:D}{v:V}{ds:List D}{vs:List V} (r:RelD ρ H d v) (rr:RelDs ρ H ds vs):RelDs ρ H (d::ds) (v::vs)
end
structure Le(ρ:List Addr)(H:Hp)(ρ':List Addr)(H':Hp):Prop where
 pre:∀(n:Nat) (a:Addr),ρ[n]?=some a->ρ'[n]?=some a
 tup:∀b xs,H b=some (.tup xs)->H' b=some (.tup xs)
 frz:∀b o u,H b=some (.frz o u)->H' b=some (.frz o u)
 ext:∀b φ,H b=some (.ext φ)->H' b=some (.ext φ)
def ObR(ρ:List Addr)(H:Hp)(a:Addr):Ob->Prop
 |.lst ds=>∃vs,H a=some (.lst vs)/\RelDs K mg ρ H ds vs
 |.fz ds=>∃o vs,H a=some (.frz o (.lst vs))/\RelDs K mg ρ H ds vs
 |.set xs=>xs.Nodup/\H a=some (.set (λi=>decide (i∈xs)) xs.length)
 |.dct kvs=>∃ws,H a=some (.dK ws)/\ws.map (·.1)=kvs.map (·.1)/\RelDs K mg ρ H (kvs.map (·.2)) (ws.map (·.2))
 |.any=>∃o,H a=some o
structure Wd(ρ:List Addr)(h:AH)(H:Hp):Prop where
 len:ρ.length=h.length
 nd:ρ.Nodup
 ob:∀(n:Nat) (a:Addr) (o:Ob),ρ[n]?=some a->h[n]?=some o->ObR K mg ρ H a o
structure RelE(ρ:List Addr)(H:Hp)(ae:AE)(σ:St):Prop where
 len:ae.length=σ.length
 at_:∀(i:Nat) (d:D),ae[i]?=some (some d)->∃v,σ[i]?=some (some v)/\RelD K mg ρ H d v
def PostG{α:Type}(ρ:List Addr)(H:Hp)(E:XK)(k:α->AH->List Addr->Hp->Prop):R α->Prop
 |.ok a h=>∀ρ' H',Le ρ H ρ' H'->Wd K mg ρ' h H'->k a h ρ' H'
 |.exc c h=>∀ρ' H' C,Le ρ H ρ' H'->Wd K mg ρ' h H'->mg c=some (.ref C)->E (.ref C) none H'
 |.stuck=>False
abbrev c7(ρ:List Addr)(H:Hp)(Q:VK)(E:XK)(r:R D):Prop:=PostG K mg ρ H E (λd _ ρ' H'=>∀v,RelD K mg ρ' H' d v->Q v H') r
abbrev tV(ρ:List Addr)(H:Hp)(Q:Bool->Hp->Prop)(E:XK)(r:R Bool):Prop:=PostG K mg ρ H E (λb _ ρ' H'=>Q b H') r
abbrev Ay(ρ:List Addr)(H:Hp)(Q:List V->Hp->Prop)(E:XK)(r:R (List D)):Prop:=PostG K mg ρ H E (λd _ ρ' H'=>∀vs,RelDs K mg ρ' H' d vs->Q vs H') r
def PostS(ρ:List Addr)(H:Hp)(D:Ends)(ES:St->XK):SR->Prop
 |.nx ae h=>∀ρ' H' σ',Le ρ H ρ' H'->Wd K mg ρ' h H'->RelE K mg ρ' H' ae σ'->D.nx σ' H'
 |.bk ae h=>∀ρ' H' σ',Le ρ H ρ' H'->Wd K mg ρ' h H'->RelE K mg ρ' H' ae σ'->D.bk σ' H'
 |.ct ae h=>∀ρ' H' σ',Le ρ H ρ' H'->Wd K mg ρ' h H'->RelE K mg ρ' H' ae σ'->D.ct σ' H'
 |.rt d h=>∀ρ' H' v,Le ρ H ρ' H'->Wd K mg ρ' h H'->RelD K mg ρ' H' d v->D.rt v H'
 |.exc c ae h=>∀ρ' H' σ' C,Le ρ H ρ' H'->Wd K mg ρ' h H'->RelE K mg ρ' H' ae σ'->mg c=some (.ref C)->ES σ' (.ref C) none H'
 |.stuck=>False
def rdE(ES:St->XK)(F:ME):TE:=λσ H Q=>∃ρ h ae,Wd K mg ρ h H/\RelE K mg ρ H ae σ/\c7 K mg ρ H Q (ES σ) (F ae h)
def rdT(ES:St->XK)(F:MT):TT:=λσ H Q=>∃ρ h ae,Wd K mg ρ h H/\RelE K mg ρ H ae σ/\tV K mg ρ H Q (ES σ) (F ae h)
def rdA(ES:St->XK)(F:MA):TA:=λσ H Q=>∃ρ h ae,Wd K mg ρ h H/\RelE K mg ρ H ae σ/\Ay K mg ρ H Q (ES σ) (F ae h)
def rdS(ES:St->XK)(F:MS):TS:=λD σ H=>∃ρ h ae,Wd K mg ρ h H/\RelE K mg ρ H ae σ/\PostS K mg ρ H D ES (F ae h)
def spD(n:Nat)(S:Fn):Sp:=λvs H Q E=>∃ρ h ds,Wd K mg ρ h H/\RelDs K mg ρ H ds vs/\ds.length=n/\c7 K mg ρ H Q E (S ds h)
end
def rdE.el{K:W.Frag}{mg:Na}{ES:St->XK}{F:ME}{σ:St}{H:Hp}{Q:VK}{C:Prop}(q:rdE K mg ES F σ H Q)(k:∀ρ h ae,Wd K mg ρ h H->RelE K mg ρ H ae σ->c7 K mg ρ H Q (ES σ) (F ae h)->C):C:=by
 obtain⟨ρ,h,ae,w,re,p⟩:=q
 exact k ρ h ae w re p
def rdT.el{K:W.Frag}{mg:Na}{ES:St->XK}{F:MT}{σ:St}{H:Hp}{Q:Bool->Hp->Prop}{C:Prop}(q:rdT K mg ES F σ H Q)(k:∀ρ h ae,Wd K mg ρ h H->RelE K mg ρ H ae σ->tV K mg ρ H Q (ES σ) (F ae h)->C):C:=by
 obtain⟨ρ,h,ae,w,re,p⟩:=q
 exact k ρ h ae w re p
def rdA.el{K:W.Frag}{mg:Na}{ES:St->XK}{F:MA}{σ:St}{H:Hp}{Q:List V->Hp->Prop}{C:Prop}(q:rdA K mg ES F σ H Q)(k:∀ρ h ae,Wd K mg ρ h H->RelE K mg ρ H ae σ->Ay K mg ρ H Q (ES σ) (F ae h)->C):C:=by
 obtain⟨ρ,h,ae,w,re,p⟩:=q
 exact k ρ h ae w re p
def rdS.el{K:W.Frag}{mg:Na}{ES:St->XK}{F:MS}{σ:St}{H:Hp}{De:Ends}{C:Prop}(q:rdS K mg ES F De σ H)(k:∀ρ h ae,Wd K mg ρ h H->RelE K mg ρ H ae σ->PostS K mg ρ H De ES (F ae h)->C):C:=by
 obtain⟨ρ,h,ae,w,re,p⟩:=q
 exact k ρ h ae w re p
section
variable{K:W.Frag}{mg:Na}{ρ ρ' ρ1:List Addr}{H H' H1:Hp}{h h':AH}{ae:AE}{σ:St}
noncomputable def Le.refl:Le ρ H ρ H:=⟨λ_ _ e=>e,λ_ _ e=>e,λ_ _ _ e=>e,λ_ _ e=>e⟩
noncomputable def Le.trans(a:Le ρ H ρ1 H1)(b:Le ρ1 H1 ρ' H'):Le ρ H ρ' H':=
 ⟨λn x e=>b.pre n x (a.pre n x e),λx y e=>b.tup x y (a.tup x y e),λx y z e=>b.frz x y z (a.frz x y z e),λx y e=>b.ext x y (a.ext x y e)⟩
noncomputable def Le.sqT(l:Le ρ H ρ' H')(q:SqT K H a xs):SqT K H' a xs:=by
 rcases q with (q |⟨o,q⟩) |q
 ·exact .inl (.inl (l.tup _ _ q))
 ·exact .inl (.inr ⟨o,l.frz _ _ _ q⟩)
 ·exact .inr q
def RelD.mono(l:Le ρ H ρ' H')(r:RelD K mg ρ H d v):RelD K mg ρ' H' d v:=
 RelD.rec (motive_1:=λd v _=>RelD K mg ρ' H' d v) (motive_2:=λds vs _=>RelDs K mg ρ' H' ds vs) .non (λb=>.bl b) (λi=>.int i) (λx=>.str x) (λn=>.ty n) (λm=>.glb m) (λm e=>.exc m (l.ext _ _ e)) (λh _ ih=>.tup (l.sqT h) ih) (λe=>.ref (l.pre _ _ e)) (λh _ ih=>.kl h ih) .nil (λ_ _ a b=>.cons a b) r
def RelDs.ind{M:List D->List V->Prop}(h0:M [] [])(h1:∀{d v ds vs},RelD K mg ρ H d v->RelDs K mg ρ H ds vs->M ds vs->M (d::ds) (v::vs)){ds:List D}{vs:List V}(r:RelDs K mg ρ H ds vs):M ds vs:=by
 induction ds generalizing vs with
 |nil=>cases r;exact h0
 |
  cons d ds ih=>
  cases r with
  |cons r rr=>exact h1 r rr (ih rr)
def RelDs.mono(l:Le ρ H ρ' H'){ds:List D}{vs:List V}(r:RelDs K mg ρ H ds vs):RelDs K mg ρ' H' ds vs:=r.ind .nil λr _ ih=>.cons (r.mono l) ih
def RelDs.len{ds:List D}{vs:List V}(r:RelDs K mg ρ H ds vs):ds.length=vs.length:=r.ind (M:=λds vs=>ds.length=vs.length) rfl λ_ _ ih=>Lj (· + 1) ih
def RelDs.getD{ds:List D}{vs:List V}{i:Nat}{d:D}(r:RelDs K mg ρ H ds vs)(e:ds[i]?=some d):∃v,vs[i]?=some v/\RelD K mg ρ H d v:=
 r.ind (M:=λds vs=>∀i,ds[i]?=some d->∃v,vs[i]?=some v/\RelD K mg ρ H d v) (λ_ e=>by rw[K6] at e;cases e) (λr _ ih i e=>match i,e with
  |0,e=>by cases e;exact⟨_,rfl,r⟩
  |i+1,e=>ih i e) i e
noncomputable def RelDs.append{ds es:List D}{vs ws:List V}(r:RelDs K mg ρ H ds vs)(q:RelDs K mg ρ H es ws):RelDs K mg ρ H (ds++es) (vs++ws):=r.ind (M:=λds vs=>RelDs K mg ρ H (ds++es) (vs++ws)) q λr _ ih=>.cons r ih
def RelDs.take{ds:List D}{vs:List V}(n:Nat)(r:RelDs K mg ρ H ds vs):RelDs K mg ρ H (ds.take n) (vs.take n):=
 r.ind (M:=λds vs=>∀n:Nat,RelDs K mg ρ H (ds.take n) (vs.take n)) (λn=>by rw[LD,LD];exact .nil) (λr _ ih n=>by cases n with |zero=>exact .nil |succ n=>exact .cons r (ih n)) n
def RelDs.drop{ds:List D}{vs:List V}(n:Nat)(r:RelDs K mg ρ H ds vs):RelDs K mg ρ H (ds.drop n) (vs.drop n):=
 r.ind (M:=λds vs=>∀n:Nat,RelDs K mg ρ H (ds.drop n) (vs.drop n)) (λn=>by rw[L4,L4];exact .nil) (λr rr ih n=>by cases n with |zero=>exact .cons r rr |succ n=>exact ih n) n
def RelDs.set{d:D}{v:V}(r:RelD K mg ρ H d v){ds:List D}{vs:List V}(i:Nat)(q:RelDs K mg ρ H ds vs):RelDs K mg ρ H (ds.set i d) (vs.set i v):=
 q.ind (M:=λds vs=>∀i:Nat,RelDs K mg ρ H (ds.set i d) (vs.set i v)) (λ_=>.nil) (λq qq ih i=>by cases i with |zero=>exact .cons r qq |succ i=>exact .cons q (ih i)) i
def RelDs.ints:∀{ns:List Int}{vs:List V},RelDs K mg ρ H (ns.map D.int) vs->vs=ns.map V.int:=by
 intro ns
 induction ns with
 |nil=>intro vs r;cases r;rfl
 |
  cons n ns ih=>
  intro vs r
  cases r with
  |cons r rr=>cases r;rw[ih rr];rfl
def RelDs.bls:∀{ns:List Bool}{vs:List V},RelDs K mg ρ H (ns.map D.bl) vs->vs=ns.map V.bl:=by
 intro ns
 induction ns with
 |nil=>intro vs r;cases r;rfl
 |
  cons n ns ih=>
  intro vs r
  cases r with
  |cons r rr=>cases r;rw[ih rr];rfl
def RelE.mono(l:Le ρ H ρ' H')(r:RelE K mg ρ H ae σ):RelE K mg ρ' H' ae σ:=⟨r.len,λi d e=>by
 obtain⟨v,h1,h2⟩:=r.at_ i d e
 exact⟨v,h1,h2.mono l⟩⟩
def RelE.set(i:Nat)(r:RelE K mg ρ H ae σ)(q:RelD K mg ρ H d v):RelE K mg ρ H (ae.set i (some d)) (σ.set i (some v)):=⟨by rw[A_,A_];exact r.len,λj d' e=>by
 rw[LP] at e ⊢
 by_cases hij:i=j
 ·rw[if_pos hij] at e ⊢
  by_cases hi:i<ae.length
  ·rw[if_pos hi] at e
   cases e
   rw[if_pos (by rw[<- r.len];exact hi)]
   exact⟨v,rfl,q⟩
  ·rw[if_neg hi] at e;cases e
 ·rw[if_neg hij] at e ⊢
  exact r.at_ j d' e⟩
def ObR.mono(l:Le ρ H ρ' H')(e:H' a=H a)(q:ObR K mg ρ H a o):ObR K mg ρ' H' a o:=by
 cases o with
 |lst ds=>obtain⟨vs,h1,h2⟩:=q;exact⟨vs,e.trans h1,h2.mono l⟩
 |fz ds=>obtain⟨o,vs,h1,h2⟩:=q;exact⟨o,vs,e.trans h1,h2.mono l⟩
 |set xs=>exact⟨q.1,e.trans q.2⟩
 |dct kvs=>obtain⟨ws,h1,h2,h3⟩:=q;exact⟨ws,e.trans h1,h2,h3.mono l⟩
 |any=>obtain⟨o,h1⟩:=q;exact⟨o,e.trans h1⟩
def ObR.there(q:ObR K mg ρ H a o):∃u,H a=some u:=by
 cases o with
 |lst ds=>obtain⟨vs,h1,_⟩:=q;exact⟨_,h1⟩
 |fz ds=>obtain⟨o,vs,h1,_⟩:=q;exact⟨_,h1⟩
 |set xs=>exact⟨_,q.2⟩
 |dct kvs=>obtain⟨ws,h1,_⟩:=q;exact⟨_,h1⟩
 |any=>exact q
def Wd.fresh(w:Wd K mg ρ h H)(hp:H p=none):p∉ρ:=λhm=>by
 obtain⟨n,hn⟩:=Mr hm
 have hl:n<h.length:=by rw[<- w.len];exact (h_.mp hn).1
 obtain⟨u,hu⟩:=(w.ob n p h[n] hn (l_ hl)).there
 rw[hp] at hu;cases hu
def dO(hp:H p=none):Le ρ H ρ (upd H p o):=
 ⟨λ_ _ e=>e,λb xs e=>by rw[aL (bK e hp)];exact e,λb xs u e=>by rw[aL (bK e hp)];exact e,λb xs e=>by rw[aL (bK e hp)];exact e⟩
noncomputable def rP:Le ρ H (ρ++m) H:=
 ⟨λn a e=>by rw[E_ (h_.mp e).1];exact e,λ_ _ e=>e,λ_ _ _ e=>e,λ_ _ e=>e⟩
def Wd.alloc(w:Wd K mg ρ h H)(hp:H p=none)(hn:ObR K mg (ρ++[p]) (upd H p u) p o):Wd K mg (ρ++[p]) (h++[o]) (upd H p u):=by
 refine⟨by rw[r_,r_,w.len];rfl,?_,λn a ob e1 e2=>?_⟩
 ·rw[List.nodup_append]
  exact⟨w.nd,by simp,λa ha b hb=>by rw[Lo] at hb;subst hb;intro z;subst z;exact w.fresh hp ha⟩
 ·by_cases hl:n<ρ.length
  ·rw[E_ hl] at e1
   rw[E_ (by rw[<- w.len];exact hl)] at e2
   have q:=w.ob n a ob e1 e2
   obtain⟨v,hv⟩:=q.there
   exact q.mono ((dO hp).trans rP) (aL (bK hv hp))
  ·have h1:n=ρ.length:=by
    have:=(h_.mp e1).1
    rw[r_] at this
    simp at this
    omega
   subst h1
   rw[Ku (n_ _),Mz] at e1
   rw[w.len,Ku (n_ _),Mz] at e2
   simp at e1 e2
   subst e1 e2
   exact hn
def Wd.tuple(w:Wd K mg ρ h H)(hp:H p=none):Wd K mg ρ h (upd H p u):=
 ⟨w.len,w.nd,λn a ob e1 e2=>by
  have q:=w.ob n a ob e1 e2
  obtain⟨v,hv⟩:=q.there
  exact q.mono (dO hp) (aL (bK hv hp))⟩
def tK(e:H a=some u)(hu:(∀xs,u ≠ .tup xs)/\(∀x y,u ≠ .frz x y)/\∀φ,u ≠ .ext φ):Le ρ H ρ (upd H a o):=by
 refine⟨λ_ _ e=>e,λb xs q=>?_,λb x y q=>?_,λb φ q=>?_⟩ <;> rw[aL] <;> (try exact q) <;> (intro z;subst z;rw[e] at q;have:=z_ q;first |exact hu.1 _ this |exact hu.2.1 _ _ this |exact hu.2.2 _ this)
def Wd.write{n:Nat}{a:Addr}{o u:HO}{ob:Ob}(w:Wd K mg ρ h H)(ea:ρ[n]?=some a)(e:H a=some u)(hu:(∀xs,u ≠ .tup xs)/\(∀x y,u ≠ .frz x y)/\∀φ,u ≠ .ext φ)
 (hn:ObR K mg ρ (upd H a o) a ob):Wd K mg ρ (h.set n ob) (upd H a o):=by
 refine⟨by rw[A_];exact w.len,w.nd,λm b ob' e1 e2=>?_⟩
 rw[LP] at e2
 by_cases hm:n=m
 ·subst hm
  rw[ea] at e1;cases e1
  rw[if_pos rfl] at e2
  split at e2
  ·cases e2;exact hn
  ·cases e2
 ·rw[if_neg hm] at e2
  have q:=w.ob m b ob' e1 e2
  refine q.mono (tK e hu) (aL λz=>hm ?_)
  subst z
  have h1:=(h_.mp e1)
  have h2:=(h_.mp ea)
  exact (List.getElem_inj (h₀:=h2.1) (h₁:=h1.1) w.nd).mp (h2.2.trans h1.2.symm)
def oy:(∀xs,HO.lst vs ≠ .tup xs)/\(∀x y,HO.lst vs ≠ .frz x y)/\∀φ,HO.lst vs ≠ .ext φ:=⟨λ_ z=>(nomatch z),λ_ _ z=>(nomatch z),λ_ z=>(nomatch z)⟩
def PostG.mono(l:Le ρ H ρ' H')(p:PostG K mg ρ H E k r):PostG K mg ρ' H' E k r:=by
 cases r with
 |ok d h=>exact λρ2 H2 l2=>p ρ2 H2 (l.trans l2)
 |exc c h=>exact λρ2 H2 C l2=>p ρ2 H2 C (l.trans l2)
 |stuck=>exact p
def PostG.imp(p:PostG K mg ρ H E k r)(i:∀a h1 ρ' H',Le ρ H ρ' H'->Wd K mg ρ' h1 H'->k a h1 ρ' H'->k' a h1 ρ' H'):PostG K mg ρ H E k' r:=by
 cases r with
 |ok d h=>exact λρ2 H2 l2 w2=>i _ _ _ _ l2 w2 (p ρ2 H2 l2 w2)
 |exc c h=>exact p
 |stuck=>exact p
def PostG.bind(p:PostG K mg ρ H E k (r.bind f)):PostG K mg ρ H E (λa h1 ρ' H'=>PostG K mg ρ' H' E k (f a h1)) r:=by
 cases r with
 |ok d h=>exact λρ2 H2 l2 w2=>PostG.mono l2 p
 |exc c h=>exact p
 |stuck=>exact p
def PostS.mono(l:Le ρ H ρ' H')(p:PostS K mg ρ H De ES r):PostS K mg ρ' H' De ES r:=by
 cases r with
 |nx ae h=>exact λρ2 H2 σ l2=>p ρ2 H2 σ (l.trans l2)
 |bk ae h=>exact λρ2 H2 σ l2=>p ρ2 H2 σ (l.trans l2)
 |ct ae h=>exact λρ2 H2 σ l2=>p ρ2 H2 σ (l.trans l2)
 |rt d h=>exact λρ2 H2 v l2=>p ρ2 H2 v (l.trans l2)
 |exc c ae h=>exact λρ2 H2 σ C l2=>p ρ2 H2 σ C (l.trans l2)
 |stuck=>exact p
end
section
variable{X:Cx}{e:Expr}{es:List Expr}{st:Stmt}{sts:List Stmt}
def PE.imp(h:PE X e t)(k:∀σ H Q,t' σ H Q->t σ H Q):PE X e t':=λpins s σ H Q I w=>h pins s σ H Q I (k σ H Q w)
def PT.imp(h:PT X e t)(k:∀σ H Q,t' σ H Q->t σ H Q):PT X e t':=λpins s σ H Q I w=>h pins s σ H Q I (k σ H Q w)
def PW.imp(h:PW X e t)(k:∀σ H Q,t' σ H Q->t σ H Q):PW X e t':=λwh pins s σ H Q I w=>h wh pins s σ H Q I (k σ H Q w)
def PA.imp(h:PA X es t)(k:∀σ H Q,t' σ H Q->t σ H Q):PA X es t':=λpos pins s σ H Q I w=>h pos pins s σ H Q I (k σ H Q w)
def PS.imp(h:PS X st t)(k:∀D σ H,t' D σ H->t D σ H):PS X st t':=λpins s σ H D I w=>h pins s σ H D I (k D σ H w)
def PSs.imp(h:PSs X sts t)(k:∀D σ H,t' D σ H->t D σ H):PSs X sts t':=λpins s σ H D I w=>h pins s σ H D I (k D σ H w)
def PG.imp(h:PG X e t)(k:∀v σ H Q,t' v σ H Q->t v σ H Q):PG X e t':=λpins s σ H v u Q I r w=>h pins s σ H v u Q I r (k v σ H Q w)
def PGs.imp(h:PGs X es t)(k:∀v σ H Q,t' v σ H Q->t v σ H Q):PGs X es t':=λpins s σ H v u Q I r w=>h pins s σ H v u Q I r (k v σ H Q w)
def PO.imp(h:PO X o t)(k:∀σ H Q,t' σ H Q->t σ H Q):PO X o t':=λpins s σ H Q I w=>h pins s σ H Q I (k σ H Q w)
end
section
variable(K:W.Frag)(mg:Na)(X:Cx)(ES:St->XK)
def DE(e:Expr)(F:ME):Prop:=PE X e (rdE K mg ES F)
def DT(e:Expr)(F:MT):Prop:=PT X e (rdT K mg ES F)
def DW(e:Expr)(F:MT):Prop:=PW X e (rdT K mg ES F)
def DA(es:List Expr)(F:MA):Prop:=PA X es (rdA K mg ES F)
def DS(st:Stmt)(F:MS):Prop:=PS X st (rdS K mg ES F)
def DSs(st:List Stmt)(F:MS):Prop:=PSs X st (rdS K mg ES F)
end
def OpD(K:W.Frag)(mg:Na)(r:R2)(g:D->D->AH->R D):Prop:=∀ρ h H dx dy x y Q E,Wd K mg ρ h H->RelD K mg ρ H dx x->RelD K mg ρ H dy y->c7 K mg ρ H Q E (g dx dy h)->r x y H Q
def UnD(K:W.Frag)(mg:Na)(r:V->Hp->VK->Prop)(g:D->AH->R D):Prop:=∀ρ h H dx x Q E,Wd K mg ρ h H->RelD K mg ρ H dx x->c7 K mg ρ H Q E (g dx h)->r x H Q
def bg(K:W.Frag)(mg:Na)(r:List V->Hp->VK->Prop)(g:Fn):Prop:=∀ρ h H ds vs Q E,Wd K mg ρ h H->RelDs K mg ρ H ds vs->c7 K mg ρ H Q E (g ds h)->r vs H Q
def aH(i:Nat):ME:=λae h=>match ae[i]? with
 |some (some d)=>.ok d h
 |_=>.stuck
def eC(d:D):ME:=λ_ h=>.ok d h
def eOp(g:D->D->AH->R D)(F G:ME):ME:=λae h=>(F ae h).bind λx h1=>(G ae h1).bind λy h2=>g x y h2
def eUn(g:D->AH->R D)(F:ME):ME:=λae h=>(F ae h).bind g
def ji:MA:=λ_ h=>.ok [] h
def gF(F:ME)(G:MA):MA:=λae h=>(F ae h).bind λx h1=>(G ae h1).bind λxs h2=>.ok (x::xs) h2
def eFn(g:Fn)(A:MA):ME:=λae h=>(A ae h).bind g
def gB(ds:List D)(h:AH):R D:=if ds.length<=16777216 then .ok (.tup ds) h else .stuck
def cZ(ds:List D)(h:AH):R D:=if ds.length<=16777216 then .ok (.ref h.length) (h++[.lst ds]) else .stuck
def asB(d:D)(h:AH):R Bool:=match d with
 |.bl b=>.ok b h
 |_=>.stuck
def oR(F G:ME):ME:=λae h=>(F ae h).bind λx h1=>(asB x h1).bind λb h2=>if b=true then G ae h2 else .ok (.bl false) h2
def y0(F:ME):ME:=λae h=>(F ae h).bind λx h1=>(asB x h1).bind λb h2=>.ok (.bl (!b)) h2
def tOf(F:ME):MT:=λae h=>(F ae h).bind asB
def tAn(c d:MT):MT:=λae h=>(c ae h).bind λb h1=>if b=true then d ae h1 else .ok false h1
def tO(c d:MT):MT:=λae h=>(c ae h).bind λb h1=>if b=true then .ok true h1 else d ae h1
def tNo(c:MT):MT:=λae h=>(c ae h).bind λb h1=>.ok (!b) h1
section
variable{K:W.Frag}{mg:Na}{ρ:List Addr}{H:Hp}{h:AH}
def d8(w:Wd K mg ρ h H)(rs:RelDs K mg ρ H ds vs)(hp:H p=none)(q:c7 K mg ρ H Q E (.ok (.ref h.length) (h++[.lst ds]))):Q (.ref p) (upd H p (.lst vs)):=by
 have l:Le ρ H (ρ++[p]) (upd H p (.lst vs)):=(dO hp).trans rP
 refine q (ρ++[p]) _ l (w.alloc hp ⟨vs,cJ,rs.mono l⟩) _ (.ref ?_)
 rw[<- w.len,Ku (n_ _),Mz]
 rfl
def kf(w:Wd K mg ρ h H)(rs:RelDs K mg ρ H ds vs)(hp:H p=none)(q:c7 K mg ρ H Q E (.ok (.tup ds) h)):Q (.ref p) (upd H p (.tup vs)):=
 q ρ _ (dO hp) (w.tuple hp) _ (.tup (SqT.of cJ) (rs.mono (dO hp)))
def aJ(w:Wd K mg ρ h H)(r:RelD K mg ρ H d v)(q:c7 K mg ρ H Q E (.ok d h)):Q v H:=q ρ H Le.refl w v r
end
section
variable{K:W.Frag}{mg:Na}{X:Cx}{ES:St->XK}{e a b c:Expr}{es:List Expr}{F G:ME}{A:MA}{cf cg:MT}{pos:Pos}
def Gs(i:Nat)(hN:X.N[i]?=some x)(hv:Vis X.env.scope x)(hd:(x==("__debug__" : Str))=false)
 (hcd:(x==("__classdict__" : Str))=false):DE K mg X ES (.Name x pos) (aH i):=PE.imp (Gv hN hv hd hcd) λσ H Q q_=>q_.el λρ h ae w re p=>by
 unfold aH at p
 split at p
 ·rename_i d ed
  obtain⟨v,e1,r⟩:=re.at_ i d ed
  exact⟨v,e1,aJ w r p⟩
 ·exact p.elim
def mL(hp:PE X e (tC v))(r:∀ρ H,RelD K mg ρ H d v):DE K mg X ES e (eC d):=PE.imp hp λσ H Q q_=>q_.el λρ h ae w re p=>aJ w (r ρ H) p
def EN:DE K mg X ES (.Constant (.int i) j pos) (eC (.int i)):=mL vn λ_ _=>.int i
def JW:DE K mg X ES (.Constant (.bool i) j pos) (eC (.bl i)):=mL Ip λ_ _=>.bl i
def Dh:DE K mg X ES (.Constant .none j pos) (eC .non):=mL Hl λ_ _=>.non
def D6:DE K mg X ES (.Constant (.str x) j pos) (eC (.str x)):=mL Ex λ_ _=>.str x
structure GC(K:W.Frag)(mg:Na)(x:Str)(d:D):Prop where
 ex:∃u v,mg x=some u/\RelV v u/\∀ρ H,RelD K mg ρ H d v
def HC(hg:Gl X x)(ha:GC K mg x d)(hm:X.mg=mg)(hd:(x==("__debug__" : Str))=false):DE K mg X ES (.Name x pos) (eC d):=by
 subst hm
 obtain⟨u,v,h1,h2,h3⟩:=ha.ex
 exact mL (CD hg h1 h2 hd) h3
def Jz(hg:Gl X x)(hm:mg x=none)(hv:bootBuiltins x=some (.type n))(he:X.mg=mg)(hn:x ≠ "__name__")(hd:(x==("__debug__" : Str))=false):DE K mg X ES (.Name x pos) (eC (.ty n)):=by
 subst he
 exact mL (A7 hg hm hv (v:=.ty n) rfl hn hd) λ_ _=>.ty n
def oF(hd:OpD K mg r g)(σ:St)(H:Hp)(Q:VK)(q:rdE K mg ES (eOp g F G) σ H Q):tOp r (rdE K mg ES F) (rdE K mg ES G) σ H Q:=by
 obtain⟨ρ,h,ae,w,re,p⟩:=q
 exact⟨ρ,h,ae,w,re,p.bind.imp λdx h1 ρ1 H1 l1 w1 p1 x rx=>⟨ρ1,h1,ae,w1,re.mono l1,p1.bind.imp λdy h2 ρ2 H2 l2 w2 p2 y ry=>hd ρ2 h2 H2 dx dy x y Q _ w2 (rx.mono l2) ry p2⟩⟩
def Ib(ho:OpR X (binaryOp op) r)(hd:OpD K mg r g)(ha:DE K mg X ES a F)(hb:DE K mg X ES b G):DE K mg X ES (.BinOp a op b pos) (eOp g F G):=PE.imp (IQ ho ha hb) (oF hd)
def HL(hr:IxR X r)(hd:OpD K mg r g)(ha:DE K mg X ES a F)(hb:DE K mg X ES b G)(hs:mU b):DE K mg X ES (.Subscript a b pos) (eOp g F G):=PE.imp (HK hr ha hb hs) (oF hd)
def EV(ho:OpR X (compareOp op) r)(hd:OpD K mg r g)(ha:DE K mg X ES a F)(hb:DE K mg X ES b G)(hm:behindInMarks op b=false):DE K mg X ES (.Compare a [op] [b] pos) (eOp g F G):=PE.imp (BY ho ha hb hm) (oF hd)
def sI(σ:St)(H:Hp)(Q:Bool->Hp->Prop)(q:rdT K mg ES (tOf F) σ H Q):rdE K mg ES F σ H λx H'=>∃k,x=.bl k/\Q k H':=by
 obtain⟨ρ,h,ae,w,re,p⟩:=q
 refine⟨ρ,h,ae,w,re,p.bind.imp λd h1 ρ1 H1 l1 w1 p1 x rx=>?_⟩
 unfold asB at p1
 split at p1
 ·cases rx;exact⟨_,rfl,p1 ρ1 H1 Le.refl w1⟩
 ·exact p1.elim
def EG(ho:OpR X (compareOp op) r)(hd:OpD K mg r g)(ha:DE K mg X ES a F)(hb:DE K mg X ES b G)(hm:behindInMarks op b=false):DT K mg X ES (.Compare a [op] [b] pos) (tOf (eOp g F G)):=
 PT.imp (Bd ho ha hb hm) λσ H Q q=>oF hd σ H _ (sI σ H Q q)
def Hn(ha:DE K mg X ES a F)(he:∀gl,isTrue a X.env gl=(do let v <- gl;standAt a.pos;holding [v] (truthy v))):DT K mg X ES a (tOf F):=
 PT.imp (Hu ha he) λσ H Q q=>sI σ H Q q
def Di(ha:DT K mg X ES a cf):DT K mg X ES (.UnaryOp .Not a pos) (tNo cf):=PT.imp (FU ha) λσ H Q q_=>q_.el λρ h ae w re p=>
 ⟨ρ,h,ae,w,re,p.bind.imp λb h1 ρ1 H1 l1 w1 p1=>p1 ρ1 H1 Le.refl w1⟩
def Cc(ha:DT K mg X ES a cf):DW K mg X ES (.BoolOp .And [a] pos) cf:=AD ha
def Ha(ha:DT K mg X ES a cf):DW K mg X ES (.BoolOp .Or [a] pos) cf:=DL ha
def DN(ha:DT K mg X ES a cf)(hb:DW K mg X ES (.BoolOp .And (b::es) pos) cg):DW K mg X ES (.BoolOp .And (a::b::es) pos) (tAn cf cg):=PW.imp (Gi ha hb) λσ H Q q_=>q_.el λρ h ae w re p=>
 ⟨ρ,h,ae,w,re,p.bind.imp λb h1 ρ1 H1 l1 w1 p1=>by
  cases b with
  |true=>exact⟨ρ1,h1,ae,w1,re.mono l1,p1⟩
  |false=>exact p1 ρ1 H1 Le.refl w1⟩
def IG(ha:DT K mg X ES a cf)(hb:DW K mg X ES (.BoolOp .Or (b::es) pos) cg):DW K mg X ES (.BoolOp .Or (a::b::es) pos) (tO cf cg):=PW.imp (IH ha hb) λσ H Q q_=>q_.el λρ h ae w re p=>
 ⟨ρ,h,ae,w,re,p.bind.imp λb h1 ρ1 H1 l1 w1 p1=>by
  cases b with
  |true=>exact p1 ρ1 H1 Le.refl w1
  |false=>exact⟨ρ1,h1,ae,w1,re.mono l1,p1⟩⟩
def DW.dt(h:DW K mg X ES a cf):DT K mg X ES a cf:=PW.pt h
def Dk{op}(h:DE K mg X ES a F):DE K mg X ES (.BoolOp op [a] pos) F:=D5 h
def EL(ha:DE K mg X ES a F)(hb:DE K mg X ES (.BoolOp .And (b::es) pos) G):DE K mg X ES (.BoolOp .And (a::b::es) pos) (oR F G):=PE.imp (DX ha hb) λσ H Q q_=>q_.el λρ h ae w re p=>by
 refine⟨ρ,h,ae,w,re,p.bind.imp λd h1 ρ1 H1 l1 w1 p1 x rx=>?_⟩
 unfold asB at p1
 split at p1
 ·rename_i b'
  cases rx
  refine⟨b',rfl,?_⟩
  cases b' with
  |true=>exact⟨ρ1,h1,ae,w1,re.mono l1,p1⟩
  |false=>exact p1 ρ1 H1 Le.refl w1 _ (.bl false)
 ·exact p1.elim
def C0(ha:DE K mg X ES a F):DE K mg X ES (.UnaryOp .Not a pos) (y0 F):=PE.imp (F8 ha) λσ H Q q_=>q_.el λρ h ae w re p=>by
 refine⟨ρ,h,ae,w,re,p.bind.imp λd h1 ρ1 H1 l1 w1 p1 x rx=>?_⟩
 unfold asB at p1
 split at p1
 ·cases rx
  exact⟨_,rfl,p1 ρ1 H1 Le.refl w1 _ (.bl _)⟩
 ·exact p1.elim
def Kj(ho:UnR X (unaryOp op) r)(hd:UnD K mg r g)(ha:DE K mg X ES a F):DE K mg X ES (.UnaryOp op a pos) (eUn g F):=PE.imp (IC ho ha) λσ H Q q_=>q_.el λρ h ae w re p=>
 ⟨ρ,h,ae,w,re,p.bind.imp λd h1 ρ1 H1 l1 w1 p1 x rx=>hd ρ1 h1 H1 d x Q _ w1 rx p1⟩
def Ey:DA K mg X ES [] ji:=PA.imp Hi λσ H Q q_=>q_.el λρ h ae w re p=>p ρ H Le.refl w _ .nil
def BO(ha:DE K mg X ES e F)(hr:DA K mg X ES es A)(hs:starEach (e::es) X.env=(false,eval e X.env)::starEach es X.env):DA K mg X ES (e::es) (gF F A):=PA.imp (AI ha hr hs) λσ H Q q_=>q_.el λρ h ae w re p=>
 ⟨ρ,h,ae,w,re,p.bind.imp λd h1 ρ1 H1 l1 w1 p1 x rx=>⟨ρ1,h1,ae,w1,re.mono l1,p1.bind.imp λds h2 ρ2 H2 l2 w2 p2 vs rs=>p2 ρ2 H2 Le.refl w2 _ (.cons (rx.mono l2) rs)⟩⟩
def FR{x1}(h:DA K mg X ES es A):DE K mg X ES (.Tuple es x1 pos) (eFn gB A):=PE.imp (GZ h) λσ H Q q_=>q_.el λρ h ae w re p=>
 ⟨ρ,
  h,ae,w,re,p.bind.imp λds h1 ρ1 H1 l1 w1 p1 vs rs=>by
  unfold gB at p1
  split at p1
  ·rename_i hl
   exact⟨by rw[<- rs.len];exact hl,λq hq=>kf w1 rs hq p1⟩
  ·exact p1.elim⟩
def EW(h:DA K mg X ES es A):DE K mg X ES (.List es pos) (eFn cZ A):=PE.imp (EX h) λσ H Q q_=>q_.el λρ h ae w re p=>
 ⟨ρ,
  h,ae,w,re,p.bind.imp λds h1 ρ1 H1 l1 w1 p1 vs rs=>by
  unfold cZ at p1
  split at p1
  ·rename_i hl
   exact⟨by rw[<- rs.len];exact hl,λq hq=>d8 w1 rs hq p1⟩
  ·exact p1.elim⟩
def An(hd:bg K mg r g)(σ:St)(H:Hp)(Q:VK)(q:rdE K mg ES (eFn g A) σ H Q):tCB r (rdA K mg ES A) σ H Q:=by
 obtain⟨ρ,h,ae,w,re,p⟩:=q
 exact⟨ρ,h,ae,w,re,p.bind.imp λds h1 ρ1 H1 l1 w1 p1 vs rs=>hd ρ1 h1 H1 ds vs Q _ w1 rs p1⟩
def yP{id:String}{r:List V->Hp->VK->Prop}{g:Fn}{x:Str}{p:Pos}(hc:CallR X (.builtin id) r)(hd:bg K mg r g)(hg:Gl X x)(hm:mg x=none)(hv:bootBuiltins x=some (.builtin id))(ha:DA K mg X ES (e::es) A)(hk:X.mg=mg)(hn:x ≠ "__name__")(hdb:(x==("__debug__" : Str))=false)
 (he:starEach (e::es) X.env=(false,eval e X.env)::starEach es X.env) (hpl:(backTo pos (starEach es X.env)).any (·.1)=false):DE K mg X ES (.Call (.Name x p) (e::es) [] pos) (eFn g A):=by
 subst hk
 exact PE.imp (xJ hc hg hm hv ha hn hdb he hpl) (An hd)
def wG(hc:CallR X (.type T) r)(hd:bg K mg r g)(hg:Gl X x)(hm:mg x=none)(hv:bootBuiltins x=some (.type T))(ha:DA K mg X ES (e::es) A)(hk:X.mg=mg)(hn:x ≠ "__name__")(hdb:(x==("__debug__" : Str))=false)
 (he:starEach (e::es) X.env=(false,eval e X.env)::starEach es X.env) (hpl:(backTo pos (starEach es X.env)).any (·.1)=false):DE K mg X ES (.Call (.Name x p) (e::es) [] pos) (eFn g A):=by
 subst hk
 exact PE.imp (vW hc hg hm hv ha hn hdb he hpl) (An hd)
end
def SR.then(r:SR)(f:AE->AH->SR):SR:=match r with
 |.nx ae h=>f ae h
 |.rt d h=>.rt d h
 |.bk ae h=>.bk ae h
 |.ct ae h=>.ct ae h
 |.exc c ae h=>.exc c ae h
 |.stuck=>.stuck
def R.toS{α:Type}(r:R α)(ae:AE)(f:α->AH->SR):SR:=match r with
 |.ok a h=>f a h
 |.exc c h=>.exc c ae h
 |.stuck=>.stuck
def sNx:MS:=λae h=>.nx ae h
def xv(F G:MS):MS:=λae h=>(F ae h).then G
def xx(F:ME):MS:=λae h=>(F ae h).toS ae λd h1=>.rt d h1
def uM(F:ME):MS:=λae h=>(F ae h).toS ae λ_ h1=>.nx ae h1
def sIf(c:MT)(F G:MS):MS:=λae h=>(c ae h).toS ae λb h1=>if b=true then F ae h1 else G ae h1
abbrev MG:=D->AE->AH->R AE
abbrev MGs:=List D->AE->AH->R AE
def fJ(F:ME)(g:MG):MS:=λae h=>(F ae h).toS ae λd h1=>(g d ae h1).toS ae λam h2=>.nx am h2
def gN(i:Nat):MG:=λd ae h=>.ok (ae.set i (some d)) h
def gsN:MGs:=λds ae h=>match ds with
 | []=>.ok ae h
 |_=>.stuck
def gsC(g:MG)(u:MGs):MGs:=λds ae h=>match ds with
 |d::r=>(g d ae h).bind λam h'=>u r am h'
 | []=>.stuck
def gT(u:MGs):MG:=λd ae h=>match d with
 |.tup ds=>u ds ae h
 |_=>.stuck
def gS(F G:ME)(w:D->D->D->AH->R Unit):MG:=λv ae h=>(F ae h).bind λo h1=>(G ae h1).bind λi h2=>(w o i v h2).bind λ_ h3=>.ok ae h3
def zj(i j:Nat)(A:MA):MS:=λae h=>(A ae h).toS ae λds h1=>match ds with
 | [d,e]=>.nx ((ae.set i (some d)).set j (some e)) h1
 |_=>.stuck
def qI(c:Str)(A:MA):MS:=λae h=>(A ae h).toS ae λds h1=>if ds.length<=16777216 then .exc c ae h1 else .stuck
section
variable(K:W.Frag)(mg:Na)
def rdG(ES:St->XK)(g:MG):TG:=λv σ H Q=>∃ρ h ae d,Wd K mg ρ h H/\RelE K mg ρ H ae σ/\RelD K mg ρ H d v/\PostG K mg ρ H (ES σ) (λam _ ρ' H'=>∀σ',RelE K mg ρ' H' am σ'->Q σ' H') (g d ae h)
def rdGs(ES:St->XK)(g:MGs):TGs:=λvs σ H Q=>∃ρ h ae ds,Wd K mg ρ h H/\RelE K mg ρ H ae σ/\RelDs K mg ρ H ds vs/\PostG K mg ρ H (ES σ) (λam _ ρ' H'=>∀σ',RelE K mg ρ' H' am σ'->Q σ' H') (g ds ae h)
def DG(X:Cx)(ES:St->XK)(e:Expr)(g:MG):Prop:=PG X e (rdG K mg ES g)
def DGs(X:Cx)(ES:St->XK)(es:List Expr)(g:MGs):Prop:=PGs X es (rdGs K mg ES g)
def iC(X:Cx)(ES:St->XK):Prop:=∀(pins:Nb) (σ:St) (H:Hp) (s:Shared) (e:Value) (s':Shared),Inv X pins σ H s->CX1 X.prog X.w X.stack H s (ES σ) e s'->X.xe e s'
end
def rdG.el{K:W.Frag}{mg:Na}{ES:St->XK}{g:MG}{v:V}{σ:St}{H:Hp}{Q:St->Hp->Prop}{C:Prop}(q:rdG K mg ES g v σ H Q)(k:∀ρ h ae d,Wd K mg ρ h H->RelE K mg ρ H ae σ->RelD K mg ρ H d v->PostG K mg ρ H (ES σ) (λam _ ρ' H'=>∀σ',RelE K mg ρ' H' am σ'->Q σ' H') (g d ae h)->C):C:=by
 obtain⟨ρ,h,ae,d,w,re,rd,p⟩:=q
 exact k ρ h ae d w re rd p
def rdGs.el{K:W.Frag}{mg:Na}{ES:St->XK}{g:MGs}{v:List V}{σ:St}{H:Hp}{Q:St->Hp->Prop}{C:Prop}(q:rdGs K mg ES g v σ H Q)(k:∀ρ h ae d,Wd K mg ρ h H->RelE K mg ρ H ae σ->RelDs K mg ρ H d v->PostG K mg ρ H (ES σ) (λam _ ρ' H'=>∀σ',RelE K mg ρ' H' am σ'->Q σ' H') (g d ae h)->C):C:=by
 obtain⟨ρ,h,ae,d,w,re,rd,p⟩:=q
 exact k ρ h ae d w re rd p
section
variable{K:W.Frag}{mg:Na}{X:Cx}{ES:St->XK}{ρ:List Addr}{H:Hp}{h:AH}{ae:AE}{σ:St}{De:Ends}
def cp(p:PostS K mg ρ H De ES (r.toS ae f))(re:RelE K mg ρ H ae σ)
 (i:∀a h1 ρ1 H1,Le ρ H ρ1 H1->Wd K mg ρ1 h1 H1->RelE K mg ρ1 H1 ae σ->PostS K mg ρ1 H1 De ES (f a h1)->k a h1 ρ1 H1):PostG K mg ρ H (ES σ) k r:=by
 cases r with
 |ok a h1=>exact λρ1 H1 l1 w1=>i a h1 ρ1 H1 l1 w1 (re.mono l1) (PostS.mono l1 p)
 |exc c h1=>exact λρ1 H1 C l1 w1 m=>p ρ1 H1 σ C l1 w1 (re.mono l1) m
 |stuck=>exact p
def gD(p:PostS K mg ρ H De ES (.nx am h))(w:Wd K mg ρ h H)(re:RelE K mg ρ H am σ):De.nx σ H:=p ρ H σ Le.refl w re
def zr(p:PostS K mg ρ H De ES (r.then f))(i:∀b_ h1 ρ1 H1 σ1,Le ρ H ρ1 H1->Wd K mg ρ1 h1 H1->RelE K mg ρ1 H1 b_ σ1->PostS K mg ρ1 H1 De ES (f b_ h1)->N σ1 H1):PostS K mg ρ H { De with nx:=N } ES r:=by
 cases r with
 |nx b_ h1=>exact λρ1 H1 σ1 l1 w1 re1=>i b_ h1 ρ1 H1 σ1 l1 w1 re1 (PostS.mono l1 p)
 |rt d h1=>exact p
 |bk b_ h1=>exact p
 |ct b_ h1=>exact p
 |exc c b_ h1=>exact p
 |stuck=>exact p
end
section
variable{K:W.Frag}{mg:Na}{X:Cx}{ES:St->XK}{e a b c o i:Expr}{es:List Expr}{st:Stmt}{sts sts':List Stmt}{F G:ME}{A:MA}{cf:MT}{U V':MS}{g:MG}{gs:MGs}{pos:Pos}
def BS:DSs K mg X ES [] sNx:=PSs.imp BM λD σ H q_=>q_.el λρ h ae w re p=>gD p w re
def A9(h1:DS K mg X ES st U):DSs K mg X ES [st] U:=BU h1
def zA(h1:DS K mg X ES st U)(h2:DSs K mg X ES sts V'):DSs K mg X ES (st::sts) (xv U V'):=PSs.imp (yo h1 h2) λD σ H q_=>q_.el λρ h ae w re p=>
 ⟨ρ,h,ae,w,re,zr p λb_ h1 ρ1 H1 σ1 l1 w1 re1 p1=>⟨ρ1,h1,b_,w1,re1,p1⟩⟩
def E5(he:DE K mg X ES e F):DS K mg X ES (.Return (some e) pos) (xx F):=PS.imp (G5 he) λD σ H q_=>q_.el λρ h ae w re p=>
 ⟨ρ,h,ae,w,re,cp p re λd h1 ρ1 H1 l1 w1 re1 p1 v rv=>p1 ρ1 H1 v Le.refl w1 rv⟩
def Cw(he:DE K mg X ES e F)(hs:swapsWith e none pos.line X.env=pure false):DS K mg X ES (.Expr e pos) (uM F):=PS.imp (B2 he hs) λD σ H q_=>q_.el λρ h ae w re p=>
 ⟨ρ,h,ae,w,re,cp p re λd h1 ρ1 H1 l1 w1 re1 p1 v rv=>gD p1 w1 re1⟩
def HN(hc:DT K mg X ES c cf)(ha:DSs K mg X ES sts U)(hb:DSs K mg X ES sts' V'):DS K mg X ES (.If c sts sts' pos) (sIf cf U V'):=PS.imp (JY hc ha hb) λD σ H q_=>q_.el λρ h ae w re p=>
 ⟨ρ,h,ae,w,re,cp p re λb h1 ρ1 H1 l1 w1 re1 p1=>by
  cases b with
  |true=>exact⟨ρ1,h1,ae,w1,re1,p1⟩
  |false=>exact⟨ρ1,h1,ae,w1,re1,p1⟩⟩
def By{i:Nat}{x:Str}(hN:X.N.Nodup)(hi:X.N[i]?=some x)(hx:Loc X.env.scope x)(hf:X.fn x=true\/X.env.scope.names.lookup x=some .local):DG K mg X ES (.Name x pos) (gN i):=
 PG.imp (CG hN hi hx hf) λv σ H Q q_=>q_.el λρ h ae d w re rd p=>p ρ H Le.refl w _ (re.set i rd)
def sM:DGs K mg X ES [] gsN:=PGs.imp B5 λvs σ H Q q_=>q_.el λρ h ae ds w re rd p=>by
 cases rd with
 |nil=>exact⟨rfl,p ρ H Le.refl w _ re⟩
 |cons r rr=>exact p.elim
def kz(h1:DG K mg X (λ_=>E0) e g)(h2:DGs K mg X (λ_=>E0) es gs)
 (hs:(assignEach (e::es) X.env).map (·.2)=assign e X.env::(assignEach es X.env).map (·.2)):DGs K mg X (λ_=>E0) (e::es) (gsC g gs):=PGs.imp (x9 h1 h2 hs) λvs σ H Q q_=>q_.el λρ h ae ds w re rd p=>by
 cases rd with
 |nil=>exact p.elim
 |cons r rr=>exact⟨_,_,rfl,ρ,h,ae,_,w,re,r,p.bind.imp λb_ h1 ρ1 H1 l1 w1 p1 σ1 re1=>⟨ρ1,h1,b_,_,w1,re1,rr.mono l1,p1⟩⟩
def wY{k n:Nat}(hK:X.K=K)(hc:X.calm=true)(h:DGs K mg X (λ_=>E0) es gs)
 (hn:(assignEach es X.env).length=n) (hst:(assignEach es X.env).findIdx? (·.1)=none):DG K mg X (λ_=>E0) (.Tuple es k pos) (gT λds ae h=>if ds.length=n then gs ds ae h else .stuck):=by
 subst hK
 refine PG.imp (u5 hc h hn hst) λv σ H Q q_=>q_.el λρ h ae d w re rd p=>?_
 unfold gT at p
 cases rd with
 |
  tup q rs=>
  dsimp only at p
  split at p
  ·rename_i hl
   exact⟨_,_,rfl,q,by rw[<- rs.len];exact hl,ρ,h,ae,_,w,re,rs,p⟩
  ·exact p.elim
 |_=>exact p.elim
def noX{α:Type}(r:R α):R α:=match r with
 |.exc _ _=>.stuck
 |.ok a h=>.ok a h
 |.stuck=>.stuck
def DG.weak(hg:DG K mg X (λ_=>E0) e g):DG K mg X ES e (λd ae h=>noX (g d ae h)):=PG.imp hg λv σ H Q q_=>q_.el λρ h ae d w re rd p=>by
 refine⟨ρ,h,ae,d,w,re,rd,?_⟩
 try dsimp only at p
 cases q:g d ae h with
 |ok a h1=>rw[q] at p;exact p
 |exc c h1=>rw[q] at p;exact p.elim
 |stuck=>rw[q] at p;exact p.elim
def uo(K:W.Frag)(mg:Na)(r:yX)(f:D->D->D->AH->R Unit):Prop:=∀ρ h H do_ di dv o i v (Q:Hp->Prop) E,Wd K mg ρ h H->RelD K mg ρ H do_ o->RelD K mg ρ H di i->RelD K mg ρ H dv v->PostG K mg ρ H E (λ_ _ _ H'=>Q H') (f do_ di dv h)->r o i v H Q
def qH(he:DE K mg X ES e F)(hg:DG K mg X ES a g)(hs:swapsWithSole [a] e pos.line X.env=pure false)(hw:swappedStores [a] e X.env=pure none)
 (h1:(assignEach [a] X.env).map (·.2)=[assign a X.env]):DS K mg X ES (.Assign [a] e pos) (fJ F g):=PS.imp (Fw he hg hs hw h1) λD σ H q_=>q_.el λρ h ae w re p=>
 ⟨ρ,h,ae,w,re,cp p re λd h1 ρ1 H1 l1 w1 re1 p1 v rv=>⟨ρ1,h1,ae,d,w1,re1,rv,cp p1 re1 λae2 h2 ρ2 H2 l2 w2 re2 p2 σ' re'=>gD p2 w2 re'⟩⟩
def Eu{i:Nat}{x:Str}{pos':Pos}(hN:X.N.Nodup)(hi:X.N[i]?=some x)(hx:Loc X.env.scope x)(he:DE K mg X ES e F)(hs:swapsWith e (some (.Name x pos')) pos.line X.env=pure false)(hf:X.fn x=true\/X.env.scope.names.lookup x=some .local):
 DS K mg X ES (.Assign [.Name x pos'] e pos) (fJ F (gN i)):=PS.imp (Dv hN hi hx he hs hf) λD σ H q_=>q_.el λρ h ae w re p=>
 ⟨ρ,h,ae,w,re,cp p re λd h1 ρ1 H1 l1 w1 re1 p1 v rv=>gD p1 w1 (re1.set i rv)⟩
def ED{i j:Nat}{x y:Str}{px py pt:Pos}{kt k2 pt2}(hc:X.calm=true)(hN:X.N.Nodup)(hi:X.N[i]?=some x)(hj:X.N[j]?=some y)(hij:i≠j)
 (hx:X.env.scope.names.lookup x=some .local) (hy:X.env.scope.names.lookup y=some .local) (ha:DA K mg X ES [a,b] A)
 (hw:swappedStores [.Tuple [.Name x px,.Name y py] kt pt] (.Tuple [a,b] k2 pt2) X.env=pure (some [x,y]))
 (hs:swapsWithSole [.Tuple [.Name x px,.Name y py] kt pt] (.Tuple [a,b] k2 pt2) pos.line X.env=pure false):
 DS K mg X ES (.Assign [.Tuple [.Name x px,.Name y py] kt pt] (.Tuple [a,b] k2 pt2) pos) (zj i j A):=PS.imp (D8 hc hN hi hj hij hx hy ha hw hs) λD σ H q_=>q_.el λρ h ae w re p=>
 ⟨ρ,h,ae,w,re,cp p re λds h1 ρ1 H1 l1 w1 re1 p1 vs rs=>by
  split at p1
  ·cases rs with
   |
    cons r1 rs=>
    cases rs with
    |
     cons r2 rs=>
     cases rs
     exact⟨_,_,rfl,gD p1 w1 ((re1.set i r1).set j r2)⟩
  ·exact p1.elim⟩
def zd(hc:X.calm=true)(hR:Rz X E)(hg:Gl X x)(hm:mg x=some (.ref C))(hq:W.excIn X.K C kJ "ValueError.__new__"=true)(ha:DA K mg X (λ_=>E) (e::es) A)(hk:X.mg=mg)
 (he:starEach (e::es) X.env=(false,eval e X.env)::starEach es X.env) (ce:(backTo cpos (starEach es X.env)).any (·.1)=false) (hd:(x==("__debug__" : Str))=false):
 DS K mg X (λ_=>E) (.Raise (some (.Call (.Name x np) (e::es) [] cpos)) none pos) (qI x A):=by
 subst hk
 exact
  PS.imp (xo hc hR hg hm hq ha he ce hd) λD σ H q_=>q_.el λρ h ae w re p=>
  ⟨ρ,
   h,ae,w,re,cp p re λds h1 ρ1 H1 l1 w1 re1 p1 vs rs=>by
   split at p1
   ·rename_i hl
    exact⟨by rw[<- rs.len];exact hl,p1 ρ1 H1 σ C Le.refl w1 re1 hm⟩
   ·exact p1.elim⟩
def AU(C:Callee X.prog X.w X.K X.mg X.base x k ps (spD K mg n S))(hr:Room k X.A)(hg:Gl X x)(hx:iC X ES)(ha:DA K mg X ES (e::es) A)
 (hdb:(x==("__debug__" : Str))=false) (he:starEach (e::es) X.env=(false,eval e X.env)::starEach es X.env) (hpl:(backTo pos (starEach es X.env)).any (·.1)=false):
 DE K mg X ES (.Call (.Name x p) (e::es) [] pos) (eFn (λds h=>if ds.length=n then S ds h else .stuck) A):=by
 obtain⟨f,fd,F',m,kp,bb,_⟩:=C.ex
 intro pins s σ H Q I hh
 refine wpAny_Call_Name_kw (mR I hg m ?_ hdb)
 have rd:rdA K mg ES A σ H (λvs H1=>spD K mg n S vs H1 Q (ES σ)):=by
  obtain⟨ρ,h,ae,w,re,p⟩:=hh
  refine⟨ρ,h,ae,w,re,p.bind.imp λds h1 ρ1 H1 l1 w1 p1 vs rs=>?_⟩
  split at p1
  ·rename_i hl
   exact⟨ρ1,h1,ds,w1,rs,hl,p1⟩
  ·exact p1.elim
 refine W.callWith_K (h₀:=X.base) I.ok.mod.kin kp (KH (ha pos pins s σ H _ I rd) (λus s1 ⟨vs,H1,I1,r,q⟩=>⟨I1.kIn,?_⟩) λ_ _ z=>z) he hpl
 have hl:(us++[]).length=ps.length:=by rw[Lq,<- r.length];exact F'.len _ _ _ _ q
 refine wpAny_call (codeAny_mono (F'.run X.A X.stack s1 H1 ⟨us,[]⟩ us vs Q (ES σ) hr I1.env0 (by simpa using bb s1 us I1.kIn hl) r q) λr s' hq=>?_)
 cases r with
 |error ex=>exact hx pins σ H1 s1 ex s' I1 hq
 |
  ok fl=>
  cases fl with
  |ret u=>exact I1.after hq
  |next=>exact False.elim hq
  |brk=>exact False.elim hq
  |cont=>exact False.elim hq
def fnD(n:Nat)(F:MS):Fn:=λds h=>match F (ds.map some++List.replicate (n-ds.length) none) h with
 |.nx _ h'=>.ok .non h'
 |.rt d h'=>.ok d h'
 |.exc c _ h'=>.exc c h'
 |_=>.stuck
def kc(hp:pv (CX1 X.prog X.w) X E):iC X (λ_=>E):=λpins σ H s e s' I h=>hp pins σ H s e s' I h
def qL:iC X (λ_=>E0):=λpins σ H s e s' I h=>HA pins σ H s e s' I h
end
section
variable{P:Program}{w:World}{K:W.Frag}{mg:Na}{base:Heap}{x:Str}{st:Stmt}{k:Nat}{ps N:List Str}{F:MS}
def tM(rs:RelDs K mg ρ H ds vs):RelE K mg ρ H (ds.map some++List.replicate (N.length-ds.length) none) (eI N vs):=by
 unfold eI
 refine⟨by rw[r_,r_,g_,g_,KJ,KJ,rs.len],λi d e=>?_⟩
 by_cases hi:i<ds.length
 ·rw[E_ (by rw[g_];exact hi),t_] at e
  have e':ds[i]?=some d:=by
   cases q:ds[i]? with
   |none=>rw[q] at e;cases e
   |some z=>rw[q] at e;cases e;rfl
  obtain⟨v,h1,h2⟩:=rs.getD e'
  refine⟨v,?_,h2⟩
  rw[E_ (by rw[g_,<- rs.len];exact hi),t_,h1];rfl
 ·rw[Ku (by rw[g_];omega),KQ] at e
  split at e <;> cases e
def Def.okD(D:Def K mg x st)(S:FnScope N ps (az st))
 (hb:∀(kV doc pm:Value) (an:Option Addr) (cdv ct:Value) (us:List Value),us.length=ps.length->bindArgs (W.fnOf x x (cW st) (bF st) (az st) .none kV doc pm an cdv ct) ⟨us,[]⟩=pure (ps.zip us))
 (f_:∀(f:Addr) (cdv:Value) (A:Around) (outer:List Env) (s:Shared) (H:Hp) (E:XK),Room k (A.deeper (envOfC x (az st) s.heap.objs.size f cdv))->
  DSs K mg (dG (CX1 P w) P w K mg base N x (az st) f cdv A outer s H E) (λ_=>E) (bF st) F):Callee P w K mg base x (k+1) ps (spD K mg ps.length (fnD N.length F)):=by
 refine D.okR S hb (λvs H Q E ⟨ρ,h,ds,w,rs,hl,p⟩=>by rw[<- rs.len];exact hl) λf cdv A outer s H vs Q E hr ⟨ρ,h,ds,w',rs,hl,p⟩=>?_
 refine⟨_,f_ f cdv A outer s H E hr,ρ,h,_,w',tM rs,?_⟩
 unfold fnD at p
 split at p
 ·rename_i e;rw[e];exact λρ1 H1 σ1 l1 w1 re1=>p ρ1 H1 l1 w1 _ .non
 ·rename_i e;rw[e];exact λρ1 H1 v l1 w1 rv=>p ρ1 H1 l1 w1 v rv
 ·rename_i e;rw[e];exact λρ1 H1 σ1 C l1 w1 re1 m=>p ρ1 H1 C l1 w1 m
 ·exact p.elim
end
def aT(h:AH)(n:Nat):Option (List D):=match h[n]? with
 |some (.lst xs)=>some xs
 |some (.fz xs)=>some xs
 |_=>none
def eQ(h:AH):D->Option (List D)
 |.tup xs=>some xs
 |.ref n=>aT h n
 |.kl xs=>some xs
 |_=>none
section
variable{K:W.Frag}{mg:Na}{ρ:List Addr}{H:Hp}{h:AH}
def bz(w:Wd K mg ρ h H)(ea:ρ[n]?=some a)(e:aT h n=some xs):∃vs,SqL K H a vs/\RelDs K mg ρ H xs vs:=by
 unfold aT at e
 split at e
 ·rename_i ys eo
  cases e
  obtain⟨vs,h1,h2⟩:=w.ob n a _ ea eo
  exact⟨vs,SqL.of h1,h2⟩
 ·rename_i ys eo
  cases e
  obtain⟨o,vs,h1,h2⟩:=w.ob n a _ ea eo
  exact⟨vs,.inl (.inr ⟨o,h1⟩),h2⟩
 ·cases e
def gW(w:Wd K mg ρ h H)(r:RelD K mg ρ H d v)(e:eQ h d=some xs):∃p vs,v=.ref p/\(SqL K H p vs\/SqT K H p vs)/\RelDs K mg ρ H xs vs:=by
 cases r with
 |
  tup q rs=>
  have e':some _=some xs:=e
  cases e'
  exact⟨_,_,rfl,.inr q,rs⟩
 |
  ref ea=>
  obtain⟨vs,h1,h2⟩:=bz w ea e
  exact⟨_,vs,rfl,.inl h1,h2⟩
 |
  kl q rs=>
  have e':some _=some xs:=e
  cases e'
  exact⟨_,_,rfl,.inl (.inr q),rs⟩
 |_=>cases e
end
noncomputable def g2(f:Int->Int->R D)(x y:D):R D:=match x,y with
 |.int i,.int j=>f i j
 |_,_=>.stuck
def gI(f:Int->Int->D):D->D->AH->R D:=λx y h=>match x,y with
 |.int i,.int j=>.ok (f i j) h
 |_,_=>.stuck
open Classical in
def gIc(C:Int->Int->Prop)(f:Int->Int->D):D->D->AH->R D:=λx y h=>match x,y with
 |.int i,.int j=>if C i j then .ok (f i j) h else .stuck
 |_,_=>.stuck
section
variable{K:W.Frag}{mg:Na}{X:Cx}
def ik(hr:∀i j ρ H,RelD K mg ρ H (g i j) (f i j)):OpD K mg (rI0 f) (gI g):=λρ h H dx dy x y Q E w rx ry p=>by
 unfold gI at p
 split at p
 ·cases rx;cases ry;exact⟨_,_,rfl,rfl,aJ w (hr _ _ ρ H) p⟩
 ·exact p.elim
def lR(hr:∀i j ρ H,RelD K mg ρ H (g i j) (f i j)):OpD K mg (rI C f) (gIc C g):=λρ h H dx dy x y Q E w rx ry p=>by
 unfold gIc at p
 split at p
 ·cases rx;cases ry
  split at p
  ·rename_i hc;exact⟨_,_,rfl,rfl,hc,aJ w (hr _ _ ρ H) p⟩
  ·exact p.elim
 ·exact p.elim
def gOr(g g':D->D->AH->R D):D->D->AH->R D:=λx y h=>match g x y h with
 |.stuck=>g' x y h
 |r=>r
def OpD.or(a:OpD K mg r g)(b:OpD K mg r' g'):OpD K mg (λx y H Q=>r x y H Q\/r' x y H Q) (gOr g g'):=λρ h H dx dy x y Q E w rx ry p=>by
 unfold gOr at p
 split at p
 ·exact .inr (b ρ h H dx dy x y Q E w rx ry p)
 ·exact .inl (a ρ h H dx dy x y Q E w rx ry p)
end
def ki:D->D->AH->R D:=λx y h=>match x,y with
 |.ref n,.ref m=>match h[n]?,h[m]? with
  |some (.lst xs),some (.lst ys)=>if xs.length+ys.length<=16777216 then .ok (.ref h.length) (h++[.lst (xs++ys)]) else .stuck
  |_,_=>.stuck
 |.tup xs,.tup ys=>if xs.length+ys.length<=16777216 then .ok (.tup (xs++ys)) h else .stuck
 |_,_=>.stuck
def pX:D->D->AH->R D:=λx y h=>match x,y with
 |.ref n,.int k=>match h[n]? with
  |some (.lst xs)=>if -(2^63)<=k/\k<2^63/\xs.length*k.toNat<=16777216 then .ok (.ref h.length) (h++[.lst (List.replicate k.toNat xs).flatten]) else .stuck
  |_=>.stuck
 |_,_=>.stuck
def gIx:D->D->AH->R D:=λx y h=>match eQ h x,y with
 |some xs,.int i=>match atI xs i with
  |some d=>.ok d h
  |none=>.stuck
 |_,_=>.stuck
section
variable{K:W.Frag}{mg:Na}{X:Cx}
def jX(K:W.Frag):R2:=λx y H Q=>∃a b ys,x=.ref a/\y=.ref b/\SqT K H a []/\SqT K H b ys/\Q (.ref b) H
def Ci:OpR X (binaryOp .Add) (jX X.K):=by
 intro pins s σ H x y v u Q I rx ry h
 obtain⟨a,b,ys,rfl,rfl,ha,hb,q⟩:=h
 cases rx
 cases ry
 obtain⟨its,r1,p1,_⟩:=I.tuple ha
 obtain⟨its2,r2,p2,_⟩:=I.tuple hb
 have e:its=[]:=r1.nil_iff.mpr rfl
 subst e
 obtain⟨⟨cls,dd,data,sl⟩,ho,hc,n,hd⟩:=id p1
 obtain⟨⟨cls2,dd2,data2,sl2⟩,ho2,hc2,n2,hd2⟩:=id p2
 simp only at hc hd hc2 hd2
 subst hc hd hc2 hd2
 exact concat_meets ⟨_,ho,rfl⟩ ⟨_,ho2,rfl⟩ noFill_tuple_add seq_tuple_add Ml Mf (Mc _ _)
  (tuple_addW0 _ _ _ _ n n2 dd dd2 sl sl2 rfl) ⟨ho,ho2,⟨.ref b,H,I,rfl,q⟩⟩
def BP:OpD K mg (λx y H Q=>mz x y H Q\/(jM K x y H Q\/jX K x y H Q)) ki:=λρ h H dx dy x y Q E w rx ry p=>by
 unfold ki at p
 split at p
 ·cases
   rx with
  |
   ref ea=>
   cases ry with
   |
    ref eb=>
    split at p
    ·rename_i xs ys e1 e2
     split at p
     ·rename_i hl
      obtain⟨vs,q1,r1⟩:=w.ob _ _ _ ea e1
      obtain⟨ws,q2,r2⟩:=w.ob _ _ _ eb e2
      exact .inl ⟨_,_,vs,ws,rfl,rfl,q1,q2,by rw[<- r1.len,<- r2.len];exact hl,λp' hp=>d8 w (r1.append r2) hp p⟩
     ·exact p.elim
    ·exact p.elim
 ·cases
   rx with
  |
   tup q1 r1=>
   cases ry with
   |
    tup q2 r2=>
    split at p
    ·rename_i hl
     cases r1 with
     |nil=>exact .inr (.inr ⟨_,_,_,rfl,rfl,q1,q2,aJ w (.tup q2 r2) p⟩)
     |
      cons r0 r1=>
      refine .inr (.inl ⟨_,_,_,_,rfl,rfl,q1,q2,(λz=>nomatch z),by rw[<- (RelDs.cons r0 r1).len,<- r2.len];exact hl,λz=>?_,λ_ p' hp=>kf w ((RelDs.cons r0 r1).append r2) hp p⟩)
      subst z
      cases r2
      rw[Lq] at p
      exact aJ w (.tup q1 (.cons r0 r1)) p
    ·exact p.elim
 ·exact p.elim
def Bo(r:RelDs K mg ρ H xs vs)(e:atI xs i=some d):∃v,atI vs i=some v/\RelD K mg ρ H d v:=by
 unfold atI at e ⊢
 rw[<- r.len]
 cases q:ixN xs.length i with
 |none=>rw[q] at e;cases e
 |some j=>rw[q] at e;exact r.getD e
def Hr:OpD K mg (λx y H Q=>uj K x y H Q\/uC K x y H Q) gIx:=λρ h H dx dy x y Q E w rx ry p=>by
 unfold gIx at p
 split at p
 ·rename_i xs i e1
  split at p
  ·rename_i d e2
   cases ry
   obtain⟨pa,vs,rfl,hq,rs⟩:=gW w rx e1
   obtain⟨v,e3,rv⟩:=Bo rs e2
   rcases hq with hq |hq
   ·exact .inl ⟨_,_,_,_,rfl,rfl,hq,e3,aJ w rv p⟩
   ·exact .inr ⟨_,_,_,_,rfl,rfl,hq,e3,aJ w rv p⟩
  ·exact p.elim
 ·exact p.elim
def ixK(h:X.K=K):IxR X (λx y H Q=>uj K x y H Q\/uC K x y H Q):=by subst h;exact AY.or Gf
def catK(h:X.K=K):OpR X (binaryOp .Add) (λx y H Q=>mz x y H Q\/(jM K x y H Q\/jX K x y H Q)):=by subst h;exact ER.or (Br.or Ci)
end
def dJ:Nat->AH->D->Option PyData
 |0,_,_=>none
 |_+1,_,.non=>some .none
 |_+1,_,.bl b=>some (.bool b)
 |_+1,_,.int i=>some (.int i)
 |_+1,_,.str x=>some (.str x)
 |k+1,h,.tup xs=>(xs.mapM (dJ k h)).map .tuple
 |k+1,h,.ref n=>match aT h n with
  |some xs=>(xs.mapM (dJ k h)).map .list
  |none=>none
 |_+1,_,_=>none
def ny{K:W.Frag}{mg:Na}{ρ:List Addr}{H:Hp}{f:D->Option PyData}(hf:∀d v pd,RelD K mg ρ H d v->f d=some pd->Rep K H v pd):∀{xs:List D}{vs:List V}{ps:List PyData},RelDs K mg ρ H xs vs->xs.mapM f=some ps->Reps K H vs ps:=by
 intro xs
 induction xs with
 |
  nil=>
  intro vs ps r e
  cases r
  have e':some []=some _:=e
  cases e';exact .nil
 |
  cons x xs ih=>
  intro vs ps r e
  cases r with
  |
   cons r rr=>
   rw[LR] at e
   cases q:f x with
   |none=>rw[q] at e;cases e
   |
    some pd=>
    rw[q] at e
    cases q2:xs.mapM f with
    |none=>rw[q2] at e;cases e
    |
     some pds=>
     rw[q2] at e
     have e':some (pd::pds)=some ps:=e
     cases e'
     exact .cons (hf _ _ _ r q) (ih rr q2)
theorem iX{K:W.Frag}{mg:Na}{ρ:List Addr}{H:Hp}{h:AH}(w:Wd K mg ρ h H):∀(k:Nat) {d:D}{v:V}{pd:PyData},RelD K mg ρ H d v->dJ k h d=some pd->Rep K H v pd
 |0,_,_,_,_,e=>by cases e
 |
  k+1,d,v,pd,r,e=>by
  cases r with
  |non=>have e':some _=some pd:=e;cases e';exact .non
  |bl b=>have e':some _=some pd:=e;cases e';exact .bl b
  |int b=>have e':some _=some pd:=e;cases e';exact .int b
  |str b=>have e':some _=some pd:=e;cases e';exact .str b
  |
   tup q rs=>
   rename_i ds
   have e':(ds.mapM (dJ k h)).map PyData.tuple=some pd:=e
   cases q2:ds.mapM (dJ k h) with
   |none=>rw[q2] at e';cases e'
   |
    some ps=>
    rw[q2] at e'
    cases e'
    exact .tup q (ny (λd v pd r e=>iX w k r e) rs q2)
  |
   ref ea=>
   rename_i n a
   unfold dJ at e
   split at e
   ·rename_i xs e1
    obtain⟨vs,h1,h2⟩:=bz w ea e1
    cases q2:xs.mapM (dJ k h) with
    |none=>rw[q2] at e;cases e
    |
     some ps=>
     rw[q2] at e
     cases e
     exact .lst h1 (ny (λd v pd r e=>iX w k r e) h2 q2)
   ·cases e
  |_=>cases e
def pf(h:AH)(x y:D):Option Bool:=match dJ 164 h x,dJ 164 h y with
 |some a,some b=>if shp a=true/\shp b=true then some (PyData.eqv a b) else none
 |_,_=>none
def gEq(neg:Bool):D->D->AH->R D:=λx y h=>match pf h x y with
 |some b=>.ok (.bl (if neg then !b else b)) h
 |none=>.stuck
section
variable{K:W.Frag}{mg:Na}{X:Cx}
def rT(w:Wd K mg ρ h H)(rx:RelD K mg ρ H dx x)(ry:RelD K mg ρ H dy y)(e:pf h dx dy=some b):
 ∃a c,Rep K H x a/\Rep K H y c/\shp a=true/\shp c=true/\PyData.eqv a c=b:=by
 unfold pf at e
 split at e
 ·rename_i a c e1 e2
  split at e
  ·rename_i hs
   cases e
   exact⟨a,c,iX w 164 rx e1,iX w 164 ry e2,hs.1,hs.2,rfl⟩
  ·cases e
 ·cases e
def Gw:OpD K mg (sT K) (gEq false):=λρ h H dx dy x y Q E w rx ry p=>by
 unfold gEq at p
 split at p
 ·rename_i b e
  obtain⟨a,c,h1,h2,h3,h4,rfl⟩:=rT w rx ry e
  exact⟨a,c,h1,h2,h3,h4,aJ w (.bl _) p⟩
 ·exact p.elim
def FJ:OpD K mg (tZ K) (gEq true):=λρ h H dx dy x y Q E w rx ry p=>by
 unfold gEq at p
 split at p
 ·rename_i b e
  obtain⟨a,c,h1,h2,h3,h4,rfl⟩:=rT w rx ry e
  exact⟨a,c,h1,h2,h3,h4,aJ w (.bl _) p⟩
 ·exact p.elim
end
section
variable{K:W.Frag}{mg:Na}{X:Cx}{ρ:List Addr}{H:Hp}
def mB(neg:Bool):D->D->AH->R D:=λx y h=>match x,y with
 |.non,.non=>.ok (.bl (!neg)) h
 |_,.non=>.ok (.bl neg) h
 |_,_=>.stuck
def xI:OpD K mg (λx y H Q=>y=.non/\Q (.bl (!decide (x=.non))) H) (mB true):=λρ h H dx dy x y Q E w rx ry p=>by
 unfold mB at p
 split at p
 ·cases rx;cases ry;exact⟨rfl,aJ w (.bl _) p⟩
 ·rename_i hne
  cases ry
  refine⟨rfl,?_⟩
  have e:decide (x=V.non)=false:=by
   rw[decide_eq_false_iff_not]
   rintro rfl
   cases rx
   exact hne rfl
  rw[e]
  exact aJ w (.bl _) p
 ·exact p.elim
end
inductive AIt where
 |lst (n:Nat) (xs:List D) |tup (xs:List D) |rng (lo:Int) (k:Nat) |enm (s:AIt) |zip (s t:AIt)
noncomputable def fQ:Nat->List D->List D
 |_,[]=>[]
 |i,d::ds=>.tup [.int (i:Nat),d]::fQ (i+1) ds
def AIt.items:AIt->List D
 |.lst _ xs=>xs
 |.tup xs=>xs
 |.rng lo k=>(List.range k).map λi=>D.int (lo+(i:Nat))
 |.enm s=>fQ 0 s.items
 |.zip s t=>List.zipWith (λx y=>.tup [x,y]) s.items t.items
def AIt.guard:AIt->AH->Prop
 |.lst n xs,h=>aT h n=some xs
 |.enm s,h=>s.guard h
 |.zip s t,h=>s.guard h/\t.guard h
 |_,_=>True
def SrcR(K:W.Frag)(mg:Na)(ρ:List Addr)(H:Hp):AIt->Bool->Addr->Prop
 |.lst n _,true,a=>ρ[n]?=some a
 |.tup xs,false,p=>∃vs,SqT K H p vs/\RelDs K mg ρ H xs vs
 |_,_,_=>False
def ItR(K:W.Frag)(mg:Na)(ρ:List Addr)(H:Hp):AIt->It->Prop
 |.lst n _,J=>∃a,ρ[n]?=some a/\J=Itl K a
 |.tup xs,J=>∃p vs,SqT K H p vs/\RelDs K mg ρ H xs vs/\J=Itt K p
 |.rng lo k,J=>J=Itr lo k
 |.enm s,J=>∃b a,SrcR K mg ρ H s b a/\J=xE K b a
 |.zip s t,J=>∃b c a d,SrcR K mg ρ H s b a/\SrcR K mg ρ H t c d/\J=ItZ K b c a d
theorem oV:∀{ds:List D}{k i:Nat}{e:D},(fQ k ds)[i]?=some e->∃d,ds[i]?=some d/\e=.tup [.int ((k+i:Nat):Int),d]
 | [],_,_,_,q=>by simp [fQ] at q
 |d::ds,k,0,e,q=>⟨d,rfl,by simpa [fQ] using q.symm⟩
 |
  d::ds,k,i+1,e,q=>by
  obtain⟨d',q1,q2⟩:=oV (ds:=ds) (k:=k+1) (i:=i) (e:=e) (by simpa [fQ] using q)
  refine⟨d',by simpa using q1,?_⟩
  rw[q2]
  congr 4
  omega
theorem qG:∀(ds:List D) (k:Nat),(fQ k ds).length=ds.length
 | [],_=>rfl
 |_::ds,k=>by show (fQ (k+1) ds).length+1=ds.length+1;rw[qG ds]
section
variable{K:W.Frag}{mg:Na}{ρ ρ1:List Addr}{H H1:Hp}{h h1:AH}
def SrcR.at_(r:SrcR K mg ρ H s b a)(l:Le ρ H ρ1 H1)(w:Wd K mg ρ1 h1 H1)(g:s.guard h1):∃vs,SqB K b H1 a vs/\RelDs K mg ρ1 H1 s.items vs:=by
 cases s with
 |
  lst n xs=>
  cases b with
  |true=>exact bz w (l.pre _ _ r) g
  |false=>exact r.elim
 |
  tup xs=>
  cases b with
  |true=>exact r.elim
  |false=>obtain⟨vs,q,rs⟩:=r;exact⟨vs,l.sqT q,rs.mono l⟩
 |rng _ _=>cases b <;> exact r.elim
 |enm _=>cases b <;> exact r.elim
 |zip _ _=>cases b <;> exact r.elim
def ItR.step(hJ:ItR K mg ρ H it J)(l:Le ρ H ρ1 H1)(w:Wd K mg ρ1 h1 H1)(g:it.guard h1):
 (∀(i:Nat) (d:D),it.items[i]?=some d->J.go i H1/\∀x H',J.yld i H1 x H'->Le ρ1 H1 ρ1 H'/\Wd K mg ρ1 h1 H'/\RelD K mg ρ1 H' d x)/\J.stop it.items.length H1:=by
 cases it with
 |
  lst n xs=>
  obtain⟨a,ea,rfl⟩:=hJ
  obtain⟨vs,q,rs⟩:=bz w (l.pre _ _ ea) g
  refine⟨λi d e=>?_,vs,q,by rw[<- rs.len];exact n_ _⟩
  obtain⟨v,ev,rv⟩:=rs.getD e
  refine⟨⟨vs,v,q,ev⟩,λx H' ⟨e1,y⟩=>?_⟩
  subst e1
  have:=(y vs q).symm.trans ev
  cases this
  exact⟨Le.refl,w,rv⟩
 |
  tup xs=>
  obtain⟨p,vs,q,rs,rfl⟩:=hJ
  have q1:=l.sqT q
  have rs1:=rs.mono l
  refine⟨λi d e=>?_,vs,q1,by rw[<- rs1.len];exact n_ _⟩
  obtain⟨v,ev,rv⟩:=rs1.getD e
  refine⟨⟨vs,v,q1,ev⟩,λx H' ⟨e1,y⟩=>?_⟩
  subst e1
  have:=(y vs q1).symm.trans ev
  cases this
  exact⟨Le.refl,w,rv⟩
 |
  rng lo k=>
  cases hJ
  refine⟨λi d e=>?_,?_⟩
  ·have e':((List.range k).map λi=>D.int (lo+(i:Nat)))[i]?=some d:=e
   rw[t_] at e'
   cases q:(List.range k)[i]? with
   |none=>rw[q] at e';cases e'
   |
    some j=>
    rw[q] at e'
    have hj:=h_.mp q
    have e2:=hj.2
    rw[List.getElem_range] at e2
    subst e2
    cases e'
    refine⟨show i<k by simpa using hj.1,λx H' ⟨e1,e2⟩=>?_⟩
    subst e1 e2
    exact⟨Le.refl,w,.int _⟩
  ·show k<=((List.range k).map λi=>D.int (lo+(i:Nat))).length
   simp
 |
  enm s=>
  obtain⟨b,a,r,rfl⟩:=hJ
  obtain⟨vs,q,rs⟩:=r.at_ l w g
  refine⟨λi d e=>?_,vs,q,by show vs.length=(fQ 0 s.items).length;rw[qG,rs.len]⟩
  obtain⟨d',q1,rfl⟩:=oV (show (fQ 0 s.items)[i]?=some d from e)
  obtain⟨v,ev,rv⟩:=rs.getD q1
  refine⟨⟨vs,v,q,ev⟩,λx H' ⟨p,u,e1,hp,e2,hu⟩=>?_⟩
  subst e1 e2
  have:=(hu vs q).symm.trans ev
  cases this
  rw[Nat.zero_add]
  exact⟨dO hp,w.tuple hp,.tup (SqT.of cJ) (.cons (.int _) (.cons (rv.mono (dO hp)) .nil))⟩
 |
  zip s t=>
  obtain⟨b,c,a,d,r1,r2,rfl⟩:=hJ
  obtain⟨vs,q,rs⟩:=r1.at_ l w g.1
  obtain⟨us,q',rs'⟩:=r2.at_ l w g.2
  refine⟨λi e ei=>?_,vs,us,q,q',?_⟩
  ·have ei':(List.zipWith (λx y=>D.tup [x,y]) s.items t.items)[i]?=some e:=ei
   rw[Lr] at ei'
   cases k1:s.items[i]? with
   |none=>rw[k1] at ei';cases ei'
   |
    some d1=>
    cases k2:t.items[i]? with
    |none=>rw[k1,k2] at ei';cases ei'
    |
     some d2=>
     rw[k1,k2] at ei'
     cases ei'
     obtain⟨v,ev,rv⟩:=rs.getD k1
     obtain⟨v',ev',rv'⟩:=rs'.getD k2
     refine⟨⟨vs,us,v,v',q,q',ev,ev'⟩,λx H' ⟨p,u,u',e1,hp,e2,hu,hu'⟩=>?_⟩
     subst e1 e2
     have:=(hu vs q).symm.trans ev
     cases this
     have:=(hu' us q').symm.trans ev'
     cases this
     exact⟨dO hp,w.tuple hp,.tup (SqT.of cJ) (.cons (rv.mono (dO hp)) (.cons (rv'.mono (dO hp)) .nil))⟩
  ·have hl:(AIt.zip s t).items.length=min s.items.length t.items.length:=LB ..
   rw[hl,rs.len,rs'.len]
   rcases Nat.le_total vs.length us.length with z |z
   ·left;rw[My z];exact KI (n_ _)
   ·right;rw[Nat.min_eq_right z];exact KI (n_ _)
end
def SR.loop(r:SR)(f:AE->AH->SR):SR:=match r with
 |.nx ae h=>f ae h
 |.ct ae h=>f ae h
 |.bk ae h=>.nx ae h
 |.rt d h=>.rt d h
 |.exc c ae h=>.exc c ae h
 |.stuck=>.stuck
open Classical in
def iK(G:AH->Prop)(g:MG)(B:MS):List D->MS
 | [],ae,h=>if G h then .nx ae h else .stuck
 |d::ds,ae,h=>if G h then (g d ae h).toS ae λb_ h1=>(B b_ h1).loop (iK G g B ds) else .stuck
abbrev MI:=AE->AH->R AIt
def zu(I:MI)(g:MG)(B:MS):MS:=λae h=>(I ae h).toS ae λit h1=>iK it.guard g B it.items ae h1
open Classical in
def lcL(G:AH->Prop)(g:MG)(c:MT)(F:ME):List D->List D->AE->AH->R (List D)
 | [],acc,_,h=>if G h then .ok acc h else .stuck
 |d::ds,acc,ae,h=>if G h/\acc.length<16777216 then (g d ae h).bind λb_ h1=>(c b_ h1).bind λb h2=>if b=true then (F b_ h2).bind λy h3=>lcL G g c F ds (acc++[y]) b_ h3 else lcL G g c F ds acc b_ h2 else .stuck
def i8(sub:Nd)(ae:AE):AE:=sub.map λo=>o.bind λi=>(ae[i]?).bind id
def eLC(I:MI)(sub:Nd)(g:MG)(c:MT)(F:ME):ME:=λae h=>(I ae h).bind λit h1=>(noX (lcL it.guard g c F it.items [] (i8 sub ae) h1)).bind cZ
def tY:MT:=λ_ h=>.ok true h
section
variable(K:W.Frag)(mg:Na)
def rdI(ES:St->XK)(F:MI):TI:=λσ H R'=>∃ρ h ae,Wd K mg ρ h H/\RelE K mg ρ H ae σ/\PostG K mg ρ H (ES σ) (λit _ ρ' H'=>∀J,ItR K mg ρ' H' it J->R' J H') (F ae h)
def DI(X:Cx)(ES:St->XK)(tg al:Expr)(F:MI):Prop:=PI X tg al (rdI K mg ES F)
end
def zf(F:ME):MI:=λae h=>(F ae h).bind λd h1=>match d with
 |.tup xs=>.ok (.tup xs) h1
 |.ref n=>match aT h1 n with
  |some xs=>.ok (.lst n xs) h1
  |none=>.stuck
 |_=>.stuck
def yT(A:MA):MI:=λae h=>(A ae h).bind λds h1=>match ds with
 | [.int j]=>if -(2^62)<=j/\j<2^62 then .ok (.rng 0 j.toNat) h1 else .stuck
 |_=>.stuck
def gQ(d:D)(h:AH):Option AIt:=match d with
 |.tup xs=>some (.tup xs)
 |.ref n=>(aT h n).map (.lst n)
 |_=>none
def yG(A:MA):MI:=λae h=>(A ae h).bind λds h1=>match ds with
 | [d]=>(match gQ d h1 with
  |some s=>.ok (.enm s) h1
  |none=>.stuck)
 |_=>.stuck
section
variable{K:W.Frag}{mg:Na}{X:Cx}{ES:St->XK}{tg al e a b c c_:Expr}{F:ME}{A:MA}{I:MI}{g:MG}{cf:MT}{U:MS}{sts:List Stmt}{pos:Pos}
def PI.imp(h:PI X tg al t)(k:∀σ H Q,t' σ H Q->t σ H Q):PI X tg al t':=λpins s σ H Q I w=>h pins s σ H Q I (k σ H Q w)
def Ft(hl:PE X l tl):PI X tg l (λσ H R=>tl σ H λx H1=>(∃a,x=.ref a/\(∃xs,SqL X.K H1 a xs)/\R (Itl X.K a) H1)\/(∃a,x=.ref a/\(∃xs,SqT X.K H1 a xs)/\R (Itt X.K a) H1)):=by
 intro pins s σ H R I h
 refine thn (hl pins s σ H _ I h) λv s1 ⟨x,H1,I1,r1,q1⟩=>?_
 rcases q1 with ⟨a,e,⟨xs,hq⟩,q⟩ |⟨a,e,⟨xs,hq⟩,q⟩
 ·subst e
  cases r1
  obtain⟨its,rv,p,hz⟩:=I1.list hq
  refine wpAny_pyIter_list p.isList ?_
  refine⟨s1.heap.objs.size,[s1.heap.objs.size],_,_,H1,rfl,I1.kept (t':=s1.toks) λb o e=>s_ _ e,xj a _,⟨_,Km _ rfl,rfl,rfl⟩,λb hb=>?_,q⟩
  have e:b=s1.heap.objs.size:=by simpa using hb
  subst e
  exact I1.fpOk (n_ _) (I1.hok.fresh (n_ _))
 ·subst e
  cases r1
  obtain⟨its,rv,p,hz⟩:=I1.tuple hq
  refine wpAny_pyIter_tuple (show s1.heap.IsTuple a its.toArray from p) ?_
  refine⟨s1.heap.objs.size,[s1.heap.objs.size],_,_,H1,rfl,I1.kept (t':=s1.toks) λb o e=>s_ _ e,uI a _,⟨_,Km _ rfl,rfl,rfl⟩,λb hb=>?_,q⟩
  have e:b=s1.heap.objs.size:=by simpa using hb
  subst e
  exact I1.fpOk (n_ _) (I1.hok.fresh (n_ _))
def FY(hK:X.K=K)(he:DE K mg X ES e F):DI K mg X ES tg e (zf F):=by
 subst hK
 refine PI.imp (Ft he) λσ H R ⟨ρ,h,ae,w,re,p⟩=>⟨ρ,h,ae,w,re,p.bind.imp λd h1 ρ1 H1 l1 w1 p1 v rv=>?_⟩
 cases rv with
 |tup q rs=>exact .inr ⟨_,rfl,⟨_,q⟩,p1 ρ1 H1 Le.refl w1 _ ⟨_,_,q,rs,rfl⟩⟩
 |
  ref ea=>
  dsimp only at p1
  split at p1
  ·rename_i xs e1
   obtain⟨vs,q,rs⟩:=bz w1 ea e1
   exact .inl ⟨_,rfl,⟨_,q⟩,p1 ρ1 H1 Le.refl w1 _ ⟨_,ea,rfl⟩⟩
  ·exact p1.elim
 |_=>exact p1.elim
def vw(hg:Gl X "range")(hm:mg "range"=none)(ha:DA K mg X ES [a] A)(hk:X.mg=mg)(hs:starEach [a] X.env=[(false,eval a X.env)]):DI K mg X ES tg (.Call (.Name "range" p) [a] [] pos) (yT A):=by
 subst hk
 refine PI.imp (wQ hg hm ha hs) λσ H R ⟨ρ,h,ae,w,re,p⟩=>⟨ρ,h,ae,w,re,p.bind.imp λds h1 ρ1 H1 l1 w1 p1 vs rs=>?_⟩
 split at p1
 ·cases rs with
  |
   cons r rs=>
   cases r;cases rs
   split at p1
   ·rename_i hb
    exact⟨_,rfl,hb.1,hb.2,p1 ρ1 H1 Le.refl w1 _ rfl⟩
   ·exact p1.elim
 ·exact p1.elim
def vF(w:Wd K mg ρ h H)(r:RelD K mg ρ H d v)(q:gQ d h=some s):∃b p,v=.ref p/\SrcR K mg ρ H s b p/\∃vs,SqB K b H p vs:=by
 cases r with
 |tup hq rs=>cases q;exact⟨false,_,rfl,⟨_,hq,rs⟩,_,hq⟩
 |
  ref ea=>
  obtain⟨xs,q1,rfl⟩:=J_.mp q
  obtain⟨vs,h1,h2⟩:=bz w ea q1
  exact⟨true,_,rfl,ea,vs,h1⟩
 |_=>cases q
def CK(hK:X.K=K)(hg:Gl X "enumerate")(hm:mg "enumerate"=none)(ha:DA K mg X ES [a] A)(hk:X.mg=mg)(hs:starEach [a] X.env=[(false,eval a X.env)]):DI K mg X ES (.Tuple elts x1 tp) (.Call (.Name "enumerate" p) [a] [] pos) (yG A):=by
 subst hk hK
 refine PI.imp (CB hg hm ha hs) λσ H R ⟨ρ,h,ae,w,re,p⟩=>⟨ρ,h,ae,w,re,p.bind.imp λds h1 ρ1 H1 l1 w1 p1 vs rs=>?_⟩
 split at p1
 ·cases rs with
  |
   cons r rs=>
   cases rs
   split at p1
   ·rename_i s q
    obtain⟨b,pa,rfl,sr,xs,hx⟩:=vF w1 r q
    exact⟨b,pa,xs,rfl,hx,p1 ρ1 H1 Le.refl w1 _ ⟨b,pa,sr,rfl⟩⟩
   ·exact p1.elim
 ·exact p1.elim
def oQ(p:PostS K mg ρ H De ES (r.loop f))(i:∀b_ h1 ρ1 H1 σ1,Le ρ H ρ1 H1->Wd K mg ρ1 h1 H1->RelE K mg ρ1 H1 b_ σ1->PostS K mg ρ1 H1 De ES (f b_ h1)->N σ1 H1):
 PostS K mg ρ H { De with nx:=N,ct:=N,bk:=De.nx } ES r:=by
 cases r with
 |nx b_ h1=>exact λρ1 H1 σ1 l1 w1 re1=>i b_ h1 ρ1 H1 σ1 l1 w1 re1 (PostS.mono l1 p)
 |rt d h1=>exact p
 |bk b_ h1=>exact p
 |ct b_ h1=>exact λρ1 H1 σ1 l1 w1 re1=>i b_ h1 ρ1 H1 σ1 l1 w1 re1 (PostS.mono l1 p)
 |exc c b_ h1=>exact p
 |stuck=>exact p
def GP(hp:PassesOwn (model X.prog X.w) X.A X.env X.xe)(hc:X.calm=true)(hi:DI K mg X ES tg al I)(hg:DG K mg X ES tg g)(hb:DSs K mg X ES sts U)
 (hs:∀x,foldedSetIterable al X.env x=pure x):DS K mg X ES (.For tg al sts [] pos) (zu I g U):=by
 refine PS.imp (FA hp hc hi hg hb hs) λDe σ H q_=>q_.el λρ h ae w re p=>⟨ρ,h,ae,w,re,cp p re λit h1 ρ1 H1 l1 w1 re1 p1 J hJ=>?_⟩
 refine⟨λi m σ2 H2=>m=it.items.length-i/\i<=it.items.length/\∃ρ2 h2 ae2,Le ρ1 H1 ρ2 H2/\Wd K mg ρ2 h2 H2/\RelE K mg ρ2 H2 ae2 σ2/\PostS K mg ρ2 H2 De ES (iK it.guard g U (it.items.drop i) ae2 h2),⟨_,rfl,KA _,ρ1,h1,ae,Le.refl,w1,re1,p1⟩,?_⟩
 rintro i m σ2 H2 ⟨rfl,hi',ρ2,h2,ae2,l2,w2,re2,p2⟩
 by_cases hlt:i<it.items.length
 ·have hd:it.items.drop i=it.items[i]::it.items.drop (i+1):=List.drop_eq_getElem_cons hlt
  rw[hd] at p2
  unfold iK at p2
  split at p2
  ·rename_i hG
   obtain⟨st,_⟩:=hJ.step l2 w2 hG
   obtain⟨go,yl⟩:=st i it.items[i] (l_ hlt)
   refine .inr ⟨go,λσ' H'=>∃ρ3 h3 ae3,Le ρ1 H1 ρ3 H'/\Wd K mg ρ3 h3 H'/\RelE K mg ρ3 H' ae3 σ'/\PostS K mg ρ3 H' De ES (iK it.guard g U (it.items.drop (i+1)) ae3 h3),
    λσ' H' ⟨ρ3,h3,ae3,q⟩=>⟨_,by omega,rfl,hlt,ρ3,h3,ae3,q⟩,λx H' hy=>?_⟩
   obtain⟨ly,wy,rx⟩:=yl x H' hy
   refine⟨ρ2,h2,ae2,_,wy,re2.mono ly,rx,cp (PostS.mono ly p2) (re2.mono ly) λae3 h3 ρ3 H3 l3 w3 re3 p3 σ' re'=>⟨ρ3,h3,ae3,w3,re',oQ p3 λae4 h4 ρ4 H4 σ4 l4 w4 re4 p4=>⟨ρ4,h4,ae4,((l2.trans ly).trans l3).trans l4,w4,re4,p4⟩⟩⟩
  ·exact p2.elim
 ·have hi2:i=it.items.length:=by omega
  subst hi2
  rw[List.drop_length] at p2
  unfold iK at p2
  split at p2
  ·rename_i hG
   exact .inl ⟨(hJ.step l2 w2 hG).2,gD p2 w2 re2⟩
  ·exact p2.elim
def yb(re:RelE K mg ρ H ae σ)(sub:Nd):RelE K mg ρ H (i8 sub ae) (fB sub σ):=by
 unfold i8 fB
 refine⟨by rw[g_,g_],λj d e=>?_⟩
 rw[t_] at e ⊢
 cases q:sub[j]? with
 |none=>rw[q] at e;cases e
 |
  some o=>
  rw[q] at e
  cases o with
  |none=>cases e
  |
   some i=>
   have e':(ae[i]?).bind id=some d:=z_ e
   cases q2:ae[i]? with
   |none=>rw[q2] at e';cases e'
   |
    some z=>
    rw[q2] at e'
    have e3:z=some d:=e'
    subst e3
    obtain⟨v,h1,h2⟩:=re.at_ i d q2
    refine⟨v,?_,h2⟩
    show some ((σ[i]?).bind id)=some (some v)
    rw[h1];rfl
def kW(p:PostG K mg ρ H E k ((noX (r.bind f)).bind m)):
 PostG K mg ρ H E0 (λa h1 ρ' H'=>PostG K mg ρ' H' E k ((noX (f a h1)).bind m)) r:=by
 cases r with
 |ok a h1=>exact λρ1 H1 l1 w1=>PostG.mono l1 p
 |exc c h1=>exact p.elim
 |stuck=>exact p.elim
def zL(σ:St)(H:Hp)(Q:VK)(q:rdE K mg ES (eLC I sub g cf F) σ H Q):iO (rdI K mg ES I) sub (rdG K mg (λ_=>E0) g) (rdT K mg (λ_=>E0) cf) (rdE K mg (λ_=>E0) F) σ H Q:=by
 obtain⟨ρ,h,ae,w,re,p⟩:=q
 refine⟨ρ,h,ae,w,re,p.bind.imp λit h1 ρ1 H1 l1 w1 p1 J hJ=>?_⟩
 have re1:=yb (re.mono l1) sub
 refine⟨λi m ys σ2 H2=>m=it.items.length-i/\i<=it.items.length/\∃ρ2 h2 ae2 acc,Le ρ1 H1 ρ2 H2/\Wd K mg ρ2 h2 H2/\RelE K mg ρ2 H2 ae2 σ2/\RelDs K mg ρ2 H2 acc ys/\
  PostG K mg ρ2 H2 (ES σ) (λd _ ρ' H'=>∀v,RelD K mg ρ' H' d v->Q v H') ((noX (lcL it.guard g cf F (it.items.drop i) acc ae2 h2)).bind cZ),
  ⟨_,rfl,KA _,ρ1,h1,i8 sub ae,[],Le.refl,w1,re1,.nil,p1⟩,?_⟩
 rintro i m ys σ2 H2 ⟨rfl,hi',ρ2,h2,ae2,acc,l2,w2,re2,rs,p2⟩
 by_cases hlt:i<it.items.length
 ·have hd:it.items.drop i=it.items[i]::it.items.drop (i+1):=List.drop_eq_getElem_cons hlt
  rw[hd] at p2
  unfold lcL at p2
  split at p2
  ·rename_i hG
   obtain⟨st,_⟩:=hJ.step l2 w2 hG.1
   obtain⟨go,yl⟩:=st i it.items[i] (l_ hlt)
   refine .inr ⟨go,by rw[<- rs.len];exact hG.2,λys' σ' H'=>∃ρ3 h3 ae3 acc3,Le ρ1 H1 ρ3 H'/\Wd K mg ρ3 h3 H'/\RelE K mg ρ3 H' ae3 σ'/\RelDs K mg ρ3 H' acc3 ys'/\
    PostG K mg ρ3 H' (ES σ) (λd _ ρ' H'=>∀v,RelD K mg ρ' H' d v->Q v H') ((noX (lcL it.guard g cf F (it.items.drop (i+1)) acc3 ae3 h3)).bind cZ),
    λys' σ' H' ⟨ρ3,h3,ae3,acc3,q⟩=>⟨_,by omega,rfl,hlt,ρ3,h3,ae3,acc3,q⟩,λx H' hy=>?_⟩
   obtain⟨ly,wy,rx⟩:=yl x H' hy
   refine⟨ρ2,h2,ae2,_,wy,re2.mono ly,rx,(kW (PostG.mono ly p2)).imp λae3 h3 ρ3 H3 l3 w3 p3 σ3 re3=>⟨ρ3,h3,ae3,w3,re3,(kW p3).imp λb h4 ρ4 H4 l4 w4 p4=>?_⟩⟩
   cases b with
   |true=>exact⟨ρ4,h4,ae3,w4,re3.mono l4,(kW p4).imp λy h5 ρ5 H5 l5 w5 p5 v rv=>⟨ρ5,h5,ae3,acc++[y],(((l2.trans ly).trans l3).trans l4).trans l5,w5,(re3.mono l4).mono l5,((((rs.mono ly).mono l3).mono l4).mono l5).append (.cons rv .nil),p5⟩⟩
   |false=>exact⟨ρ4,h4,ae3,acc,((l2.trans ly).trans l3).trans l4,w4,re3.mono l4,((rs.mono ly).mono l3).mono l4,p4⟩
  ·exact p2.elim
 ·have hi2:i=it.items.length:=by omega
  subst hi2
  rw[List.drop_length] at p2
  unfold lcL at p2
  split at p2
  ·rename_i hG
   refine .inl ⟨(hJ.step l2 w2 hG).2,?_⟩
   have p3:PostG K mg ρ2 H2 (ES σ) (λd _ ρ' H'=>∀v,RelD K mg ρ' H' d v->Q v H') (cZ acc h2):=p2
   unfold cZ at p3
   split at p3
   ·rename_i hl
    exact⟨by rw[<- rs.len];exact hl,λq hq=>d8 w2 rs hq p3⟩
   ·exact p3.elim
  ·exact p2.elim
def IE(M:List Str)(kn:List (Str×NameKind))(N:List Str)(sub:Nd)
 (hc:X.calm=true) (hi:DI K mg X ES tg al I)
 (hg:∀cl C s₂ H fp,DG K mg (aQ X N scope cl C s₂ H fp) (λ_=>E0) tg g) (he:∀cl C s₂ H fp,DE K mg (aQ X N scope cl C s₂ H fp) (λ_=>E0) c_ F)
 (hM:X.N=M) (hkn:X.env.scope.names=kn) (bn:fy M scope.names sub N=true)
 (hk:scope.kind=.function) (hnc:∀x∈scope.names,x.2 ≠ .cell) (be:∀x∈scope.names,x.2=.local->scope.names.lookup x.1=some .local)
 (hfr:g0 kn scope.names=true)
 (hsl:sub.length=N.length) (hs:∀x,foldedSetIterable al X.env x=pure x):
 DE K mg X ES (.ListComp c_ [⟨tg,al,[],0⟩] scope pos) (eLC I sub g tY F):=
 PE.imp (Jb M kn N sub hc hi hg he hM hkn bn hk hnc be hfr hsl hs) λσ H Q q=>by
  have:=zL (cf:=tY) σ H Q q
  obtain⟨ρ,h,ae,w,re,p⟩:=this
  refine⟨ρ,h,ae,w,re,p.imp λit h1 ρ1 H1 l1 w1 k J hJ=>?_⟩
  obtain⟨W,w0,tn⟩:=k J hJ
  refine⟨W,w0,λi m ys σ2 H2 hW=>?_⟩
  rcases tn i m ys σ2 H2 hW with z |⟨go,hl,Nx,hN,st⟩
  ·exact .inl z
  ·refine .inr ⟨go,hl,Nx,hN,λx H' hy=>?_⟩
   obtain⟨ρ3,h3,ae3,d3,w3,re3,rd3,p3⟩:=st x H' hy
   refine⟨ρ3,h3,ae3,d3,w3,re3,rd3,p3.imp λae4 h4 ρ4 H4 l4 w4 k4 σ4 re4=>?_⟩
   obtain⟨ρ5,h5,ae5,w5,re5,p5⟩:=k4 σ4 re4
   exact p5 ρ5 _ Le.refl w5
def GV(σ:St)(H:Hp)(Q:VK)(q:rdE K mg ES (eLC I sub g tY F) σ H Q):iO (rdI K mg ES I) sub (rdG K mg (λ_=>E0) g) xY (rdE K mg (λ_=>E0) F) σ H Q:=by
 have:=zL (cf:=tY) σ H Q q
 obtain⟨ρ,h,ae,w,re,p⟩:=this
 refine⟨ρ,h,ae,w,re,p.imp λit h1 ρ1 H1 l1 w1 k J hJ=>?_⟩
 obtain⟨W,w0,tn⟩:=k J hJ
 refine⟨W,w0,λi m ys σ2 H2 hW=>?_⟩
 rcases tn i m ys σ2 H2 hW with z |⟨go,hl,Nx,hN,st⟩
 ·exact .inl z
 ·refine .inr ⟨go,hl,Nx,hN,λx H' hy=>?_⟩
  obtain⟨ρ3,h3,ae3,d3,w3,re3,rd3,p3⟩:=st x H' hy
  refine⟨ρ3,h3,ae3,d3,w3,re3,rd3,p3.imp λae4 h4 ρ4 H4 l4 w4 k4 σ4 re4=>?_⟩
  obtain⟨ρ5,h5,ae5,w5,re5,p5⟩:=k4 σ4 re4
  exact p5 ρ5 _ Le.refl w5
def AB(ht:∀σ H Q,rdE K mg ES F σ H Q->t σ H Q)(De:Ends)(σ:St)(H:Hp)(q:rdS K mg ES (fJ F (gN i)) De σ H):qP t (lX i) De σ H:=by
 obtain⟨ρ,h,ae,w,re,p⟩:=q
 exact ht σ H _ ⟨ρ,h,ae,w,re,cp p re λd h1 ρ1 H1 l1 w1 re1 p1 v rv=>gD p1 w1 (re1.set i rv)⟩
def HB(M:List Str)(kn:List (Str×NameKind))(N:List Str)(sub:Nd)
 (hc:X.calm=true) (hN:X.N.Nodup) (hix:X.N[iT]?=some xT) (hxl:Loc X.env.scope xT) (hi:DI K mg X ES tg al I)
 (hg:∀cl C s₂ H fp,DG K mg (aQ X N scope cl C s₂ H fp) (λ_=>E0) tg g) (he:∀cl C s₂ H fp,DE K mg (aQ X N scope cl C s₂ H fp) (λ_=>E0) c_ F)
 (hsw:swapsWith (.ListComp c_ [⟨tg,al,[],0⟩] scope pos) (some (.Name xT px)) spos.line X.env=pure true)
 (hM:X.N=M) (hkn:X.env.scope.names=kn) (bn:fy M scope.names sub N=true)
 (hk:scope.kind=.function) (hnc:∀x∈scope.names,x.2 ≠ .cell) (be:∀x∈scope.names,x.2=.local->scope.names.lookup x.1=some .local)
 (hfr:g0 kn scope.names=true)
 (hsl:sub.length=N.length) (hs:∀x,foldedSetIterable al X.env x=pure x) (hf:X.fn xT=true\/X.env.scope.names.lookup xT=some .local):
 DS K mg X ES (.Assign [.Name xT px] (.ListComp c_ [⟨tg,al,[],0⟩] scope pos) spos) (fJ (eLC I sub g tY F) (gN iT)):=
 PS.imp (HE M kn N sub hc hN hix hxl hi hg he hsw hM hkn bn hk hnc be hfr hsl hs hf) (AB GV)
end
def whN(c:MT)(B:MS):Nat->MS
 |0,_,_=>.stuck
 |k+1,ae,h=>(c ae h).toS ae λb h1=>if b=true then (B ae h1).loop (whN c B k) else .nx ae h1
open Classical in
def sWh(c:MT)(B:MS):MS:=λae h=>if q:∃k,whN c B k ae h ≠ .stuck then whN c B q.choose ae h else .stuck
theorem kR:∀{k:Nat}{ae:AE}{h:AH},whN c B k ae h ≠ .stuck->whN c B (k+1) ae h=whN c B k ae h
 |0,_,_,q=>absurd rfl q
 |
  k+1,ae,h,q=>by
  have e1:whN c B (k+2) ae h=(c ae h).toS ae λb h1=>if b=true then (B ae h1).loop (whN c B (k+1)) else .nx ae h1:=rfl
  have e2:whN c B (k+1) ae h=(c ae h).toS ae λb h1=>if b=true then (B ae h1).loop (whN c B k) else .nx ae h1:=rfl
  rw[e2] at q
  rw[e1,e2]
  cases r:c ae h with
  |exc _ _=>rfl
  |stuck=>rfl
  |
   ok b h1=>
   rw[r] at q
   cases b with
   |false=>rfl
   |
    true=>
    have q':(B ae h1).loop (whN c B k) ≠ .stuck:=q
    show (B ae h1).loop (whN c B (k+1))=(B ae h1).loop (whN c B k)
    cases s:B ae h1 with
    |nx a2 h2=>rw[s] at q';exact kR q'
    |ct a2 h2=>rw[s] at q';exact kR q'
    |_=>rfl
def wq(q:whN c B k ae h ≠ .stuck)(hj:k<=j):whN c B j ae h=whN c B k ae h:=by
 induction hj with
 |refl=>rfl
 |step _ ih=>rw[kR (by rw[ih];exact q),ih]
def wA(q:whN c B k ae h ≠ .stuck):sWh c B ae h=whN c B k ae h:=by
 have hq:∃k,whN c B k ae h ≠ .stuck:=⟨k,q⟩
 unfold sWh
 rw[dif_pos hq]
 rcases Nat.le_total hq.choose k with z |z
 ·exact (wq hq.choose_spec z).symm
 ·exact wq q z
section
variable{K:W.Frag}{mg:Na}{X:Cx}{ES:St->XK}{c:Expr}{cf:MT}{U:MS}{sts:List Stmt}{pos:Pos}
def yD(hp:PassesOwn (model X.prog X.w) X.A X.env X.xe)(hc:DT K mg X ES c cf)(hb:DSs K mg X ES sts U):DS K mg X ES (.While c sts [] pos) (sWh cf U):=by
 refine PS.imp (zE hp hc hb) λDe σ H q_=>q_.el λρ h ae w re p=>?_
 have hx:∃k,whN cf U k ae h ≠ .stuck:=Lx λz=>by
  unfold sWh at p
  rw[dif_neg z] at p
  exact p.elim
 obtain⟨k,hk⟩:=hx
 rw[wA hk] at p
 refine⟨λm σ2 H2=>∃ρ2 h2 ae2,Wd K mg ρ2 h2 H2/\RelE K mg ρ2 H2 ae2 σ2/\PostS K mg ρ2 H2 De ES (whN cf U m ae2 h2),⟨k,ρ,h,ae,w,re,p⟩,?_⟩
 rintro m σ2 H2 ⟨ρ2,h2,ae2,w2,re2,p2⟩
 cases m with
 |zero=>exact p2.elim
 |
  succ m=>
  refine⟨ρ2,h2,ae2,w2,re2,cp p2 re2 λb h3 ρ3 H3 l3 w3 re3 p3=>?_⟩
  cases b with
  |true=>exact⟨λσ' H'=>∃ρ4 h4 ae4,Wd K mg ρ4 h4 H'/\RelE K mg ρ4 H' ae4 σ'/\PostS K mg ρ4 H' De ES (whN cf U m ae4 h4),λσ' H' q=>⟨m,Nat.lt_succ_self _,q⟩,ρ3,h3,ae2,w3,re3,oQ p3 λae4 h4 ρ4 H4 σ4 l4 w4 re4 p4=>⟨ρ4,h4,ae4,w4,re4,p4⟩⟩
  |false=>exact gD p3 w3 re3
end
def qf:Fn:=λds h=>match ds with
 | [d]=>match eQ h d with
  |some xs=>.ok (.int xs.length) h
  |none=>match d with
   |.str z=>if z.length<=16777216 then .ok (.int z.length) h else .stuck
   |_=>.stuck
 |_=>.stuck
def tD:Fn:=λds h=>match ds with
 | [.int i]=>.ok (.int (if i<0 then -i else i)) h
 |_=>.stuck
def oH:Fn:=λds h=>match ds with
 | [.int i,.int j]=>.ok (.int (if j>i then j else i)) h
 |_=>.stuck
def oG:Fn:=λds h=>match ds with
 | [.int i,.int j]=>.ok (.int (if j<i then j else i)) h
 |_=>.stuck
noncomputable def fD:List D->Option (List Bool)
 | []=>some []
 |.bl b::r=>(fD r).map (b :: ·)
 |_=>none
noncomputable def fE:List D->Option (List Int)
 | []=>some []
 |.int b::r=>(fE r).map (b :: ·)
 |_=>none
theorem kd:∀{ds:List D}{bs:List Bool},fD ds=some bs->ds=bs.map D.bl
 | [],bs,e=>by cases e;rfl
 |
  .bl b::r,bs,e=>by
  have e':(fD r).map (b :: ·)=some bs:=e
  cases q:fD r with
  |none=>rw[q] at e';cases e'
  |some z=>rw[q] at e';cases e';rw[kd q];rfl
theorem nz:∀{ds:List D}{bs:List Int},fE ds=some bs->ds=bs.map D.int
 | [],bs,e=>by cases e;rfl
 |
  .int b::r,bs,e=>by
  have e':(fE r).map (b :: ·)=some bs:=e
  cases q:fE r with
  |none=>rw[q] at e';cases e'
  |some z=>rw[q] at e';cases e';rw[nz q];rfl
def pY:Fn:=λds h=>match ds with
 | [.ref n]=>match (aT h n).bind fD with
  |some bs=>.ok (.bl (bs.all id)) h
  |none=>.stuck
 |_=>.stuck
def qy:Fn:=λds h=>match ds with
 | [.ref n]=>match (aT h n).bind fE with
  |some ns=>.ok (.int ns.sum) h
  |none=>.stuck
 |_=>.stuck
def lH:Fn:=λds h=>match ds with
 | [d]=>match eQ h d with
  |some xs=>.ok (.ref h.length) (h++[.lst xs])
  |none=>.stuck
 |_=>.stuck
def tN:Fn:=λds h=>match ds with
 | [.int i]=>.ok (.int i) h
 | [.bl b]=>.ok (.int (if b then 1 else 0)) h
 |_=>.stuck
section
variable{K:W.Frag}{mg:Na}{X:Cx}
def Hq:bg K mg (λxs H Q=>(∃p ys,xs=[.ref p]/\(SqL K H p ys\/SqT K H p ys)/\Q (.int ys.length) H)\/(∃z,xs=[.str z]/\z.length<=sizeLine/\Q (.int z.length) H)) qf:=λρ h H ds vs Q E w rs p=>by
 unfold qf at p
 split at p
 ·cases
   rs with
  |
   cons r rs=>
   cases rs
   split at p
   ·rename_i xs e
    obtain⟨pa,vs,rfl,hq,rs⟩:=gW w r e
    exact .inl ⟨_,_,rfl,hq,by rw[<- rs.len];exact aJ w (.int _) p⟩
   ·split at p
    ·cases r
     split at p
     ·rename_i hl;exact .inr ⟨_,rfl,hl,aJ w (.int _) p⟩
     ·exact p.elim
    ·exact p.elim
 ·exact p.elim
def Jt(h:X.K=K):CallR X (.builtin "len") (λxs H Q=>(∃p ys,xs=[.ref p]/\(SqL K H p ys\/SqT K H p ys)/\Q (.int ys.length) H)\/(∃z,xs=[.str z]/\z.length<=sizeLine/\Q (.int z.length) H)):=by subst h;exact oZ.or qU
def Gb:bg K mg (λxs H Q=>∃i,xs=[.int i]/\Q (.int (if i<0 then -i else i)) H) tD:=λρ h H ds vs Q E w rs p=>by
 unfold tD at p
 split at p
 ·cases rs with
  |cons r rs=>cases r;cases rs;exact⟨_,rfl,aJ w (.int _) p⟩
 ·exact p.elim
def B0:bg K mg (λxs H Q=>∃i j,xs=[.int i,.int j]/\Q (.int (if j>i then j else i)) H) oH:=λρ h H ds vs Q E w rs p=>by
 unfold oH at p
 split at p
 ·cases rs with
  |cons r rs=>cases rs with |cons r2 rs=>cases r;cases r2;cases rs;exact⟨_,_,rfl,aJ w (.int _) p⟩
 ·exact p.elim
def BE:bg K mg (λxs H Q=>∃i j,xs=[.int i,.int j]/\Q (.int (if j<i then j else i)) H) oG:=λρ h H ds vs Q E w rs p=>by
 unfold oG at p
 split at p
 ·cases rs with
  |cons r rs=>cases rs with |cons r2 rs=>cases r;cases r2;cases rs;exact⟨_,_,rfl,aJ w (.int _) p⟩
 ·exact p.elim
def Eg:bg K mg (λxs H Q=>∃(a:Addr) (bs:List Bool),xs=[.ref a]/\SqL K H a (bs.map V.bl)/\Q (.bl (bs.all id)) H) pY:=λρ h H ds vs Q E w rs p=>by
 unfold pY at p
 split at p
 ·cases
   rs with
  |
   cons r rs=>
   cases r with
   |
    ref ea=>
    cases rs
    split at p
    ·rename_i bs e
     obtain⟨xs,q,e2⟩:=Kz.mp e
     ·obtain⟨vs,h1,h2⟩:=bz w ea q
      rw[kd e2] at h2
      rw[h2.bls] at h1
      exact⟨_,bs,rfl,h1,aJ w (.bl _) p⟩
    ·exact p.elim
 ·exact p.elim
def CW:bg K mg (λxs H Q=>∃(a:Addr) (ns:List Int),xs=[.ref a]/\SqL K H a (ns.map V.int)/\Q (.int ns.sum) H) qy:=λρ h H ds vs Q E w rs p=>by
 unfold qy at p
 split at p
 ·cases
   rs with
  |
   cons r rs=>
   cases r with
   |
    ref ea=>
    cases rs
    split at p
    ·rename_i bs e
     obtain⟨xs,q,e2⟩:=Kz.mp e
     ·obtain⟨vs,h1,h2⟩:=bz w ea q
      rw[nz e2] at h2
      rw[h2.ints] at h1
      exact⟨_,bs,rfl,h1,aJ w (.int _) p⟩
    ·exact p.elim
 ·exact p.elim
def BJ:bg K mg (λxs H Q=>∃p ys,xs=[.ref p]/\(SqL K H p ys\/SqT K H p ys)/\∀l,H l=none->Q (.ref l) (upd H l (.lst ys))) lH:=λρ h H ds vs Q E w rs p=>by
 unfold lH at p
 split at p
 ·cases rs with
  |
   cons r rs=>
   cases rs
   split at p
   ·rename_i xs e
    obtain⟨pa,vs,rfl,hq,rs⟩:=gW w r e
    exact⟨_,_,rfl,hq,λl hl=>d8 w rs hl p⟩
   ·exact p.elim
 ·exact p.elim
def G0:bg K mg (λxs H Q=>(∃i,xs=[.int i]/\Q (.int i) H)\/∃k,xs=[.bl k]/\Q (.int (if k then 1 else 0)) H) tN:=λρ h H ds vs Q E w rs p=>by
 unfold tN at p
 split at p
 ·cases rs with
  |cons r rs=>cases r;cases rs;exact .inl ⟨_,rfl,aJ w (.int _) p⟩
 ·cases rs with
  |cons r rs=>cases r;cases rs;exact .inr ⟨_,rfl,aJ w (.int _) p⟩
 ·exact p.elim
def D2(h:X.K=K):CallR X (.type "list") (λxs H Q=>∃p ys,xs=[.ref p]/\(SqL K H p ys\/SqT K H p ys)/\∀l,H l=none->Q (.ref l) (upd H l (.lst ys))):=by subst h;exact qx
end
inductive Cl where
 |b (n:String) |o (x:Str)
 deriving DecidableEq
def tyD(h:AH):D->Option Cl
 |.non=>some (.b "NoneType")
 |.bl _=>some (.b "bool")
 |.int _=>some (.b "int")
 |.str _=>some (.b "str")
 |.tup _=>some (.b "tuple")
 |.exc x=>some (.o x)
 |.ref n=>match h[n]? with
  |some (.lst _)=>some (.b "list")
  |some (.fz _)=>some (.b "list")
  |some (.dct _)=>some (.b "dict")
  |_=>none
 |_=>none
noncomputable def clD:D->Option Cl
 |.ty n=>some (.b n)
 |.glb x=>some (.o x)
 |_=>none
def ClV(mg:Na):Cl->Value->Prop
 |.b n,v=>v=.type n
 |.o x,v=>∃a,v=.ref a/\mg x=some (.ref a)
abbrev iQ:=List (Cl×Cl×Bool)
structure KitsOk(K:W.Frag)(mg:Na)(kt:iQ):Prop where
 one:∀p∈kt,∀t v,ClV mg p.1 t->ClV mg p.2.1 v->W.kitOne K t v=some p.2.2
 xc:∀p∈kt,∀x C,p.1=.o x->mg x=some (.ref C)->XCls K C
def kit(kt:iQ)(t c:Cl):Option Bool:=(kt.find? λp=>decide (p.1=t)&&decide (p.2.1=c)).map (·.2.2)
def eX(kt:iQ)(t:Cl):List Cl->Option Bool
 | []=>some false
 |c::r=>match kit kt t c with
  |some true=>some true
  |some false=>eX kt t r
  |none=>none
def pC(kt:iQ):Fn:=λds h=>match ds with
 | [d,c]=>match tyD h d with
  |some t=>match c with
   |.tup cs=>match cs.mapM clD with
    |some (c0::cr)=>match eX kt t (c0::cr),kit kt t c0 with
     |some b,some _=>.ok (.bl b) h
     |_,_=>.stuck
    |_=>.stuck
   |c=>match clD c with
    |some cl=>match kit kt t cl with
     |some b=>.ok (.bl b) h
     |none=>.stuck
    |none=>.stuck
  |none=>.stuck
 |_=>.stuck
def mC(e:kit kt t c=some b):(t,c,b)∈kt:=by
 unfold kit at e
 cases q:kt.find? (λp=>decide (p.1=t)&&decide (p.2.1=c)) with
 |none=>rw[q] at e;cases e
 |
  some p=>
  rw[q] at e
  have h1:=List.find?_some q
  have h2:=List.mem_of_find?_eq_some q
  simp only[k_,Lw] at h1
  obtain⟨p1,p2,p3⟩:=p
  have e3:p3=b:=z_ e
  obtain⟨rfl,rfl⟩:=h1
  subst e3
  exact h2
section
variable{K:W.Frag}{mg:Na}{X:Cx}{ρ:List Addr}{H:Hp}{h:AH}
def sC(ok:KitsOk K mg kt)(w:Wd K mg ρ h H)(r:RelD K mg ρ H d v)(e:tyD h d=some t)(k:kit kt t c=some b):∃tv,TyX K H v tv/\ClV mg t tv:=by
 cases r with
 |non=>cases e;exact⟨_,.of .non,rfl⟩
 |bl=>cases e;exact⟨_,.of (.bl _),rfl⟩
 |int=>cases e;exact⟨_,.of (.int _),rfl⟩
 |str=>cases e;exact⟨_,.of (.str _),rfl⟩
 |tup q rs=>cases e;exact⟨_,.sqT q,rfl⟩
 |
  exc m ex=>
  cases e
  exact⟨_,.exc ex (ok.xc _ (mC k) _ _ rfl m),_,rfl,m⟩
 |
  ref ea=>
  unfold tyD at e
  dsimp only at e
  split at e
  ·rename_i e1;cases e;obtain⟨vs,h1,h2⟩:=w.ob _ _ _ ea e1;exact⟨_,.of (.lst h1),rfl⟩
  ·rename_i e1;cases e;obtain⟨o,vs,h1,h2⟩:=w.ob _ _ _ ea e1;exact⟨_,.of (.frz h1),rfl⟩
  ·rename_i e1;cases e;obtain⟨ws,h1,_⟩:=w.ob _ _ _ ea e1;exact⟨_,.of (.dK h1),rfl⟩
  ·cases e
 |_=>cases e
def r9(r:RelD K mg ρ H d v)(e:clD d=some c):∃cv,eF v=some cv/\ClV mg c cv:=by
 cases r with
 |ty n=>cases e;exact⟨_,rfl,rfl⟩
 |glb m=>cases e;exact⟨_,rfl,_,rfl,m⟩
 |_=>cases e
def yJ:∀{ds:List D}{vs:List V}{cs:List Cl},RelDs K mg ρ H ds vs->ds.mapM clD=some cs->∃cvs,vs.mapM eF=some cvs/\Paired (ClV mg) cs cvs:=by
 intro ds
 induction ds with
 |
  nil=>
  intro vs cs r e
  cases r
  have e':some ([]:List Cl)=some cs:=e
  cases e';exact⟨[],rfl,.nil⟩
 |
  cons d ds ih=>
  intro vs cs r e
  cases r with
  |
   cons r rr=>
   rw[LR] at e
   cases q:clD d with
   |none=>rw[q] at e;cases e
   |
    some c=>
    rw[q] at e
    cases q2:ds.mapM clD with
    |none=>rw[q2] at e;cases e
    |
     some cs'=>
     rw[q2] at e
     have e':some (c::cs')=some cs:=e
     cases e'
     obtain⟨cv,h1,h2⟩:=r9 r q
     obtain⟨cvs,h3,h4⟩:=ih rr q2
     refine⟨cv::cvs,?_,.cons h2 h4⟩
     rw[LR,h1,h3];rfl
def wj(ok:KitsOk K mg kt)(ht:ClV mg t tv):∀{cs:List Cl}{cvs:List Value}{b:Bool},Paired (ClV mg) cs cvs->eX kt t cs=some b->W.kitAny K tv cvs=some b:=by
 intro cs
 induction cs with
 |
  nil=>
  intro cvs b r e
  cases r
  cases e;rfl
 |
  cons c cs ih=>
  intro cvs b r e
  cases r with
  |
   cons r rr=>
   unfold eX at e
   unfold W.kitAny
   cases q:kit kt t c with
   |none=>rw[q] at e;cases e
   |
    some z=>
    rw[q] at e
    rw[ok.one _ (mC q) _ _ ht r]
    cases z with
    |true=>exact e
    |false=>exact ih rr e
def uS:CallR X (.builtin "isinstance") (λxs H Q=>∃x tp cs t vs b,xs=[x,.ref tp]/\SqT X.K H tp cs/\TyX X.K H x t/\cs.mapM eF=some vs/\W.kitAny X.K t vs=some b/\Q (.bl b) H):=by
 intro pins s σ H xs us Q I r h
 obtain⟨x,tp,cs,t,vs,b,rfl,ht,ty,hc,hk,q⟩:=h
 obtain⟨u,w',rfl,rx,rc⟩:=lJ r
 cases rc
 obtain⟨its,rv,⟨o,e,c,n,d⟩,_⟩:=I.tuple ht
 obtain rfl:=nI hc rv
 obtain⟨Hh,Z,p,hne⟩:=rX I rx ty
 obtain⟨oc,od,odt,osl⟩:=o
 have c':oc=.type "tuple":=c
 have d':odt=.seq its.toArray n:=d
 subst c' d'
 exact W.kia_tup Z I.kIn p e hk hne λtk=>⟨.bl b,H,I.tok _,rfl,q⟩
def HX(hK:X.K=K):CallR X (.builtin "isinstance") (λxs H Q=>(∃x c t v b,xs=[x,c]/\TyX K H x t/\eF c=some v/\W.kitOne K t v=some b/\Q (.bl b) H)\/
 (∃x tp cs t vs b,xs=[x,.ref tp]/\SqT K H tp cs/\TyX K H x t/\cs.mapM eF=some vs/\W.kitAny K t vs=some b/\Q (.bl b) H)):=by subst hK;exact yM.or uS
def Hc(ok:KitsOk K mg kt):bg K mg (λxs H Q=>(∃x c t v b,xs=[x,c]/\TyX K H x t/\eF c=some v/\W.kitOne K t v=some b/\Q (.bl b) H)\/
 (∃x tp cs t vs b,xs=[x,.ref tp]/\SqT K H tp cs/\TyX K H x t/\cs.mapM eF=some vs/\W.kitAny K t vs=some b/\Q (.bl b) H)) (pC kt):=λρ h H ds vs Q E w rs p=>by
 unfold pC at p
 split at p
 ·cases
   rs with
  |
   cons r rs=>
   cases rs with
   |
    cons r2 rs=>
    cases rs
    split at p
    ·rename_i t e1
     split at p
     ·split
       at p
      ·rename_i cs c0 cr e2
       split at p
       ·rename_i b b' e3 e4
        cases r2 with
        |
         tup q rs2=>
         obtain⟨tv,h1,h2⟩:=sC ok w r e1 e4
         obtain⟨cvs,h3,h4⟩:=yJ rs2 e2
         exact .inr ⟨_,_,_,tv,cvs,b,rfl,q,h1,h3,wj ok h2 h4 e3,aJ w (.bl _) p⟩
       ·exact p.elim
      ·exact p.elim
     ·split at p
      ·rename_i cl e2
       split at p
       ·rename_i b e3
        obtain⟨tv,h1,h2⟩:=sC ok w r e1 e3
        obtain⟨cv,h3,h4⟩:=r9 r2 e2
        exact .inl ⟨_,_,tv,cv,b,rfl,h1,h3,ok.one _ (mC e3) _ _ h2 h4,aJ w (.bl _) p⟩
       ·exact p.elim
      ·exact p.elim
    ·exact p.elim
 ·exact p.elim
end
def MtD(K:W.Frag)(mg:Na)(r:V->List V->Hp->VK->Prop)(g:D->List D->AH->R D):Prop:=∀ρ h H dx ds x vs Q E,Wd K mg ρ h H->RelD K mg ρ H dx x->RelDs K mg ρ H ds vs->c7 K mg ρ H Q E (g dx ds h)->r x vs H Q
def jE(h:AH):D->Bool
 |.ref n=>(aT h n).isSome
 |_=>false
def eM(g:D->List D->AH->R D)(F:ME)(A:MA):ME:=λae h=>(F ae h).bind λx h1=>if jE h1 x=true then (A ae h1).bind λds h2=>g x ds h2 else .stuck
def eM0(g:D->List D->AH->R D)(F:ME):ME:=λae h=>(F ae h).bind λx h1=>if jE h1 x=true then g x [] h1 else .stuck
section
variable{K:W.Frag}{mg:Na}{X:Cx}{ES:St->XK}{o e:Expr}{es:List Expr}{F G:ME}{A:MA}{pos:Pos}
def nA(w:Wd K mg ρ h H)(r:RelD K mg ρ H d v)(q:jE h d=true):tyV K "list" v H:=by
 cases r with
 |
  ref ea=>
  obtain⟨xs,e⟩:=KZ.mp q
  obtain⟨vs,h1,_⟩:=bz w ea e
  exact .inl ⟨rfl,vs,h1⟩
 |_=>cases q
def de_m{name:Str}{id:String}{apos cpos:Pos}{r:V->List V->Hp->VK->Prop}{g:D->List D->AH->R D}(hK:X.K=K)(slot:Slot "list" name id)(hty:typeOf (.builtin id)=pure (.type "method_descriptor"))(hm:MtM X id r)(hd:MtD K mg r g)(ho:DE K mg X ES o F)(ha:DA K mg X ES (e::es) A)
 (e_:attributeBase o name X.env (eval o X.env)=eval o X.env)
 (hfew:((backTo cpos (starEach (e::es) X.env)).all (λx=>!x.1)&&(backToKw cpos (keywordEach [] X.env)).all (λx=>x.1.isSome)
  && decide ((e::es).length+([]:List Keyword).length+(if ([]:List Keyword).isEmpty then 0 else 1)<30))=true)
 (ge:(apos.endLine==cpos.line)=true) (hs:starEach (e::es) X.env=(false,eval e X.env)::starEach es X.env) (ce:(backTo cpos (starEach es X.env)).any (·.1)=false):
 DE K mg X ES (.Call (.Attribute o name apos) (e::es) [] cpos) (eM g F A):=by
 subst hK
 refine PE.imp (HF PySem.F.plainAttrs_list slot hty hm ho ha e_ hfew ge hs ce) λσ H Q q_=>q_.el λρ h ae w re p=>⟨ρ,h,ae,w,re,p.bind.imp λdx h1 ρ1 H1 l1 w1 p1 x rx=>?_⟩
 split at p1
 ·rename_i hl
  exact⟨nA w1 rx hl,ρ1,h1,ae,w1,re.mono l1,p1.bind.imp λds h2 ρ2 H2 l2 w2 p2 vs rs=>hd ρ2 h2 H2 dx ds x vs Q _ w2 (rx.mono l2) rs p2⟩
 ·exact p1.elim
def Jx{name:Str}{id:String}{apos cpos:Pos}{r:V->List V->Hp->VK->Prop}{g:D->List D->AH->R D}(hK:X.K=K)(slot:Slot "list" name id)(hty:typeOf (.builtin id)=pure (.type "method_descriptor"))(hm:MtM X id r)(hd:MtD K mg r g)(ho:DE K mg X ES o F)
 (e_:attributeBase o name X.env (eval o X.env)=eval o X.env) (ge:(apos.endLine==cpos.line)=true):DE K mg X ES (.Call (.Attribute o name apos) [] [] cpos) (eM0 g F):=by
 subst hK
 refine PE.imp (Gz PySem.F.plainAttrs_list slot hty hm ho e_ ge) λσ H Q q_=>q_.el λρ h ae w re p=>⟨ρ,h,ae,w,re,p.bind.imp λdx h1 ρ1 H1 l1 w1 p1 x rx=>?_⟩
 split at p1
 ·rename_i hl
  exact⟨nA w1 rx hl,hd ρ1 h1 H1 dx [] x [] Q _ w1 rx .nil p1⟩
 ·exact p1.elim
end
def iH(h:AH)(d:D)(f:Nat->List D->R D):R D:=match d with
 |.ref n=>match h[n]? with
  |some (.lst xs)=>f n xs
  |_=>.stuck
 |_=>.stuck
def jT:D->List D->AH->R D:=λx ds h=>iH h x λn xs=>match ds with
 | [d]=>if xs.length<16777216 then .ok .non (h.set n (.lst (xs++[d]))) else .stuck
 |_=>.stuck
def uG:D->List D->AH->R D:=λx ds h=>iH h x λn xs=>match ds with
 | []=>match xs[xs.length-1]? with
  |some d=>.ok d (h.set n (.lst xs.dropLast))
  |none=>.stuck
 |_=>.stuck
section
variable{K:W.Frag}{mg:Na}{X:Cx}{ρ:List Addr}{H:Hp}{h:AH}
def jk(w:Wd K mg ρ h H)(r:RelD K mg ρ H d v)(p:c7 K mg ρ H Q E (iH h d f)):
 ∃n xs a vs,d=.ref n/\h[n]?=some (.lst xs)/\ρ[n]?=some a/\v=.ref a/\H a=some (.lst vs)/\RelDs K mg ρ H xs vs/\c7 K mg ρ H Q E (f n xs):=by
 unfold iH at p
 split at p
 ·cases r with
  |
   ref ea=>
   split at p
   ·rename_i n xs e
    obtain⟨vs,h1,h2⟩:=w.ob _ _ _ ea e
    exact⟨_,_,_,vs,rfl,e,ea,rfl,h1,h2,p⟩
   ·exact p.elim
 ·exact p.elim
def kO(w:Wd K mg ρ h H)(ea:ρ[n]?=some a)(e:H a=some (.lst vs))(rs:RelDs K mg ρ H ys ws)(rd:RelD K mg ρ H d v)(p:c7 K mg ρ H Q E (.ok d (h.set n (.lst ys)))):Q v (upd H a (.lst ws)):=by
 have l:Le ρ H ρ (upd H a (.lst ws)):=tK e oy
 exact p ρ _ l (w.write ea e oy ⟨ws,cJ,rs.mono l⟩) v (rd.mono l)
def vd:MtD K mg nq jT:=λρ h H dx ds x vs Q E w rx rs p=>by
 obtain⟨n,xs,a,us,rfl,e,ea,rfl,h1,h2,p⟩:=jk w rx p
 split at p
 ·cases rs with
  |
   cons r rs=>
   cases rs
   split at p
   ·rename_i hl
    exact⟨a,us,_,rfl,rfl,h1,by rw[<- h2.len];exact hl,kO w ea h1 (h2.append (.cons r .nil)) .non p⟩
   ·exact p.elim
 ·exact p.elim
def DR:MtD K mg yn uG:=λρ h H dx ds x vs Q E w rx rs p=>by
 obtain⟨n,xs,a,us,rfl,e,ea,rfl,h1,h2,p⟩:=jk w rx p
 split at p
 ·cases rs
  split at p
  ·rename_i d ed
   obtain⟨v,ev,rv⟩:=h2.getD ed
   rw[h2.len] at ev
   refine⟨a,us,v,rfl,rfl,h1,ev,kO w ea h1 ?_ rv p⟩
   rw[LQ,LQ,h2.len]
   exact h2.take _
  ·exact p.elim
 ·exact p.elim
end
def wL(o i v:D)(h:AH):R Unit:=match o,i with
 |.ref n,.int k=>match h[n]? with
  |some (.lst xs)=>match ixN xs.length k with
   |some j=>.ok () (h.set n (.lst (xs.set j v)))
   |none=>.stuck
  |_=>.stuck
 |_,_=>.stuck
section
variable{K:W.Frag}{mg:Na}{X:Cx}{ES:St->XK}{o i:Expr}{F G:ME}{pos:Pos}
def sE:uo K mg tU wL:=λρ h H do_ di dv o i v Q E w ro ri rv p=>by
 unfold wL at p
 split at p
 ·cases
   ro with
  |
   ref ea=>
   cases ri
   split at p
   ·rename_i n k xs e
    split at p
    ·rename_i j ej
     obtain⟨vs,h1,h2⟩:=w.ob _ _ _ ea e
     have l:Le ρ H ρ (upd H _ (.lst (vs.set j v))):=tK h1 oy
     exact⟨_,vs,_,j,rfl,rfl,h1,by rw[<- h2.len];exact ej,p ρ _ l (w.write ea h1 oy ⟨_,cJ,(h2.set rv j).mono l⟩)⟩
    ·exact p.elim
   ·exact p.elim
 ·exact p.elim
def u4(ho:DE K mg X ES o F)(hi:DE K mg X ES i G)(hs:uL X t)(hd:uo K mg t f)
 (ha:∀v,assign (.Subscript o i pos) X.env v=(do
  let ov <- holding [v] (eval o X.env)
  let iv <- holding [v,ov] (eval i X.env)
  standAt pos
  holding [v,ov,iv] (setItem ov iv v)
  release [v,ov,iv] [])):DG K mg X ES (.Subscript o i pos) (gS F G f):=
 PG.imp (GQ ho hi hs ha) λv σ H Q q_=>q_.el λρ h ae d w re rd p=>
  ⟨ρ,h,ae,w,re,p.bind.imp λdo_ h1 ρ1 H1 l1 w1 p1 o' ro=>⟨ρ1,h1,ae,w1,re.mono l1,p1.bind.imp λdi h2 ρ2 H2 l2 w2 p2 i' ri=>
   hd ρ2 h2 H2 do_ di d o' i' v _ _ w2 (ro.mono l2) ri ((rd.mono l1).mono l2) (p2.bind.imp λ_ h3 ρ3 H3 l3 w3 p3=>p3 ρ3 H3 Le.refl w3 σ (((re.mono l1).mono l2).mono l3))⟩⟩
end
def cutD(xs:List D)(lo hi:Option Int):List D:=(xs.drop (HT.sIx xs.length 0 lo)).take (HT.sIx xs.length xs.length hi-HT.sIx xs.length 0 lo)
abbrev MO:=AE->AH->R (Option Int)
def tP:MO:=λ_ h=>.ok none h
def sV(F:ME):MO:=λae h=>(F ae h).bind λd h1=>match d with
 |.int i=>.ok (some i) h1
 |_=>.stuck
def gSl(x:D)(lo hi:Option Int)(h:AH):R D:=match x with
 |.tup xs=>if HT.sIx xs.length 0 lo=0/\HT.sIx xs.length xs.length hi=xs.length then .stuck else .ok (.tup (cutD xs lo hi)) h
 |.ref n=>match aT h n with
  |some xs=>.ok (.ref h.length) (h++[.lst (cutD xs lo hi)])
  |none=>.stuck
 |.kl xs=>.ok (.ref h.length) (h++[.lst (cutD xs lo hi)])
 |_=>.stuck
def eSl(F:ME)(L U:MO):ME:=λae h=>(F ae h).bind λx h1=>(L ae h1).bind λlo h2=>(U ae h2).bind λhi h3=>gSl x lo hi h3
section
variable{K:W.Frag}{mg:Na}{X:Cx}{ES:St->XK}{e:Expr}{F:ME}{L U:MO}{lo hi:Option Expr}{pos p2:Pos}
def rdO(K:W.Frag)(mg:Na)(ES:St->XK)(F:MO):TO:=λσ H Q=>∃ρ h ae,Wd K mg ρ h H/\RelE K mg ρ H ae σ/\PostG K mg ρ H (ES σ) (λo _ ρ' H'=>Q o H') (F ae h)
def DO(K:W.Frag)(mg:Na)(X:Cx)(ES:St->XK)(e:Option Expr)(F:MO):Prop:=PO X e (rdO K mg ES F)
def CJ:DO K mg X ES none tP:=PO.imp AR λσ H Q ⟨ρ,h,ae,w,re,p⟩=>p ρ H Le.refl w
def BN(he:DE K mg X ES e F):DO K mg X ES (some e) (sV F):=PO.imp (Bc he) λσ H Q ⟨ρ,h,ae,w,re,p⟩=>⟨ρ,h,ae,w,re,p.bind.imp λd h1 ρ1 H1 l1 w1 p1 v rv=>by
 split at p1
 ·cases rv;exact⟨_,rfl,p1 ρ1 H1 Le.refl w1⟩
 ·exact p1.elim⟩
def ng(r:RelDs K mg ρ H xs vs)(lo hi:Option Int):RelDs K mg ρ H (cutD xs lo hi) (jv vs lo hi):=by
 unfold cutD jv
 rw[<- r.len]
 exact (r.drop _).take _
def slK(h:X.K=K):SlR X (λx lo hi H Q=>rSlL K x lo hi H Q\/rSlT K x lo hi H Q):=by subst h;exact AW.or EI
def zH(hK:X.K=K)(he:DE K mg X ES e F)(hl:DO K mg X ES lo L)(hu:DO K mg X ES hi U):DE K mg X ES (.Subscript e (.Slice lo hi none p2) pos) (eSl F L U):=
 PE.imp (
  zb (slK hK) he hl hu) λσ H Q q_=>q_.el λρ h ae w re p=>⟨ρ,h,ae,w,re,p.bind.imp λd h1 ρ1 H1 l1 w1 p1 x rx=>⟨ρ1,h1,ae,w1,re.mono l1,p1.bind.imp λlo h2 ρ2 H2 l2 w2 p2=>⟨ρ2,h2,ae,w2,(re.mono l1).mono l2,p2.bind.imp λhi h3 ρ3 H3 l3 w3 p3=>by
  have rx3:=(rx.mono l2).mono l3
  unfold gSl at p3
  split at p3
  ·split at p3
   ·exact p3.elim
   ·rename_i hn
    cases rx3 with
    |tup q rs=>exact .inr ⟨_,_,rfl,q,by rw[<- rs.len];exact hn,λl hl=>kf w3 (ng rs lo hi) hl p3⟩
  ·split at p3
   ·rename_i xs e1
    cases rx3 with
    |
     ref ea=>
     obtain⟨vs,q,rs⟩:=bz w3 ea e1
     exact .inl ⟨_,_,rfl,q,λl hl=>d8 w3 (ng rs lo hi) hl p3⟩
   ·exact p3.elim
  ·cases rx3 with
   |kl q rs=>exact .inl ⟨_,_,rfl,.inr q,λl hl=>d8 w3 (ng rs lo hi) hl p3⟩
  ·exact p3.elim⟩⟩⟩
end
section
variable{K:W.Frag}{mg:Na}{X:Cx}{ES:St->XK}{a:Expr}{F:ME}
end
section
variable{X:Cx}{pins pins2 pn:Nb}{σ:St}{H:Hp}{s:Shared}{xe:Nc}
end
section
variable{K:W.Frag}{mg:Na}{X:Cx}{ES:St->XK}{x n:Str}{C:Addr}{i:Nat}{body suite:List Stmt}{b₀:Stmt}{B U:MS}{np hpos pos:Pos}{mro:List Str}
end
structure Script(h:AH)(d:D)(ns:List Int):Prop where
 form:(∃n,d=.ref n/\h[n]?=some (.fz (ns.map D.int)))\/d=.kl (ns.map D.int)
theorem iS{K:W.Frag}{mg:Na}{ρ:List Addr}{H:Hp}:∀(ns:List Int),RelDs K mg ρ H (ns.map D.int) (ns.map V.int)
 | []=>.nil
 |_::r=>.cons (.int _) (iS r)
def zm{P:Program}{w:World}{K:W.Frag}{mg:Na}{base:Heap}{x y:Str}{k:Nat}{S:Fn}(C:Callee P w K mg base x k [y] (spD K mg 1 S))
 (hS:∀(d:D) (h:AH) (ns:List Int),ns.length<=63->Script h d ns->∃h',S [d] h=.ok (.bl true) h'):Callee P w K mg base x k [y] (λvs H Q _=>∃(a:Addr) (ns:List Int),vs=[.ref a]/\nt H/\SqL K H a (ns.map V.int)/\ns.length<=63/\∀H',Q (.bl true) H'):=by
 refine C.imp λvs H Q E ⟨a,ns,e,hO,hq,hl,q⟩=>?_
 subst e
 rcases hq with (hq |⟨o,hq⟩) |hq
 ·rcases hO a with z |⟨o,xs,z⟩ <;> rw[hq] at z <;> cases z
 ·obtain⟨h',e⟩:=hS (.ref 0) [.fz (ns.map D.int)] ns hl ⟨.inl ⟨0,rfl,rfl⟩⟩
  refine⟨[a],[.fz (ns.map D.int)],[.ref 0],⟨rfl,by simp,λn b ob e1 e2=>?_⟩,.cons (.ref rfl) .nil,rfl,?_⟩
  ·cases n with
   |zero=>cases e1;cases e2;exact⟨o,_,hq,iS ns⟩
   |succ n=>simp at e1
  ·rw[e]
   exact λρ' H' l' w' v rv=>by cases rv;exact q H'
 ·obtain⟨h',e⟩:=hS (.kl (ns.map D.int)) [] ns hl ⟨.inr rfl⟩
  refine⟨[],[],[.kl (ns.map D.int)],⟨rfl,by simp,λn b ob e1 e2=>by simp at e1⟩,.cons (.kl hq (iS ns)) .nil,rfl,?_⟩
  rw[e]
  exact λρ' H' l' w' v rv=>by cases rv;exact q H'
def walk_lawD{l:W.OpenLaw}{q:Program}{loose:List Str}{XP:(Str->Option Value)->Heap->Prop}{YP:World->Heap->Prop}{d:DefRec}{K:Params->W.Frag}{x:Str}{k:Nat}(hn:l.most=some 63)(hdf:d.params.defaults=[])(hr:Room k callerA)
 (hY:∀(w:World) (h:Heap),YP w h->(K w.params).In h)
 (F:∀(w:World) (mg:Na) (h:Heap),(K w.params).In h->h.Ns mainGlobals mg->∀base:Heap,(K w.params).In base->base.Ns mainGlobals mg->Callee l.prog w (K w.params) mg base d.name k [x] (λvs H Q _=>∃(a:Addr) (ns:List Int),vs=[.ref a]/\nt H/\SqL (K w.params) H a (ns.map V.int)/\ns.length<=63/\∀H',Q (.bl true) H'))
 (D:∀(w:World) (mg:Na) (h:Heap),(K w.params).In h->h.Ns mainGlobals mg->∃st,Def (K w.params) mg d.name st/\∀(kV doc pm:Value) (an:Option Addr) (cdv ct:Value) (us:List Value),us.length=1->bindArgs (W.fnOf d.name d.name (cW st) (bF st) (az st) .none kV doc pm an cdv ct) ⟨us,[]⟩=pure ([x].zip us)):
 W.WalkO q loose XP YP l.row.toRowW d [] (λf vs=>PySem.call f vs):=by
 refine L2.walk_of (n:=63) (k:=k) (x:=x) (CX:=λw=>CX1 l.prog w) (sp:=λw=>λvs H Q _=>∃(a:Addr) (ns:List Int),vs=[.ref a]/\nt H/\SqL (K w.params) H a (ns.map V.int)/\ns.length<=63/\∀H',Q (.bl true) H') hn (by decide) hdf hr hY (λw mg fa h KX G hmg=>?_) (λ_ _ a ns hl hO hS=>⟨a,ns,rfl,hO,hS,hl,λ_=>rfl⟩) λ_ _ _ _ _ ⟨_,_,_,_,_,_,_,_,_,z⟩=>z
 obtain⟨st,Dd,hbind⟩:=D w mg h KX G
 obtain⟨f,fd,Ff,m⟩:=Dd.ex
 have e:=hmg.symm.trans m
 cases e
 obtain⟨oc,od,kV,doc,pm,an,cdv,ct,osl,rfl,lk,hcd⟩:=Ff.ex
 refine⟨_,λs u=>.of_eq (hbind kV doc pm an cdv ct [u] rfl),λbase kb nb=>?_⟩
 obtain⟨f',fd',F',m',kp',b',oc',od',osl',lk'⟩:=(F w mg h KX G base kb nb).ex
 rw[m] at m'
 cases m'
 rw[lk] at lk'
 cases lk'
 exact F'
section
variable{K:W.Frag}{mg:Na}{ρ ρ1 ρ2:List Addr}{H H1:Hp}{h:AH}
end
section
variable{K:W.Frag}{mg:Na}{ρ:List Addr}{H:Hp}{h:AH}
end
def ug:D->D->AH->R D:=gOr (gI λi j=>.int (i+j)) ki
def xp:D->D->AH->R D:=gI λi j=>.int (i-j)
def CMulA(i j:Int):Prop:=Aw i j\/CMul i j
def ym:D->D->AH->R D:=gIc CMulA λi j=>.int (i*j)
def y7:D->D->AH->R D:=gIc CDivB λi j=>.int (i.fdiv j)
def zq:D->D->AH->R D:=gIc (λ_ j=>j≠0) λi j=>.int (i.fmod j)
def yW:D->D->AH->R D:=gIc fM λi j=>.int (i^j.toNat)
def yq:D->D->AH->R D:=gIc fM λi j=>.int (i*2^j.toNat)
def gLt:D->D->AH->R D:=gI λi j=>.bl (decide (i<j))
def gLe:D->D->AH->R D:=gI λi j=>.bl (decide (i<=j))
def gGt:D->D->AH->R D:=gI λi j=>.bl (decide (j<i))
def gGe:D->D->AH->R D:=gI λi j=>.bl (decide (j<=i))
def sX:D->AH->R D:=λx h=>match x with
 |.int i=>.ok (.int (-i)) h
 |_=>.stuck
def lT(n:Nat)(S:Fn)(A:MA):ME:=eFn (λds h=>if ds.length=n then S ds h else .stuck) A
section
variable{K:W.Frag}{mg:Na}{X:Cx}
def E9(h:X.K=K):OpR X (binaryOp .Add) (λx y H Q=>rI0 (λi j=>.int (i+j)) x y H Q\/(mz x y H Q\/(jM K x y H Q\/jX K x y H Q))):=GY.or (catK h)
def DB:OpD K mg (λx y H Q=>rI0 (λi j=>.int (i+j)) x y H Q\/(mz x y H Q\/(jM K x y H Q\/jX K x y H Q))) ug:=(ik λ_ _ _ _=>.int _).or BP
def CS:OpD K mg (rI0 λi j=>.int (i-j)) xp:=ik λ_ _ _ _=>.int _
def ET:OpR X (binaryOp .Mult) (rI CMulA λi j=>.int (i*j)):=by
 intro pins s σ H x y v u Q I rx ry h
 obtain⟨i,j,e1,e2,hc,q⟩:=h
 rcases hc with hc |hc
 ·exact Ct pins s σ H x y v u Q I rx ry ⟨i,j,e1,e2,hc,q⟩
 ·exact Dl pins s σ H x y v u Q I rx ry ⟨i,j,e1,e2,hc,q⟩
def Hk:OpD K mg (rI CMulA λi j=>.int (i*j)) ym:=lR λ_ _ _ _=>.int _
def Gn:OpD K mg (rI CDivB λi j=>.int (i.fdiv j)) y7:=lR λ_ _ _ _=>.int _
def G8:OpD K mg (rI (λ_ j=>j≠0) λi j=>.int (i.fmod j)) zq:=lR λ_ _ _ _=>.int _
def Dg:OpD K mg (rI fM λi j=>.int (i^j.toNat)) yW:=lR λ_ _ _ _=>.int _
def Ei:OpD K mg (rI fM λi j=>.int (i*2^j.toNat)) yq:=lR λ_ _ _ _=>.int _
def Il:OpD K mg (rI0 λi j=>.bl (decide (i<j))) gLt:=ik λ_ _ _ _=>.bl _
def JX:OpD K mg (rI0 λi j=>.bl (decide (i<=j))) gLe:=ik λ_ _ _ _=>.bl _
def Jf:OpD K mg (rI0 λi j=>.bl (decide (j<i))) gGt:=ik λ_ _ _ _=>.bl _
def IL:OpD K mg (rI0 λi j=>.bl (decide (j<=i))) gGe:=ik λ_ _ _ _=>.bl _
def C8:UnD K mg (rU λi=>.int (-i)) sX:=λρ h H dx x Q E w rx p=>by
 unfold sX at p
 split at p
 ·cases rx;exact⟨_,rfl,aJ w (.int _) p⟩
 ·exact p.elim
variable{ES:St->XK}{e:Expr}{es:List Expr}{A:MA}{pos:Pos}
def yY(C:Callee X.prog X.w X.K X.mg X.base x k ps (spD K mg n S))(hr:Room k X.A)(hg:Gl X x)(hx:iC X ES)(ha:DA K mg X ES (e::es) A)
 (hdb:(x==("__debug__" : Str))=false) (he:starEach (e::es) X.env=(false,eval e X.env)::starEach es X.env) (hpl:(backTo pos (starEach es X.env)).any (·.1)=false):
 DE K mg X ES (.Call (.Name x p) (e::es) [] pos) (lT n S A):=AU C hr hg hx ha hdb he hpl
end
section
variable{ae:AE}{h:AH}
@[simp] theorem dn(a:α)(h:AH)(f:α->AH->R β):(R.ok a h).bind f=f a h:=rfl
end
def gG(h1:pd.canLay0=true)(h2:pd.depth<=160):shp pd=true:=by
 unfold shp
 rw[h1,F_ h2];rfl
def Sm(n:Nat)(x:Int):Prop:=x.natAbs<2^n
noncomputable def Sm.mono(h:Sm n x)(l:n<=m):Sm m x:=y_ h (K5 (by omega) l)
noncomputable def Sm.mul(h:Sm n x)(k:Sm m y):Sm (n+m) (x*y):=by
 unfold Sm at *
 rw[KR,LK]
 exact Nat.mul_lt_mul'' h k
noncomputable def Sm.add'(h:Sm n x)(k:Sm n y):Sm (n+1) (x+y):=by
 unfold Sm at *
 have h3:2^(n+1)=2^n+2^n:=by rw[Nat.pow_succ];omega
 have h4:(x+y).natAbs<=x.natAbs+y.natAbs:=Int.natAbs_add_le x y
 omega
noncomputable def Sm.bits(h:Sm n x):Builtin.Int.intBits x<=n:=intBits_le_iff.mpr h
noncomputable def Sm.of_le(h:Sm n y)(l:x.natAbs<=y.natAbs):Sm n x:=LJ l h
def CMulA.of(h:Sm n x)(k:Sm m y)(hn:n<=100000)(hm:m<=100000):CMulA x y:=.inl ⟨x_ h.bits hn,x_ k.bits hm⟩
noncomputable def CMulA.left(h:-(2^64)<x)(k:x<2^64):CMulA x y:=.inr (.inl ⟨h,k⟩)
noncomputable def CMulA.right(h:-(2^64)<y)(k:y<2^64):CMulA x y:=.inr (.inr ⟨h,k⟩)
def CDivB.of(h0:y≠0)(h:Sm 8000 y):CDivB x y:=⟨h0,h.bits⟩
structure Sz(n:Nat)(q:Rat):Prop where
 top:Sm n q.num
 bot:Sm n (q.den:Int)
def Sz.mono(h:Sz n q)(l:n<=m):Sz m q:=⟨h.top.mono l,h.bot.mono l⟩
def vf{a b:Int}(hb:b≠0):((a:Rat)/(b:Rat)).num*b=a*((a:Rat)/(b:Rat)).den:=by
 have h2:=Rat.num_divInt_den ((a:Rat)/(b:Rat))
 have h3:Rat.divInt ((a:Rat)/(b:Rat)).num (((a:Rat)/(b:Rat)).den:Int)=Rat.divInt a b:=by rw[h2,Rat.divInt_eq_div]
 exact (Rat.divInt_eq_divInt_iff (by have:=((a:Rat)/(b:Rat)).den_nz;omega) hb).mp h3
def mx(q:Rat):Int.gcd q.num q.den=1:=by
 have:=q.reduced
 exact this
def kX(hb:b≠0):Fr.T a b=((a:Rat)/(b:Rat)).num/\Fr.B a b=(((a:Rat)/(b:Rat)).den:Int):=by
 refine Fr.uniq (Fr.B_pos hb) (by have:=((a:Rat)/(b:Rat)).den_pos;omega) (Fr.low hb) (mx _) ?_
 have h1:=Fr.cross (a:=a) hb
 have h2:=vf (a:=a) hb
 generalize ((a:Rat)/(b:Rat)).num=n at *
 generalize (((a:Rat)/(b:Rat)).den:Int)=d at *
 generalize Fr.T a b=x at *
 generalize Fr.B a b=y at *
 have h3:(x*d)*b=(n*y)*b:=by
  calc x*d*b=(x*b)*d:=by rw[Mb]
   _=a*y*d:=by rw[h1]
   _=(a*d)*y:=by rw[Mb]
   _=n*b*y:=by rw[h2]
   _=n*y*b:=by rw[Mb]
 exact LZ hb h3
def ux{a b:Int}(hb:b≠0):((a:Rat)/(b:Rat)).num.natAbs<=a.natAbs:=by
 have h:=(kX (a:=a) hb).1
 rw[<- h]
 have h1:=Fr.T_mul (a:=a) hb
 have h2:=Fr.dv_ne (a:=a) hb
 have h3:(Fr.T a b).natAbs*(Fr.dv a b).natAbs=a.natAbs:=by rw[<- KR,h1]
 have h4:1<=(Fr.dv a b).natAbs:=by omega
 calc (Fr.T a b).natAbs=(Fr.T a b).natAbs*1:=by omega
  _<=(Fr.T a b).natAbs*(Fr.dv a b).natAbs:=Lh _ h4
  _=a.natAbs:=h3
def uH{a b:Int}(hb:b≠0):((((a:Rat)/(b:Rat)).den:Int)).natAbs<=b.natAbs:=by
 have h:=(kX (a:=a) hb).2
 rw[<- h]
 have h1:=Fr.B_mul (a:=a) hb
 have h2:=Fr.dv_ne (a:=a) hb
 have h3:(Fr.B a b).natAbs*(Fr.dv a b).natAbs=b.natAbs:=by rw[<- KR,h1]
 have h4:1<=(Fr.dv a b).natAbs:=by omega
 calc (Fr.B a b).natAbs=(Fr.B a b).natAbs*1:=by omega
  _<=(Fr.B a b).natAbs*(Fr.dv a b).natAbs:=Lh _ h4
  _=b.natAbs:=h3
def Sz.div(hb:b≠0)(ha:Sm n a)(hb':Sm m b)(k:Nat)(h1:n<=k)(h2:m<=k):Sz k ((a:Rat)/(b:Rat)):=
 ⟨(ha.of_le (ux hb)).mono h1,(hb'.of_le (uH hb)).mono h2⟩
def cS(q:Rat):(q.den:Int)≠0:=by have:=q.den_nz;omega
def fh(q:Rat):q=(q.num:Rat)/((q.den:Int):Rat):=by
 have:=Rat.num_divInt_den q
 rw[Rat.divInt_eq_div] at this
 exact this.symm
def ml{b:Int}(h:b≠0):(b:Rat)≠0:=by
 intro z
 exact h (by exact_mod_cast z)
def mZ(p q:Rat):p+q=((p.num*q.den+q.num*p.den:Int):Rat)/((p.den*q.den:Int):Rat):=by
 have h1:=ml (cS p)
 have h2:=ml (cS q)
 conv=>lhs;rw[fh p,fh q]
 simp only[L9,Kv]
 grind
def jG(p q:Rat):p*q=((p.num*q.num:Int):Rat)/((p.den*q.den:Int):Rat):=by
 have h1:=ml (cS p)
 have h2:=ml (cS q)
 conv=>lhs;rw[fh p,fh q]
 simp only[Kv]
 grind
def Sz.add(hp:Sz n p)(hq:Sz m q):Sz (n+m+1) (p+q):=by
 rw[mZ]
 have h1:=(hp.top.mul hq.bot)
 have h2:=(hq.top.mul hp.bot)
 exact Sz.div (by have:=cS p;have:=cS q;exact Lc ‹_› ‹_›) (h1.add' (by rw[Nat.add_comm n m];exact h2)) (hp.bot.mul hq.bot) _ (by omega) (by omega)
def Sz.mul(hp:Sz n p)(hq:Sz m q):Sz (n+m) (p*q):=by
 rw[jG]
 exact Sz.div (by have:=cS p;have:=cS q;exact Lc ‹_› ‹_›) (hp.top.mul hq.top) (hp.bot.mul hq.bot) _ (by omega) (by omega)
def sJ{q:Rat}:0<q.num ↔ 0<q:=by
 have h1:=Rat.num_nonneg (q:=q)
 have h2:=Rat.num_eq_zero (q:=q)
 constructor
 ·intro h
  refine Rat.lt_of_le_of_ne (h1.mp (by omega)) λz=>?_
  have:=h2.mpr z.symm
  omega
 ·intro h
  have h3:=h1.mpr (Rat.le_of_lt h)
  have h4:q.num≠0:=λz=>(Rat.ne_of_lt h) (h2.mp z).symm
  omega
noncomputable def wb(p q:Rat):p<q ↔ p.num*q.den<q.num*p.den:=Rat.lt_iff p q
section
variable(ae:AE)(h:AH)
end
theorem jg:∀{ws:List Int},(∀w∈ws,0<=w)->0<=ws.sum
 | [],_=>Mi _
 |
  w::ws,h=>by
  have:=h w (m_ ..)
  have:=jg (ws:=ws) λv hv=>h v (i_ _ hv)
  rw[Kq];omega
def Dr{K:W.Frag}{h:Heap}{mg:Na}{x:Str}{a:Addr}{dd:Option Addr}{its:Array Value}{n:Nat}{sl:Array (Option Value)}{vs:List V}{ds:List D}(X:K.In h)(G:h.Ns mainGlobals mg)(e:W.nsIn K mainGlobals x=some (some (.ref a)))
 (l:K.lookup a=some ⟨.type "tuple",dd,.seq its n,sl⟩) (hs:its.size<=sizeLine) (hv:Vals vs its.toList) (hr:∀ρ H,RelDs K mg ρ H ds vs):GC K mg x (.tup ds):=
 ⟨_,.ref a,W.mg_of X G e,rfl,λρ H=>.tup (.inr ⟨_,its,n,l,rfl,rfl,hs,hv⟩) (hr ρ H)⟩
section
variable{K:W.Frag}{mg:Na}{X:Cx}{ES:St->XK}{pos:Pos}
end
variable{K:W.Frag}{mg:Na}
theorem qJ{ρ:List Addr}{H:Hp}{xs:List D}{vs:List V}(r:RelDs K mg ρ H xs vs):∀n:Nat,RelDs K mg ρ H (List.replicate n xs).flatten (List.replicate n vs).flatten
 |0=>.nil
 |
  n+1=>by
  rw[Ky,Ky,KS,KS]
  exact r.append (qJ r n)
def Co:OpD K mg xU pX:=λρ h H dx dy x y Q E w rx ry p=>by
 unfold pX at p
 split at p
 ·cases
   rx with
  |
   ref ea=>
   cases ry with
   |
    int=>
    split at p
    ·rename_i xs e1
     split at p
     ·rename_i hl
      obtain⟨vs,q1,r1⟩:=w.ob _ _ _ ea e1
      exact⟨_,_,vs,rfl,rfl,q1,hl.1,hl.2.1,by rw[<- r1.len];exact hl.2.2,λp' hp=>d8 w (qJ r1 _) hp p⟩
     ·exact p.elim
    ·exact p.elim
 ·exact p.elim
end L2
namespace L2
open PySem PySem.Spec PyProof.Rows
section
variable{K:W.Frag}{mg:Na}{X:Cx}{ES:St->XK}{e:Expr}{es:List Expr}{A:MA}{pos:Pos}
end
section
variable{K:W.Frag}{mg:Na}{X:Cx}{ES:St->XK}{e a b c o lo hi:Expr}{F G L U:ME}{pos p2:Pos}{ρ:List Addr}{H:Hp}{h:AH}{ae:AE}
end
section
variable{κ:Type}[DecidableEq κ]
end
section
variable{P:Program}{w:World}{H:Hp}{h:Heap}{a:Addr}
end
section
variable{X:Cx}{pins:Nb}{σ:St}{H:Hp}{s:Shared}{a:Addr}{y v:V}{u r:Value}{o:Option V}{A:Around}{E:Nc}
end
section
variable{X:Cx}{pins:Nb}{σ:St}{H:Hp}{s:Shared}{a:Addr}{kvs:List (Key×V)}{k:Key}{u:Value}{A:Around}{E:Nc}
end
section
variable{X:Cx}{o i e value:Expr}{pos pos' tpos:Pos}{td ty tv:TE}
end
section
variable{X:Cx}{pos:Pos}
end
section
variable{X:Cx}{pins:Nb}{σ:St}{H:Hp}{s:Shared}{a:Addr}{y d:V}{u r:Value}{o:Option V}{A:Around}{E:Nc}
end
section
variable{X:Cx}{o e f:Expr}{apos cpos:Pos}{td ty tx:TE}
end
section
variable{X:Cx}{pins:Nb}{σ:St}{H:Hp}{s:Shared}{a:Addr}{kvs:List (Key×V)}{A:Around}{E:Nc}
end
section
variable{X:Cx}{pins:Nb}{σ:St}{H:Hp}{s:Shared}{a:Addr}{y:V}{u:Value}{A:Around}{E:Nc}
end
section
variable{prog:Program}{w:World}{A:Around}{E:Nc}{s:Shared}
end
section
variable[DecidableEq κ]
def putD(kvs:List (κ×α))(k:κ)(v:α):List (κ×α):=if (kvs.any λkv=>decide (kv.1=k))=true then kvs.map λkv=>if kv.1=k then (kv.1,v) else kv else kvs++[(k,v)]
end
section
variable{K:W.Frag}{mg:Na}{ρ:List Addr}{H:Hp}
variable{X:Cx}{ES:St->XK}{a b:Expr}{F G:ME}{pos:Pos}
end
def wu(bs:List Bool):((List.range bs.length).any λi=>bs.getD i false)=bs.any id:=by
 rw[Mo,List.any_eq_true,List.any_eq_true]
 constructor
 ·rintro⟨i,hi,h⟩
  have hi':=K3.mp hi
  exact⟨bs[i],Ks hi',by simpa [H_,hi'] using h⟩
 ·rintro⟨x,hx,h⟩
  obtain⟨i,hi,rfl⟩:=List.mem_iff_getElem.mp hx
  exact⟨i,K3.mpr hi,by simpa [H_,hi] using h⟩
section
variable{X:Cx}
def zg(hc:X.calm=true):CallR X (.builtin "any") (λxs H Q=>∃(a:Addr) (bs:List Bool),xs=[.ref a]/\SqL X.K H a (bs.map V.bl)/\Q (.bl (bs.any id)) H):=by
 intro pins s σ H xs us Q I r h
 obtain⟨a,bs,rfl,hq,q⟩:=h
 obtain⟨u,rfl,ru⟩:=fU r
 cases ru
 obtain⟨its,rv,p,hz⟩:=I.list hq
 have hl:=rv.length
 rw[g_] at hl
 have hlt:a<s.heap.objs.size:=by obtain⟨o,n,e,_⟩:=p;exact v_ e
 refine call_any_walk (wpAny_pyIter_list p.isList ?_)
 refine⟨s.heap.objs.size,_,_,_,_,_,λi=>bs.getD i false,rfl,Walks.list (A:=X.A.in1) (I.ok.hd hc) s.heap.objs.size a (Kn hlt) its.toArray,⟨⟨_,Km _ rfl,rfl,rfl⟩,(p.keeps λb o e=>s_ _ e).isList⟩,λi v s' Q' E' hP hQ=>?_,λh' tk hk=>?_⟩
 ·have hP':its[i]?=some v:=by simpa using hP
  have hi:i<bs.length:=by rw[hl];exact (h_.mp hP').1
  have hb:(bs.map V.bl)[i]?=some (V.bl bs[i]):=by simp [hi]
  obtain⟨u,hu,ru⟩:=rv.get hb
  rw[hP'] at hu
  cases hu
  cases ru
  refine K8 ?_
  have e:bs.getD i false=bs[i]:=by simp [H_,hi]
  show Q' bs[i] s'
  rw[<- e]
  exact hQ
 ·have e1:its.toArray.size=bs.length:=by rw[u_,hl]
  rw[e1,wu]
  have hn:H s.heap.objs.size=none:=I.fresh
  have I1:Inv X pins σ H { s with heap:=s.heap.push { cls:=.type "list_iterator",dict:=none,data:=.fields #[.ref a,rawInt 0] } }:=I.kept (t':=s.toks) λb o e=>s_ _ e
  refine⟨.bl _,H,?_,rfl,q⟩
  refine I.kept (t':=tk) λb o e=>?_
  have hne:b≠s.heap.objs.size:=Kn (v_ e)
  exact hk b o (by simpa using hne) (s_ _ e)
def anyK{K:W.Frag}(h:X.K=K)(hc:X.calm=true):CallR X (.builtin "any") (λxs H Q=>∃(a:Addr) (bs:List Bool),xs=[.ref a]/\SqL K H a (bs.map V.bl)/\Q (.bl (bs.any id)) H):=by subst h;exact zg hc
end
def pB:Fn:=λds h=>match ds with
 | [.ref n]=>match (aT h n).bind fD with
  |some bs=>.ok (.bl (bs.any id)) h
  |none=>.stuck
 |_=>.stuck
section
variable{K:W.Frag}{mg:Na}
def EY:bg K mg (λxs H Q=>∃(a:Addr) (bs:List Bool),xs=[.ref a]/\SqL K H a (bs.map V.bl)/\Q (.bl (bs.any id)) H) pB:=λρ h H ds vs Q E w rs p=>by
 unfold pB at p
 split at p
 ·cases
   rs with
  |
   cons r rs=>
   cases r with
   |
    ref ea=>
    cases rs
    split at p
    ·rename_i bs e
     obtain⟨xs,q,e2⟩:=Kz.mp e
     ·obtain⟨vs,h1,h2⟩:=bz w ea q
      rw[kd e2] at h2
      rw[h2.bls] at h1
      exact⟨_,bs,rfl,h1,aJ w (.bl _) p⟩
    ·exact p.elim
 ·exact p.elim
end
section
variable{K:W.Frag}{mg:Na}{X:Cx}{ES:St->XK}{o:Expr}{F:ME}{pos p2:Pos}
end
end L2
namespace L2
open PySem PySem.Spec PySem.Calls PyProof.Rows
section
variable{X:Cx}{K:W.Frag}{mg:Na}{ES:St->XK}{es:List Expr}{gs:MGs}{pos:Pos}
def gUnp(K:W.Frag)(n:Nat)(t:TGs):TG:=λv σ H Q=>∃a xs,v=.ref a/\(SqT K H a xs\/SqL K H a xs)/\xs.length=n/\t xs σ H Q
def G6{k:Nat}{t:TGs}{n:Nat}(hc:X.calm=true)(h:PGs X es t)
 (hn:(assignEach es X.env).length=n) (hst:(assignEach es X.env).findIdx? (·.1)=none):PG X (.Tuple es k pos) (gUnp X.K n t):=by
 intro pins s σ H v u Q I r hw
 obtain⟨a,xs,e1,hq,hl,hw⟩:=hw
 rcases hq with hq |hq
 ·exact u5 hc h hn hst pins s σ H v u Q I r ⟨a,xs,e1,hq,hl,hw⟩
 ·subst e1
  cases r
  obtain⟨its,rv,⟨o,m,ho,oc,od,os⟩,hz⟩:=I.list hq
  have ht:s.heap.IsList a its.toArray:=⟨o,ho,oc,m,os⟩
  rw[assign_Tuple]
  refine j_ (Mm ?_)
  unfold unpack
  rw[hst,hn,show n=its.toArray.size by simp [<- hl,rv.length]]
  refine j_ (LG (W.kun_itemsOf (I.ok.hd hc) ht λh' hx=>?_))
  have I1:Inv X pins σ H { s with heap:=h' }:=I.kept (t':=s.toks) λb o e=>hx b o (Kn (v_ e)) e
  exact h pins _ σ H xs _ Q I1 (by simpa using rv) hw
def gU(u:MGs):MG:=λd ae h=>match d with
 |.tup ds=>u ds ae h
 |.ref p=>match aT h p with
  |some ds=>u ds ae h
  |none=>.stuck
 |_=>.stuck
def Eh{k n:Nat}(hK:X.K=K)(hc:X.calm=true)(h:DGs K mg X (λ_=>E0) es gs)
 (hn:(assignEach es X.env).length=n) (hst:(assignEach es X.env).findIdx? (·.1)=none):DG K mg X (λ_=>E0) (.Tuple es k pos) (gU λds ae h=>if ds.length=n then gs ds ae h else .stuck):=by
 subst hK
 refine PG.imp (G6 hc h hn hst) λv σ H Q q_=>q_.el λρ h ae d w re rd p=>?_
 unfold gU at p
 cases rd with
 |
  tup q rs=>
  dsimp only at p
  split at p
  ·rename_i hl
   exact⟨_,_,rfl,.inl q,by rw[<- rs.len];exact hl,ρ,h,ae,_,w,re,rs,p⟩
  ·exact p.elim
 |
  ref ea=>
  dsimp only at p
  split at p
  ·rename_i ds q
   obtain⟨vs,h1,h2⟩:=bz w ea q
   split at p
   ·rename_i hl
    exact⟨_,_,rfl,.inr h1,by rw[<- h2.len];exact hl,ρ,h,ae,_,w,re,h2,p⟩
   ·exact p.elim
  ·exact p.elim
 |_=>exact p.elim
end
section
variable{X:Cx}{K:W.Frag}{mg:Na}{ES:St->XK}{a:Expr}{A:MA}{pos q2 p1 p2:Pos}
end
section
variable{X:Cx}{K:W.Frag}{mg:Na}{w:World}{n:Str}{kvs:List (Str×Int)}
end
end L2
namespace L2
open PySem
end L2
namespace L2
open PySem PySem.Spec PySem.Calls PyProof.Rows
section
variable{X:Cx}{K:W.Frag}{mg:Na}
end
section
variable{P:Program}{w:World}{K:W.Frag}{mg:Na}{base:Heap}{x:Str}{st:Stmt}{k:Nat}{ps N:List Str}{sp:Sp}
variable{F:MS}
end
section
variable{X:Cx}{K:W.Frag}{mg:Na}{ES:St->XK}{e:Expr}{es:List Expr}{A:MA}{pos:Pos}
end
end L2
namespace L2
open PySem PySem.Spec PyProof.Rows
section
variable{X:Cx}
def m9:V->List V->Hp->VK->Prop:=λx vs H Q=>∃l xs i y,x=.ref l/\vs=[.int i,y]/\H l=some (.lst xs)/\0<=i/\i<=(xs.length:Nat)/\xs.length<sizeLine/\Q .non (upd H l (.lst (xs.take i.toNat++y::xs.drop i.toNat)))
def vL:MtM X "list.insert" m9:=by
 intro pins s σ H x vs v us Q I rx rv h
 obtain⟨l,xs,i,y,rfl,rfl,hH,h0,h1,hz,q⟩:=h
 cases rx
 obtain⟨u1,u2,rfl,ru1,ru2⟩:=lJ rv
 obtain⟨t,rfl⟩:=ru1
 obtain⟨z,its,n,r,hl,e⟩:=I.lstM hH
 have hs:sizeLine=16777216:=rfl
 have hf:Builtin.List.listFitsIndex i=true:=fitsIndex_both (by omega) (by omega)
 refine MB PySem.F.slot_list_insert ⟨_,e,rfl⟩ PySem.F.entry_list_insert (PySem.F.args_list_insert_3 _ _ _) (AutoSeq1.list_insert_list_int_val_1 l its.toArray n i t u2 (by rw[hf];decide) (by rw[u_];omega)) ⟨e,?_⟩
 refine⟨.non,_,I.lset (its':=its.take i.toNat++u2::its.drop i.toNat) hH e ?_ ((r.take _).append (.cons ru2 (r.drop _))) ?_,rfl,q⟩
 ·show (have k:=if i<0 then (i+(its.toArray.size:Int)).toNat else min i.toNat its.toArray.size;(its.toArray.extract 0 k).push u2++its.toArray.extract k)=_
  rw[if_neg (by omega),u_,My (by omega)]
  apply Array.ext'
  simp [Ll]
 ·simp only[r_,Em,Kw,KD]
  omega
end
section
variable{K:W.Frag}{mg:Na}
def jJ:D->List D->AH->R D:=λx ds h=>iH h x λn xs=>match ds with
 | [.int i,d]=>if 0<=i/\i<=(xs.length:Nat)/\xs.length<16777216 then .ok .non (h.set n (.lst (xs.take i.toNat++d::xs.drop i.toNat))) else .stuck
 |_=>.stuck
def vE:MtD K mg m9 jJ:=λρ h H dx ds x vs Q E w rx rs p=>by
 obtain⟨n,xs,a,us,rfl,e,ea,rfl,h1,h2,p⟩:=jk w rx p
 split at p
 ·cases
   rs with
  |
   cons r rs=>
   cases rs with
   |
    cons r2 rs=>
    cases rs
    cases r
    split at p
    ·rename_i hb
     rw[h2.len] at hb
     exact⟨a,us,_,_,rfl,rfl,h1,hb.1,hb.2.1,hb.2.2,kO w ea h1 ((h2.take _).append (.cons r2 (h2.drop _))) .non p⟩
    ·exact p.elim
 ·exact p.elim
def nU{ρ:List Addr}{h:AH}{H:Hp}(w:Wd K mg ρ h H){n:Nat}{a:Addr}{xs:List D}(ea:ρ[n]?=some a)(e:h[n]?=some (.lst xs)):∃vs,H a=some (.lst vs)/\RelDs K mg ρ H xs vs:=by
 obtain⟨vs,h1,h2⟩:=w.ob _ _ _ ea e
 exact⟨vs,h1,h2⟩
end
section
variable{X:Cx}{K:W.Frag}{mg:Na}
end
section
variable{X:Cx}
end
section
variable{K:W.Frag}{mg:Na}{X:Cx}{ES:St->XK}{o e:Expr}{es:List Expr}{F:ME}{A:MA}{pos:Pos}
end
section
variable{K:W.Frag}{mg:Na}
variable{X:Cx}{ES:St->XK}{a b:Expr}{F G:ME}{pos:Pos}
end
section
variable{X:Cx}{K:W.Frag}{mg:Na}
end
section
variable{X:Cx}{e st:Expr}{te tst:TE}{pos p2:Pos}
end
section
variable{K:W.Frag}{mg:Na}{X:Cx}{ES:St->XK}{e st:Expr}{F G:ME}{pos p2:Pos}
end
section
variable{X:Cx}{K:W.Frag}{mg:Na}
end
section
variable{K:W.Frag}{mg:Na}{X:Cx}
end
section
variable{X:Cx}
end
section
variable{K:W.Frag}{mg:Na}
end
def xq:R2:=λx y H Q=>∃a b xs,x=.ref a/\y=.ref b/\H a=some (.lst xs)/\H b=some (.lst [])/\Q (.bl (!xs.isEmpty)) H
section
variable{K:W.Frag}{mg:Na}{X:Cx}
def Dt(hu:X.A.units+1<cLine):OpR X (compareOp .NotEq) xq:=by
 intro pins s σ H x y v u Q I rx ry ⟨a,b,xs,e1,e2,hA,hB,q⟩
 subst e1 e2
 obtain rfl:v=Value.ref a:=rx
 obtain rfl:u=Value.ref b:=ry
 obtain⟨_,its,n,rv,hl,e⟩:=I.lstM hA
 obtain⟨_,its2,n2,rv2,hl2,e2⟩:=I.lstM hB
 cases rv2
 have la:s.heap.IsList a its.toArray:=⟨_,e,rfl,_,rfl⟩
 have lb:s.heap.IsList b ([]:List Value).toArray:=⟨_,e2,rfl,_,rfl⟩
 have len:=rv.length
 cases xs with
 |
  nil=>
  cases rv
  exact SeqAt.RcNeAt.lists (e:=λ_=>true) la lb rfl (by omega) (λj h1 h2=>absurd h1 (Ls _)) _ _ _ _ (jy I q rfl)
 |
  cons z zs=>
  cases its with
  |nil=>cases rv
  |cons i is=>exact SeqAt.RcNeAt.lists_lengths la lb rfl (by omega) _ _ _ _ (jy I q rfl)
def pZ:D->D->AH->R D:=λx y h=>match x,y with
 |.ref a,.ref b=>match h[a]?,h[b]? with
  |some (.lst xs),some (.lst [])=>.ok (.bl (!xs.isEmpty)) h
  |_,_=>.stuck
 |_,_=>.stuck
def B9:OpD K mg xq pZ:=λρ h H dx dy x y Q E w rx ry p=>by
 unfold pZ at p
 split at p
 ·cases
   rx with
  |
   ref ea=>
   cases ry with
   |
    ref eb=>
    split at p
    ·rename_i xs q1 q2
     obtain⟨vs,g1,g2⟩:=nU w ea q1
     obtain⟨ys,g3,g4⟩:=nU w eb q2
     cases g4
     refine⟨_,_,vs,rfl,rfl,g1,g3,?_⟩
     rw[show vs.isEmpty=xs.isEmpty from by cases g2 <;> rfl]
     exact aJ w (.bl _) p
    ·exact p.elim
 ·exact p.elim
end
section
variable{K:W.Frag}{mg:Na}{X:Cx}
end
end L2
namespace L3
open PySem PySem.Spec PyProof.Rows L2
set_option genInjectivity true in
inductive Val where
 |non |bl (b:Bool) |int (i:Int) |str (x:Str) |ty (n:String) |glb (x:Str) |exc (x:Str)
 |tup (xs:List Val) |lst (xs:List Val) |kl (xs:List Val) |dct (kvs:List (Key×Val)) |set (xs:List Int)
 deriving Inhabited
mutual
inductive Rd(P:Nat->Prop)(h:AH):D->Val->Prop where
 |non:Rd P h .non .non
 |bl (b:Bool):Rd P h (.bl b) (.bl b)
 |int (i:Int):Rd P h (.int i) (.int i)
 |str (x:Str):Rd P h (.str x) (.str x)
 |ty (n:String):Rd P h (.ty n) (.ty n)
 |glb (x:Str):Rd P h (.glb x) (.glb x)
 |exc (x:Str):Rd P h (.exc x) (.exc x)
 |tup {ds:List D}{vs:List Val} (r:Rds P h ds vs):Rd P h (.tup ds) (.tup vs)
 |kl {ds:List D}{vs:List Val} (r:Rds P h ds vs):Rd P h (.kl ds) (.kl vs)
 |cell {n:Nat}{o:Ob}{v:Val} (p:P n) (e:h[n]?=some o) (r:Rc P h o v):Rd P h (.ref n) v
inductive Rc(P:Nat->Prop)(h:AH):Ob->Val->Prop where
 |lst {ds:List D}{vs:List Val} (r:Rds P h ds vs):Rc P h (.lst ds) (.lst vs)
 |fz {ds:List D}{vs:List Val} (r:Rds P h ds vs):Rc P h (.fz ds) (.kl vs)
 |dct {ws:List (Key×D)}{us:List (Key×Val)} (r:Rk P h ws us):Rc P h (.dct ws) (.dct us)
 |set (xs:List Int):Rc P h (.set xs) (.set xs)
inductive Rds(P:Nat->Prop)(h:AH):List D->List Val->Prop where
 |nil:Rds P h [] []
 |cons {d:D}{v:Val}{ds:List D}{vs:List Val} (r:Rd P h d v) (rr:Rds P h ds vs):Rds P h (d::ds) (v::vs)
inductive Rk(P:Nat->Prop)(h:AH):List (Key×D)->List (Key×Val)->Prop where
 |nil:Rk P h [] []
 |cons {k:Key}{d:D}{v:Val}{ds:List (Key×D)}{vs:List (Key×Val)} (r:Rd P h d v) (rr:Rk P h ds vs):Rk P h ((k,d)::ds) ((k,v)::vs)
end
section
variable{P P':Nat->Prop}{h h':AH}
abbrev Mov(P P':Nat->Prop)(h h':AH):Prop:=∀n o,P n->h[n]?=some o->P' n/\h'[n]?=some o
def Rd.mono(m:Mov P P' h h')(r:Rd P h d v):Rd P' h' d v:=@Rd.rec P h (λd v _=>Rd P' h' d v) (λo v _=>Rc P' h' o v) (λds vs _=>Rds P' h' ds vs) (λws us _=>Rk P' h' ws us) .non (λb=>.bl b) (λi=>.int i) (λx=>.str x) (λn=>.ty n) (λx=>.glb x) (λx=>.exc x) (λ_ ih=>.tup ih) (λ_ ih=>.kl ih) (λp e _ ih=>.cell (m _ _ p e).1 (m _ _ p e).2 ih) (λ_ ih=>.lst ih) (λ_ ih=>.fz ih) (λ_ ih=>.dct ih) (λxs=>.set xs) .nil (λ_ _ a b=>.cons a b) .nil (λ_ _ a b=>.cons a b) d v r
def Rds.ind{M:List D->List Val->Prop}(h0:M [] [])(h1:∀{d v ds vs},Rd P h d v->Rds P h ds vs->M ds vs->M (d::ds) (v::vs)){ds:List D}{vs:List Val}(r:Rds P h ds vs):M ds vs:=by
 induction ds generalizing vs with
 |nil=>cases r;exact h0
 |
  cons d ds ih=>
  cases r with
  |cons r rr=>exact h1 r rr (ih rr)
def Rk.ind{M:List (Key×D)->List (Key×Val)->Prop}(h0:M [] [])(h1:∀{k d v ds vs},Rd P h d v->Rk P h ds vs->M ds vs->M ((k,d)::ds) ((k,v)::vs)){ds:List (Key×D)}{vs:List (Key×Val)}(r:Rk P h ds vs):M ds vs:=by
 induction ds generalizing vs with
 |nil=>cases r;exact h0
 |
  cons d ds ih=>
  cases r with
  |cons r rr=>exact h1 r rr (ih rr)
def Rds.mono(m:Mov P P' h h'){d:List D}{v:List Val}(r:Rds P h d v):Rds P' h' d v:=r.ind .nil λr _ ih=>.cons (r.mono m) ih
def Rk.mono(m:Mov P P' h h'){d:List (Key×D)}{v:List (Key×Val)}(r:Rk P h d v):Rk P' h' d v:=r.ind .nil λr _ ih=>.cons (r.mono m) ih
def Rc.mono(m:Mov P P' h h')(r:Rc P h d v):Rc P' h' d v:=by
 cases r with
 |lst r=>exact .lst (r.mono m)
 |fz r=>exact .fz (r.mono m)
 |dct r=>exact .dct (r.mono m)
 |set xs=>exact .set xs
def Rds.len{ds:List D}{vs:List Val}(r:Rds P h ds vs):ds.length=vs.length:=r.ind (M:=λds vs=>ds.length=vs.length) rfl λ_ _ ih=>Lj (· + 1) ih
def Rds.get{ds:List D}{vs:List Val}{i:Nat}{v:Val}(r:Rds P h ds vs)(e:vs[i]?=some v):∃d,ds[i]?=some d/\Rd P h d v:=
 r.ind (M:=λds vs=>∀i,vs[i]?=some v->∃d,ds[i]?=some d/\Rd P h d v) (λ_ e=>by rw[K6] at e;cases e) (λr _ ih i e=>match i,e with
  |0,e=>by cases e;exact⟨_,rfl,r⟩
  |i+1,e=>ih i e) i e
def Rds.append{ds es:List D}{vs ws:List Val}(r:Rds P h ds vs)(q:Rds P h es ws):Rds P h (ds++es) (vs++ws):=r.ind (M:=λds vs=>Rds P h (ds++es) (vs++ws)) q λr _ ih=>.cons r ih
def Rds.take{ds:List D}{vs:List Val}(n:Nat)(r:Rds P h ds vs):Rds P h (ds.take n) (vs.take n):=
 r.ind (M:=λds vs=>∀n:Nat,Rds P h (ds.take n) (vs.take n)) (λn=>by rw[LD,LD];exact .nil) (λr _ ih n=>by cases n with |zero=>exact .nil |succ n=>exact .cons r (ih n)) n
def Rds.drop{ds:List D}{vs:List Val}(n:Nat)(r:Rds P h ds vs):Rds P h (ds.drop n) (vs.drop n):=
 r.ind (M:=λds vs=>∀n:Nat,Rds P h (ds.drop n) (vs.drop n)) (λn=>by rw[L4,L4];exact .nil) (λr rr ih n=>by cases n with |zero=>exact .cons r rr |succ n=>exact ih n) n
def Rds.set{d:D}{v:Val}(r:Rd P h d v){ds:List D}{vs:List Val}(i:Nat)(q:Rds P h ds vs):Rds P h (ds.set i d) (vs.set i v):=
 q.ind (M:=λds vs=>∀i:Nat,Rds P h (ds.set i d) (vs.set i v)) (λ_=>.nil) (λq qq ih i=>by cases i with |zero=>exact .cons r qq |succ i=>exact .cons q (ih i)) i
theorem Rds.rep(r:Rds P h xs vs):∀n:Nat,Rds P h (List.replicate n xs).flatten (List.replicate n vs).flatten
 |0=>.nil
 |
  n+1=>by
  rw[Ky,Ky,KS,KS]
  exact r.append (Rds.rep r n)
def ShR(P:Nat->Prop)(h:AH)(d:D)(v:Val):Prop:=Rd P h d v\/∃n o,d=.ref n/\h[n]?=some o/\Rc P h o v
inductive ShRs(P:Nat->Prop)(h:AH):List D->List Val->Prop where
 |nil:ShRs P h [] []
 |cons {d:D}{v:Val}{ds:List D}{vs:List Val} (r:ShR P h d v) (rr:ShRs P h ds vs):ShRs P h (d::ds) (v::vs)
def Val.items:Val->Option (List Val)
 |.tup xs=>some xs
 |.lst xs=>some xs
 |.kl xs=>some xs
 |_=>none
def ShR.int(r:ShR P h d (.int i)):d=.int i:=by
 rcases r with r |⟨n,o,rfl,e,r⟩
 ·cases r with
  |int=>rfl
  |cell p e r=>cases r
 ·cases r
def ShR.str(r:ShR P h d (.str i)):d=.str i:=by
 rcases r with r |⟨n,o,rfl,e,r⟩
 ·cases r with
  |str=>rfl
  |cell p e r=>cases r
 ·cases r
def ShR.bl(r:ShR P h d (.bl i)):d=.bl i:=by
 rcases r with r |⟨n,o,rfl,e,r⟩
 ·cases r with
  |bl=>rfl
  |cell p e r=>cases r
 ·cases r
def ShR.non(r:ShR P h d .non):d=.non:=by
 rcases r with r |⟨n,o,rfl,e,r⟩
 ·cases r with
  |non=>rfl
  |cell p e r=>cases r
 ·cases r
def ShR.exc(r:ShR P h d (.exc x)):d=.exc x:=by
 rcases r with r |⟨n,o,rfl,e,r⟩
 ·cases r with
  |exc=>rfl
  |cell p e r=>cases r
 ·cases r
def ShR.ty(r:ShR P h d (.ty x)):d=.ty x:=by
 rcases r with r |⟨n,o,rfl,e,r⟩
 ·cases r with
  |ty=>rfl
  |cell p e r=>cases r
 ·cases r
def ShR.glb(r:ShR P h d (.glb x)):d=.glb x:=by
 rcases r with r |⟨n,o,rfl,e,r⟩
 ·cases r with
  |glb=>rfl
  |cell p e r=>cases r
 ·cases r
def ShR.tup(r:ShR P h d (.tup vs)):∃ds,d=.tup ds/\Rds P h ds vs:=by
 rcases r with r |⟨n,o,rfl,e,r⟩
 ·cases r with
  |tup r=>exact⟨_,rfl,r⟩
  |cell p e r=>cases r
 ·cases r
def Rc.seq(e:h[n]?=some o)(r:Rc P h o (.lst vs)):∃ds,h[n]?=some (.lst ds)/\aT h n=some ds/\Rds P h ds vs:=by
 cases r with
 |lst r=>exact⟨_,e,by unfold aT;rw[e],r⟩
def ShR.lst(r:ShR P h d (.lst vs)):∃n ds,d=.ref n/\h[n]?=some (.lst ds)/\aT h n=some ds/\Rds P h ds vs:=by
 rcases r with r |⟨n,o,rfl,e,r⟩
 ·cases r with
  |
   cell p e r=>
   obtain⟨ds,q,r⟩:=Rc.seq e r
   exact⟨_,ds,rfl,q,r⟩
 ·obtain⟨ds,q,r⟩:=Rc.seq e r
  exact⟨_,ds,rfl,q,r⟩
def ShR.kl(r:ShR P h d (.kl vs)):∃ds,Rds P h ds vs/\(d=.kl ds\/∃n,d=.ref n/\aT h n=some ds):=by
 rcases r with r |⟨n,o,rfl,e,r⟩
 ·cases r with
  |kl r=>exact⟨_,r,.inl rfl⟩
  |cell p e r=>cases r with |fz r=>exact⟨_,r,.inr ⟨_,rfl,by unfold aT;rw[e]⟩⟩
 ·cases r with |fz r=>exact⟨_,r,.inr ⟨_,rfl,by unfold aT;rw[e]⟩⟩
def ShR.dct(r:ShR P h d (.dct us)):∃n ws,d=.ref n/\h[n]?=some (.dct ws)/\Rk P h ws us:=by
 rcases r with r |⟨n,o,rfl,e,r⟩
 ·cases r with
  |cell p e r=>cases r with |dct r=>exact⟨_,_,rfl,e,r⟩
 ·cases r with |dct r=>exact⟨_,_,rfl,e,r⟩
def ShR.items(r:ShR P h d v)(e:v.items=some vs):∃ds,eQ h d=some ds/\Rds P h ds vs:=by
 cases v with
 |tup xs=>cases e;obtain⟨ds,rfl,q⟩:=r.tup;exact⟨ds,rfl,q⟩
 |lst xs=>cases e;obtain⟨n,ds,rfl,_,e,q⟩:=r.lst;exact⟨ds,e,q⟩
 |
  kl xs=>
  cases e
  obtain⟨ds,q,rfl |⟨n,rfl,e⟩⟩:=r.kl
  ·exact⟨ds,rfl,q⟩
  ·exact⟨ds,e,q⟩
 |_=>cases e
end
inductive Sl where
 |no |sh (v:Val) |ow (v:Val) |mu (v:Val) |lo (v:Val) |lm (v:Val)
 deriving Inhabited
abbrev E3:=List Sl
noncomputable def Sl.val:Sl->Option Val
 |.no=>none
 |.sh v=>some v
 |.ow v=>some v
 |.mu v=>some v
 |.lo v=>some v
 |.lm v=>some v
noncomputable def Sl.mt:Sl->Bool
 |.ow _=>true
 |.mu _=>true
 |_=>false
noncomputable def Sl.lk:Sl->Bool
 |.lo _=>true
 |.lm _=>true
 |_=>false
abbrev Ns:=List (Option Nat)
def Oc(X:Nat->Prop)(ns:Ns)(n:Nat):Prop:=¬ X n/\some n∉ns
noncomputable def bQ:Ob->Prop
 |.fz _=>False
 |.any=>False
 |_=>True
def SlR(P:Nat->Prop)(h0:Nat)(n:Option (Option Nat))(d:Option (Option D))(h:AH):Sl->Prop
 |.no=>n=some none
 |.sh v=>n=some none/\∃x,d=some (some x)/\Rd P h x v
 |.ow v=>∃m o,n=some (some m)/\d=some (some (.ref m))/\h0<=m/\h[m]?=some o/\bQ o/\Rc P h o v
 |.lo v=>∃m o,n=some (some m)/\d=some (some (.ref m))/\h0<=m/\h[m]?=some o/\bQ o/\Rc P h o v
 |.mu v=>∃m o,n=some (some m)/\d=some (some (.ref m))/\h[m]?=some o/\bQ o/\Rc P h o v
 |.lm v=>∃m o,n=some (some m)/\d=some (some (.ref m))/\h[m]?=some o/\bQ o/\Rc P h o v
structure Sat(X:Nat->Prop)(h0:Nat)(ns:Ns)(e:E3)(ae:AE)(h:AH):Prop where
 l1:ae.length=e.length
 l2:ns.length=e.length
 lh:h0<=h.length
 xl:∀(n:Nat),X n->n<h.length
 inj:∀(i j n:Nat),ns[i]?=some (some n)->ns[j]?=some (some n)->i=j
 nx:∀(i n:Nat),ns[i]?=some (some n)->¬ X n
 sl:∀(i:Nat) (s:Sl),e[i]?=some s->SlR (Oc X ns) h0 (ns[i]?) (ae[i]?) h s
def Mt(ns:Ns)(e:E3)(n:Nat):Prop:=∃(i:Nat) (s:Sl),ns[i]?=some (some n)/\e[i]?=some s/\s.mt=true
structure Stp(ns:Ns)(e:E3)(h:AH)(ns':Ns)(e':E3)(h':AH):Prop where
 len:h.length<=h'.length
 keep:∀(m:Nat) (o:Ob),h[m]?=some o->¬ Mt ns e m->h'[m]?=some o
 nw:∀(i n:Nat),ns'[i]?=some (some n)->ns[i]?=some (some n)\/h.length<=n
 lk:∀(i:Nat) (s:Sl),e[i]?=some s->s.lk=true->e'[i]?=some s/\ns'[i]?=ns[i]?
 lk':∀(i:Nat) (s:Sl),e'[i]?=some s->s.lk=true->e[i]?=some s/\ns'[i]?=ns[i]?
 mu:∀(i:Nat) (v:Val),e'[i]?=some (.mu v)->∃u,e[i]?=some (.mu u)/\ns'[i]?=ns[i]?
 mu':∀(i:Nat) (u:Val),e[i]?=some (.mu u)->∃v,e'[i]?=some (.mu v)/\ns'[i]?=ns[i]?
section
variable{X:Nat->Prop}{h0:Nat}{ns ns' ns1 ci:Ns}{e e' e1 e2:E3}{ae:AE}{h h' h1 h2:AH}
def aU:some n∈ns ↔ ∃i:Nat,ns[i]?=some (some n):=by
 constructor
 ·intro m;exact Mr m
 ·rintro⟨i,e⟩;exact K2 e
def Sat.own(S:Sat X h0 ns e ae h){i n:Nat}(q:ns[i]?=some (some n)):∃s v o,e[i]?=some s/\(s.mt=true\/s.lk=true)/\s.val=some v/\ae[i]?=some (some (.ref n))/\h[n]?=some o/\bQ o/\Rc (Oc X ns) h o v:=by
 have hi:i<e.length:=by rw[<- S.l2];exact (h_.mp q).1
 have hs:=S.sl i e[i] (l_ hi)
 refine⟨e[i],?_⟩
 have he:=l_ hi
 generalize e[i]=s at *
 rw[q] at hs
 cases s with
 |no=>cases hs
 |sh v=>cases hs.1
 |ow v=>obtain⟨m,o,e1,e2,_,e3,e4,e5⟩:=hs;cases e1;exact⟨v,o,he,.inl rfl,rfl,e2,e3,e4,e5⟩
 |lo v=>obtain⟨m,o,e1,e2,_,e3,e4,e5⟩:=hs;cases e1;exact⟨v,o,he,.inr rfl,rfl,e2,e3,e4,e5⟩
 |mu v=>obtain⟨m,o,e1,e2,e3,e4,e5⟩:=hs;cases e1;exact⟨v,o,he,.inl rfl,rfl,e2,e3,e4,e5⟩
 |lm v=>obtain⟨m,o,e1,e2,e3,e4,e5⟩:=hs;cases e1;exact⟨v,o,he,.inr rfl,rfl,e2,e3,e4,e5⟩
noncomputable def Stp.refl:Stp ns e h ns e h:=⟨n_ _,λ_ _ q _=>q,λ_ _ q=>.inl q,λ_ _ q _=>⟨q,rfl⟩,λ_ _ q _=>⟨q,rfl⟩,λ_ _ q=>⟨_,q,rfl⟩,λ_ _ q=>⟨_,q,rfl⟩⟩
def Stp.trans(S:Sat X h0 ns e ae h)(a:Stp ns e h ns1 e1 h1)(b:Stp ns1 e1 h1 ci e2 h2):Stp ns e h ci e2 h2:=by
 refine⟨x_ a.len b.len,λm o q hm=>?_,λi n q=>?_,λi s q hl=>?_,λi s q hl=>?_,λi v q=>?_,λi v q=>?_⟩
 ·refine b.keep m o (a.keep m o q hm) λ⟨i,s,z1,z2,z3⟩=>hm ?_
  have hlt:=(h_.mp q).1
  rcases a.nw i m z1 with z |z
  ·obtain⟨s0,v,o',q1,q2,_⟩:=S.own z
   rcases q2 with q2 |q2
   ·exact⟨i,s0,z,q1,q2⟩
   ·have:=(a.lk i s0 q1 q2).1
    rw[z2] at this
    cases this
    exfalso
    cases s <;> first |cases z3;done |cases q2;done
  ·omega
 ·rcases b.nw i n q with z |z
  ·exact a.nw i n z
  ·exact .inr (x_ a.len z)
 ·obtain⟨q1,q2⟩:=a.lk i s q hl
  obtain⟨q3,q4⟩:=b.lk i s q1 hl
  exact⟨q3,q4.trans q2⟩
 ·obtain⟨q1,q2⟩:=b.lk' i s q hl
  obtain⟨q3,q4⟩:=a.lk' i s q1 hl
  exact⟨q3,q2.trans q4⟩
 ·obtain⟨u,q1,q2⟩:=b.mu i v q
  obtain⟨u',q3,q4⟩:=a.mu i u q1
  exact⟨u',q3,q2.trans q4⟩
 ·obtain⟨u,q1,q2⟩:=a.mu' i v q
  obtain⟨u',q3,q4⟩:=b.mu' i u q1
  exact⟨u',q3,q4.trans q2⟩
noncomputable def Stp.mov(S:Sat X h0 ns e ae h)(a:Stp ns e h ns1 e1 h1):Mov (Oc X ns) (Oc X ns1) h h1:=λn o p q=>by
 have hlt:=(h_.mp q).1
 have hm:¬ Mt ns e n:=λ⟨i,s,z,_⟩=>p.2 (aU.mpr ⟨i,z⟩)
 refine⟨⟨p.1,λz=>?_⟩,a.keep n o q hm⟩
 obtain⟨i,z⟩:=aU.mp z
 rcases a.nw i n z with z |z
 ·exact p.2 (aU.mpr ⟨i,z⟩)
 ·omega
def bW(q:h[n]?=some o):n<h.length:=(h_.mp q).1
def jI{n:Nat}{o:Ob}{g:AH}(q:h[n]?=some o):(h++g)[n]?=some o:=by rw[E_ (bW q)];exact q
def Cj:(h++[o])[h.length]?=some o:=by rw[Ku (n_ _),Mz];rfl
def SlR.mono(m:Mov P P' h h')(k:∀j o,n=some (some j)->h[j]?=some o->h'[j]?=some o)(r:SlR P h0 n d h s):SlR P' h0 n d h' s:=by
 cases s with
 |no=>exact r
 |sh v=>obtain⟨q,x,q1,q2⟩:=r;exact⟨q,x,q1,q2.mono m⟩
 |ow v=>obtain⟨j,o,q1,q2,q3,q4,q5,q6⟩:=r;exact⟨j,o,q1,q2,q3,k j o q1 q4,q5,q6.mono m⟩
 |lo v=>obtain⟨j,o,q1,q2,q3,q4,q5,q6⟩:=r;exact⟨j,o,q1,q2,q3,k j o q1 q4,q5,q6.mono m⟩
 |mu v=>obtain⟨j,o,q1,q2,q4,q5,q6⟩:=r;exact⟨j,o,q1,q2,k j o q1 q4,q5,q6.mono m⟩
 |lm v=>obtain⟨j,o,q1,q2,q4,q5,q6⟩:=r;exact⟨j,o,q1,q2,k j o q1 q4,q5,q6.mono m⟩
def Xn(X:Nat->Prop)(n:Nat):Nat->Prop:=λm=>X m\/m=n
def Sat.grow(S:Sat X h0 ns e ae h)(o:Ob):Sat (Xn X h.length) h0 ns e ae (h++[o]):=by
 have mv:Mov (Oc X ns) (Oc (Xn X h.length) ns) h (h++[o]):=λn o' p q=>⟨⟨λz=>by
  rcases z with z |z
  ·exact p.1 z
  ·have:=bW q;omega,p.2⟩,jI q⟩
 refine⟨S.l1,S.l2,by rw[r_];have:=S.lh;omega,λn z=>?_,S.inj,λi n q z=>?_,λi s q=>(S.sl i s q).mono mv λj o' _ q'=>jI q'⟩
 ·rw[r_]
  rcases z with z |z
  ·have:=S.xl n z;omega
  ·subst z;show h.length<h.length+1;omega
 ·rcases z with z |z
  ·exact S.nx i n q z
  ·obtain⟨_,_,_,_,_,_,_,q',_⟩:=S.own q
   have:=bW q';omega
def Sat.weak(S:Sat Y h0 ns e ae h)(hx:∀n,X n->Y n):Sat X h0 ns e ae h:=
 ⟨S.l1,S.l2,S.lh,λn z=>S.xl n (hx n z),S.inj,λi n q z=>S.nx i n q (hx n z),λi s q=>(S.sl i s q).mono (λn o p q=>⟨⟨λz=>p.1 (hx n z),p.2⟩,q⟩) λ_ _ _ q=>q⟩
def Stp.grow(o:Ob):Stp ns e h ns e (h++[o]):=⟨by rw[r_];omega,λ_ _ q _=>jI q,λ_ _ q=>.inl q,λ_ _ q _=>⟨q,rfl⟩,λ_ _ q _=>⟨q,rfl⟩,λ_ _ q=>⟨_,q,rfl⟩,λ_ _ q=>⟨_,q,rfl⟩⟩
end
section
variable{X:Nat->Prop}{h0:Nat}{ns ns':Ns}{e e':E3}{ae:AE}{h h' hs:AH}
def br{α:Type}{l:List α}{i j:Nat}{a b:α}(hi:i<l.length)(q:(l.set i a)[j]?=some b):(j=i/\b=a)\/(j≠i/\l[j]?=some b):=by
 rw[LP] at q
 by_cases z:i=j
 ·subst z
  rw[if_pos rfl,if_pos hi] at q
  exact .inl ⟨rfl,(z_ q).symm⟩
 ·rw[if_neg z] at q
  exact .inr ⟨λy=>z y.symm,q⟩
def bI{α:Type}{l:List α}{i:Nat}{a:α}(hi:i<l.length):(l.set i a)[i]?=some a:=by rw[LP,if_pos rfl,if_pos hi]
def bM{α:Type}{l:List α}{i j:Nat}{a:α}(hi:j≠i):(l.set i a)[j]?=l[j]?:=by rw[Ms (λy=>hi y.symm)]
def eU(p:Oc X ns n):Oc X (ns.set i none) n:=⟨p.1,λz=>by
 rcases Lb z with z |z
 ·exact p.2 z
 ·cases z⟩
def Sat.putN(S:Sat X h0 ns e ae h)(hi:i<e.length)(q:SlR (Oc X (ns.set i none)) h0 (some none) (some d) h s):Sat X h0 (ns.set i none) (e.set i s) (ae.set i d) h:=by
 have hn:i<ns.length:=by rw[S.l2];exact hi
 have ha:i<ae.length:=by rw[S.l1];exact hi
 refine⟨by rw[A_,A_];exact S.l1,by rw[A_,A_];exact S.l2,S.lh,S.xl,λj k n q1 q2=>?_,λj n q1=>?_,λj s' q1=>?_⟩
 ·rcases br hn q1 with ⟨_,z⟩ |⟨_,z⟩
  ·cases z
  rcases br hn q2 with ⟨_,y⟩ |⟨_,y⟩
  ·cases y
  exact S.inj j k n z y
 ·rcases br hn q1 with ⟨_,z⟩ |⟨_,z⟩
  ·cases z
  exact S.nx j n z
 ·rcases br hi q1 with ⟨rfl,rfl⟩ |⟨z,q2⟩
  ·rw[bI hn,bI ha];exact q
  ·rw[bM z,bM z]
   exact (S.sl j s' q2).mono (λn o p q=>⟨eU p,q⟩) λ_ _ _ q=>q
def Sat.putN'(S:Sat X h0 ns e ae h)(hi:i<e.length)(q:SlR (Oc X (ns.set i none)) h0 (some none) (ae[i]?) h s):Sat X h0 (ns.set i none) (e.set i s) ae h:=by
 have ha:i<ae.length:=by rw[S.l1];exact hi
 have:=S.putN hi (s:=s) (d:=ae[i]) (by rw[l_ ha] at q;exact q)
 rw[List.set_getElem_self] at this
 exact this
def Sat.putO(S:Sat (Xn X n) h0 ns e ae h)(hx:¬ X n)(hi:i<e.length)(hn0:h0<=n)(eo:h[n]?=some o)(hf:bQ o)(r:Rc (Oc (Xn X n) ns) h o v):Sat X h0 (ns.set i (some n)) (e.set i (.ow v)) (ae.set i (some (.ref n))) h:=by
 have hn:i<ns.length:=by rw[S.l2];exact hi
 have ha:i<ae.length:=by rw[S.l1];exact hi
 have nn:∀j:Nat,ns[j]?≠some (some n):=λj q=>S.nx j n q (.inr rfl)
 have mv:Mov (Oc (Xn X n) ns) (Oc X (ns.set i (some n))) h h:=λm o' p q=>⟨⟨λz=>p.1 (.inl z),λz=>by
  rcases Lb z with z |z
  ·exact p.2 z
  ·cases z;exact p.1 (.inr rfl)⟩,q⟩
 refine⟨by rw[A_,A_];exact S.l1,by rw[A_,A_];exact S.l2,S.lh,λm z=>S.xl m (.inl z),λj k m q1 q2=>?_,λj m q1 z=>?_,λj s' q1=>?_⟩
 ·rcases br hn q1 with ⟨z1,z⟩ |⟨z1,z⟩ <;> rcases br hn q2 with ⟨y1,y⟩ |⟨y1,y⟩
  ·rw[z1,y1]
  ·cases z;exact absurd y (nn k)
  ·cases y;exact absurd z (nn j)
  ·exact S.inj j k m z y
 ·rcases br hn q1 with ⟨_,y⟩ |⟨_,y⟩
  ·cases y;exact hx z
  ·exact S.nx j m y (.inl z)
 ·rcases br hi q1 with ⟨rfl,rfl⟩ |⟨z,q2⟩
  ·rw[bI hn,bI ha];exact⟨n,o,rfl,rfl,hn0,eo,hf,r.mono mv⟩
  ·rw[bM z,bM z]
   exact (S.sl j s' q2).mono mv λ_ _ _ q=>q
noncomputable def Sl.pl:Sl->Bool
 |.no=>true
 |.sh _=>true
 |.ow _=>true
 |_=>false
def Stp.put(A:Stp ns0 e0 hs ns e h)(hi:i<e.length)(hx:∀n,x=some n->hs.length<=n)(q0:e[i]?=some s0)(p0:s0.pl=true)(p:s.pl=true)(l2:ns.length=e.length):Stp ns0 e0 hs (ns.set i x) (e.set i s) h:=by
 have hn:i<ns.length:=by rw[l2];exact hi
 refine⟨A.len,A.keep,λj n q=>?_,λj s' q hl=>?_,λj s' q hl=>?_,λj v q=>?_,λj v q=>?_⟩
 ·rcases br hn q with ⟨_,z⟩ |⟨_,z⟩
  ·exact .inr (hx n z.symm)
  ·exact A.nw j n z
 ·obtain⟨q1,q2⟩:=A.lk j s' q hl
  have z:j≠i:=λz=>by
   subst z
   rw[q0] at q1;cases q1
   cases s0 <;> first |cases p0;done |cases hl;done
  rw[bM z,bM z];exact⟨q1,q2⟩
 ·rcases br hi q with ⟨_,z⟩ |⟨z,q1⟩
  ·subst z;cases s' <;> first |cases p;done |cases hl;done
  ·rw[bM z];exact A.lk' j s' q1 hl
 ·rcases br hi q with ⟨_,z⟩ |⟨z,q1⟩
  ·subst z;cases p
  ·rw[bM z];exact A.mu j v q1
 ·obtain⟨u,q1,q2⟩:=A.mu' j v q
  have z:j≠i:=λz=>by
   subst z
   rw[q0] at q1;cases q1;cases p0
  exact⟨u,by rw[bM z];exact q1,by rw[bM z];exact q2⟩
end
inductive Tm where
 |val (v:Val) |new (v:Val) |bor (i:Nat)
inductive R3(α:Type) where
 |ok (a:α) (e:E3) |exc (c:Str) (e:E3) |stuck
def R3.bind{α β:Type}(r:R3 α)(f:α->E3->R3 β):R3 β:=match r with
 |.ok a e=>f a e
 |.exc c e=>.exc c e
 |.stuck=>.stuck
abbrev ME3:=E3->R3 Tm
abbrev MT3:=E3->R3 Bool
abbrev MA3:=E3->R3 (List Tm)
def Po{δ α:Type}(X:Nat->Prop)(h0:Nat)(ns:Ns)(e:E3)(ae:AE)(h:AH)(rel:Ns->E3->AH->δ->α->Prop)(r2:R δ):R3 α->Prop
 |.stuck=>True
 |.ok t e'=>∃d h' ns',r2=.ok d h'/\Stp ns e h ns' e' h'/\Sat X h0 ns' e' ae h'/\rel ns' e' h' d t
 |.exc c e'=>∃h' ns',r2=.exc c h'/\Stp ns e h ns' e' h'/\Sat X h0 ns' e' ae h'
def relE(X:Nat->Prop)(h0 L:Nat)(ae:AE)(ns:Ns)(e:E3)(h:AH)(d:D):Tm->Prop
 |.val v=>Rd (Oc X ns) h d v
 |.new v=>∃n o,d=.ref n/\L<=n/\¬ X n/\h[n]?=some o/\bQ o/\Sat (Xn X n) h0 ns e ae h/\Rc (Oc (Xn X n) ns) h o v
 |.bor i=>ae[i]?=some (some d)
def relT(_:Ns)(_:E3)(_:AH)(b c:Bool):Prop:=b=c
inductive TsR(X:Nat->Prop)(ns:Ns)(ae:AE)(h:AH):List D->List Tm->Prop where
 |nil:TsR X ns ae h [] []
 |val {d:D}{v:Val}{ds:List D}{ts:List Tm} (r:Rd (Oc X ns) h d v) (rr:TsR X ns ae h ds ts):TsR X ns ae h (d::ds) (.val v::ts)
 |bor {d:D}{i:Nat}{ds:List D}{ts:List Tm} (q:ae[i]?=some (some d)) (rr:TsR X ns ae h ds ts):TsR X ns ae h (d::ds) (.bor i::ts)
def relA(X:Nat->Prop)(ae:AE)(ns:Ns)(_:E3)(h:AH)(ds:List D)(ts:List Tm):Prop:=TsR X ns ae h ds ts
def RE(F:ME)(G:ME3):Prop:=∀X h0 L ns e ae h,Sat X h0 ns e ae h->L<=h.length->Po X h0 ns e ae h (relE X h0 L ae) (F ae h) (G e)
def RT(F:MT)(G:MT3):Prop:=∀X h0 ns e ae h,Sat X h0 ns e ae h->Po X h0 ns e ae h relT (F ae h) (G e)
def RA(F:MA)(G:MA3):Prop:=∀X h0 ns e ae h,Sat X h0 ns e ae h->Po X h0 ns e ae h (relA X ae) (F ae h) (G e)
section
variable{X:Nat->Prop}{h0 L:Nat}{ns ns':Ns}{e e':E3}{ae:AE}{h h':AH}
def Po.bind(S:Sat X h0 ns e ae h)(p:Po X h0 ns e ae h rel r2 r3)
 (k:∀d t h' ns' e',Stp ns e h ns' e' h'->Sat X h0 ns' e' ae h'->rel ns' e' h' d t->Po X h0 ns' e' ae h' rel' (f2 d h') (f3 t e')):Po X h0 ns e ae h rel' (r2.bind f2) (r3.bind f3):=by
 cases r3 with
 |stuck=>trivial
 |exc c e'=>obtain⟨h',ns',q,q1,q2⟩:=p;subst q;exact⟨h',ns',rfl,q1,q2⟩
 |
  ok t e'=>
  obtain⟨d,h',ns',q,q1,q2,q3⟩:=p
  subst q
  have:=k d t h' ns' e' q1 q2 q3
  show Po X h0 ns e ae h rel' (f2 d h') (f3 t e')
  generalize f3 t e'=r at *
  cases r with
  |stuck=>trivial
  |exc c e2=>obtain⟨h2,ci,y,y1,y2⟩:=this;exact⟨h2,ci,y,q1.trans S y1,y2⟩
  |ok t2 e2=>obtain⟨d2,h2,ci,y,y1,y2,y3⟩:=this;exact⟨d2,h2,ci,y,q1.trans S y1,y2,y3⟩
def Po.ret(S:Sat X h0 ns e ae h)(q:rel ns e h d t):Po X h0 ns e ae h rel (.ok d h) (.ok t e):=⟨d,h,ns,rfl,.refl,S,q⟩
def TsR.stp(S:Sat X h0 ns e ae h)(a:Stp ns e h ns' e' h')(r:TsR X ns ae h ds ts):TsR X ns' ae h' ds ts:=by
 induction r with
 |nil=>exact .nil
 |val r _ ih=>exact .val (r.mono (a.mov S)) ih
 |bor q _ ih=>exact .bor q ih
def rs(e:E3):Tm->Option Val
 |.val v=>some v
 |.new v=>some v
 |.bor i=>(e[i]?).bind Sl.val
def Sat.bor(S:Sat X h0 ns e ae h){i:Nat}{d:D}{v:Val}(q:ae[i]?=some (some d))(r:(e[i]?).bind Sl.val=some v):ShR (Oc X ns) h d v:=by
 cases z:e[i]? with
 |none=>rw[z] at r;cases r
 |
  some s=>
  rw[z] at r
  have y:=S.sl i s z
  rw[q] at y
  have r':s.val=some v:=r
  cases s with
  |no=>cases r'
  |sh u=>cases r';obtain⟨_,x,e1,e2⟩:=y;cases e1;exact .inl e2
  |ow u=>cases r';obtain⟨m,o,_,e2,_,e3,_,e4⟩:=y;cases e2;exact .inr ⟨m,o,rfl,e3,e4⟩
  |lo u=>cases r';obtain⟨m,o,_,e2,_,e3,_,e4⟩:=y;cases e2;exact .inr ⟨m,o,rfl,e3,e4⟩
  |mu u=>cases r';obtain⟨m,o,_,e2,e3,_,e4⟩:=y;cases e2;exact .inr ⟨m,o,rfl,e3,e4⟩
  |lm u=>cases r';obtain⟨m,o,_,e2,e3,_,e4⟩:=y;cases e2;exact .inr ⟨m,o,rfl,e3,e4⟩
def relE.new(r:relE X h0 L ae ns e h d (.new v)):Rd (Oc X ns) h d v:=by
 obtain⟨n,o,rfl,_,hx,eo,_,S,rc⟩:=r
 exact .cell ⟨hx,λz=>by obtain⟨i,z⟩:=aU.mp z;exact S.nx i n z (.inr rfl)⟩ eo (rc.mono λm o p q=>⟨⟨λz=>p.1 (.inl z),p.2⟩,q⟩)
def relE.sh{d:D}{t:Tm}{v:Val}(S:Sat X h0 ns e ae h)(r:relE X h0 L ae ns e h d t)(q:rs e t=some v):ShR (Oc X ns) h d v:=by
 cases t with
 |val u=>cases q;exact .inl r
 |new u=>cases q;exact .inl r.new
 |bor i=>exact S.bor r q
def relE.stp(S:Sat X h0 ns e ae h)(a:Stp ns e h ns' e' h')(r:relE X h0 L ae ns e h d t)(hn:∀v,t ≠ .new v):relE X h0 L ae ns' e' h' d t:=by
 cases t with
 |val u=>exact Rd.mono (a.mov S) r
 |new u=>exact absurd rfl (hn u)
 |bor i=>exact r
def Tm.drop:Tm->Tm
 |.new v=>.val v
 |t=>t
def relE.drop(r:relE X h0 L ae ns e h d t):relE X h0 L ae ns e h d t.drop/\∀v,t.drop ≠ .new v:=by
 cases t with
 |val u=>exact⟨r,λ_ z=>nomatch z⟩
 |new u=>exact⟨r.new,λ_ z=>nomatch z⟩
 |bor i=>exact⟨r,λ_ z=>nomatch z⟩
def rss(e:E3):List Tm->Option (List Val)
 | []=>some []
 |t::ts=>match rs e t,rss e ts with
  |some v,some vs=>some (v::vs)
  |_,_=>none
def TsR.sh{ds:List D}{ts:List Tm}{vs:List Val}(S:Sat X h0 ns e ae h)(r:TsR X ns ae h ds ts)(q:rss e ts=some vs):ShRs (Oc X ns) h ds vs:=by
 induction r generalizing vs with
 |nil=>cases q;exact .nil
 |
  val r _ ih=>
  unfold rss at q
  split at q
  ·rename_i e1 e2;cases q;cases e1;exact .cons (.inl r) (ih e2)
  ·cases q
 |
  bor q' _ ih=>
  unfold rss at q
  split at q
  ·rename_i e1 e2;cases q;exact .cons (S.bor q' e1) (ih e2)
  ·cases q
end
inductive Bv where
 |val (v:Val) |new (v:Val) |stuck
def BvR(P:Nat->Prop)(h:AH)(r:R D):Bv->Prop
 |.val v=>∃d,r=.ok d h/\Rd P h d v
 |.new v=>∃o,r=.ok (.ref h.length) (h++[o])/\bQ o/\Rc P h o v
 |.stuck=>True
def Bv.at(b:Bv)(e:E3):R3 Tm:=match b with
 |.val v=>.ok (.val v) e
 |.new v=>.ok (.new v) e
 |.stuck=>.stuck
def BvR.po(S:Sat X h0 ns e ae h)(hl:L<=h.length)(q:BvR (Oc X ns) h r b):Po X h0 ns e ae h (relE X h0 L ae) r (b.at e):=by
 cases b with
 |stuck=>trivial
 |val v=>obtain⟨d,rfl,r⟩:=q;exact Po.ret S r
 |
  new v=>
  obtain⟨o,rfl,hf,r⟩:=q
  have S':=S.grow o
  refine⟨_,_,ns,rfl,.grow o,S'.weak λn z=>.inl z,h.length,o,rfl,hl,λz=>?_,Cj,hf,S',r.mono λn o' p q=>⟨⟨λz=>?_,p.2⟩,jI q⟩⟩
  ·have:=S.xl _ z;omega
  ·rcases z with z |z
   ·exact p.1 z
   ·have:=bW q;omega
def RU(g2:D->AH->R D)(g3:Val->Bv):Prop:=∀P h d v,ShR P h d v->BvR P h (g2 d h) (g3 v)
def RO(g2:D->D->AH->R D)(g3:Val->Val->Bv):Prop:=∀P h d1 d2 v1 v2,ShR P h d1 v1->ShR P h d2 v2->BvR P h (g2 d1 d2 h) (g3 v1 v2)
def RFn(g2:Fn)(g3:List Val->Bv):Prop:=∀P h ds vs,ShRs P h ds vs->BvR P h (g2 ds h) (g3 vs)
def yZ(i:Nat):ME3:=λe=>match e[i]? with
 |some (.sh v)=>.ok (.val v) e
 |some .no=>.stuck
 |some _=>.ok (.bor i) e
 |none=>.stuck
def vC(v:Val):ME3:=λe=>.ok (.val v) e
def vUn(g:Val->Bv)(F:ME3):ME3:=λe=>(F e).bind λt e1=>match rs e1 t with
 |some v=>(g v).at e1
 |none=>.stuck
def vOp(g:Val->Val->Bv)(F G:ME3):ME3:=λe=>(F e).bind λt1 e1=>(G e1).bind λt2 e2=>match rs e2 t1.drop,rs e2 t2 with
 |some v1,some v2=>(g v1 v2).at e2
 |_,_=>.stuck
def nh:MA3:=λe=>.ok [] e
def zV(F:ME3)(A:MA3):MA3:=λe=>(F e).bind λt e1=>(A e1).bind λts e2=>.ok (t.drop::ts) e2
def vFn(g:List Val->Bv)(A:MA3):ME3:=λe=>(A e).bind λts e1=>match rss e1 ts with
 |some vs=>(g vs).at e1
 |none=>.stuck
def bY(e:E3):Tm->Option (E3×Val)
 |.val v=>some (e,v)
 |.new v=>some (e,v)
 |.bor i=>match e[i]? with
  |some (.sh v)=>some (e,v)
  |some (.ow v)=>some (e.set i (.sh v),v)
  |_=>none
def dem(e:E3):List Tm->Option (E3×List Val)
 | []=>some (e,[])
 |t::ts=>match bY e t with
  |some (e1,v)=>match dem e1 ts with
   |some (e2,vs)=>some (e2,v::vs)
   |none=>none
  |none=>none
def vTup(A:MA3):ME3:=λe=>(A e).bind λts e1=>match dem e1 ts with
 |some (e2,vs)=>if vs.length<=16777216 then .ok (.val (.tup vs)) e2 else .stuck
 |none=>.stuck
def vLst(A:MA3):ME3:=λe=>(A e).bind λts e1=>match dem e1 ts with
 |some (e2,vs)=>if vs.length<=16777216 then .ok (.new (.lst vs)) e2 else .stuck
 |none=>.stuck
noncomputable def bOf:Option Val->Option Bool
 |some (.bl b)=>some b
 |_=>none
def vAnd(F G:ME3):ME3:=λe=>(F e).bind λt e1=>match bOf (rs e1 t) with
 |some true=>G e1
 |some false=>.ok (.val (.bl false)) e1
 |none=>.stuck
def vNot(F:ME3):ME3:=λe=>(F e).bind λt e1=>match bOf (rs e1 t) with
 |some b=>.ok (.val (.bl (!b))) e1
 |none=>.stuck
def cOf(F:ME3):MT3:=λe=>(F e).bind λt e1=>match bOf (rs e1 t) with
 |some b=>.ok b e1
 |none=>.stuck
def cAn(c d:MT3):MT3:=λe=>(c e).bind λb e1=>if b=true then d e1 else .ok false e1
def cO(c d:MT3):MT3:=λe=>(c e).bind λb e1=>if b=true then .ok true e1 else d e1
def cNo(c:MT3):MT3:=λe=>(c e).bind λb e1=>.ok (!b) e1
def cY:MT3:=λe=>.ok true e
section
variable{F G:ME}{F3 G3:ME3}{A:MA}{A3:MA3}{c d:MT}{c3 d3:MT3}
def DJ(i:Nat):RE (aH i) (yZ i):=λX h0 L ns e ae h S hl=>by
 unfold yZ
 cases q:e[i]? with
 |none=>trivial
 |
  some s=>
  have y:=S.sl i s q
  cases s with
  |no=>trivial
  |sh v=>obtain⟨_,x,e1,e2⟩:=y;unfold aH;rw[e1];exact Po.ret S e2
  |ow v=>obtain⟨m,o,_,e2,_⟩:=y;unfold aH;rw[e2];exact Po.ret S e2
  |lo v=>obtain⟨m,o,_,e2,_⟩:=y;unfold aH;rw[e2];exact Po.ret S e2
  |mu v=>obtain⟨m,o,_,e2,_⟩:=y;unfold aH;rw[e2];exact Po.ret S e2
  |lm v=>obtain⟨m,o,_,e2,_⟩:=y;unfold aH;rw[e2];exact Po.ret S e2
def mT{d:D}{v:Val}(r:∀P h,Rd P h d v):RE (eC d) (vC v):=λX h0 L ns e ae h S hl=>Po.ret S (r _ _)
def Ik(hg:RU g g3)(hF:RE F F3):RE (eUn g F) (vUn g3 F3):=λX h0 L ns e ae h S hl=>
 Po.bind S (hF X h0 L ns e ae h S hl) λd t h1 ns1 e1 a1 S1 r1=>by
  try dsimp only
  split
  ·rename_i v q
   exact BvR.po S1 (x_ hl a1.len) (hg _ _ _ _ (r1.sh S1 q))
  ·trivial
def Jo(hg:RO g g3)(hF:RE F F3)(hG:RE G G3):RE (eOp g F G) (vOp g3 F3 G3):=λX h0 L ns e ae h S hl=>
 Po.bind S (hF X h0 L ns e ae h S hl) λd1 t1 h1 ns1 e1 a1 S1 r1=>Po.bind S1 (hG X h0 L ns1 e1 ae h1 S1 (x_ hl a1.len)) λd2 t2 h2 ci e2 a2 S2 r2=>by
  try dsimp only
  split
  ·rename_i v1 v2 q1 q2
   obtain⟨r1',hn⟩:=r1.drop
   exact BvR.po S2 (x_ hl (x_ a1.len a2.len)) (hg _ _ _ _ _ _ ((r1'.stp S1 a2 hn).sh S2 q1) (r2.sh S2 q2))
  ·trivial
def ve:RA ji nh:=λX h0 ns e ae h S=>Po.ret S .nil
def BA(hF:RE F F3)(hA:RA A A3):RA (gF F A) (zV F3 A3):=λX h0 ns e ae h S=>
 Po.bind S (hF X h0 0 ns e ae h S (KA _)) λd1 t1 h1 ns1 e1 a1 S1 r1=>Po.bind S1 (hA X h0 ns1 e1 ae h1 S1) λds ts h2 ci e2 a2 S2 r2=>by
  obtain⟨r1',hn⟩:=r1.drop
  have r3:=r1'.stp S1 a2 hn
  refine Po.ret S2 ?_
  show TsR X ci ae h2 (d1::ds) (t1.drop::ts)
  generalize t1.drop=t at *
  cases t with
  |val v=>exact .val r3 r2
  |new v=>exact absurd rfl (hn v)
  |bor i=>exact .bor r3 r2
def ID(hg:RFn g g3)(hA:RA A A3):RE (eFn g A) (vFn g3 A3):=λX h0 L ns e ae h S hl=>
 Po.bind S (hA X h0 ns e ae h S) λds ts h1 ns1 e1 a1 S1 r1=>by
  try dsimp only
  split
  ·rename_i vs q
   exact BvR.po S1 (x_ hl a1.len) (hg _ _ _ _ (TsR.sh S1 r1 q))
  ·trivial
def GI(S:Sat X h0 ns e ae h)(q:e[i]?=some (.ow v)):∃n,ae[i]?=some (some (.ref n))/\Sat X h0 (ns.set i none) (e.set i (.sh v)) ae h/\Stp ns e h (ns.set i none) (e.set i (.sh v)) h/\Rd (Oc X (ns.set i none)) h (.ref n) v:=by
 obtain⟨n,o,q1,q2,_,q3,_,q4⟩:=S.sl i _ q
 have hi:=(h_.mp q).1
 have hn:i<ns.length:=by rw[S.l2];exact hi
 have r:Rd (Oc X (ns.set i none)) h (.ref n) v:=.cell ⟨S.nx i n q1,λz=>by
  obtain⟨j,z⟩:=aU.mp z
  rcases br hn z with ⟨_,y⟩ |⟨y,z⟩
  ·cases y
  ·exact y (S.inj j i n z q1)⟩ q3 (q4.mono λm o p q=>⟨eU p,q⟩)
 exact⟨n,q2,S.putN' hi ⟨rfl,_,q2,r⟩,Stp.refl.put (x:=none) hi (λ_ z=>by cases z) q rfl rfl S.l2,r⟩
def eO{X:Nat->Prop}{h0 L:Nat}{ns:Ns}{e e':E3}{ae:AE}{h:AH}{d:D}{t:Tm}{v:Val}(S:Sat X h0 ns e ae h)(r:relE X h0 L ae ns e h d t)(q:bY e t=some (e',v)):∃ns',Sat X h0 ns' e' ae h/\Stp ns e h ns' e' h/\Rd (Oc X ns') h d v:=by
 cases t with
 |val u=>cases q;exact⟨ns,S,.refl,r⟩
 |new u=>cases q;exact⟨ns,S,.refl,r.new⟩
 |
  bor i=>
  unfold bY at q
  dsimp only at q
  have r':ae[i]?=some (some d):=r
  split at q
  ·rename_i u q1;cases q
   obtain⟨_,x,e1,e2⟩:=S.sl i _ q1
   rw[r'] at e1;cases e1
   exact⟨ns,S,.refl,e2⟩
  ·rename_i u q1;cases q
   obtain⟨n,e1,S',a',e2⟩:=GI S q1
   rw[r'] at e1;cases e1
   exact⟨_,S',a',e2⟩
  ·cases q
def jS:∀{ds:List D}{vs:List Val}{ns:Ns}{e e':E3},Sat X h0 ns e ae h->TsR X ns ae h ds ts->dem e ts=some (e',vs)->∃ns',Sat X h0 ns' e' ae h/\Stp ns e h ns' e' h/\Rds (Oc X ns') h ds vs:=by
 induction ts with
 |nil=>intro ds vs ns e e' S r q;cases r;cases q;exact⟨ns,S,.refl,.nil⟩
 |
  cons t ts ih=>
  intro ds vs ns e e' S r q
  unfold dem at q
  split at q
  ·rename_i e1 v q1
   split at q
   ·rename_i e2 vs' q2
    cases q
    have hr:∃d ds',ds=d::ds'/\relE X h0 0 ae ns e h d t/\TsR X ns ae h ds' ts:=by
     cases r with
     |val r rr=>exact⟨_,_,rfl,r,rr⟩
     |bor r rr=>exact⟨_,_,rfl,r,rr⟩
    obtain⟨d,ds',rfl,hr⟩:=hr
    obtain⟨ns1,S1,a1,r1⟩:=eO S hr.1 q1
    obtain⟨ci,S2,a2,r2⟩:=ih S1 (hr.2.stp S a1) q2
    exact⟨ci,S2,a1.trans S a2,.cons (r1.mono (a2.mov S1)) r2⟩
   ·cases q
  ·cases q
def En(hA:RA A A3):RE (eFn gB A) (vTup A3):=λX h0 L ns e ae h S hl=>
 Po.bind S (hA X h0 ns e ae h S) λds ts h1 ns1 e1 a1 S1 r1=>by
  try dsimp only
  split
  ·rename_i e2 vs q
   split
   ·rename_i hv
    obtain⟨ci,S2,a2,r2⟩:=jS S1 r1 q
    exact⟨.tup ds,h1,ci,by unfold gB;rw[if_pos (by rw[r2.len];exact hv)],a2,S2,.tup r2⟩
   ·trivial
  ·trivial
def F5(hA:RA A A3):RE (eFn cZ A) (vLst A3):=λX h0 L ns e ae h S hl=>
 Po.bind S (hA X h0 ns e ae h S) λds ts h1 ns1 e1 a1 S1 r1=>by
  try dsimp only
  split
  ·rename_i e2 vs q
   split
   ·rename_i hv
    obtain⟨ci,S2,a2,r2⟩:=jS S1 r1 q
    have p:=BvR.po (r:=cZ ds h1) (b:=.new (.lst vs)) S2 (x_ hl a1.len) ⟨.lst ds,by unfold cZ;rw[if_pos (by rw[r2.len];exact hv)],trivial,.lst r2⟩
    obtain⟨d,h',ns',y,y1,y2,y3⟩:=p
    exact⟨d,h',ns',y,a2.trans S1 y1,y2,y3⟩
   ·trivial
  ·trivial
def lj(S1:Sat X h0 ns1 e1 ae h1)(r1:relE X h0 L ae ns1 e1 h1 d1 t1)(q:bOf (rs e1 t1)=some b):d1=.bl b:=by
 unfold bOf at q
 split at q
 ·rename_i b' q';cases q;exact (r1.sh S1 q').bl
 ·cases q
def Ee(hF:RE F F3)(hG:RE G G3):RE (oR F G) (vAnd F3 G3):=λX h0 L ns e ae h S hl=>
 Po.bind S (hF X h0 L ns e ae h S hl) λd1 t1 h1 ns1 e1 a1 S1 r1=>by
  try dsimp only
  split
  ·rename_i q;rw[lj S1 r1 q];exact hG X h0 L ns1 e1 ae h1 S1 (x_ hl a1.len)
  ·rename_i q;rw[lj S1 r1 q];exact Po.ret S1 (.bl false)
  ·trivial
def EF(hF:RE F F3):RE (y0 F) (vNot F3):=λX h0 L ns e ae h S hl=>
 Po.bind S (hF X h0 L ns e ae h S hl) λd1 t1 h1 ns1 e1 a1 S1 r1=>by
  try dsimp only
  split
  ·rename_i q;rw[lj S1 r1 q];exact Po.ret S1 (.bl _)
  ·trivial
def Ii(hF:RE F F3):RT (tOf F) (cOf F3):=λX h0 ns e ae h S=>
 Po.bind S (hF X h0 0 ns e ae h S (KA _)) λd1 t1 h1 ns1 e1 a1 S1 r1=>by
  try dsimp only
  split
  ·rename_i q;rw[lj S1 r1 q];exact Po.ret S1 rfl
  ·trivial
def Kd(hc:RT c c3)(hd:RT d d3):RT (tAn c d) (cAn c3 d3):=λX h0 ns e ae h S=>
 Po.bind S (hc X h0 ns e ae h S) λb b' h1 ns1 e1 a1 S1 r1=>by
  cases r1
  try dsimp only
  split
  ·exact hd X h0 ns1 e1 ae h1 S1
  ·exact Po.ret S1 rfl
def rt_o(hc:RT c c3)(hd:RT d d3):RT (tO c d) (cO c3 d3):=λX h0 ns e ae h S=>
 Po.bind S (hc X h0 ns e ae h S) λb b' h1 ns1 e1 a1 S1 r1=>by
  cases r1
  try dsimp only
  split
  ·exact Po.ret S1 rfl
  ·exact hd X h0 ns1 e1 ae h1 S1
def Jl(hc:RT c c3):RT (tNo c) (cNo c3):=λX h0 ns e ae h S=>
 Po.bind S (hc X h0 ns e ae h S) λb b' h1 ns1 e1 a1 S1 r1=>by
  cases r1
  exact Po.ret S1 rfl
def rt_y:RT tY cY:=λX h0 ns e ae h S=>Po.ret S rfl
end
inductive Rt where
 |val (v:Val) |new (v:Val) |par (i:Nat)
inductive SR3 where
 |nx (e:E3) |rt (r:Rt) (e:E3) |bk (e:E3) |ct (e:E3) |exc (c:Str) (e:E3) |stuck
abbrev MS3:=E3->SR3
def RtR(X:Nat->Prop)(h0:Nat)(ns:Ns)(e:E3)(ae:AE)(h:AH)(d:D):Rt->Prop
 |.val v=>Sat X h0 ns e ae h/\Rd (Oc X ns) h d v
 |.new v=>∃n o,d=.ref n/\h0<=n/\¬ X n/\h[n]?=some o/\bQ o/\Sat (Xn X n) h0 ns e ae h/\Rc (Oc (Xn X n) ns) h o v
 |.par i=>Sat X h0 ns e ae h/\ae[i]?=some (some d)/\∃v,e[i]?=some (.mu v)
def PoS(X:Nat->Prop)(h0:Nat)(ns:Ns)(e:E3)(h:AH)(r2:SR):SR3->Prop
 |.stuck=>True
 |.nx e'=>∃am h' ns',r2=.nx am h'/\Stp ns e h ns' e' h'/\Sat X h0 ns' e' am h'
 |.bk e'=>∃am h' ns',r2=.bk am h'/\Stp ns e h ns' e' h'/\Sat X h0 ns' e' am h'
 |.ct e'=>∃am h' ns',r2=.ct am h'/\Stp ns e h ns' e' h'/\Sat X h0 ns' e' am h'
 |.exc c e'=>∃am h' ns',r2=.exc c am h'/\Stp ns e h ns' e' h'/\Sat X h0 ns' e' am h'
 |.rt r e'=>∃d am h' ns',r2=.rt d h'/\Stp ns e h ns' e' h'/\RtR X h0 ns' e' am h' d r
def RS(F:MS)(G:MS3):Prop:=∀X h0 ns e ae h,Sat X h0 ns e ae h->PoS X h0 ns e h (F ae h) (G e)
def R3.toS{α:Type}(r:R3 α)(f:α->E3->SR3):SR3:=match r with
 |.ok a e=>f a e
 |.exc c e=>.exc c e
 |.stuck=>.stuck
def SR3.then(r:SR3)(f:E3->SR3):SR3:=match r with
 |.nx e=>f e
 |r=>r
section
variable{X:Nat->Prop}{h0 L:Nat}{ns ns1 ns':Ns}{e e1 e':E3}{ae:AE}{h h1 h':AH}
def PoS.after(S:Sat X h0 ns e ae h)(a:Stp ns e h ns1 e1 h1)(p:PoS X h0 ns1 e1 h1 r2 r3):PoS X h0 ns e h r2 r3:=by
 cases r3 with
 |stuck=>trivial
 |nx e'=>obtain⟨am,h',ns',q,q1,q2⟩:=p;exact⟨am,h',ns',q,a.trans S q1,q2⟩
 |bk e'=>obtain⟨am,h',ns',q,q1,q2⟩:=p;exact⟨am,h',ns',q,a.trans S q1,q2⟩
 |ct e'=>obtain⟨am,h',ns',q,q1,q2⟩:=p;exact⟨am,h',ns',q,a.trans S q1,q2⟩
 |exc c e'=>obtain⟨am,h',ns',q,q1,q2⟩:=p;exact⟨am,h',ns',q,a.trans S q1,q2⟩
 |rt r e'=>obtain⟨d,am,h',ns',q,q1,q2⟩:=p;exact⟨d,am,h',ns',q,a.trans S q1,q2⟩
def PoS.toS(p:Po X h0 ns e ae h rel r2 r3)
 (k:∀d t h' ns' e',Stp ns e h ns' e' h'->Sat X h0 ns' e' ae h'->rel ns' e' h' d t->PoS X h0 ns e h (f2 d h') (f3 t e')):PoS X h0 ns e h (r2.toS ae f2) (r3.toS f3):=by
 cases r3 with
 |stuck=>trivial
 |exc c e'=>obtain⟨h',ns',rfl,q1,q2⟩:=p;exact⟨ae,h',ns',rfl,q1,q2⟩
 |ok t e'=>obtain⟨d,h',ns',rfl,q1,q2,q3⟩:=p;exact k d t h' ns' e' q1 q2 q3
def PoS.nx(a:Stp ns e h ns' e' h')(S:Sat X h0 ns' e' am h'):PoS X h0 ns e h (.nx am h') (.nx e'):=⟨am,h',ns',rfl,a,S⟩
end
def wNx:MS3:=λe=>.nx e
def wSeq(F G:MS3):MS3:=λe=>(F e).then G
def zK(F:ME3):MS3:=λe=>(F e).toS λ_ e1=>.nx e1
def wIf(c:MT3)(F G:MS3):MS3:=λe=>(c e).toS λb e1=>if b=true then F e1 else G e1
def mq(t:Tm)(e:E3):SR3:=match t with
 |.val v=>.rt (.val v) e
 |.new v=>.rt (.new v) e
 |.bor i=>match e[i]? with
  |some (.sh v)=>.rt (.val v) e
  |some (.ow v)=>.rt (.new v) (e.set i .no)
  |some (.mu _)=>.rt (.par i) e
  |_=>.stuck
def wRet(F:ME3):MS3:=λe=>(F e).toS mq
def g7(o:Bool)(i:Nat)(t:Tm)(e:E3):SR3:=match e[i]? with
 |some s0=>if s0.pl=true then (match t with
  |.val v=>.nx (e.set i (.sh v))
  |.new v=>.nx (e.set i (if o=true then .ow v else .sh v))
  |.bor j=>match bY e (.bor j) with
   |some (e2,v)=>.nx (e2.set i (.sh v))
   |none=>.stuck) else .stuck
 |none=>.stuck
def wAsg(o:Bool)(i:Nat)(F:ME3):MS3:=λe=>(F e).toS (g7 o i)
abbrev MG3:=Val->E3->Option E3
abbrev i5:=List Val->E3->Option E3
def pN(i:Nat):MG3:=λv e=>match e[i]? with
 |some s=>if s.pl=true then some (e.set i (.sh v)) else none
 |none=>none
def psN:i5:=λvs e=>match vs with
 | []=>some e
 |_=>none
def psC(g:MG3)(u:i5):i5:=λvs e=>match vs with
 |v::r=>(g v e).bind λe1=>u r e1
 | []=>none
def pT(n:Nat)(u:i5):MG3:=λv e=>match v with
 |.tup vs=>if vs.length=n then u vs e else none
 |_=>none
def zP(F:ME3)(g:MG3):MS3:=λe=>(F e).toS λt e1=>match bY e1 t with
 |some (e2,v)=>match g v e2 with
  |some e3=>.nx e3
  |none=>.stuck
 |none=>.stuck
def wPar(i j:Nat)(A:MA3):MS3:=λe=>(A e).toS λts e1=>match dem e1 ts with
 |some (e2,[v,u])=>match (pN i v e2).bind (pN j u) with
  |some e3=>.nx e3
  |none=>.stuck
 |_=>.stuck
def xi(c:Str)(A:MA3):MS3:=λe=>(A e).toS λts e1=>if ts.length<=16777216 then .exc c e1 else .stuck
def RG(g2:MG)(g3:MG3):Prop:=∀X h0 ns e ae h d v e',Sat X h0 ns e ae h->Rd (Oc X ns) h d v->g3 v e=some e'->∃am ns',g2 d ae h=.ok am h/\Sat X h0 ns' e' am h/\Stp ns e h ns' e' h
def RGs(g2:MGs)(g3:i5):Prop:=∀X h0 ns e ae h ds vs e',Sat X h0 ns e ae h->Rds (Oc X ns) h ds vs->g3 vs e=some e'->∃am ns',g2 ds ae h=.ok am h/\Sat X h0 ns' e' am h/\Stp ns e h ns' e' h
section
variable{F G:ME}{F3 G3:ME3}{A:MA}{A3:MA3}{c d:MT}{c3 d3:MT3}{U V:MS}{U3 V3:MS3}{g:MG}{g3:MG3}{gs:MGs}{gs3:i5}
def I0:RS sNx wNx:=λX h0 ns e ae h S=>.nx .refl S
def E7(hU:RS U U3)(hV:RS V V3):RS (xv U V) (wSeq U3 V3):=λX h0 ns e ae h S=>by
 have p:=hU X h0 ns e ae h S
 show PoS X h0 ns e h ((U ae h).then V) ((U3 e).then V3)
 generalize U3 e=r at *
 cases r with
 |stuck=>trivial
 |nx e'=>obtain⟨am,h',ns',q,q1,q2⟩:=p;rw[q];exact PoS.after S q1 (hV X h0 ns' e' am h' q2)
 |bk e'=>obtain⟨am,h',ns',q,q1,q2⟩:=p;rw[q];exact⟨am,h',ns',rfl,q1,q2⟩
 |ct e'=>obtain⟨am,h',ns',q,q1,q2⟩:=p;rw[q];exact⟨am,h',ns',rfl,q1,q2⟩
 |exc c e'=>obtain⟨am,h',ns',q,q1,q2⟩:=p;rw[q];exact⟨am,h',ns',rfl,q1,q2⟩
 |rt r e'=>obtain⟨d,am,h',ns',q,q1,q2⟩:=p;rw[q];exact⟨d,am,h',ns',rfl,q1,q2⟩
def Ba(hF:RE F F3):RS (uM F) (zK F3):=λX h0 ns e ae h S=>PoS.toS (hF X h0 0 ns e ae h S (KA _)) λd t h1 ns1 e1 a1 S1 r1=>.nx a1 S1
def Jd(hc:RT c c3)(hU:RS U U3)(hV:RS V V3):RS (sIf c U V) (wIf c3 U3 V3):=λX h0 ns e ae h S=>PoS.toS (hc X h0 ns e ae h S) λb b' h1 ns1 e1 a1 S1 r1=>by
 cases r1
 try dsimp only
 split
 ·exact PoS.after S a1 (hU X h0 ns1 e1 ae h1 S1)
 ·exact PoS.after S a1 (hV X h0 ns1 e1 ae h1 S1)
def GJ(hF:RE F F3):RS (xx F) (wRet F3):=λX h0 ns e ae h S=>PoS.toS (hF X h0 h0 ns e ae h S S.lh) λd t h1 ns1 e1 a1 S1 r1=>by
 cases t with
 |val v=>exact⟨d,ae,h1,ns1,rfl,a1,S1,r1⟩
 |new v=>obtain⟨n,o,q⟩:=r1;exact⟨d,ae,h1,ns1,rfl,a1,n,o,q⟩
 |
  bor i=>
  unfold mq
  dsimp only
  have r':ae[i]?=some (some d):=r1
  split
  ·rename_i v q
   obtain⟨_,x,e1',e2⟩:=S1.sl i _ q
   rw[r'] at e1';cases e1'
   exact⟨d,ae,h1,ns1,rfl,a1,S1,e2⟩
  ·rename_i v q
   obtain⟨n,o,q1,q2,q3,q4,q5,q6⟩:=S1.sl i _ q
   rw[r'] at q2;cases q2
   have hi:=(h_.mp q).1
   have hn:i<ns1.length:=by rw[S1.l2];exact hi
   have mv:Mov (Oc X ns1) (Oc (Xn X n) (ns1.set i none)) h1 h1:=λm o' p q'=>⟨⟨λz=>by
    rcases z with z |rfl
    ·exact p.1 z
    ·exact p.2 (aU.mpr ⟨i,q1⟩),(eU p).2⟩,q'⟩
   have S2:=S1.putN' hi (s:=.no) rfl
   refine⟨.ref n,ae,h1,ns1.set i none,rfl,a1.put (x:=none) hi (λ_ z=>by cases z) q rfl rfl S1.l2,n,o,rfl,q3,S1.nx i n q1,q4,q5,⟨S2.l1,S2.l2,S2.lh,λm z=>?_,S2.inj,λj m qj z=>?_,λj s qj=>?_⟩,q6.mono mv⟩
   ·rcases z with z |rfl
    ·exact S2.xl m z
    ·exact bW q4
   ·rcases z with z |rfl
    ·exact S2.nx j m qj z
    ·rcases br hn qj with ⟨_,y⟩ |⟨y,z⟩
     ·cases y
     ·exact y (S1.inj j i _ z q1)
   ·rcases br hi qj with ⟨rfl,rfl⟩ |⟨z,qj'⟩
    ·rw[bI hn];rfl
    ·rw[bM z]
     exact (S1.sl j s qj').mono mv λ_ _ _ q=>q
  ·rename_i v q
   exact⟨d,ae,h1,ns1,rfl,a1,S1,r',v,q⟩
  ·trivial
def FX(o:Bool)(i:Nat)(hF:RE F F3):RS (fJ F (gN i)) (wAsg o i F3):=λX h0 ns e ae h S=>PoS.toS (hF X h0 h.length ns e ae h S (n_ _)) λd t h1 ns1 e1 a1 S1 r1=>by
 show PoS X h0 ns e h (.nx (ae.set i (some d)) h1) (g7 o i t e1)
 unfold g7
 split
 ·rename_i s0 q0
  split
  ·rename_i p0
   have hi:=(h_.mp q0).1
   cases t with
   |val v=>exact .nx (a1.put (x:=none) (s:=.sh v) hi (λ_ z=>by cases z) q0 p0 rfl S1.l2) (S1.putN hi ⟨rfl,d,rfl,Rd.mono (λm o p q=>⟨eU p,q⟩) r1⟩)
   |
    new v=>
    try dsimp only
    split
    ·obtain⟨n,ob,rfl,q1,q2,q3,q4,q5,q6⟩:=r1
     exact .nx (a1.put (x:=some n) (s:=.ow v) hi (λm z=>by cases z;exact q1) q0 p0 rfl S1.l2) (Sat.putO q5 q2 hi (x_ S.lh q1) q3 q4 q6)
    ·exact .nx (a1.put (x:=none) (s:=.sh v) hi (λ_ z=>by cases z) q0 p0 rfl S1.l2) (S1.putN hi ⟨rfl,d,rfl,Rd.mono (λm o p q=>⟨eU p,q⟩) r1.new⟩)
   |
    bor j=>
    try dsimp only
    split
    ·rename_i e2 v q2
     obtain⟨ci,S2,a2,r2⟩:=eO S1 r1 q2
     have hq:∃s2,e2[i]?=some s2/\s2.pl=true:=by
      unfold bY at q2
      dsimp only at q2
      split at q2
      ·cases q2;exact⟨s0,q0,p0⟩
      ·rename_i u q3
       cases q2
       by_cases z:i=j
       ·subst z;exact⟨_,bI hi,rfl⟩
       ·exact⟨s0,by rw[bM z];exact q0,p0⟩
      ·cases q2
     obtain⟨s2,hq1,hq2⟩:=hq
     have hi2:=(h_.mp hq1).1
     exact .nx ((a1.trans S a2).put (x:=none) (s:=.sh v) hi2 (λ_ z=>by cases z) hq1 hq2 rfl S2.l2) (S2.putN hi2 ⟨rfl,d,rfl,Rd.mono (λm o p q=>⟨eU p,q⟩) r2⟩)
    ·trivial
  ·trivial
 ·trivial
def xt(i:Nat):RG (gN i) (pN i):=λX h0 ns e ae h d v e' S r q=>by
 unfold pN at q
 split at q
 ·rename_i s q0
  split at q
  ·rename_i p0
   cases q
   have hi:=(h_.mp q0).1
   exact⟨_,ns.set i none,rfl,S.putN hi ⟨rfl,d,rfl,Rd.mono (λm o p q=>⟨eU p,q⟩) r⟩,Stp.refl.put (x:=none) (s:=.sh v) hi (λ_ z=>by cases z) q0 p0 rfl S.l2⟩
  ·cases q
 ·cases q
def Io:RGs gsN psN:=λX h0 ns e ae h ds vs e' S r q=>by
 cases r with
 |nil=>cases q;exact⟨ae,ns,rfl,S,.refl⟩
 |cons _ _=>cases q
def JU(hg:RG g g3)(hs:RGs gs gs3):RGs (gsC g gs) (psC g3 gs3):=λX h0 ns e ae h ds vs e' S r q=>by
 cases r with
 |nil=>cases q
 |
  cons r rr=>
  obtain⟨e1,q1,q2⟩:=Kz.mp q
  obtain⟨b_,ns1,p1,S1,a1⟩:=hg _ _ _ _ _ _ _ _ _ S r q1
  obtain⟨ae2,ci,p2,S2,a2⟩:=hs _ _ _ _ _ _ _ _ _ S1 (rr.mono (a1.mov S)) q2
  refine⟨ae2,ci,?_,S2,a1.trans S a2⟩
  unfold gsC;dsimp only;rw[p1];exact p2
def rg_t(n:Nat)(hs:RGs gs gs3):RG (gT λds ae h=>if ds.length=n then gs ds ae h else .stuck) (pT n gs3):=λX h0 ns e ae h d v e' S r q=>by
 unfold pT at q
 split at q
 ·split at q
  ·rename_i hn
   obtain⟨ds,rfl,r2⟩:=ShR.tup (.inl r)
   obtain⟨b_,ns1,p1,S1,a1⟩:=hs _ _ _ _ _ _ _ _ _ S r2 q
   refine⟨b_,ns1,?_,S1,a1⟩
   unfold gT;dsimp only;rw[if_pos (by rw[r2.len];exact hn)];exact p1
  ·cases q
 ·cases q
def FD(hg:RG g g3):RG (λd ae h=>noX (g d ae h)) g3:=λX h0 ns e ae h d v e' S r q=>by
 obtain⟨b_,ns1,p1,S1,a1⟩:=hg _ _ _ _ _ _ _ _ _ S r q
 exact⟨b_,ns1,by dsimp only;rw[p1];rfl,S1,a1⟩
def Bn(hF:RE F F3)(hg:RG g g3):RS (fJ F g) (zP F3 g3):=λX h0 ns e ae h S=>PoS.toS (hF X h0 0 ns e ae h S (KA _)) λd t h1 ns1 e1 a1 S1 r1=>by
 try dsimp only
 split
 ·rename_i e2 v q
  obtain⟨ci,S2,a2,r2⟩:=eO S1 r1 q
  split
  ·rename_i e3 q3
   obtain⟨ae3,ns3,p3,S3,a3⟩:=hg _ _ _ _ _ _ _ _ _ S2 r2 q3
   rw[p3]
   exact .nx ((a1.trans S a2).trans S a3) S3
  ·trivial
 ·trivial
def Dp(i j:Nat)(hA:RA A A3):RS (zj i j A) (wPar i j A3):=λX h0 ns e ae h S=>PoS.toS (hA X h0 ns e ae h S) λds ts h1 ns1 e1 a1 S1 r1=>by
 try dsimp only
 cases q:dem e1 ts with
 |none=>trivial
 |
  some w=>
  obtain⟨e2,vs⟩:=w
  obtain⟨ci,S2,a2,r2⟩:=jS S1 r1 q
  match vs,ds,r2 with
  | [],_,_=>trivial
  | [_],_,_=>trivial
  |_::_::_::_,_,_=>trivial
  |
   [v,u],[d,d'],r2=>
   dsimp only
   split
   ·rename_i e3 q3
    obtain⟨e4,q4,q5⟩:=Kz.mp q3
    cases r2 with
    |
     cons r rr=>
     cases rr with
     |
      cons r' rr=>
      obtain⟨ae3,ns3,p3,S3,a3⟩:=xt i _ _ _ _ _ _ _ _ _ S2 r q4
      obtain⟨ae4,ns4,p4,S4,a4⟩:=xt j _ _ _ _ _ _ _ _ _ S3 (r'.mono (a3.mov S2)) q5
      have z3:ae3=ae.set i (some d):=by have:=p3;unfold gN at this;cases this;rfl
      have z4:ae4=ae3.set j (some d'):=by have:=p4;unfold gN at this;cases this;rfl
      subst z4 z3
      exact .nx (((a1.trans S a2).trans S a3).trans S a4) S4
   ·trivial
def TsR.len(r:TsR X ns ae h ds ts):ds.length=ts.length:=by
 induction r with
 |nil=>rfl
 |val _ _ ih=>rw[Em,Em,ih]
 |bor _ _ ih=>rw[Em,Em,ih]
def zG(x:Str)(hA:RA A A3):RS (qI x A) (xi x A3):=λX h0 ns e ae h S=>PoS.toS (hA X h0 ns e ae h S) λds ts h1 ns1 e1 a1 S1 r1=>by
 try dsimp only
 by_cases hl:ts.length<=16777216
 ·rw[if_pos hl,if_pos (by rw[TsR.len r1];exact hl)]
  exact⟨ae,h1,ns1,rfl,a1,S1⟩
 ·rw[if_neg hl];trivial
end
noncomputable def Sl.re(s:Sl)(u:Val):Sl:=match s with
 |.ow _=>.ow u
 |.mu _=>.mu u
 |s=>s
noncomputable def Sl.mv:Sl->Option Val
 |.ow v=>some v
 |.mu v=>some v
 |_=>none
section
variable{X:Nat->Prop}{h0 L:Nat}{ns ns1 ns':Ns}{e e1 e':E3}{ae:AE}{h h1 h':AH}
def Sat.write(S:Sat X h0 ns e ae h)(q:e[i]?=some s)(hm:s.mv=some u):∃n o,ae[i]?=some (some (.ref n))/\h[n]?=some o/\bQ o/\Rc (Oc X ns) h o u/\
 ∀o' u',bQ o'->Rc (Oc X ns) h o' u'->Mov (Oc X ns) (Oc X ns) h (h.set n o')/\Sat X h0 ns (e.set i (s.re u')) ae (h.set n o')/\Stp ns e h ns (e.set i (s.re u')) (h.set n o'):=by
 have hi:=(h_.mp q).1
 have key:∃n o,ns[i]?=some (some n)/\ae[i]?=some (some (.ref n))/\h[n]?=some o/\bQ o/\Rc (Oc X ns) h o u/\s.mt=true/\(∀o' u',bQ o'->Rc (Oc X ns) (h.set n o') o' u'->SlR (Oc X ns) h0 (some (some n)) (some (some (.ref n))) (h.set n o') (s.re u')):=by
  have y:=S.sl i s q
  cases s with
  |ow v=>cases hm;obtain⟨n,o,q1,q2,q3,q4,q5,q6⟩:=y;exact⟨n,o,q1,q2,q4,q5,q6,rfl,λo' u' hf r=>⟨n,o',rfl,rfl,q3,bI (bW q4),hf,r⟩⟩
  |mu v=>cases hm;obtain⟨n,o,q1,q2,q4,q5,q6⟩:=y;exact⟨n,o,q1,q2,q4,q5,q6,rfl,λo' u' hf r=>⟨n,o',rfl,rfl,bI (bW q4),hf,r⟩⟩
  |_=>cases hm
 obtain⟨n,o,k1,k2,k3,k4,k5,k6,k7⟩:=key
 refine⟨n,o,k2,k3,k4,k5,λo' u' hf r=>?_⟩
 have mv:Mov (Oc X ns) (Oc X ns) h (h.set n o'):=λm ob p q'=>⟨p,by
  have:m≠n:=λz=>p.2 (aU.mpr ⟨i,by rw[z];exact k1⟩)
  rw[bM this];exact q'⟩
 refine⟨mv,⟨by rw[A_];exact S.l1,by rw[A_];exact S.l2,by rw[A_];exact S.lh,λm z=>by rw[A_];exact S.xl m z,S.inj,S.nx,λj s' qj=>?_⟩,?_⟩
 ·rcases br hi qj with ⟨rfl,rfl⟩ |⟨z,qj'⟩
  ·rw[k1,k2];exact k7 o' u' hf (r.mono mv)
  ·refine (S.sl j s' qj').mono mv λm ob qm qo=>?_
   have:m≠n:=λy=>by subst y;exact z (S.inj j i m qm k1)
   rw[bM this];exact qo
 ·refine⟨by rw[A_];exact n_ _,λm ob qm hM=>?_,λ_ _ q=>.inl q,λj s' qj hl=>?_,λj s' qj hl=>?_,λj v qj=>?_,λj v qj=>?_⟩
  ·have:m≠n:=λy=>by subst y;exact hM ⟨i,s,k1,q,k6⟩
   rw[bM this];exact qm
  ·have z:j≠i:=λz=>by subst z;rw[q] at qj;cases qj;cases s <;> first |cases hl;done |cases k6;done
   rw[bM z];exact⟨qj,rfl⟩
  ·rcases br hi qj with ⟨_,y⟩ |⟨z,qj'⟩
   ·subst y;cases s <;> first |cases hl;done |cases k6;done
   ·exact⟨qj',rfl⟩
  ·rcases br hi qj with ⟨rfl,y⟩ |⟨z,qj'⟩
   ·cases s with
    |mu w=>exact⟨w,q,rfl⟩
    |ow w=>cases y
    |_=>cases k6
   ·exact⟨v,qj',rfl⟩
  ·by_cases z:j=i
   ·subst z;rw[q] at qj;cases qj;exact⟨u',bI hi,rfl⟩
   ·exact⟨v,by rw[bM z];exact qj,rfl⟩
end
def xA(w2:D->D->D->AH->R Unit)(w3:Val->Val->Val->Option Val):Prop:=∀P h n o u di vi d v u',¬ P n->h[n]?=some o->bQ o->Rc P h o u->ShR P h di vi->Rd P h d v->w3 u vi v=some u'->∃o',w2 (.ref n) di d h=.ok () (h.set n o')/\bQ o'/\Rc P h o' u'
def wSet(i:Nat)(G:ME3)(F:ME3)(w:Val->Val->Val->Option Val):MS3:=λe=>(F e).toS λt e1=>match (e1[i]?).bind Sl.mv with
 |none=>.stuck
 |some _=>(G e1).toS λt2 e2=>match rs e2 t2 with
  |none=>.stuck
  |some vi=>match bY e2 t.drop with
   |none=>.stuck
   |some (e3,v)=>match e3[i]? with
    |none=>.stuck
    |some s=>match s.mv with
     |none=>.stuck
     |some u=>match w u vi v with
      |some u'=>.nx (e3.set i (s.re u'))
      |none=>.stuck
def RM(m2:D->List D->AH->R D)(m3:Val->List Val->Option (Val×Val)):Prop:=∀P h n o u ds vs u' v,h[n]?=some o->bQ o->Rc P h o u->Rds P h ds vs->m3 u vs=some (u',v)->jE h (.ref n)=true/\∃o' d,m2 (.ref n) ds h=.ok d (h.set n o')/\bQ o'/\Rc P h o' u'/\Rd P h d v
def jj:Val->Bool
 |.lst _=>true
 |_=>false
def kP(i:Nat)(m:Val->List Val->Option (Val×Val))(A:MA3):ME3:=λe=>match e[i]? with
 |some s=>if (s.mv.map jj)=some true then (A e).bind λts e1=>match dem e1 ts with
  |some (e2,vs)=>match e2[i]? with
   |some s2=>match s2.mv with
    |some u=>match m u vs with
     |some (u',v)=>.ok (.val v) (e2.set i (s2.re u'))
     |none=>.stuck
    |none=>.stuck
   |none=>.stuck
  |none=>.stuck else .stuck
 |none=>.stuck
section
variable{F G:ME}{F3 G3:ME3}{A:MA}{A3:MA3}
def BF{X:Nat->Prop}{h0:Nat}{ns:Ns}{e:E3}{ae:AE}{h:AH}(S:Sat X h0 ns e ae h){i:Nat}{u:Val}(q:(e[i]?).bind Sl.mv=some u):∃n o,ae[i]?=some (some (.ref n))/\h[n]?=some o/\bQ o/\Rc (Oc X ns) h o u:=by
 obtain⟨s,q1,q2⟩:=Kz.mp q
 obtain⟨n,o,k1,k2,k3,k4,_⟩:=S.write q1 q2
 exact⟨n,o,k1,k2,k3,k4⟩
def Et(i:Nat)(hw:xA w2 w3)(hG:RE G G3)(hF:RE F F3):RS (fJ F (gS (aH i) G w2)) (wSet i G3 F3 w3):=λX h0 ns e ae h S=>PoS.toS (hF X h0 0 ns e ae h S (KA _)) λd t h1 ns1 e1 a1 S1 r1=>by
 try dsimp only
 cases qm:(e1[i]?).bind Sl.mv with
 |none=>trivial
 |
  some u0=>
  obtain⟨n0,o0,b1,b2,b3,b4⟩:=BF S1 qm
  have L2e:∀h',(gS (aH i) G w2 d ae h').toS ae (λam h2=>SR.nx am h2)=(G ae h').toS ae λdi h2=>(w2 (.ref n0) di d h2).toS ae λ_ h3=>.nx ae h3:=λh'=>by
   unfold gS aH
   rw[b1]
   simp only[dn]
   cases G ae h' with
   |
    ok di h2=>
    simp only[dn]
    show _=(w2 (.ref n0) di d h2).toS ae λ_ h3=>.nx ae h3
    cases w2 (.ref n0) di d h2 <;> rfl
   |exc c h2=>rfl
   |stuck=>rfl
  rw[L2e]
  refine PoS.after S a1 (PoS.toS (hG X h0 0 ns1 e1 ae h1 S1 (KA _)) λdi t2 h2 ci e2 a2 S2 r2=>?_)
  try dsimp only
  cases qi:rs e2 t2 with
  |none=>trivial
  |
   some vi=>
   try dsimp only
   cases qd:bY e2 t.drop with
   |none=>trivial
   |
    some w=>
    obtain⟨e3,v⟩:=w
    try dsimp only
    obtain⟨r1',hn⟩:=r1.drop
    have r3:=r1'.stp S1 a2 hn
    have si:=r2.sh S2 qi
    obtain⟨ns3,S3,a3,r4⟩:=eO S2 r3 qd
    have si3:ShR (Oc X ns3) h2 di vi:=by
     rcases si with z |⟨n,o,z1,z2,z3⟩
     ·exact .inl (z.mono (a3.mov S2))
     ·exact .inr ⟨n,o,z1,z2,z3.mono (a3.mov S2)⟩
    cases q3:e3[i]? with
    |none=>trivial
    |
     some s=>
     try dsimp only
     cases q4:s.mv with
     |none=>trivial
     |
      some u=>
      try dsimp only
      cases q5:w3 u vi v with
      |none=>trivial
      |
       some u'=>
       obtain⟨n,o,k1,k2,k3,k4,k5⟩:=S3.write q3 q4
       rw[b1] at k1;cases k1
       have nP:¬ Oc X ns3 n0:=λp=>by
        have z1:=((k5 (.lst []) (.lst []) trivial (.lst .nil)).1 _ _ p k2).2
        have z2:=((k5 (.lst [.non]) (.lst [.non]) trivial (.lst (.cons .non .nil))).1 _ _ p k2).2
        rw[bI (bW k2)] at z1 z2
        rw[<- z2] at z1
        cases z1
       obtain⟨o',p1,p2,p3⟩:=hw _ _ _ _ _ _ _ _ _ _ nP k2 k3 k4 si3 r4 q5
       obtain⟨mv,S4,a4⟩:=k5 o' u' p2 p3
       rw[p1]
       exact .nx ((a2.trans S1 a3).trans S1 a4) S4
def xh(i:Nat)(hm:RM m2 m3)(hA:RA A A3):RE (eM m2 (aH i) A) (kP i m3 A3):=λX h0 L ns e ae h S hl=>by
 unfold kP
 cases q0:e[i]? with
 |none=>trivial
 |
  some s0=>
  dsimp only
  split
  ·rename_i hz
   obtain⟨u0,z1,z2⟩:=J_.mp hz
   obtain⟨n0,o0,b1,b2,b3,b4,_⟩:=S.write q0 z1
   have hL:jE h (.ref n0)=true:=by
    cases u0 with
    |lst xs=>obtain⟨ds,_,e1,_⟩:=Rc.seq b2 b4;show (aT h n0).isSome=true;rw[e1];rfl
    |_=>cases z2
   have L2e:eM m2 (aH i) A ae h=(A ae h).bind λds h2=>m2 (.ref n0) ds h2:=by
    unfold eM aH
    rw[b1]
    simp only[dn,hL,LV]
   rw[L2e]
   refine Po.bind S (hA X h0 ns e ae h S) λds ts h1 ns1 e1 a1 S1 r1=>?_
   try dsimp only
   cases q1:dem e1 ts with
   |none=>trivial
   |
    some w=>
    obtain⟨e2,vs⟩:=w
    try dsimp only
    obtain⟨ci,S2,a2,r2⟩:=jS S1 r1 q1
    cases q2:e2[i]? with
    |none=>trivial
    |
     some s2=>
     try dsimp only
     cases q3:s2.mv with
     |none=>trivial
     |
      some u=>
      try dsimp only
      cases q4:m3 u vs with
      |none=>trivial
      |
       some w=>
       obtain⟨u',v⟩:=w
       obtain⟨n,o,k1,k2,k3,k4,k5⟩:=S2.write q2 q3
       rw[b1] at k1;cases k1
       obtain⟨_,o',d,p1,p2,p3,p4⟩:=hm _ _ _ _ _ _ _ _ _ k2 k3 k4 r2 q4
       obtain⟨mv,S4,a4⟩:=k5 o' u' p2 p3
       exact⟨d,_,ci,p1,a2.trans S1 a4,S4,p4.mono mv⟩
  ·trivial
def Bi(i:Nat)(hm:RM m2 m3):RE (eM0 m2 (aH i)) (kP i m3 nh):=by
 have:=xh i hm ve
 intro X h0 L ns e ae h S hl
 have p:=this X h0 L ns e ae h S hl
 have e1:eM m2 (aH i) ji ae h=eM0 m2 (aH i) ae h:=by
  unfold eM eM0 ji
  rfl
 rw[e1] at p
 exact p
end
noncomputable def iB:Sl->Sl
 |.ow v=>.lo v
 |.mu v=>.lm v
 |s=>s
noncomputable def jV:Sl->Sl
 |.lo v=>.ow v
 |.lm v=>.mu v
 |s=>s
def lock(e:E3)(k:Nat):E3:=match e[k]? with
 |some s=>e.set k (iB s)
 |none=>e
def unlock(e:E3)(k:Nat):E3:=match e[k]? with
 |some s=>e.set k (jV s)
 |none=>e
def lockO(e:E3):Option Nat->E3
 |some k=>lock e k
 |none=>e
def ee(e:E3):Option Nat->E3
 |some k=>unlock e k
 |none=>e
section
variable{X:Nat->Prop}{h0 L:Nat}{ns ns1 ns':Ns}{e e1 e':E3}{ae am:AE}{h h1 h':AH}
def SlR.lock(r:SlR P h0 n d h s):SlR P h0 n d h (iB s):=by cases s <;> exact r
def SlR.unlock(r:SlR P h0 n d h s):SlR P h0 n d h (jV s):=by cases s <;> exact r
def Sat.lock(S:Sat X h0 ns e ae h)(k:Nat):Sat X h0 ns (lock e k) ae h:=by
 unfold L3.lock
 split
 ·rename_i s q
  have hi:=(h_.mp q).1
  refine⟨by rw[A_];exact S.l1,by rw[A_];exact S.l2,S.lh,S.xl,S.inj,S.nx,λj s' qj=>?_⟩
  rcases br hi qj with ⟨rfl,rfl⟩ |⟨z,qj'⟩
  ·exact (S.sl j s q).lock
  ·exact S.sl j s' qj'
 ·exact S
def Sat.unlock(S:Sat X h0 ns e ae h)(k:Nat):Sat X h0 ns (unlock e k) ae h:=by
 unfold L3.unlock
 split
 ·rename_i s q
  have hi:=(h_.mp q).1
  refine⟨by rw[A_];exact S.l1,by rw[A_];exact S.l2,S.lh,S.xl,S.inj,S.nx,λj s' qj=>?_⟩
  rcases br hi qj with ⟨rfl,rfl⟩ |⟨z,qj'⟩
  ·exact (S.sl j s q).unlock
  ·exact S.sl j s' qj'
 ·exact S
def iq(z:j≠k):(lock e k)[j]?=e[j]?:=by
 unfold lock;split
 ·rw[bM z]
 ·rfl
def fF(z:j≠k):(unlock e k)[j]?=e[j]?:=by
 unfold unlock;split
 ·rw[bM z]
 ·rfl
def mD(q:e[k]?=some s):(lock e k)[k]?=some (iB s):=by
 unfold lock;rw[q];exact bI (h_.mp q).1
def gJ(q:e[k]?=some s):(unlock e k)[k]?=some (jV s):=by
 unfold unlock;rw[q];exact bI (h_.mp q).1
def Stp.unlock(q:e[k]?=some s)(hs:s.mt=true)(a:Stp ns (L3.lock e k) h ns' e' h'):Stp ns e h ns' (L3.unlock e' k) h':=by
 have hl:(iB s).lk=true:=by cases s <;> first |rfl |cases hs
 have hu:jV (iB s)=s:=by cases s <;> first |rfl |cases hs
 obtain⟨qk,nk⟩:=a.lk k _ (mD q) hl
 refine⟨a.len,λm o qm hM=>a.keep m o qm λ⟨j,s',z1,z2,z3⟩=>hM ?_,a.nw,λj s' qj hj=>?_,λj s' qj hj=>?_,λj v qj=>?_,λj v qj=>?_⟩
 ·by_cases z:j=k
  ·subst z;exact⟨j,s,z1,q,hs⟩
  ·rw[iq z] at z2;exact⟨j,s',z1,z2,z3⟩
 ·have z:j≠k:=λz=>by subst z;rw[q] at qj;cases qj;cases s <;> first |cases hs;done |cases hj;done
  rw[fF z]
  exact a.lk j s' (by rw[iq z];exact qj) hj
 ·have z:j≠k:=λz=>by
   subst z
   rw[gJ qk,hu] at qj;cases qj;cases s <;> first |cases hs;done |cases hj;done
  rw[fF z] at qj
  obtain⟨y1,y2⟩:=a.lk' j s' qj hj
  rw[iq z] at y1
  exact⟨y1,y2⟩
 ·by_cases z:j=k
  ·subst z;rw[gJ qk,hu] at qj;cases qj;exact⟨v,q,nk⟩
  ·rw[fF z] at qj
   obtain⟨u,y1,y2⟩:=a.mu j v qj
   rw[iq z] at y1
   exact⟨u,y1,y2⟩
 ·by_cases z:j=k
  ·subst z;rw[q] at qj;cases qj;exact⟨v,by rw[gJ qk,hu],nk⟩
  ·obtain⟨u,y1,y2⟩:=a.mu' j v (by rw[iq z];exact qj)
   exact⟨u,by rw[fF z];exact y1,y2⟩
end
abbrev MI3:=E3->R3 (List Val×Option Nat)
def Stay(X:Nat->Prop)(ns:Ns)(k:Option Nat)(h h':AH):Prop:=∀(m:Nat) (o:Ob),h[m]?=some o->(Oc X ns m\/∃j:Nat,k=some j/\ns[j]?=some (some m))->h'[m]?=some o
def pj(X:Nat->Prop)(ns:Ns)(e:E3)(h:AH)(it:AIt)(p:List Val×Option Nat):Prop:=
 Rds (Oc X ns) h it.items p.1/\(∀h',Stay X ns p.2 h h'->it.guard h')/\∀k:Nat,p.2=some k->∃s,e[k]?=some s/\s.mt=true
def RI(I:MI)(J:MI3):Prop:=∀X h0 ns e ae h,Sat X h0 ns e ae h->Po X h0 ns e ae h (pj X) (I ae h) (J e)
def gP:Val->Option (List Val)
 |.tup xs=>some xs
 |.lst xs=>some xs
 |_=>none
def gZ(t:Tm)(e:E3):Option (List Val×Option Nat):=match t with
 |.val v=>(gP v).map λxs=>(xs,none)
 |.new v=>(gP v).map λxs=>(xs,none)
 |.bor k=>match e[k]? with
  |some (.sh v)=>(gP v).map λxs=>(xs,none)
  |some (.ow (.lst xs))=>some (xs,some k)
  |some (.mu (.lst xs))=>some (xs,some k)
  |_=>none
def zR(F:ME3):MI3:=λe=>(F e).bind λt e1=>match gZ t e1 with
 |some p=>.ok p e1
 |none=>.stuck
noncomputable def d7:Nat->List Val->List Val
 |_,[]=>[]
 |i,d::ds=>.tup [.int (i:Nat),d]::d7 (i+1) ds
def Ag(A:MA3):MI3:=λe=>(A e).bind λts e1=>match ts with
 | [t]=>(match gZ t e1 with
  |some p=>.ok (d7 0 p.1,p.2) e1
  |none=>.stuck)
 |_=>.stuck
noncomputable def ur(lo:Int)(k:Nat):List Val:=(List.range k).map λi=>Val.int (lo+(i:Nat))
structure RgB(j:Int):Prop where
 lo:-(2^62)<=j
 hi:j<2^62
def gu:List Val->Option (List Val)
 | [.int j]=>@ite _ (RgB j) (Classical.propDecidable _) (some (ur 0 j.toNat)) none
 |_=>none
def xr(f:List Val->Option (List Val))(A:MA3):MI3:=λe=>(A e).bind λts e1=>match (rss e1 ts).bind f with
 |some xs=>.ok (xs,none) e1
 |none=>.stuck
section
variable{F:ME}{F3:ME3}{A:MA}{A3:MA3}
def uE(S:Sat X h0 ns e ae h)(r:Rd (Oc X ns) h d v)(q:gP v=some xs):∃it,gQ d h=some it/\pj X ns e h it (xs,none):=by
 cases v with
 |
  tup ys=>
  cases q
  obtain⟨ds,rfl,r2⟩:=ShR.tup (.inl r)
  exact⟨_,rfl,r2,λ_ _=>trivial,λ_ z=>nomatch z⟩
 |
  lst ys=>
  cases q
  cases r with
  |
   cell p eo rc=>
   rename_i n o
   obtain⟨ds,_,e1,r1⟩:=Rc.seq eo rc
   refine⟨.lst n ds,by unfold gQ;dsimp only;rw[e1];rfl,r1,λh' st=>?_,λ_ z=>nomatch z⟩
   show aT h' n=some ds
   have:=st n o eo (.inl p)
   unfold aT at e1 ⊢
   rw[eo] at e1
   rw[this];exact e1
 |_=>cases q
def vO(S:Sat X h0 ns e ae h)(r:relE X h0 L ae ns e h d t)(q:gZ t e=some p):∃it,gQ d h=some it/\pj X ns e h it p:=by
 cases t with
 |val v=>obtain⟨xs,q1,rfl⟩:=J_.mp q;exact uE S r q1
 |new v=>obtain⟨xs,q1,rfl⟩:=J_.mp q;exact uE S r.new q1
 |
  bor k=>
  have r':ae[k]?=some (some d):=r
  have own:∀{s xs},e[k]?=some s->s.mv=some (.lst xs)->∃it,gQ d h=some it/\pj X ns e h it (xs,some k):=λ{s xs} q qm=>by
   have hns:∃n,ns[k]?=some (some n)/\ae[k]?=some (some (.ref n)):=by
    have y:=S.sl k s q
    cases s with
    |ow v=>obtain⟨n,o,y1,y2,_⟩:=y;exact⟨n,y1,y2⟩
    |mu v=>obtain⟨n,o,y1,y2,_⟩:=y;exact⟨n,y1,y2⟩
    |_=>cases qm
   obtain⟨n,y1,y2⟩:=hns
   obtain⟨n',o,k1,k2,k3,k4,_⟩:=S.write q qm
   rw[y2] at k1;cases k1
   rw[r'] at y2;cases y2
   obtain⟨ds,_,e2,r2⟩:=Rc.seq k2 k4
   refine⟨.lst n ds,by unfold gQ;dsimp only;rw[e2];rfl,r2,λh' st=>?_,λj z=>?_⟩
   ·show aT h' n=some ds
    have:=st n o k2 (.inr ⟨k,rfl,y1⟩)
    unfold aT at e2 ⊢
    rw[k2] at e2
    rw[this];exact e2
   ·cases z;exact⟨s,q,by cases s <;> first |rfl |cases qm⟩
  unfold gZ at q
  dsimp only at q
  split at q
  ·rename_i v qs
   obtain⟨_,x,e2,r2⟩:=S.sl k _ qs
   rw[r'] at e2;cases e2
   obtain⟨xs,q1,rfl⟩:=J_.mp q
   exact uE S r2 q1
  ·rename_i xs qs;cases q;exact own qs rfl
  ·rename_i xs qs;cases q;exact own qs rfl
  ·cases q
def xF(d:D)(h:AH):R AIt:=match d with
 |.tup xs=>.ok (.tup xs) h
 |.ref n=>match aT h n with
  |some xs=>.ok (.lst n xs) h
  |none=>.stuck
 |_=>.stuck
def A5(q:gQ d h=some it):xF d h=.ok it h:=by
 cases d with
 |tup xs=>cases q;rfl
 |
  ref n=>
  obtain⟨xs,y1,rfl⟩:=J_.mp (show (aT h n).map (AIt.lst n)=some it from q)
  unfold xF;dsimp only;rw[y1]
 |_=>cases q
def F7(hF:RE F F3):RI (zf F) (zR F3):=λX h0 ns e ae h S=>
 Po.bind S (hF X h0 0 ns e ae h S (KA _)) λd t h1 ns1 e1 a1 S1 r1=>by
  show Po X h0 ns1 e1 ae h1 (pj X) (xF d h1) _
  cases q:gZ t e1 with
  |none=>trivial
  |
   some p=>
   dsimp only
   obtain⟨it,q1,q2⟩:=vO S1 r1 q
   exact⟨it,h1,ns1,A5 q1,.refl,S1,q2⟩
def BZ(k:Nat)(r:Rds P h ds vs):Rds P h (fQ k ds) (d7 k vs):=
 r.ind (M:=λds vs=>∀k,Rds P h (fQ k ds) (d7 k vs)) (λ_=>.nil) (λr _ ih k=>.cons (.tup (.cons (.int _) (.cons r .nil))) (ih (k+1))) k
def tsr1(r:TsR X ns ae h ds [t]):∃d,ds=[d]/\relE X h0 0 ae ns e h d t:=by
 cases r with
 |val r rr=>cases rr;exact⟨_,rfl,r⟩
 |bor r rr=>cases rr;exact⟨_,rfl,r⟩
def Fh(hA:RA A A3):RI (yG A) (Ag A3):=λX h0 ns e ae h S=>
 Po.bind S (hA X h0 ns e ae h S) λds ts h1 ns1 e1 a1 S1 r1=>by
  match ts,r1 with
  | [],_=>trivial
  |_::_::_,_=>trivial
  |
   [t],r1=>
   obtain⟨d,rfl,r2⟩:=tsr1 (h0:=h0) (e:=e1) r1
   dsimp only
   cases q:gZ t e1 with
   |none=>trivial
   |
    some p=>
    obtain⟨it,q1,q2,q3,q4⟩:=vO S1 r2 q
    rw[q1]
    exact⟨.enm it,h1,ns1,rfl,.refl,S1,BZ 0 q2,q3,q4⟩
def BR(lo:Int)(k:Nat):Rds P h (AIt.rng lo k).items (ur lo k):=by
 show Rds P h ((List.range k).map λi=>D.int (lo+(i:Nat))) ((List.range k).map λi=>Val.int (lo+(i:Nat)))
 generalize List.range k=l
 induction l with
 |nil=>exact .nil
 |cons i l ih=>exact .cons (.int _) ih
def fS(r:ShRs P h ds [v]):∃d,ds=[d]/\ShR P h d v:=by
 cases r with |cons r rr=>cases rr;exact⟨_,rfl,r⟩
def tq(r:ShRs P h ds [v,u]):∃d d',ds=[d,d']/\ShR P h d v/\ShR P h d' u:=by
 cases r with |cons r rr=>cases rr with |cons r' rr=>cases rr;exact⟨_,_,rfl,r,r'⟩
def IF(hf:∀P h ds vs xs,ShRs P h ds vs->f3 vs=some xs->∃lo k,f2 ds h=.ok (.rng lo k) h/\xs=ur lo k)(hA:RA A A3):RI (λae h=>(A ae h).bind f2) (xr f3 A3):=λX h0 ns e ae h S=>
 Po.bind S (hA X h0 ns e ae h S) λds ts h1 ns1 e1 a1 S1 r1=>by
  try dsimp only
  split
  ·rename_i xs q
   obtain⟨vs,q1,q2⟩:=Kz.mp q
   obtain⟨lo,k,p1,rfl⟩:=hf _ _ _ _ _ (TsR.sh S1 r1 q1) q2
   rw[p1]
   exact Po.ret S1 ⟨BR _ _,λ_ _=>trivial,λ_ z=>nomatch z⟩
  ·trivial
def CT(hA:RA A A3):RI (yT A) (xr gu A3):=IF (f2:=λds h1=>match ds with
 | [.int j]=>if -(2^62)<=j/\j<2^62 then .ok (.rng 0 j.toNat) h1 else .stuck
 |
  _=>.stuck) (λP h ds vs xs r q=>by
  unfold gu at q
  split at q
  ·split at q
   ·rename_i hb
    cases q
    obtain⟨d,rfl,r2⟩:=fS r
    obtain rfl:=r2.int
    exact⟨_,_,by dsimp only;rw[if_pos ⟨hb.lo,hb.hi⟩],rfl⟩
   ·cases q
  ·cases q) hA
end
def SR3.loop(r:SR3)(f:E3->SR3):SR3:=match r with
 |.nx e=>f e
 |.ct e=>f e
 |.bk e=>.nx e
 |.rt d e=>.rt d e
 |.exc c e=>.exc c e
 |.stuck=>.stuck
def bJ(g:MG3)(B:MS3):List Val->MS3
 | [],e=>.nx e
 |v::vs,e=>match g v e with
  |some e1=>(B e1).loop (bJ g B vs)
  |none=>.stuck
def SR3.unl(k:Option Nat)(r:SR3):SR3:=match r with
 |.nx e=>.nx (ee e k)
 |.ct e=>.ct (ee e k)
 |.bk e=>.bk (ee e k)
 |.rt d e=>.rt d (ee e k)
 |.exc c e=>.exc c (ee e k)
 |.stuck=>.stuck
def wFor(I:MI3)(g:MG3)(B:MS3):MS3:=λe=>(I e).toS λp e1=>(bJ g B p.1 (lockO e1 p.2)).unl p.2
section
variable{I:MI}{I3:MI3}{g:MG}{g3:MG3}{B:MS}{B3:MS3}{c:MT}{c3:MT3}{F:ME}{F3:ME3}
def PoS.loop{X:Nat->Prop}{h0:Nat}{ns:Ns}{e:E3}{ae:AE}{h:AH}{r2:SR}{r3:SR3}{f2:AE->AH->SR}{f3:E3->SR3}(p:PoS X h0 ns e h r2 r3)
 (k:∀am h' ns' e',Stp ns e h ns' e' h'->Sat X h0 ns' e' am h'->PoS X h0 ns e h (f2 am h') (f3 e')):PoS X h0 ns e h (r2.loop f2) (r3.loop f3):=by
 cases r3 with
 |stuck=>trivial
 |nx e'=>obtain⟨am,h',ns',q,q1,q2⟩:=p;rw[q];exact k am h' ns' e' q1 q2
 |ct e'=>obtain⟨am,h',ns',q,q1,q2⟩:=p;rw[q];exact k am h' ns' e' q1 q2
 |bk e'=>obtain⟨am,h',ns',q,q1,q2⟩:=p;rw[q];exact⟨am,h',ns',rfl,q1,q2⟩
 |exc c e'=>obtain⟨am,h',ns',q,q1,q2⟩:=p;rw[q];exact⟨am,h',ns',rfl,q1,q2⟩
 |rt r e'=>obtain⟨d,am,h',ns',q,q1,q2⟩:=p;rw[q];exact⟨d,am,h',ns',rfl,q1,q2⟩
def CH(S:Sat X h0 ns e ae h)(hk:∀j:Nat,k=some j->∃s,e[j]?=some s/\s.mt=true)(a:Stp ns (lockO e k) h ns' e' h'):Stay X ns k h h':=λm o q hm=>by
 refine a.keep m o q λ⟨i,s,z1,z2,z3⟩=>?_
 rcases hm with hm |⟨j,rfl,hj⟩
 ·exact hm.2 (aU.mpr ⟨i,z1⟩)
 ·have:i=j:=S.inj i j m z1 hj
  subst this
  obtain⟨s',y1,y2⟩:=hk i rfl
  have:(lockO e (some i))[i]?=some (iB s'):=mD y1
  rw[this] at z2;cases z2
  cases s' <;> first |cases y2;done |cases z3;done
def PoS.unl(hk:∀j:Nat,k=some j->∃s,e[j]?=some s/\s.mt=true)(p:PoS X h0 ns (lockO e k) h r2 r3):PoS X h0 ns e h r2 (r3.unl k):=by
 cases k with
 |none=>cases r3 <;> exact p
 |
  some j=>
  obtain⟨s,y1,y2⟩:=hk j rfl
  cases r3 with
  |stuck=>trivial
  |nx e'=>obtain⟨am,h',ns',q,q1,q2⟩:=p;exact⟨am,h',ns',q,q1.unlock y1 y2,q2.unlock j⟩
  |ct e'=>obtain⟨am,h',ns',q,q1,q2⟩:=p;exact⟨am,h',ns',q,q1.unlock y1 y2,q2.unlock j⟩
  |bk e'=>obtain⟨am,h',ns',q,q1,q2⟩:=p;exact⟨am,h',ns',q,q1.unlock y1 y2,q2.unlock j⟩
  |exc c e'=>obtain⟨am,h',ns',q,q1,q2⟩:=p;exact⟨am,h',ns',q,q1.unlock y1 y2,q2.unlock j⟩
  |
   rt r e'=>
   obtain⟨d,am,h',ns',q,q1,q2⟩:=p
   refine⟨d,am,h',ns',q,q1.unlock y1 y2,?_⟩
   cases r with
   |val v=>exact⟨q2.1.unlock j,q2.2⟩
   |new v=>obtain⟨n,o,z1,z2,z3,z4,z5,z6,z7⟩:=q2;exact⟨n,o,z1,z2,z3,z4,z5,z6.unlock j,z7⟩
   |
    par i=>
    obtain⟨z1,z2,v,z3⟩:=q2
    refine⟨z1.unlock j,z2,v,?_⟩
    by_cases z:i=j
    ·subst z;exact gJ z3
    ·exact (fF z).trans z3
def Sat.lockO(S:Sat X h0 ns e ae h)(k:Option Nat):Sat X h0 ns (lockO e k) ae h:=by
 cases k with
 |none=>exact S
 |some k=>exact S.lock k
def B1{X:Nat->Prop}{h0:Nat}{ns:Ns}{e:E3}{ae:AE}{h:AH}{G:AH->Prop}(S:Sat X h0 ns e ae h)(hg:RG g g3)(hB:RS B B3)(hG:∀ns' e' h',Stp ns e h ns' e' h'->G h'):
 ∀{ds:List D}{vs:List Val},Rds (Oc X ns) h ds vs->∀{ns1:Ns}{e1:E3}{b_:AE}{h1:AH},Stp ns e h ns1 e1 h1->Sat X h0 ns1 e1 b_ h1->PoS X h0 ns e h (iK G g B ds b_ h1) (bJ g3 B3 vs e1):=by
 intro ds
 induction ds with
 |
  nil=>
  intro vs r ns1 e1 b_ h1 a1 S1
  cases r
  unfold iK
  rw[if_pos (hG _ _ _ a1)]
  exact .nx a1 S1
 |
  cons d0 ds ih=>
  intro vs r ns1 e1 b_ h1 a1 S1
  cases r with
  |
   cons r rr=>
   unfold iK bJ
   rw[if_pos (hG _ _ _ a1)]
   split
   ·rename_i e2 q
    obtain⟨ae2,ci,p2,S2,a2⟩:=hg _ _ _ _ _ _ _ _ _ S1 (r.mono (a1.mov S)) q
    rw[p2]
    have a12:=a1.trans S a2
    show PoS X h0 ns e h ((B ae2 h1).loop _) _
    refine PoS.loop (ae:=ae) (PoS.after S a12 (hB X h0 ci e2 ae2 h1 S2)) λae3 h3 ns3 e3 a3 S3=>ih rr a3 S3
   ·trivial
def Eb(hI:RI I I3)(hg:RG g g3)(hB:RS B B3):RS (zu I g B) (wFor I3 g3 B3):=λX h0 ns e ae h S=>PoS.toS (hI X h0 ns e ae h S) λit p h1 ns1 e1 a1 S1 r1=>by
 obtain⟨r2,gd,hk⟩:=r1
 refine PoS.after S a1 (PoS.unl hk ?_)
 have S2:=S1.lockO p.2
 exact B1 S2 hg hB (λns' e' h' a=>gd h' (CH S1 hk a)) r2 .refl S2
def whV(c:MT3)(B:MS3):Nat->MS3
 |0,_=>.stuck
 |k+1,e=>(c e).toS λb e1=>if b=true then (B e1).loop (whV c B k) else .nx e1
open Classical in
def wWh(c:MT3)(B:MS3):MS3:=λe=>if q:∃k,whV c B k e ≠ .stuck then whV c B q.choose e else .stuck
theorem ky{c:MT3}{B:MS3}:∀{k:Nat}{e:E3},whV c B k e ≠ .stuck->whV c B (k+1) e=whV c B k e
 |0,_,q=>absurd rfl q
 |
  k+1,e,q=>by
  have e1:whV c B (k+2) e=(c e).toS λb e1=>if b=true then (B e1).loop (whV c B (k+1)) else .nx e1:=rfl
  have e2:whV c B (k+1) e=(c e).toS λb e1=>if b=true then (B e1).loop (whV c B k) else .nx e1:=rfl
  rw[e2] at q
  rw[e1,e2]
  cases r:c e with
  |exc _ _=>rfl
  |stuck=>rfl
  |
   ok b h1=>
   rw[r] at q
   cases b with
   |false=>rfl
   |
    true=>
    have q':(B h1).loop (whV c B k) ≠ .stuck:=q
    show (B h1).loop (whV c B (k+1))=(B h1).loop (whV c B k)
    cases s:B h1 with
    |nx a2=>rw[s] at q';exact ky q'
    |ct a2=>rw[s] at q';exact ky q'
    |_=>rfl
def w9{c:MT3}{B:MS3}{k j:Nat}{e:E3}(q:whV c B k e ≠ .stuck)(hj:k<=j):whV c B j e=whV c B k e:=by
 induction hj with
 |refl=>rfl
 |step _ ih=>rw[ky (by rw[ih];exact q),ih]
def lN{c:MT3}{B:MS3}{k:Nat}{e:E3}(q:whV c B k e ≠ .stuck):wWh c B e=whV c B k e:=by
 have hq:∃k,whV c B k e ≠ .stuck:=⟨k,q⟩
 unfold wWh
 rw[dif_pos hq]
 rcases Nat.le_total hq.choose k with z |z
 ·exact (w9 hq.choose_spec z).symm
 ·exact w9 q z
def xP(c:MT3)(B:MS3)(e:E3):wWh c B e=(c e).toS λb e1=>if b=true then (B e1).loop (wWh c B) else .nx e1:=by
 by_cases q:∃k,whV c B k e ≠ .stuck
 ·obtain⟨k,q⟩:=q
  rw[lN q]
  cases k with
  |zero=>exact absurd rfl q
  |
   succ k=>
   have e2:whV c B (k+1) e=(c e).toS λb e1=>if b=true then (B e1).loop (whV c B k) else .nx e1:=rfl
   rw[e2] at q ⊢
   cases r:c e with
   |exc _ _=>rfl
   |stuck=>rfl
   |
    ok b h1=>
    rw[r] at q
    cases b with
    |false=>rfl
    |
     true=>
     have q':(B h1).loop (whV c B k) ≠ .stuck:=q
     show (B h1).loop (whV c B k)=(B h1).loop (wWh c B)
     cases s:B h1 with
     |nx a2=>rw[s] at q';exact (lN q').symm
     |ct a2=>rw[s] at q';exact (lN q').symm
     |_=>rfl
 ·have e0:wWh c B e=.stuck:=by unfold wWh;rw[dif_neg q]
  rw[e0]
  have hs:∀k,whV c B (k+1) e=.stuck:=λk=>Lx λz=>q ⟨_,z⟩
  cases r:c e with
  |stuck=>rfl
  |
   exc c' h'=>
   have:=hs 0
   unfold whV at this
   rw[r] at this
   cases this
  |
   ok b h1=>
   cases b with
   |
    false=>
    have:=hs 0
    unfold whV at this
    rw[r] at this
    cases this
   |
    true=>
    have h2:∀k,(B h1).loop (whV c B k)=.stuck:=λk=>by
     have:=hs k
     unfold whV at this
     rw[r] at this
     exact this
    show SR3.stuck=(B h1).loop (wWh c B)
    have lim:∀a2,(∀k,whV c B k a2=.stuck)->wWh c B a2=.stuck:=λa2 z=>by
     unfold wWh
     rw[dif_neg (λ⟨k,y⟩=>y (z k))]
    cases s:B h1 with
    |nx a2=>rw[s] at h2;exact (lim a2 h2).symm
    |ct a2=>rw[s] at h2;exact (lim a2 h2).symm
    |stuck=>rfl
    |_=>have:=h2 0;rw[s] at this;cases this
def Gq(p:PoS X h0 ns e h r2 r3)(q:r3 ≠ .stuck):r2 ≠ .stuck:=by
 cases r3 with
 |stuck=>exact absurd rfl q
 |nx e'=>obtain⟨am,h',ns',z,_⟩:=p;rw[z];intro y;cases y
 |ct e'=>obtain⟨am,h',ns',z,_⟩:=p;rw[z];intro y;cases y
 |bk e'=>obtain⟨am,h',ns',z,_⟩:=p;rw[z];intro y;cases y
 |exc c e'=>obtain⟨am,h',ns',z,_⟩:=p;rw[z];intro y;cases y
 |rt r e'=>obtain⟨d,am,h',ns',z,_⟩:=p;rw[z];intro y;cases y
theorem vM(hc:RT c c3)(hB:RS B B3):∀(k:Nat) (X:Nat->Prop) (h0:Nat) (ns:Ns) (e:E3) (ae:AE) (h:AH),Sat X h0 ns e ae h->PoS X h0 ns e h (whN c B k ae h) (whV c3 B3 k e)
 |0,_,_,_,_,_,_,_=>trivial
 |
  k+1,X,h0,ns,e,ae,h,S=>by
  refine PoS.toS (hc X h0 ns e ae h S) λb b' h1 ns1 e1 a1 S1 r1=>?_
  cases r1
  try dsimp only
  split
  ·exact PoS.after S a1 (PoS.loop (ae:=ae) (hB X h0 ns1 e1 ae h1 S1) λae2 h2 ci e2 a2 S2=>PoS.after S1 a2 (vM hc hB k X h0 ci e2 ae2 h2 S2))
  ·exact .nx a1 S1
def HS(hc:RT c c3)(hB:RS B B3):RS (sWh c B) (wWh c3 B3):=λX h0 ns e ae h S=>by
 by_cases q:∃k,whV c3 B3 k e ≠ .stuck
 ·obtain⟨k,q⟩:=q
  rw[lN q]
  have p:=vM hc hB k X h0 ns e ae h S
  rw[wA (Gq p q)]
  exact p
 ·unfold wWh;rw[dif_neg q];trivial
end
def eV(o:Option Nat)(s:Sl)(e:E3):E3:=match o,s with
 |some i,.mu v=>(match e[i]? with
  |some t=>e.set i (t.re v)
  |none=>e)
 |_,_=>e
def aW:List (Option Nat)->E3->E3->E3
 |o::sub,s::inner,e=>aW sub inner (eV o s e)
 |_,_,e=>e
def se(hn:∀v,o=some i->s=.mu v->False):(eV o s e)[i]?=e[i]?:=by
 unfold eV
 split
 ·rename_i i' v
  split
  ·rename_i t q
   by_cases z:i=i'
   ·subst z;exact (hn v rfl rfl).elim
   ·rw[bM z]
  ·rfl
 ·rfl
theorem nr:∀{sub:Nd}{e2 e:E3}{i:Nat},(∀(j:Nat) v,sub[j]?=some (some i)->e2[j]?=some (.mu v)->False)->(aW sub e2 e)[i]?=e[i]?
 | [],_,_,_,_=>rfl
 |_::_,[],_,_,_=>rfl
 |
  o::sub,s::e2,e,i,hn=>by
  show (aW sub e2 (eV o s e))[i]?=_
  rw[nr (λj v q1 q2=>hn (j+1) v (by simpa using q1) (by simpa using q2))]
  exact se λv z1 z2=>hn 0 v (by rw[z1];rfl) (by rw[z2];rfl)
theorem su:∀{sub:Nd}{e2 e:E3}{i j:Nat}{v:Val},(∀(j k:Nat) i,sub[j]?=some (some i)->sub[k]?=some (some i)->j=k)->sub[j]?=some (some i)->e2[j]?=some (.mu v)->(aW sub e2 e)[i]?=(e[i]?).map (Sl.re · v)
 | [],_,_,_,j,_,_,q,_=>by simp at q
 |_::_,[],_,_,j,_,_,_,q=>by simp at q
 |
  o::sub,s::e2,e,i,0,v,hj,q1,q2=>by
  have z1:o=some i:=by simpa using q1
  have z2:s=.mu v:=by simpa using q2
  subst z1 z2
  show (aW sub e2 (eV (some i) (.mu v) e))[i]?=_
  rw[nr (λk u y1 _=>by have:=hj 0 (k+1) i rfl (by simpa using y1);omega)]
  unfold eV
  dsimp only
  split
  ·rename_i t q;rw[bI (h_.mp q).1,q];rfl
  ·rename_i q;rw[q];rfl
 |
  o::sub,s::e2,e,i,j+1,v,hj,q1,q2=>by
  show (aW sub e2 (eV o s e))[i]?=_
  have q1':sub[j]?=some (some i):=by simpa using q1
  rw[su (λa b c y1 y2=>by have:=hj (a+1) (b+1) c (by simpa using y1) (by simpa using y2);omega) q1' (by simpa using q2)]
  rw[se λv z1 _=>by have:=hj 0 (j+1) i (by rw[z1];rfl) q1;omega]
def bE(sub:Nd)(ns:Ns):Ns:=sub.map λo=>o.bind λi=>(ns[i]?).bind id
def ck{sub:Nd}{ns:Ns}{j n:Nat}(q:(bE sub ns)[j]?=some (some n)):∃i,sub[j]?=some (some i)/\ns[i]?=some (some n):=by
 unfold bE at q
 rw[t_] at q
 cases z:sub[j]? with
 |none=>rw[z] at q;cases q
 |
  some o=>
  rw[z] at q
  cases o with
  |none=>cases q
  |
   some i=>
   refine⟨i,rfl,?_⟩
   have q':(ns[i]?).bind id=some n:=z_ q
   cases y:ns[i]? with
   |none=>rw[y] at q';cases q'
   |some w=>rw[y] at q';have:w=some n:=q';rw[this]
def A2{sub:Nd}{ns:Ns}{j i:Nat}{w:Option Nat}(q:sub[j]?=some (some i))(q2:ns[i]?=some w):(bE sub ns)[j]?=some w:=by
 unfold bE
 rw[t_,q]
 show some ((ns[i]?).bind id)=some w
 rw[q2];rfl
structure Lnk(sub:Nd)(e ei:E3):Prop where
 inj:∀(j k:Nat) (i:Nat),sub[j]?=some (some i)->sub[k]?=some (some i)->j=k
 mu:∀(j:Nat) (v:Val),ei[j]?=some (.mu v)->∃(i:Nat) (s:Sl),sub[j]?=some (some i)/\e[i]?=some s/\s.mt=true
 mt:∀(j:Nat) (s:Sl),ei[j]?=some s->s.mt=true->∃v,s=.mu v
def Sat.back(S:Sat X h0 ns e ae h)(K:Lnk sub e ei)(a:Stp (bE sub ns) ei h ci e2 h2)
 (hY:∀n,Y n->n<h2.length/\(X n\/h.length<=n)) (hXY:∀n,X n->Y n)
 (hc:∀(j:Nat) v n,e2[j]?=some (.mu v)->ci[j]?=some (some n)->∃o,h2[n]?=some o/\bQ o/\Rc (Oc Y ns) h2 o v):Sat Y h0 ns (aW sub e2 e) ae h2/\Stp ns e h ns (aW sub e2 e) h2:=by
 have hM:∀n,Mt (bE sub ns) ei n->Mt ns e n:=λn ⟨j,s,z1,z2,z3⟩=>by
  obtain⟨v,rfl⟩:=K.mt j s z2 z3
  obtain⟨i,s',y1,y2,y3⟩:=K.mu j v z2
  obtain⟨i',y4,y5⟩:=ck z1
  rw[y1] at y4;cases y4
  exact⟨i,s',y5,y2,y3⟩
 have mv:Mov (Oc X ns) (Oc Y ns) h h2:=λn o p q=>⟨⟨λz=>by
  rcases (hY n z).2 with z |z
  ·exact p.1 z
  ·have:=bW q;omega,p.2⟩,a.keep n o q λz=>by
   obtain⟨j,s,z1,_⟩:=z
   obtain⟨i,_,y⟩:=ck z1
   exact p.2 (aU.mpr ⟨i,y⟩)⟩
 have key:∀i:Nat,(∃(j:Nat) (v:Val) (s:Sl),sub[j]?=some (some i)/\e2[j]?=some (.mu v)/\e[i]?=some s/\s.mt=true/\(aW sub e2 e)[i]?=some (s.re v)/\ci[j]?=ns[i]?)\/((∀n,ns[i]?=some (some n)->¬ Mt (bE sub ns) ei n)/\(aW sub e2 e)[i]?=e[i]?):=λi=>by
  by_cases hx:∃(j:Nat) (v:Val),sub[j]?=some (some i)/\e2[j]?=some (.mu v)
  ·obtain⟨j,v,q1,q2⟩:=hx
   obtain⟨u,q3,q4⟩:=a.mu j v q2
   obtain⟨i',s,y1,y2,y3⟩:=K.mu j u q3
   rw[q1] at y1;cases y1
   refine .inl ⟨j,v,s,q1,q2,y2,y3,by rw[su K.inj q1 q2,y2];rfl,?_⟩
   rw[q4]
   have hl:i<ns.length:=by rw[S.l2];exact (h_.mp y2).1
   rw[l_ hl]
   exact A2 q1 (l_ hl)
  ·refine .inr ⟨λn q ⟨j,s,z1,z2,z3⟩=>hx ?_,nr λj v y1 y2=>hx ⟨j,v,y1,y2⟩⟩
   obtain⟨v,rfl⟩:=K.mt j s z2 z3
   obtain⟨i',y4,y5⟩:=ck z1
   have:i'=i:=S.inj i' i n y5 q
   subst this
   obtain⟨v',y6,_⟩:=a.mu' j v z2
   exact⟨j,v',y4,y6⟩
 have lenB:(aW sub e2 e).length=e.length:=by
  clear key hc a K S hY hXY hM mv
  induction sub generalizing e2 e with
  |nil=>rfl
  |
   cons o sub ih=>
   cases e2 with
   |nil=>rfl
   |
    cons s e2=>
    show (aW sub e2 (eV o s e)).length=_
    rw[ih]
    unfold eV
    split
    ·split
     ·rw[A_]
     ·rfl
    ·rfl
 refine⟨⟨by rw[lenB];exact S.l1,by rw[lenB];exact S.l2,x_ S.lh a.len,λn z=>(hY n z).1,S.inj,λi n q z=>?_,λi s q=>?_⟩,⟨a.len,λm o q hm=>a.keep m o q λz=>hm (hM m z),λ_ _ q=>.inl q,λi s q hl=>?_,λi s q hl=>?_,λi v q=>?_,λi v q=>?_⟩⟩
 ·rcases (hY n z).2 with z |z
  ·exact S.nx i n q z
  ·obtain⟨_,_,_,_,_,_,_,q',_⟩:=S.own q
   have:=bW q';omega
 ·rcases key i with ⟨j,v,s0,k1,k2,k3,k4,k5,k6⟩ |⟨k1,k2⟩
  ·rw[k5] at q;cases q
   have y:=S.sl i s0 k3
   cases s0 with
   |
    ow u=>
    obtain⟨n,o,y1,y2,y3,_⟩:=y
    obtain⟨o',z1,z2,z3⟩:=hc j v n k2 (by rw[k6];exact y1)
    exact⟨n,o',y1,y2,y3,z1,z2,z3⟩
   |
    mu u=>
    obtain⟨n,o,y1,y2,_⟩:=y
    obtain⟨o',z1,z2,z3⟩:=hc j v n k2 (by rw[k6];exact y1)
    exact⟨n,o',y1,y2,z1,z2,z3⟩
   |_=>cases k4
  ·rw[k2] at q
   exact (S.sl i s q).mono mv λn o q1 q2=>a.keep n o q2 (k1 n q1)
 ·rcases key i with ⟨j,v,s0,k1,k2,k3,k4,k5,k6⟩ |⟨k1,k2⟩
  ·rw[k3] at q;cases q;cases s <;> first |cases hl;done |cases k4;done
  ·rw[k2];exact⟨q,rfl⟩
 ·rcases key i with ⟨j,v,s0,k1,k2,k3,k4,k5,k6⟩ |⟨k1,k2⟩
  ·rw[k5] at q;cases q;cases s0 <;> first |cases hl;done |cases k4;done
  ·rw[k2] at q;exact⟨q,rfl⟩
 ·rcases key i with ⟨j,u,s0,k1,k2,k3,k4,k5,k6⟩ |⟨k1,k2⟩
  ·rw[k5] at q
   cases s0 with
   |mu w=>exact⟨w,k3,rfl⟩
   |ow w=>cases q
   |_=>cases k4
  ·rw[k2] at q;exact⟨v,q,rfl⟩
 ·rcases key i with ⟨j,u,s0,k1,k2,k3,k4,k5,k6⟩ |⟨k1,k2⟩
  ·rw[k3] at q;cases q;exact⟨u,k5,rfl⟩
  ·exact⟨v,by rw[k2];exact q,rfl⟩
noncomputable def inS:Sl->Sl
 |.ow v=>.mu v
 |.lo v=>.lm v
 |s=>s
def ba(sub:Nd)(e:E3):E3:=sub.map λo=>match o with
 |none=>.no
 |some i=>match e[i]? with
  |some s=>inS s
  |none=>.no
def lcV(g:MG3)(c:MT3)(F:ME3):List Val->List Val->E3->R3 (List Val)
 | [],acc,e=>.ok acc e
 |v::vs,acc,e=>if acc.length<16777216 then (match g v e with
  |none=>.stuck
  |some e1=>(c e1).bind λb e2=>if b=true then (F e2).bind λt e3=>(match bY e3 t with
   |some (e4,y)=>lcV g c F vs (acc++[y]) e4
   |none=>.stuck) else lcV g c F vs acc e2) else .stuck
def vLC(I:MI3)(sub:Nd)(g:MG3)(c:MT3)(F:ME3):ME3:=λe=>(I e).bind λp e1=>match lcV g c F p.1 [] (ba sub (lockO e1 p.2)) with
 |.ok ys e2=>if ys.length<=16777216 then .ok (.new (.lst ys)) (ee (aW sub e2 (lockO e1 p.2)) p.2) else .stuck
 |_=>.stuck
def l8(sub:Nd):Prop:=∀(j k:Nat) (i:Nat),sub[j]?=some (some i)->sub[k]?=some (some i)->j=k
def wM(h:(sub.filterMap id).Nodup):l8 sub:=by
 induction sub with
 |nil=>intro j k i q;simp at q
 |
  cons o sub ih=>
  have bn:(sub.filterMap id).Nodup:=by
   cases o with
   |none=>simpa using h
   |some i=>rw[Lg] at h;simp at h;exact h.2
  have hno:∀(i k:Nat),o=some i->sub[k]?=some (some i)->False:=λi k z q=>by
   subst z
   rw[Lg] at h
   simp at h
   exact h.1 (K2 q)
  intro j k i q1 q2
  cases j with
  |
   zero=>
   cases k with
   |zero=>rfl
   |succ k=>exact (hno i k (by simpa using q1) (by simpa using q2)).elim
  |
   succ j=>
   cases k with
   |zero=>exact (hno i j (by simpa using q2) (by simpa using q1)).elim
   |succ k=>exact Lj (· + 1) (ih bn j k i (by simpa using q1) (by simpa using q2))
def Xin(X:Nat->Prop)(ns:Ns)(sub:Nd)(n:Nat):Prop:=X n\/(some n∈ns/\some n∉bE sub ns)
def gp(q:some n∈bE sub ns):some n∈ns:=by
 obtain⟨j,q⟩:=aU.mp q
 obtain⟨i,_,q2⟩:=ck q
 exact aU.mpr ⟨i,q2⟩
def iN{sub:Nd}{e:E3}{j:Nat}{s:Sl}(q:(ba sub e)[j]?=some s):(sub[j]?=some none/\s=.no)\/(∃i,sub[j]?=some (some i)/\((e[i]?=none/\s=.no)\/∃t,e[i]?=some t/\s=inS t)):=by
 unfold ba at q
 rw[t_] at q
 cases z:sub[j]? with
 |none=>rw[z] at q;cases q
 |
  some o=>
  rw[z] at q
  cases o with
  |none=>cases q;exact .inl ⟨rfl,rfl⟩
  |
   some i=>
   refine .inr ⟨i,rfl,?_⟩
   have q':=z_ q
   dsimp only at q'
   cases y:e[i]? with
   |none=>rw[y] at q';exact .inl ⟨rfl,q'.symm⟩
   |some t=>rw[y] at q';exact .inr ⟨t,rfl,q'.symm⟩
def Sat.inner(S:Sat X h0 ns e ae h)(hs:l8 sub):Sat (Xin X ns sub) h0 (bE sub ns) (ba sub e) (i8 sub ae) h:=by
 refine⟨by unfold i8 ba;rw[g_,g_],by unfold bE ba;rw[g_,g_],S.lh,λn z=>?_,λj k n q1 q2=>?_,λj n q z=>?_,λj s q=>?_⟩
 ·rcases z with z |⟨z,_⟩
  ·exact S.xl n z
  ·obtain⟨i,z⟩:=aU.mp z
   obtain⟨_,_,_,_,_,_,_,q',_⟩:=S.own z
   exact bW q'
 ·obtain⟨i,y1,y2⟩:=ck q1
  obtain⟨i',y3,y4⟩:=ck q2
  have:=S.inj i i' n y2 y4
  subst this
  exact hs j k i y1 y3
 ·rcases z with z |⟨_,z⟩
  ·obtain⟨i,y1,y2⟩:=ck q
   exact S.nx i n y2 z
  ·exact z (aU.mpr ⟨j,q⟩)
 ·have mv:Mov (Oc X ns) (Oc (Xin X ns sub) (bE sub ns)) h h:=λn o p q=>⟨⟨λz=>by
   rcases z with z |⟨z,_⟩
   ·exact p.1 z
   ·exact p.2 z,λz=>p.2 (gp z)⟩,q⟩
  have hj:∀{o},sub[j]?=some o->(bE sub ns)[j]?=some (o.bind λi=>(ns[i]?).bind id)/\(i8 sub ae)[j]?=some (o.bind λi=>(ae[i]?).bind id):=λ{o} z=>by
   unfold bE i8
   rw[t_,t_,z]
   exact⟨rfl,rfl⟩
  rcases iN q with ⟨z,rfl⟩ |⟨i,z,⟨y,rfl⟩ |⟨t,y,rfl⟩⟩
  ·rw[(hj z).1];rfl
  ·rw[(hj z).1]
   show some ((ns[i]?).bind id)=some none
   have:ns[i]?=none:=by
    rw[L8] at y ⊢
    rw[S.l2];exact y
   rw[this];rfl
  ·have k:=(S.sl i t y).mono mv λ_ _ _ q=>q
   rw[(hj z).1,(hj z).2]
   show SlR _ h0 (some ((ns[i]?).bind id)) (some ((ae[i]?).bind id)) h (inS t)
   have w1:∀x,ns[i]?=some x->some ((ns[i]?).bind id)=some x:=λx q=>by rw[q];rfl
   have w2:∀x,ae[i]?=some x->some ((ae[i]?).bind id)=some x:=λx q=>by rw[q];rfl
   cases t with
   |no=>rw[w1 _ k];rfl
   |sh v=>obtain⟨k1,x,k2,k3⟩:=k;rw[w1 _ k1,w2 _ k2];exact⟨rfl,x,rfl,k3⟩
   |ow v=>obtain⟨m,o,k1,k2,_,k3⟩:=k;rw[w1 _ k1,w2 _ k2];exact⟨m,o,rfl,rfl,k3⟩
   |lo v=>obtain⟨m,o,k1,k2,_,k3⟩:=k;rw[w1 _ k1,w2 _ k2];exact⟨m,o,rfl,rfl,k3⟩
   |mu v=>obtain⟨m,o,k1,k2,k3⟩:=k;rw[w1 _ k1,w2 _ k2];exact⟨m,o,rfl,rfl,k3⟩
   |lm v=>obtain⟨m,o,k1,k2,k3⟩:=k;rw[w1 _ k1,w2 _ k2];exact⟨m,o,rfl,rfl,k3⟩
def sF(hs:l8 sub):Lnk sub e (ba sub e):=by
 refine⟨hs,λj v q=>?_,λj s q hm=>?_⟩
 ·rcases iN q with ⟨_,z⟩ |⟨i,z,⟨_,y⟩ |⟨t,y,y2⟩⟩
  ·cases z
  ·cases y
  ·refine⟨i,t,z,y,?_⟩
   cases t <;> first |rfl |cases y2
 ·rcases iN q with ⟨_,z⟩ |⟨i,z,⟨_,y⟩ |⟨t,y,y2⟩⟩
  ·subst z;cases hm
  ·subst y;cases hm
  ·subst y2
   cases t with
   |ow v=>exact⟨v,rfl⟩
   |mu v=>exact⟨v,rfl⟩
   |_=>cases hm
section
variable{I:MI}{I3:MI3}{g:MG}{g3:MG3}{c:MT}{c3:MT3}{F:ME}{F3:ME3}
def C3(S:Sat X h0 ns e ae h)(hg:RG g g3)(hc:RT c c3)(hF:RE F F3)(hG:∀ns' e' h',Stp ns e h ns' e' h'->G h'):
 ∀
  {ds:List D}{vs:List Val},Rds (Oc X ns) h ds vs->∀{acc:List D}{accv:List Val}{ns1:Ns}{e1:E3}{b_:AE}{h1:AH},Stp ns e h ns1 e1 h1->Sat X h0 ns1 e1 b_ h1->Rds (Oc X ns1) h1 acc accv->lcV g3 c3 F3 vs accv e1=.ok ys e2->
  ∃dy h2 ci ae2,lcL G g c F ds acc b_ h1=.ok dy h2/\Stp ns e h ci e2 h2/\Sat X h0 ci e2 ae2 h2/\Rds (Oc X ci) h2 dy ys:=by
 intro ds
 induction ds with
 |
  nil=>
  intro vs r acc accv ns1 e1 b_ h1 a1 S1 ra q
  cases r
  unfold lcL
  rw[if_pos (hG _ _ _ a1)]
  cases q
  exact⟨acc,h1,ns1,b_,rfl,a1,S1,ra⟩
 |
  cons d0 ds ih=>
  intro vs r acc accv ns1 e1 b_ h1 a1 S1 ra q
  cases r with
  |
   cons r rr=>
   rename_i v vs
   unfold lcV at q
   unfold lcL
   by_cases hl:accv.length<16777216
   ·rw[if_pos hl] at q
    rw[if_pos ⟨hG _ _ _ a1,by rw[ra.len];exact hl⟩]
    cases q1:g3 v e1 with
    |none=>rw[q1] at q;cases q
    |
     some e3=>
     rw[q1] at q
     dsimp only at q
     obtain⟨ae3,ns3,p3,S3,a3⟩:=hg _ _ _ _ _ _ _ _ _ S1 (r.mono (a1.mov S)) q1
     rw[p3,dn]
     have a13:=a1.trans S a3
     have pc:=hc X h0 ns3 e3 ae3 h1 S3
     cases q4:c3 e3 with
     |stuck=>rw[q4] at q;cases q
     |exc _ _=>rw[q4] at q;cases q
     |
      ok b e4=>
      rw[q4] at q pc
      obtain⟨b',h4,ns4,p4,a4,S4,rfl⟩:=pc
      rw[p4,dn]
      have a14:=a13.trans S a4
      have ra4:=(ra.mono (a3.mov S1)).mono (a4.mov S3)
      have q':(if b'=true then (F3 e4).bind λt e3=>(match bY e3 t with
       |some (e4,y)=>lcV g3 c3 F3 _ (accv++[y]) e4
       |none=>.stuck) else lcV g3 c3 F3 _ accv e4)=.ok ys e2:=q
      by_cases hb:b'=true
      ·rw[if_pos hb] at q' ⊢
       have pF:=hF X h0 0 ns4 e4 ae3 h4 S4 (KA _)
       cases q5:F3 e4 with
       |stuck=>rw[q5] at q';cases q'
       |exc _ _=>rw[q5] at q';cases q'
       |
        ok t e5=>
        rw[q5] at q' pF
        obtain⟨d5,h5,ns5,p5,a5,S5,r5⟩:=pF
        rw[p5,dn]
        have q'':(match bY e5 t with
         |some (e4,y)=>lcV g3 c3 F3 _ (accv++[y]) e4
         |none=>.stuck)=.ok ys e2:=q'
        cases q6:bY e5 t with
        |none=>rw[q6] at q'';cases q''
        |
         some w=>
         obtain⟨e6,y⟩:=w
         rw[q6] at q''
         obtain⟨ns6,S6,a6,r6⟩:=eO S5 r5 q6
         exact ih rr ((a14.trans S a5).trans S a6) S6 (((ra4.mono (a5.mov S4)).mono (a6.mov S5)).append (.cons r6 .nil)) q''
      ·rw[if_neg hb] at q' ⊢
       exact ih rr a14 S4 ra4 q'
   ·rw[if_neg hl] at q;cases q
def Iu(hs:(sub.filterMap id).Nodup)(hI:RI I I3)(hg:RG g g3)(hc:RT c c3)(hF:RE F F3):RE (eLC I sub g c F) (vLC I3 sub g3 c3 F3):=λX h0 L ns e ae h S hl=>
 Po.bind
  S (hI X h0 ns e ae h S) λit p h1 ns1 e1 a1 S1 r1=>by
  try dsimp only
  obtain⟨r2,gd,hk⟩:=r1
  have hs':=wM hs
  have S2:=S1.lockO p.2
  have S3:=S2.inner hs'
  cases q:lcV g3 c3 F3 p.1 [] (ba sub (lockO e1 p.2)) with
  |stuck=>trivial
  |exc _ _=>trivial
  |
   ok ys e2=>
   dsimp only
   split
   ·rename_i hy
    have gd':∀ns' e' h',Stp (bE sub ns1) (ba sub (lockO e1 p.2)) h1 ns' e' h'->it.guard h':=λns' e' h' a=>gd h' λm o qm hm=>a.keep m o qm λ⟨j,s,z1,z2,z3⟩=>by
     obtain⟨i,y1,y2⟩:=ck z1
     rcases hm with hm |⟨k,hk1,hk2⟩
     ·exact hm.2 (aU.mpr ⟨i,y2⟩)
     ·have:i=k:=S1.inj i k m y2 hk2
      subst this
      obtain⟨s',w1,w2⟩:=hk i hk1
      rcases iN z2 with ⟨z,_⟩ |⟨i',z,y⟩
      ·rw[y1] at z;cases z
      ·rw[y1] at z;cases z
       have hl:(lockO e1 p.2)[i]?=some (iB s'):=by rw[hk1];exact mD w1
       rcases y with ⟨y,_⟩ |⟨t,y,rfl⟩
       ·rw[hl] at y;cases y
       ·rw[hl] at y;cases y
        cases s' <;> first |cases w2;done |cases z3;done
    have mvi:Mov (Oc X ns1) (Oc (Xin X ns1 sub) (bE sub ns1)) h1 h1:=λn o p q=>⟨⟨λz=>by
     rcases z with z |⟨z,_⟩
     ·exact p.1 z
     ·exact p.2 z,λz=>p.2 (gp z)⟩,q⟩
    obtain⟨dy,h2,ci,ae2,p2,a2,S4,r4⟩:=C3 (G:=it.guard) S3 hg hc hF gd' (r2.mono mvi) .refl S3 .nil q
    have k3:∀n,Oc (Xin X ns1 sub) ci n->Oc X ns1 n:=λn z=>⟨λy=>z.1 (.inl y),λy=>by
     by_cases w:some n∈bE sub ns1
     ·obtain⟨j,w⟩:=aU.mp w
      obtain⟨s,v,o,b1,b2,_⟩:=S3.own w
      rcases b2 with b2 |b2
      ·obtain⟨v',rfl⟩:=(sF (e:=lockO e1 p.2) hs').mt j s b1 b2
       obtain⟨u,c1,c2⟩:=a2.mu' j v' b1
       exact z.2 (aU.mpr ⟨j,by rw[c2];exact w⟩)
      ·obtain⟨c1,c2⟩:=a2.lk j s b1 b2
       exact z.2 (aU.mpr ⟨j,by rw[c2];exact w⟩)
     ·exact z.1 (.inr ⟨y,w⟩)⟩
    have bk:=S2.back (Y:=X) (sF hs') a2 (λn z=>⟨y_ (S2.xl n z) a2.len,.inl z⟩) (λ_ z=>z) λj v n q1 q2=>by
     obtain⟨s,u,o,b1,b2,b3,b4,b5,b6,b7⟩:=S4.own q2
     rw[q1] at b1;cases b1
     cases b3
     exact⟨o,b5,b6,b7.mono λm o' z y=>⟨k3 m z,y⟩⟩
    obtain⟨S5,a5⟩:=bk
    have r5:Rds (Oc X ns1) h2 dy ys:=r4.mono λm o' z y=>⟨k3 m z,y⟩
    have em:∀(e':E3),Sat X h0 ns1 e' ae h2->Stp ns1 e1 h1 ns1 e' h2->Po X h0 ns1 e1 ae h1 (relE X h0 L ae) ((noX (lcL it.guard g c F it.items [] (i8 sub ae) h1)).bind cZ) (.ok (.new (.lst ys)) e'):=λe' S6 a6=>by
     rw[p2]
     have pp:=BvR.po (L:=L) (r:=cZ dy h2) (b:=.new (.lst ys)) S6 (x_ hl (x_ a1.len a6.len)) ⟨.lst dy,by unfold cZ;rw[if_pos (by rw[r5.len];exact hy)],trivial,.lst r5⟩
     obtain⟨d,h',ns',y,y1,y2,y3⟩:=pp
     exact⟨d,h',ns',y,a6.trans S1 y1,y2,y3⟩
    cases hp:p.2 with
    |
     none=>
     rw[hp] at S5 a5
     exact em _ S5 a5
    |
     some k=>
     rw[hp] at S5 a5
     obtain⟨s,w1,w2⟩:=hk k hp
     exact em _ (S5.unlock k) (a5.unlock w1 w2)
   ·trivial
end
inductive R3F where
 |ok (r:Rt) (mv:List Val) |exc (c:Str) (mv:List Val) |stuck
abbrev Fn3:=List Val->R3F
def sl1(b:Bool)(v:Val):Sl:=if b=true then .mu v else .sh v
def sls(ms:List Bool)(vs:List Val):E3:=List.zipWith sl1 ms vs
def aN:List Bool->List Val->E3
 |true::ms,v::vs=>.mu v::aN ms vs
 |true::ms,[]=>.no::aN ms []
 |false::ms,vs=>.no::aN ms vs
 | [],_=>[]
def muV:List Bool->E3->Option (List Val)
 |true::ms,.mu v::e=>(muV ms e).map (v :: ·)
 |true::_,_=>none
 |false::ms,_::e=>muV ms e
 |false::_,[]=>none
 | [],_=>some []
def RFp(X:Nat->Prop)(ps:Ns)(ms:List Bool)(vs:List Val)(ds:List D)(h:AH)(r2:R D):R3F->Prop
 |.stuck=>True
 |.ok r mv=>∃d h',r2=.ok d h'/\Stp ps (sls ms vs) h ps (aN ms mv) h'/\RtR X h.length ps (aN ms mv) (ds.map some) h' d r
 |.exc c mv=>∃h',r2=.exc c h'/\Stp ps (sls ms vs) h ps (aN ms mv) h'/\Sat X h.length ps (aN ms mv) (ds.map some) h'
def RF(ms:List Bool)(G2:Fn)(G3:Fn3):Prop:=∀X ps ds vs h,vs.length=ms.length->Sat X h.length ps (sls ms vs) (ds.map some) h->RFp X ps ms vs ds h (G2 ds h) (G3 vs)
def fnV(ms:List Bool)(N:Nat)(F:MS3):Fn3:=λvs=>if vs.length=ms.length then (match F (sls ms vs++List.replicate (N-vs.length) .no) with
 |.nx e=>(match muV ms e with |some mv=>.ok (.val .non) mv |none=>.stuck)
 |.rt r e=>(match muV ms e with |some mv=>.ok r mv |none=>.stuck)
 |.exc c e=>(match muV ms e with |some mv=>.exc c mv |none=>.stuck)
 |_=>.stuck) else .stuck
def eA{ms:List Bool}{vs:List Val}{i:Nat}{s:Sl}(q:(sls ms vs)[i]?=some s):∃b v,ms[i]?=some b/\vs[i]?=some v/\s=sl1 b v:=by
 unfold sls at q
 rw[Lr] at q
 cases h1:ms[i]? with
 |none=>rw[h1] at q;cases q
 |
  some b=>
  cases h2:vs[i]? with
  |none=>rw[h1,h2] at q;cases q
  |some v=>rw[h1,h2] at q;cases q;exact⟨b,v,rfl,rfl,rfl⟩
theorem gx:∀{ms:List Bool}{e:E3}{mv:List Val}{i:Nat}{s:Sl},muV ms e=some mv->(aN ms mv)[i]?=some s->(ms[i]?=some false/\s=.no)\/(ms[i]?=some true/\∃v,e[i]?=some (.mu v)/\s=.mu v)
 | [],_,_,_,_,_,q=>by unfold aN at q;simp at q
 |
  true::ms,.mu v::e,mv,i,s,q,q2=>by
  obtain⟨mv',z1,z2⟩:=J_.mp (show (muV ms e).map (v :: ·)=some mv from q)
  subst z2
  cases i with
  |zero=>
   right;have:Sl.mu v=s:=by simpa [aN] using q2
   subst this;exact⟨rfl,v,rfl,rfl⟩
  |
   succ i=>
   have:=gx (i:=i) (s:=s) z1 (by simpa [aN] using q2)
   simpa using this
 |true::ms,[],mv,i,s,q,q2=>by cases q
 |true::ms,.no::e,mv,i,s,q,q2=>by cases q
 |true::ms,.sh v::e,mv,i,s,q,q2=>by cases q
 |true::ms,.ow v::e,mv,i,s,q,q2=>by cases q
 |true::ms,.lo v::e,mv,i,s,q,q2=>by cases q
 |true::ms,.lm v::e,mv,i,s,q,q2=>by cases q
 |false::ms,[],mv,i,s,q,q2=>by cases q
 |
  false::ms,t::e,mv,i,s,q,q2=>by
  cases i with
  |zero=>
   left;have:Sl.no=s:=by simpa [aN] using q2
   exact⟨rfl,this.symm⟩
  |
   succ i=>
   have:=gx (i:=i) (s:=s) (show muV ms e=some mv from q) (by simpa [aN] using q2)
   simpa using this
theorem mK:∀{ms:List Bool}{e:E3}{mv:List Val}{i:Nat},muV ms e=some mv->ms[i]?=some true->∃v,e[i]?=some (.mu v)/\(aN ms mv)[i]?=some (.mu v)
 | [],_,_,i,_,q=>by simp at q
 |
  true::ms,.mu v::e,mv,i,q,q2=>by
  obtain⟨mv',z1,z2⟩:=J_.mp (show (muV ms e).map (v :: ·)=some mv from q)
  subst z2
  cases i with
  |zero=>exact⟨v,rfl,rfl⟩
  |
   succ i=>
   obtain⟨u,y1,y2⟩:=mK (i:=i) z1 (by simpa using q2)
   exact⟨u,by simpa using y1,by simpa [aN] using y2⟩
 |true::ms,[],mv,i,q,q2=>by cases q
 |true::ms,.no::e,mv,i,q,q2=>by cases q
 |true::ms,.sh v::e,mv,i,q,q2=>by cases q
 |true::ms,.ow v::e,mv,i,q,q2=>by cases q
 |true::ms,.lo v::e,mv,i,q,q2=>by cases q
 |true::ms,.lm v::e,mv,i,q,q2=>by cases q
 |false::ms,[],mv,i,q,q2=>by cases q
 |
  false::ms,t::e,mv,i,q,q2=>by
  cases i with
  |zero=>simp at q2
  |
   succ i=>
   obtain⟨u,y1,y2⟩:=mK (i:=i) (show muV ms e=some mv from q) (by simpa using q2)
   exact⟨u,by simpa using y1,by simpa [aN] using y2⟩
theorem gA:∀{ms:List Bool}{mv:List Val},(aN ms mv).length=ms.length
 | [],_=>rfl
 |true::ms,v::mv=>by show (aN ms mv).length+1=ms.length+1;rw[gA]
 |true::ms,[]=>by show (aN ms []).length+1=ms.length+1;rw[gA]
 |false::ms,mv=>by show (aN ms mv).length+1=ms.length+1;rw[gA]
def Jj(hF:RS F F3):RF ms (fnD N F) (fnV ms N F3):=λX ps ds vs h hl S=>by
 unfold fnV
 rw[if_pos hl]
 have lS:(sls ms vs).length=vs.length:=by unfold sls;rw[LB];omega
 have lD:ds.length=vs.length:=by have:=S.l1;rw[g_,lS] at this;exact this
 have lP:ps.length=vs.length:=S.l2.trans lS
 have ltS:∀{i:Nat},i<ms.length->i<(sls ms vs).length:=λh=>by omega
 have ltP:∀{i:Nat},i<(sls ms vs).length->i<ps.length:=λh=>S.l2.symm ▸ h
 have S1
  : Sat X h.length (ps++List.replicate (N-vs.length) none) (sls ms vs++List.replicate (N-vs.length) .no) (ds.map some++List.replicate (N-vs.length) none) h:=by
  have mns:∀n,some n∈ps++List.replicate (N-vs.length) (none:Option Nat) ↔ some n∈ps:=λn=>by
   rw[KC]
   constructor
   ·rintro (z |z)
    ·exact z
    ·have:=List.eq_of_mem_replicate z;cases this
   ·exact .inl
  have gns:∀{i n:Nat},(ps++List.replicate (N-vs.length) (none:Option Nat))[i]?=some (some n)->ps[i]?=some (some n):=λ{i n} q=>by
   rw[Mq] at q
   split at q
   ·exact q
   ·rw[KQ] at q;split at q <;> cases q
  refine⟨?_,?_,S.lh,S.xl,λi j n q1 q2=>S.inj i j n (gns q1) (gns q2),λi n q=>S.nx i n (gns q),λi s q=>?_⟩
  ·rw[r_,r_,KJ,KJ,S.l1]
  ·rw[r_,r_,KJ,KJ,S.l2]
  ·rw[Mq] at q
   split at q
   ·rename_i hi
    have k:=S.sl i s q
    rw[E_ (ltP hi),E_ (by rw[S.l1];exact hi)]
    exact k.mono (λn o p q=>⟨⟨p.1,λz=>p.2 ((mns n).mp z)⟩,q⟩) λ_ _ _ q=>q
   ·rename_i hi
    rw[KQ] at q
    split at q
    ·cases q
     rw[Ku (by rw[S.l2];exact Nat.le_of_not_lt hi),KQ,if_pos (by rw[S.l2];assumption)]
     rfl
    ·cases q
 have p:=hF _ _ _ _ _ _ S1
 have e2:fnD N F ds h=match F (ds.map some++List.replicate (N-vs.length) none) h with
  |.nx _ h'=>.ok .non h'
  |.rt d h'=>.ok d h'
  |.exc c _ h'=>.exc c h'
  |_=>.stuck:=by rw[<- lD];rfl
 rw[e2]
 have em:∀(Y:Nat->Prop) (ns':Ns) (e':E3) (am:AE) (h':AH) (mv:List Val),(∀n,X n->Y n)->Stp (ps++List.replicate (N-vs.length) none) (sls ms vs++List.replicate (N-vs.length) .no) h ns' e' h'->Sat Y h.length ns' e' am h'->muV ms e'=some mv->
  Stp ps (sls ms vs) h ps (aN ms mv) h'/\Sat Y h.length ps (aN ms mv) (ds.map some) h'/\∀n,Oc Y ns' n->Oc Y ps n:=by
  intro Y ns' e' am h' mv hXY a S2 qm
  have kmu:∀{i:Nat},ms[i]?=some true->∃v u n o,e'[i]?=some (.mu v)/\(aN ms mv)[i]?=some (.mu v)/\(sls ms vs)[i]?=some (.mu u)/\ns'[i]?=ps[i]?/\ps[i]?=some (some n)/\(ds.map some)[i]?=some (some (.ref n))/\h'[n]?=some o/\bQ o/\Rc (Oc Y ns') h' o v:=by
   intro i hi
   obtain⟨v,y1,y2⟩:=mK qm hi
   have hil:i<ms.length:=(h_.mp hi).1
   obtain⟨u,y3,y4⟩:=a.mu i v y1
   rw[E_ (ltS hil)] at y3
   rw[E_ (ltP (ltS hil))] at y4
   obtain⟨n,o,z1,z2,_⟩:=S.sl i _ y3
   obtain⟨n',o',w1,w2,w3,w4,w5⟩:=S2.sl i _ y1
   rw[y4,z1] at w1;cases w1
   exact⟨v,u,n,o',y1,y2,y3,y4,z1,z2,w3,w4,w5⟩
  have kown:∀{i n:Nat},ps[i]?=some (some n)->ms[i]?=some true:=λ{i n} q=>by
   obtain⟨s,v,o,z1,z2,_⟩:=S.own q
   obtain⟨b,u,y1,_,y2⟩:=eA z1
   cases b with
   |true=>exact y1
   |false=>subst y2;rcases z2 with z2 |z2 <;> cases z2
  have koc:∀n,Oc Y ns' n->Oc Y ps n:=λn z=>⟨z.1,λy=>by
   obtain⟨i,y⟩:=aU.mp y
   obtain⟨v,u,n',o,_,_,_,k1,k2,_⟩:=kmu (kown y)
   exact z.2 (aU.mpr ⟨i,by rw[k1];exact y⟩)⟩
  refine⟨⟨a.len,λm o q hm=>a.keep m o q λ⟨i,s,z1,z2,z3⟩=>hm ?_,λ_ _ q=>.inl q,λi s q hl'=>?_,λi s q hl'=>?_,λi v q=>?_,λi v q=>?_⟩,⟨?_,?_,x_ (n_ _) a.len,S2.xl,S.inj,λi n q z=>?_,λi s q=>?_⟩,koc⟩
  ·rw[Mq] at z1
   split at z1
   ·rename_i hi
    rw[E_ (by rw[<- S.l2];exact hi)] at z2
    exact⟨i,s,z1,z2,z3⟩
   ·rw[KQ] at z1;split at z1 <;> cases z1
  ·obtain⟨b,u,_,_,y⟩:=eA q
   subst y
   cases b <;> cases hl'
  ·rcases gx qm q with ⟨_,z⟩ |⟨_,v,_,z⟩ <;> subst z <;> cases hl'
  ·rcases gx qm q with ⟨_,z⟩ |⟨z,_⟩
   ·cases z
   ·obtain⟨v',u,n,o,_,_,k1,_⟩:=kmu z
    exact⟨u,k1,rfl⟩
  ·obtain⟨b,u,y1,_,y2⟩:=eA q
   cases b with
   |false=>cases y2
   |
    true=>
    obtain⟨v',u,n,o,_,k0,k1,_⟩:=kmu y1
    exact⟨v',k0,rfl⟩
  ·rw[g_,gA];omega
  ·rw[gA];omega
  ·obtain⟨v,u,n',o,_,_,_,k1,k2,_⟩:=kmu (kown q)
   exact S2.nx i n (by rw[k1];exact q) z
  ·rcases gx qm q with ⟨z,rfl⟩ |⟨z,v,z2,rfl⟩
   ·have hil:i<ms.length:=(h_.mp z).1
    have hi:i<(sls ms vs).length:=ltS hil
    obtain⟨b,u,y1,_,y2⟩:=eA (l_ hi)
    rw[z] at y1;cases y1
    have k:=S.sl i _ (l_ hi)
    rw[y2] at k
    exact k.1
   ·obtain⟨v',u,n,o,k0,_,_,k1,k2,k3,k4,k5,k6⟩:=kmu z
    rw[z2] at k0;cases k0
    exact⟨n,o,k2,k3,k4,k5,k6.mono λm o' y q=>⟨koc m y,q⟩⟩
 generalize F3 (sls ms vs++List.replicate (N-vs.length) .no)=r3 at *
 cases r3 with
 |stuck=>trivial
 |bk _=>trivial
 |ct _=>trivial
 |
  nx e'=>
  obtain⟨am,h',ns',q,a,S2⟩:=p
  rw[q]
  dsimp only
  cases qm:muV ms e' with
  |none=>trivial
  |
   some mv=>
   obtain⟨a3,S3,koc⟩:=em X ns' e' am h' mv (λ_ z=>z) a S2 qm
   exact⟨.non,h',rfl,a3,S3,.non⟩
 |
  exc c e'=>
  obtain⟨am,h',ns',q,a,S2⟩:=p
  rw[q]
  dsimp only
  cases qm:muV ms e' with
  |none=>trivial
  |
   some mv=>
   obtain⟨a3,S3,koc⟩:=em X ns' e' am h' mv (λ_ z=>z) a S2 qm
   exact⟨h',rfl,a3,S3⟩
 |
  rt r e'=>
  obtain⟨d,am,h',ns',q,a,rr⟩:=p
  rw[q]
  dsimp only
  cases qm:muV ms e' with
  |none=>trivial
  |
   some mv=>
   cases r with
   |
    val v=>
    obtain⟨a3,S3,koc⟩:=em X ns' e' am h' mv (λ_ z=>z) a rr.1 qm
    exact⟨d,h',rfl,a3,S3,rr.2.mono λm o y q=>⟨koc m y,q⟩⟩
   |
    new v=>
    obtain⟨n,o,z1,z2,z3,z4,z5,z6,z7⟩:=rr
    obtain⟨a3,S3,koc⟩:=em (Xn X n) ns' e' am h' mv (λ_ z=>.inl z) a z6 qm
    exact⟨d,h',rfl,a3,n,o,z1,z2,z3,z4,z5,S3,z7.mono λm o y q=>⟨koc m y,q⟩⟩
   |
    par i=>
    obtain⟨R1,R2,v,R3⟩:=rr
    obtain⟨a3,S3,koc⟩:=em X ns' e' am h' mv (λ_ z=>z) a R1 qm
    obtain⟨u,k1,k2⟩:=a.mu i v R3
    have hi:i<(sls ms vs).length:=by
     apply Decidable.byContradiction
     intro hi
     rw[Ku (Nat.le_of_not_lt hi),KQ] at k1
     split at k1 <;> cases k1
    rw[E_ hi] at k1
    rw[E_ (by rw[S.l2];exact hi)] at k2
    obtain⟨m,o,w1,w2,_⟩:=S.sl i _ k1
    obtain⟨m',o',x1,x2,_⟩:=R1.sl i _ R3
    rw[k2,w1] at x1;cases x1
    rw[R2] at x2;cases x2
    obtain⟨v',y,_⟩:=a3.mu' i u k1
    exact⟨_,h',rfl,a3,S3,w2,v',y⟩
def fN(i:Nat):List Tm->Bool
 |.bor j::ts=>(i==j) || fN i ts
 |_::ts=>fN i ts
 | []=>false
def hE(i:Nat):List Bool->List Tm->Bool
 |true::ms,.bor j::ts=>(i==j) || hE i ms ts
 |_::ms,_::ts=>hE i ms ts
 |_,_=>false
def okA(e:E3):List Bool->List Tm->Bool
 |true::ms,.bor i::ts=>((e[i]?).bind Sl.mv).isSome && !(fN i ts)&&okA e ms ts
 |true::_,_::_=>false
 |false::ms,.bor i::ts=>!(hE i ms ts)&&okA e ms ts
 |false::ms,_::ts=>okA e ms ts
 | [],[]=>true
 |_,_=>false
def mE(b:Bool)(t:Tm):Option Nat:=match b,t with
 |true,.bor i=>some i
 |_,_=>none
def bo(ms:List Bool)(ts:List Tm):List (Option Nat):=List.zipWith mE ms ts
def aO(e:E3):List Bool->List Tm->List Nat
 |false::ms,.bor i::ts=>(match e[i]? with
  |some (.sh _)=>aO e ms ts
  |_=>i::aO e ms ts)
 |_::ms,_::ts=>aO e ms ts
 |_,_=>[]
mutual
def flatV:Val->Bool
 |.tup xs=>flatVs xs
 |.lst _=>false
 |.kl _=>false
 |.dct _=>false
 |.set _=>false
 |_=>true
def flatVs:List Val->Bool
 | []=>true
 |v::vs=>flatV v&&flatVs vs
end
def lA:List (Key×Val)->Bool
 | []=>true
 |(_,v)::vs=>flatV v&&lA vs
def flatC:Val->Bool
 |.lst xs=>flatVs xs
 |.dct xs=>lA xs
 |.set _=>true
 |_=>false
def jB:Rt->Bool
 |.val v=>flatV v
 |.new v=>flatC v
 |.par _=>true
def nc(e:E3):List Nat->Option E3
 | []=>some e
 |i::is=>match bY e (.bor i) with
  |some (e1,_)=>nc e1 is
  |none=>none
def Rt.tm(ts:List Tm):Rt->Tm
 |.val v=>.val v
 |.new v=>.new v
 |.par i=>(ts[i]?).getD (.val .non)
def zT(ms:List Bool)(G:Fn3)(A:MA3):ME3:=λe=>(A e).bind λts e1=>match rss e1 ts with
 |none=>.stuck
 |some vs=>if okA e1 ms ts=true then (match G vs with
  |.stuck=>.stuck
  |.ok r mv=>if (aO e1 ms ts).isEmpty || (jB r&&mv.all flatC) then .ok (r.tm ts) (aW (bo ms ts) (aN ms mv) e1) else (match nc e1 (aO e1 ms ts) with
   |some e2=>.ok (r.tm ts) (aW (bo ms ts) (aN ms mv) e2)
   |none=>.stuck)
  |.exc c mv=>if (aO e1 ms ts).isEmpty || mv.all flatC then .exc c (aW (bo ms ts) (aN ms mv) e1) else .stuck) else .stuck
section
variable{P P':Nat->Prop}{h h':AH}
def Rd.flat(f:flatV v=true)(r:Rd P h d v):Rd P' h' d v:=
 @Rd.rec P h (λd v _=>flatV v=true->Rd P' h' d v) (λo v _=>flatV v=true->Rd P' h' .non v) (λds vs _=>flatVs vs=true->Rds P' h' ds vs) (λws us _=>True) (λ_=>.non) (λb _=>.bl b) (λi _=>.int i) (λx _=>.str x) (λn _=>.ty n) (λx _=>.glb x) (λx _=>.exc x) (λ_ ih f=>.tup (ih f)) (λ_ _ f=>absurd f p_) (λ_ _ r _ f=>by cases r <;> exact absurd f p_) (λ_ _ f=>absurd f p_) (λ_ _ f=>absurd f p_) (λ_ _ f=>absurd f p_) (λ_ f=>absurd f p_) (λ_=>.nil) (λ_ _ a b f=>.cons (a (k_ .. ▸ f).1) (b (k_ .. ▸ f).2)) trivial (λ_ _ _ _=>trivial) d v r f
def Rds.flat(f:flatVs v=true)(r:Rds P h d v):Rds P' h' d v:=
 r.ind (M:=λds vs=>flatVs vs=true->Rds P' h' ds vs) (λ_=>.nil) (λr _ ih f=>by
  rw[flatVs,k_] at f
  exact .cons (Rd.flat f.1 r) (ih f.2)) f
def Rk.flat(f:lA v=true)(r:Rk P h d v):Rk P' h' d v:=
 r.ind (M:=λds vs=>lA vs=true->Rk P' h' ds vs) (λ_=>.nil) (λr _ ih f=>by
  rw[lA,k_] at f
  exact .cons (Rd.flat f.1 r) (ih f.2)) f
def Rc.flat(f:flatC v=true)(r:Rc P h o v):Rc P' h' o v:=by
 cases r with
 |lst r=>exact .lst (Rds.flat (by simpa [flatC] using f) r)
 |fz r=>simp [flatC] at f
 |dct r=>exact .dct (Rk.flat (by simpa [flatC] using f) r)
 |set xs=>exact .set xs
end
theorem mP:∀{ts:List Tm}{k:Nat},ts[k]?=some (.bor i)->fN i ts=true
 | [],_,q=>by simp at q
 |
  t::ts,0,q=>by
  have:t=.bor i:=by simpa using q
  subst this;simp [fN]
 |
  t::ts,k+1,q=>by
  have:=mP (ts:=ts) (k:=k) (by simpa using q)
  cases t <;> simp [fN,this]
theorem sH:∀{ms:List Bool}{ts:List Tm}{k:Nat},ms[k]?=some true->ts[k]?=some (.bor i)->hE i ms ts=true
 | [],_,_,q,_=>by simp at q
 |_::_,[],_,_,q=>by simp at q
 |
  b::ms,t::ts,0,q1,q=>by
  have:t=.bor i:=by simpa using q
  have:b=true:=by simpa using q1
  subst_vars;simp [hE]
 |
  b::ms,t::ts,k+1,q1,q=>by
  have:=sH (ms:=ms) (ts:=ts) (k:=k) (by simpa using q1) (by simpa using q)
  cases b <;> cases t <;> simp [hE,this]
theorem jO:∀{ms:List Bool}{ts:List Tm}{k:Nat},okA e ms ts=true->ms[k]?=some true->∃i,ts[k]?=some (.bor i)/\∃u,(e[i]?).bind Sl.mv=some u
 | [],_,_,_,q=>by simp at q
 |b::ms,[],_,o,_=>by cases b <;> simp [okA] at o
 |
  b::ms,t::ts,0,o,q=>by
  have:b=true:=by simpa using q
  subst this
  cases t with
  |
   bor i=>
   simp only[okA,k_] at o
   exact⟨i,rfl,KZ.mp o.1.1⟩
  |_=>simp [okA] at o
 |
  b::ms,t::ts,k+1,o,q=>by
  have o':okA e ms ts=true:=by
   cases b <;> cases t <;> simp only[okA,k_] at o <;> first |exact o.2 |exact o |(simp at o;done)
  obtain⟨i,y⟩:=jO (k:=k) o' (by simpa using q)
  exact⟨i,by simpa using y⟩
theorem ia:∀{ms:List Bool}{ts:List Tm}{k j i:Nat},okA e ms ts=true->ms[k]?=some true->ts[k]?=some (.bor i)->ts[j]?=some (.bor i)->j=k
 | [],_,_,_,_,_,q,_,_=>by simp at q
 |b::ms,[],_,_,_,o,_,_,_=>by cases b <;> simp [okA] at o
 |b::ms,t::ts,0,0,i,o,q1,q2,q3=>rfl
 |
  b::ms,t::ts,0,j+1,i,o,q1,q2,q3=>by
  have h1:b=true:=by simpa using q1
  have h2:t=.bor i:=by simpa using q2
  subst h1 h2
  simp only[okA,k_] at o
  have:=mP (i:=i) (ts:=ts) (k:=j) (by simpa using q3)
  rw[this] at o
  simp at o
 |
  b::ms,t::ts,k+1,0,i,o,q1,q2,q3=>by
  have h2:t=.bor i:=by simpa using q3
  subst h2
  have hm:=sH (i:=i) (ms:=ms) (ts:=ts) (k:=k) (by simpa using q1) (by simpa using q2)
  have hb:=mP (i:=i) (ts:=ts) (k:=k) (by simpa using q2)
  cases b <;> simp [okA,hm,hb] at o
 |
  b::ms,t::ts,k+1,j+1,i,o,q1,q2,q3=>by
  have o':okA e ms ts=true:=by
   cases b <;> cases t <;> simp only[okA,k_] at o <;> first |exact o.2 |exact o |(simp at o;done)
  exact Lj (· + 1) (ia (k:=k) (j:=j) (i:=i) o' (by simpa using q1) (by simpa using q2) (by simpa using q3))
theorem eZ:∀{ms:List Bool}{ts:List Tm},okA e ms ts=true->ms.length=ts.length
 | [],[],_=>rfl
 | [],_::_,o=>by simp [okA] at o
 |b::ms,[],o=>by cases b <;> simp [okA] at o
 |
  b::ms,t::ts,o=>by
  have o':okA e ms ts=true:=by
   cases b <;> cases t <;> simp only[okA,k_] at o <;> first |exact o.2 |exact o |(simp at o;done)
  exact Lj (· + 1) (eZ o')
theorem kI:∀{ms:List Bool}{ts:List Tm}{k i:Nat},ms[k]?=some false->ts[k]?=some (.bor i)->(∀v,e[i]?≠some (.sh v))->i∈aO e ms ts
 | [],_,_,_,q,_,_=>by simp at q
 |_::_,[],_,_,_,q,_=>by simp at q
 |
  b::ms,t::ts,0,i,q1,q2,hn=>by
  have h1:b=false:=by simpa using q1
  have h2:t=.bor i:=by simpa using q2
  subst h1 h2
  unfold aO
  split
  ·rename_i v q;exact absurd q (hn v)
  ·exact m_ ..
 |
  b::ms,t::ts,k+1,i,q1,q2,hn=>by
  have ih:=kI (ms:=ms) (ts:=ts) (k:=k) (by simpa using q1) (by simpa using q2) hn
  cases b <;> cases t <;> simp only[aO] <;> first |exact ih |(split;exact ih;exact i_ _ ih)
def d9{ms:List Bool}{ts:List Tm}{k i:Nat}(q:(bo ms ts)[k]?=some (some i)):ms[k]?=some true/\ts[k]?=some (.bor i):=by
 unfold bo at q
 rw[Lr] at q
 cases h1:ms[k]? with
 |none=>rw[h1] at q;cases q
 |
  some b=>
  cases h2:ts[k]? with
  |none=>rw[h1,h2] at q;cases q
  |
   some t=>
   rw[h1,h2] at q
   have q':mE b t=some i:=z_ q
   cases b <;> cases t <;> first |(cases q';done) |(cases q';exact⟨rfl,rfl⟩)
def Bj{ms:List Bool}{ts:List Tm}{k i:Nat}(q1:ms[k]?=some true)(q2:ts[k]?=some (.bor i)):(bo ms ts)[k]?=some (some i):=by
 unfold bo
 rw[Lr,q1,q2];rfl
theorem sj:∀{ts:List Tm}{vs:List Val}{k:Nat}{v:Val},rss e ts=some vs->vs[k]?=some v->∃t,ts[k]?=some t/\rs e t=some v
 | [],_,_,_,q,q2=>by cases q;simp at q2
 |
  t::ts,vs,k,v,q,q2=>by
  unfold rss at q
  split at q
  ·rename_i u us e1 e2
   cases q
   cases k with
   |zero=>
    have:u=v:=by simpa using q2
    subst this;exact⟨t,rfl,e1⟩
   |
    succ k=>
    obtain⟨t',y1,y2⟩:=sj (k:=k) e2 (by simpa using q2)
    exact⟨t',by simpa using y1,y2⟩
  ·cases q
theorem ij:∀{ts:List Tm}{vs:List Val},rss e ts=some vs->vs.length=ts.length
 | [],_,q=>by cases q;rfl
 |
  t::ts,vs,q=>by
  unfold rss at q
  split at q
  ·rename_i u us e1 e2;cases q;exact Lj (· + 1) (ij e2)
  ·cases q
theorem TsR.get:∀{ds:List D}{ts:List Tm}{k:Nat}{t:Tm},TsR X ns ae h ds ts->ts[k]?=some t->∃d,ds[k]?=some d/\((∃v,t=.val v/\Rd (Oc X ns) h d v)\/∃i,t=.bor i/\ae[i]?=some (some d))
 |_,_,_,_,.nil,q=>by simp at q
 |_,_,0,_,.val r rr,q=>by have:=(by simpa using q:Tm.val _=_);subst this;exact⟨_,rfl,.inl ⟨_,rfl,r⟩⟩
 |_,_,0,_,.bor r rr,q=>by have:=(by simpa using q:Tm.bor _=_);subst this;exact⟨_,rfl,.inr ⟨_,rfl,r⟩⟩
 |_,_,k+1,t,.val r rr,q=>by obtain⟨d,y⟩:=rr.get (k:=k) (by simpa using q);exact⟨d,by simpa using y⟩
 |_,_,k+1,t,.bor r rr,q=>by obtain⟨d,y⟩:=rr.get (k:=k) (by simpa using q);exact⟨d,by simpa using y⟩
def Xc(X:Nat->Prop)(ns:Ns)(e:E3)(ms:List Bool)(ts:List Tm)(n:Nat):Prop:=(X n\/some n∈ns)/\some n∉bE (bo ms ts) ns/\∀i∈aO e ms ts,ns[i]?≠some (some n)
def kL(S:Sat X h0 ns e ae h)(rt:TsR X ns ae h ds ts)(qv:rss e ts=some vs)(ok:okA e ms ts=true):
 Sat (Xc X ns e ms ts) h.length (bE (bo ms ts) ns) (sls ms vs) (ds.map some) h:=by
 have l1:=eZ ok
 have l2:=ij qv
 have l3:=TsR.len rt
 have hs:l8 (bo ms ts):=λj k i q1 q2=>ia ok (d9 q2).1 (d9 q2).2 (d9 q1).2
 have mv:Mov (Oc X ns) (Oc (Xc X ns e ms ts) (bE (bo ms ts) ns)) h h:=λn o p q=>⟨⟨λz=>by
  rcases z.1 with z |z
  ·exact p.1 z
  ·exact p.2 z,λz=>p.2 (gp z)⟩,q⟩
 refine⟨?_,?_,n_ _,λn z=>?_,λj k n q1 q2=>?_,λj n q z=>z.2.1 (aU.mpr ⟨j,q⟩),λk s q=>?_⟩
 ·unfold sls;rw[g_,LB];omega
 ·unfold bE bo sls;rw[g_,LB,LB];omega
 ·rcases z.1 with z |z
  ·exact S.xl n z
  ·obtain⟨i,z⟩:=aU.mp z
   obtain⟨_,_,_,_,_,_,_,q',_⟩:=S.own z
   exact bW q'
 ·obtain⟨i,y1,y2⟩:=ck q1
  obtain⟨i',y3,y4⟩:=ck q2
  have:=S.inj i i' n y2 y4
  subst this
  exact hs j k i y1 y3
 ·obtain⟨b,v,
   q1,q2,rfl⟩:=eA q
  obtain⟨t,q3,q4⟩:=sj qv q2
  obtain⟨d,q5,q6⟩:=rt.get q3
  have qd:(ds.map some)[k]?=some (some d):=by rw[t_,q5];rfl
  rw[qd]
  have qn:(bE (bo ms ts) ns)[k]?=some ((mE b t).bind λi=>(ns[i]?).bind id):=by
   unfold bE bo
   rw[t_,Lr,q1,q3];rfl
  rw[qn]
  cases b with
  |
   true=>
   obtain⟨i,y1,u,y2⟩:=jO ok q1
   rw[q3] at y1;cases y1
   have q4':(e[i]?).bind Sl.val=some v:=q4
   obtain⟨s,z1,z2⟩:=Kz.mp y2
   rw[z1] at q4'
   have hv:s.val=some v:=q4'
   have huv:u=v:=by cases s <;> first |cases z2;done |(cases z2;cases hv;rfl)
   subst huv
   have hns:∃n,ns[i]?=some (some n):=by
    have y:=S.sl i s z1
    cases s with
    |ow v=>obtain⟨n,o,y1,_⟩:=y;exact⟨n,y1⟩
    |mu v=>obtain⟨n,o,y1,_⟩:=y;exact⟨n,y1⟩
    |_=>cases z2
   obtain⟨n,hn⟩:=hns
   obtain⟨n',o,k1,k2,k3,k4,_⟩:=S.write z1 z2
   rcases q6 with ⟨_,z,_⟩ |⟨i',z,q6⟩
   ·cases z
   ·cases z
    rw[q6] at k1;cases k1
    obtain⟨_,_,_,_,_,_,w,_⟩:=S.own hn
    rw[q6] at w;cases w
    exact⟨n,o,by show some ((ns[i]?).bind id)=_;rw[hn];rfl,rfl,k2,k3,k4.mono mv⟩
  |
   false=>
   refine⟨by cases t <;> rfl,d,rfl,?_⟩
   rcases q6 with ⟨u,rfl,q6⟩ |⟨i,rfl,q6⟩
   ·cases q4;exact q6.mono mv
   ·have q4':(
     e[i]?).bind Sl.val=some v:=q4
    rcases S.bor q6 q4' with z |⟨n,o,rfl,z1,z2⟩
    ·exact z.mono mv
    ·refine .cell ⟨λy=>?_,λy=>?_⟩ z1 (z2.mono mv)
     ·
      by_cases hsh:∃w,e[i]?=some (.sh w)
      ·obtain⟨w,hsh⟩:=hsh
       obtain⟨_,x,w1,w2⟩:=S.sl i _ hsh
       rw[q6] at w1;cases w1
       cases w2 with
       |cell p _ _=>rcases y.1 with y |y;exact p.1 y;exact p.2 y
      ·have hl:=kI q1 q3 λw z=>hsh ⟨w,z⟩
       cases w:ns[i]? with
       |
        none=>
        have hi:i<e.length:=by
         cases z:e[i]? with
         |none=>rw[z] at q4';cases q4'
         |some _=>exact (h_.mp z).1
        rw[L8,S.l2] at w
        omega
       |
        some w'=>
        cases w' with
        |
         none=>
         cases z:e[i]? with
         |none=>rw[z] at q4';cases q4'
         |
          some s=>
          have k:=S.sl i s z
          rw[w] at k
          cases s with
          |no=>rw[z] at q4';cases q4'
          |sh w=>exact hsh ⟨w,z⟩
          |ow w=>obtain⟨_,_,k,_⟩:=k;cases k
          |lo w=>obtain⟨_,_,k,_⟩:=k;cases k
          |mu w=>obtain⟨_,_,k,_⟩:=k;cases k
          |lm w=>obtain⟨_,_,k,_⟩:=k;cases k
        |
         some n'=>
         obtain⟨_,_,_,_,_,_,w2,_⟩:=S.own w
         rw[q6] at w2;cases w2
         exact y.2.2 i hl w
     ·obtain⟨j,y⟩:=aU.mp y
      obtain⟨i',y1,y2⟩:=ck y
      obtain⟨y3,y4⟩:=d9 y1
      obtain⟨_,_,_,_,_,_,w2,_⟩:=S.own y2
      have:i'
       = i:=by
       cases w:ns[i]? with
       |
        none=>
        have hi:i<e.length:=by
         cases z:e[i]? with
         |none=>rw[z] at q4';cases q4'
         |some _=>exact (h_.mp z).1
        rw[L8,S.l2] at w
        omega
       |
        some w'=>
        cases w' with
        |
         some n'=>
         obtain⟨_,_,_,_,_,_,w3,_⟩:=S.own w
         rw[q6] at w3;cases w3
         exact S.inj i' i n y2 w
        |
         none=>
         cases z:e[i]? with
         |none=>rw[z] at q4';cases q4'
         |
          some s=>
          have k:=S.sl i s z
          rw[w,q6] at k
          cases s with
          |no=>rw[z] at q4';cases q4'
          |
           sh w=>
           obtain⟨_,x,k1,k2⟩:=k
           cases k1
           cases k2 with
           |cell p _ _=>exact (p.2 (aU.mpr ⟨i',y2⟩)).elim
          |ow w=>obtain⟨_,_,k,_⟩:=k;cases k
          |lo w=>obtain⟨_,_,k,_⟩:=k;cases k
          |mu w=>obtain⟨_,_,k,_⟩:=k;cases k
          |lm w=>obtain⟨_,_,k,_⟩:=k;cases k
      subst this
      have:=ia ok y3 y4 q3
      subst this
      rw[q1] at y3;cases y3
theorem dm:∀{ms:List Bool}{mv:List Val}{j:Nat}{v:Val},(aN ms mv)[j]?=some (.mu v)->v∈mv
 | [],_,_,_,q=>by simp [aN] at q
 |true::ms,u::mv,0,v,q=>by
  have:Sl.mu u=.mu v:=by simpa [aN] using q
  cases this;exact m_ ..
 |true::ms,u::mv,j+1,v,q=>i_ _ (dm (ms:=ms) (mv:=mv) (j:=j) (by simpa [aN] using q))
 |true::ms,[],0,v,q=>by simp [aN] at q
 |true::ms,[],j+1,v,q=>dm (ms:=ms) (mv:=[]) (j:=j) (by simpa [aN] using q)
 |false::ms,mv,0,v,q=>by simp [aN] at q
 |false::ms,mv,j+1,v,q=>dm (ms:=ms) (mv:=mv) (j:=j) (by simpa [aN] using q)
theorem ko:∀{ms:List Bool}{ts:List Tm}{i:Nat},i∈aO e ms ts->∃k:Nat,ms[k]?=some false/\ts[k]?=some (.bor i)
 | [],_,_,q=>by simp [aO] at q
 |_::_,[],_,q=>by simp [aO] at q
 |
  b::ms,t::ts,i,q=>by
  have up:i∈aO e ms ts->∃k:Nat,(b::ms)[k]?=some false/\(t::ts)[k]?=some (.bor i):=λz=>by
   obtain⟨k,y1,y2⟩:=ko z
   exact⟨k+1,by simpa using y1,by simpa using y2⟩
  cases b <;> cases t <;> simp only[aO] at q <;> first |exact up q |skip
  split at q
  ·exact up q
  ·rcases B_.mp q with rfl |q
   ·exact⟨0,rfl,rfl⟩
   ·exact up q
def Ck(q:bY e (.bor i)=some (e1,v)):(∀j,j≠i->e1[j]?=e[j]?)/\e1[i]?=some (.sh v)/\(e[i]?).bind Sl.val=some v:=by
 unfold bY at q
 dsimp only at q
 split at q
 ·rename_i u q1;cases q;exact⟨λ_ _=>rfl,q1,by rw[q1];rfl⟩
 ·rename_i u q1;cases q;exact⟨λj z=>bM z,bI (h_.mp q1).1,by rw[q1];rfl⟩
 ·cases q
theorem oP:∀{is:List Nat}{ns:Ns}{e e2:E3},Sat X h0 ns e ae h->(∀i∈is,∃d,ae[i]?=some (some d))->nc e is=some e2->∃ci,Sat X h0 ci e2 ae h/\Stp ns e h ci e2 h/\(∀i,i∉is->e2[i]?=e[i]?)/\(∀i∈is,∃v,e2[i]?=some (.sh v))/\∀i:Nat,(e2[i]?).bind Sl.val=(e[i]?).bind Sl.val
 | [],ns,e,e2,S,_,q=>by cases q;exact⟨ns,S,.refl,λ_ _=>rfl,(λ_ z=>by cases z),λ_=>rfl⟩
 |
  i::is,ns,e,e2,S,hd,q=>by
  unfold nc at q
  split at q
  ·rename_i e1 v q1
   obtain⟨d,hd0⟩:=hd i (m_ ..)
   obtain⟨ns1,S1,a1,r1⟩:=eO (L:=0) (t:=.bor i) S hd0 q1
   obtain⟨ci,S2,a2,k1,k2,k3⟩:=oP S1 (λj z=>hd j (i_ _ z)) q
   obtain⟨y1,y2,y3⟩:=Ck q1
   refine⟨ci,S2,a1.trans S a2,λj hj=>?_,λj hj=>?_,λj=>?_⟩
   ·rw[B_,not_or] at hj
    rw[k1 j hj.2,y1 j hj.1]
   ·by_cases z:j∈is
    ·exact k2 j z
    ·rcases B_.mp hj with rfl |hj
     ·exact⟨v,by rw[k1 j z];exact y2⟩
     ·exact absurd hj z
   ·rw[k3 j]
    by_cases z:j=i
    ·subst z;rw[y2,y3];rfl
    ·rw[y1 j z]
  ·cases q
theorem nG:∀{ms:List Bool}{ts:List Tm},(∀(k i:Nat),ms[k]?=some true->ts[k]?=some (.bor i)->e2[i]?=e[i]?)->okA e ms ts=true->okA e2 ms ts=true
 | [],[],_,o=>rfl
 | [],_::_,_,o=>by simp [okA] at o
 |b::ms,[],_,o=>by cases b <;> simp [okA] at o
 |
  b::ms,t::ts,hk,o=>by
  have o':okA e ms ts=true:=by
   cases b <;> cases t <;> simp only[okA,k_] at o <;> first |exact o.2 |exact o |(simp at o;done)
  have ih:=nG (λk i q1 q2=>hk (k+1) i (by simpa using q1) (by simpa using q2)) o'
  cases b with
  |false=>cases t <;> simp only[okA,k_] at o ⊢ <;> first |exact⟨o.1,ih⟩ |exact ih
  |
   true=>
   cases t with
   |
    bor i=>
    simp only[okA,k_] at o ⊢
    rw[hk 0 i rfl rfl]
    exact⟨o.1,ih⟩
   |_=>simp [okA] at o
theorem oO:∀{ms:List Bool}{ts:List Tm},(∀(k i:Nat),ms[k]?=some false->ts[k]?=some (.bor i)->∃v,e[i]?=some (.sh v))->aO e ms ts=[]
 | [],_,_=>by simp [aO]
 |_::_,[],_=>by simp [aO]
 |
  b::ms,t::ts,hk=>by
  have ih:=oO (λk i q1 q2=>hk (k+1) i (by simpa using q1) (by simpa using q2))
  cases b <;> cases t <;> simp only[aO] <;> first |exact ih |skip
  rename_i i
  obtain⟨v,q⟩:=hk 0 i rfl rfl
  rw[q];exact ih
theorem nL(hv:∀i:Nat,(e2[i]?).bind Sl.val=(e[i]?).bind Sl.val):∀(ts:List Tm),rss e2 ts=rss e ts
 | []=>rfl
 |
  t::ts=>by
  unfold rss
  rw[nL hv ts]
  have:rs e2 t=rs e t:=by
   cases t with
   |bor i=>exact hv i
   |_=>rfl
  rw[this]
def kN(ok:okA e ms ts=true):Lnk (bo ms ts) e (sls ms vs):=by
 refine⟨λj k i q1 q2=>ia ok (d9 q2).1 (d9 q2).2 (d9 q1).2,λj v q=>?_,λj s q hm=>?_⟩
 ·obtain⟨b,u,q1,_,q2⟩:=eA q
  cases b with
  |false=>cases q2
  |
   true=>
   obtain⟨i,y1,w,y2⟩:=jO ok q1
   obtain⟨s,z1,z2⟩:=Kz.mp y2
   exact⟨i,s,Bj q1 y1,z1,by cases s <;> first |rfl |cases z2⟩
 ·obtain⟨b,u,q1,_,q2⟩:=eA q
  cases b with
  |false=>subst q2;cases hm
  |true=>exact⟨u,q2⟩
section
variable{X:Nat->Prop}{h0 L:Nat}{ns:Ns}{e:E3}{ae:AE}{h:AH}{ms:List Bool}{ts:List Tm}{ds:List D}{vs:List Val}{S2:Fn}{G3:Fn3}
def iu(Y:Nat->Prop)(hY:∀n,Y n->X n\/Y n)(hl:aO e ms ts=[])(z:¬ Xc X ns e ms ts n)(z2:some n∉bE (bo ms ts) ns):Oc X ns n:=by
 refine⟨λy=>z ⟨.inl y,z2,λi hi=>by rw[hl] at hi;cases hi⟩,λy=>z ⟨.inr y,z2,λi hi=>by rw[hl] at hi;cases hi⟩⟩
def sP(S:Sat X h0 ns e ae h)(hL:L<=h.length)(rt:TsR X ns ae h ds ts)(qv:rss e ts=some vs)(ok:okA e ms ts=true)(hG:RF ms S2 G3)(q:G3 vs=.ok r mv)(hf:aO e ms ts=[]\/(jB r=true/\mv.all flatC=true)):
 Po X h0 ns e ae h (relE X h0 L ae) (S2 ds h) (.ok (r.tm ts) (aW (bo ms ts) (aN ms mv) e)):=by
 have p:=hG _ _ ds vs h (by rw[ij qv,eZ ok]) (kL S rt qv ok)
 rw[q] at p
 obtain⟨d,h',p1,a,rr⟩:=p
 have K:=kN (vs:=vs) ok
 have xcl:∀n,X n->n<h.length:=S.xl
 cases r with
 |
  val v=>
  obtain⟨S3,rv⟩:=rr
  obtain⟨S4,a4⟩:=S.back (Y:=X) K a (λn z=>⟨y_ (xcl n z) a.len,.inl z⟩) (λ_ z=>z) λj w n q1 q2=>by
   obtain⟨s,u,o,b1,b2,b3,b4,b5,b6,b7⟩:=S3.own q2
   rw[q1] at b1;cases b1;cases b3
   rcases hf with hf |hf
   ·exact⟨o,b5,b6,b7.mono λm o' z y=>⟨iu X (λ_ z=>.inl z) hf z.1 z.2,y⟩⟩
   ·exact⟨o,b5,b6,b7.flat (I_.mp hf.2 w (dm q1))⟩
  refine⟨d,h',ns,p1,a4,S4,?_⟩
  rcases hf with hf |hf
  ·exact rv.mono λm o' z y=>⟨iu X (λ_ z=>.inl z) hf z.1 z.2,y⟩
  ·exact rv.flat hf.1
 |
  new v=>
  obtain⟨n,o,z1,z2,z3,z4,z5,S3,z7⟩:=rr
  have hnx:¬ X n:=λy=>by have:=xcl n y;omega
  have kk:∀m,Oc (Xn (Xc X ns e ms ts) n) (bE (bo ms ts) ns) m->aO e ms ts=[]->Oc (Xn X n) ns m:=λm z hf=>by
   have:=iu X (λ_ z=>.inl z) hf (λy=>z.1 (.inl y)) z.2
   exact⟨λy=>by
    rcases y with y |y
    ·exact this.1 y
    ·exact z.1 (.inr y),this.2⟩
  obtain⟨S4,a4⟩:=S.back (Y:=Xn X n) K a (λm z=>by
   rcases z with z |rfl
   ·exact⟨y_ (xcl m z) a.len,.inl z⟩
   ·exact⟨bW z4,.inr z2⟩) (λ_ z=>.inl z) λj w n' q1 q2=>by
   obtain⟨s,u,o,b1,b2,b3,b4,b5,b6,b7⟩:=S3.own q2
   rw[q1] at b1;cases b1;cases b3
   rcases hf with hf |hf
   ·exact⟨o,b5,b6,b7.mono λm o' z y=>⟨kk m z hf,y⟩⟩
   ·exact⟨o,b5,b6,b7.flat (I_.mp hf.2 w (dm q1))⟩
  refine⟨d,h',ns,p1,a4,S4.weak λ_ z=>.inl z,n,o,z1,x_ hL z2,hnx,z4,z5,S4,?_⟩
  rcases hf with hf |hf
  ·exact z7.mono λm o' z y=>⟨kk m z hf,y⟩
  ·exact z7.flat hf.1
 |
  par i=>
  obtain⟨S3,w1,w,w2⟩:=rr
  obtain⟨S4,a4⟩:=S.back (Y:=X) K a (λn z=>⟨y_ (xcl n z) a.len,.inl z⟩) (λ_ z=>z) λj w n q1 q2=>by
   obtain⟨s,u,o,b1,b2,b3,b4,b5,b6,b7⟩:=S3.own q2
   rw[q1] at b1;cases b1;cases b3
   rcases hf with hf |hf
   ·exact⟨o,b5,b6,b7.mono λm o' z y=>⟨iu X (λ_ z=>.inl z) hf z.1 z.2,y⟩⟩
   ·exact⟨o,b5,b6,b7.flat (I_.mp hf.2 w (dm q1))⟩
  refine⟨d,h',ns,p1,a4,S4,?_⟩
  obtain⟨u,x1,_⟩:=a.mu i w w2
  obtain⟨b,u',x2,_,x3⟩:=eA x1
  cases b with
  |false=>cases x3
  |
   true=>
   obtain⟨k,y1,_⟩:=jO ok x2
   obtain⟨d',y2,z⟩:=rt.get y1
   have e1:(Rt.par i).tm ts=.bor k:=by show (ts[i]?).getD _=_;rw[y1];rfl
   rw[e1]
   rcases z with ⟨_,z,_⟩ |⟨j,z,z2⟩
   ·cases z
   ·cases z
    rw[t_,y2] at w1
    cases w1
    exact z2
def xn(S:Sat X h0 ns e ae h)(rt:TsR X ns ae h ds ts)(qv:rss e ts=some vs)(ok:okA e ms ts=true)(hG:RF ms S2 G3)(q:G3 vs=.exc c mv)(hf:aO e ms ts=[]\/mv.all flatC=true):
 Po X h0 ns e ae h (relE X h0 L ae) (S2 ds h) (.exc c (aW (bo ms ts) (aN ms mv) e)):=by
 have p:=hG _ _ ds vs h (by rw[ij qv,eZ ok]) (kL S rt qv ok)
 rw[q] at p
 obtain⟨h',p1,a,S3⟩:=p
 have K:=kN (vs:=vs) ok
 obtain⟨S4,a4⟩:=S.back (Y:=X) K a (λn z=>⟨y_ (S.xl n z) a.len,.inl z⟩) (λ_ z=>z) λj w n q1 q2=>by
  obtain⟨s,u,o,b1,b2,b3,b4,b5,b6,b7⟩:=S3.own q2
  rw[q1] at b1;cases b1;cases b3
  rcases hf with hf |hf
  ·exact⟨o,b5,b6,b7.mono λm o' z y=>⟨iu X (λ_ z=>.inl z) hf z.1 z.2,y⟩⟩
  ·exact⟨o,b5,b6,b7.flat (I_.mp hf w (dm q1))⟩
 exact⟨h',ns,p1,a4,S4⟩
def Cf(hn:n=ms.length)(hG:RF ms S2 G3)(hA:RA A A3):RE (lT n S2 A) (zT ms G3 A3):=λX h0 L ns e ae h S hl=>
 Po.bind
  S (hA X h0 ns e ae h S) λds ts h1 ns1 e1 a1 S1 r1=>by
  try dsimp only
  cases qv:rss e1 ts with
  |none=>trivial
  |
   some vs=>
   dsimp only
   by_cases ok:okA e1 ms ts=true
   ·rw[if_pos ok]
    have bi:ds.length=n:=by rw[hn,eZ ok];exact TsR.len r1
    rw[if_pos bi]
    have hL:L<=h1.length:=x_ hl a1.len
    cases q:G3 vs with
    |stuck=>trivial
    |
     exc c mv=>
     dsimp only
     by_cases hf:((aO e1 ms ts).isEmpty || mv.all flatC)=true
     ·rw[if_pos hf]
      refine xn S1 r1 qv ok hG q ?_
      rw[Bool.or_eq_true] at hf
      rcases hf with hf |hf
      ·exact .inl (List.isEmpty_iff.mp hf)
      ·exact .inr hf
     ·rw[if_neg hf];trivial
    |
     ok r mv=>
     dsimp only
     by_cases hf:((aO e1 ms ts).isEmpty || (jB r&&mv.all flatC))=true
     ·rw[if_pos hf]
      refine sP S1 hL r1 qv ok hG q ?_
      rw[Bool.or_eq_true,k_] at hf
      rcases hf with hf |hf
      ·exact .inl (List.isEmpty_iff.mp hf)
      ·exact .inr hf
     ·rw[if_neg hf]
      cases qd:nc e1 (aO e1 ms ts) with
      |none=>trivial
      |
       some e2=>
       dsimp only
       obtain⟨ci,S2',a2,k1,k2,k3⟩:=oP S1 (λi hi=>by
        obtain⟨k,_,y⟩:=ko hi
        obtain⟨d,_,z⟩:=r1.get y
        rcases z with ⟨_,z,_⟩ |⟨j,z,z2⟩
        ·cases z
        ·cases z;exact⟨d,z2⟩) qd
       have ok2:okA e2 ms ts=true:=nG (λk i q1 q2=>k1 i λz=>by
        obtain⟨k',y1,y2⟩:=ko z
        have:=ia ok q1 q2 y2
        subst this
        rw[q1] at y1;cases y1) ok
       have ln:aO e2 ms ts=[]:=oO λk i q1 q2=>by
        by_cases z:i∈aO e1 ms ts
        ·exact k2 i z
        ·rw[k1 i z]
         exact Lx λw=>z (kI q1 q2 λv y=>w ⟨v,y⟩)
       have pp:=sP (L:=L) S2' hL (r1.stp S1 a2) (by rw[nL k3];exact qv) ok2 hG q (.inl ln)
       obtain⟨d,h',ns',y,y1,y2,y3⟩:=pp
       exact⟨d,h',ns',y,a2.trans S1 y1,y2,y3⟩
   ·rw[if_neg ok];trivial
end
def aI(f:Int->Int->Val):Val->Val->Bv:=λx y=>match x,y with
 |.int i,.int j=>.val (f i j)
 |_,_=>.stuck
open Classical in
def aIc(C:Int->Int->Prop)(f:Int->Int->Val):Val->Val->Bv:=λx y=>match x,y with
 |.int i,.int j=>if C i j then .val (f i j) else .stuck
 |_,_=>.stuck
def tT:Val->Val->Bv:=λx y=>match x,y with
 |.lst xs,.lst ys=>if xs.length+ys.length<=16777216 then .new (.lst (xs++ys)) else .stuck
 |.tup xs,.tup ys=>if xs.length+ys.length<=16777216 then .val (.tup (xs++ys)) else .stuck
 |_,_=>.stuck
def yg:Val->Val->Bv:=λx y=>match x,y with
 |.int i,.int j=>.val (.int (i+j))
 |x,y=>tT x y
def aMin:=aI λi j=>.int (i-j)
def uJ:=aIc CMulA λi j=>.int (i*j)
def tu:=aIc CDivB λi j=>.int (i.fdiv j)
def t4:=aIc (λ_ j=>j≠0) λi j=>.int (i.fmod j)
def uB:=aIc fM λi j=>.int (i^j.toNat)
def uu:=aIc fM λi j=>.int (i*2^j.toNat)
def aLt:=aI λi j=>.bl (decide (i<j))
def aLe:=aI λi j=>.bl (decide (i<=j))
def aGt:=aI λi j=>.bl (decide (j<i))
def aGe:=aI λi j=>.bl (decide (j<=i))
def yu:Val->Bv:=λx=>match x with
 |.int i=>.val (.int (-i))
 |_=>.stuck
def o5:Val->Val->Bv:=λx y=>match x,y with
 |.lst xs,.int k=>if -(2^63)<=k/\k<2^63/\xs.length*k.toNat<=16777216 then .new (.lst (List.replicate k.toNat xs).flatten) else .stuck
 |_,_=>.stuck
def aIx:Val->Val->Bv:=λx y=>match x.items,y with
 |some xs,.int i=>(match atI xs i with
  |some v=>.val v
  |none=>.stuck)
 |_,_=>.stuck
section
def qF(hr:∀i j P h,Rd P h (f2 i j) (f3 i j)):RO (gI f2) (aI f3):=λP h d1 d2 v1 v2 r1 r2=>by
 unfold aI
 split
 ·obtain rfl:=r1.int;obtain rfl:=r2.int;exact⟨_,rfl,hr _ _ P h⟩
 ·trivial
def lu(hr:∀i j P h,Rd P h (f2 i j) (f3 i j)):RO (gIc C f2) (aIc C f3):=λP h d1 d2 v1 v2 r1 r2=>by
 unfold aIc
 split
 ·obtain rfl:=r1.int;obtain rfl:=r2.int
  split
  ·rename_i hc;exact⟨_,by unfold gIc;dsimp only;rw[if_pos hc],hr _ _ P h⟩
  ·trivial
 ·trivial
def FW:RO ki tT:=λP h d1 d2 v1 v2 r1 r2=>by
 unfold tT
 split
 ·obtain⟨n,ds,rfl,e1,_,q1⟩:=r1.lst
  obtain⟨m,es,rfl,e2,_,q2⟩:=r2.lst
  split
  ·rename_i hl
   exact⟨.lst (ds++es),by unfold ki;dsimp only;rw[e1,e2];dsimp only;rw[if_pos (by rw[q1.len,q2.len];exact hl)],trivial,.lst (q1.append q2)⟩
  ·trivial
 ·obtain⟨ds,rfl,q1⟩:=r1.tup
  obtain⟨es,rfl,q2⟩:=r2.tup
  split
  ·rename_i hl
   exact⟨_,by unfold ki;dsimp only;rw[if_pos (by rw[q1.len,q2.len];exact hl)],.tup (q1.append q2)⟩
  ·trivial
 ·trivial
def Ep:RO ug yg:=λP h d1 d2 v1 v2 r1 r2=>by
 unfold yg
 split
 ·obtain rfl:=r1.int;obtain rfl:=r2.int;exact⟨_,rfl,.int _⟩
 ·rename_i hn
  have k:=FW P h d1 d2 v1 v2 r1 r2
  have e:ug d1 d2 h=ki d1 d2 h\/tT v1 v2=.stuck:=by
   cases v1 <;> first |(right;rfl) |(left;skip)
   ·obtain⟨ds,rfl,_⟩:=r1.tup;rfl
   ·obtain⟨n,ds,rfl,_⟩:=r1.lst;rfl
  rcases e with e |e
  ·rw[e];exact k
  ·rw[e];trivial
def Df:RO xp aMin:=qF λ_ _ _ _=>.int _
def Fo:RO ym uJ:=lu λ_ _ _ _=>.int _
def Dz:RO y7 tu:=lu λ_ _ _ _=>.int _
def Fm:RO zq t4:=lu λ_ _ _ _=>.int _
def FZ:RO yW uB:=lu λ_ _ _ _=>.int _
def Hg:RO yq uu:=lu λ_ _ _ _=>.int _
def Jk:RO gLt aLt:=qF λ_ _ _ _=>.bl _
def IX:RO gLe aLe:=qF λ_ _ _ _=>.bl _
def JF:RO gGt aGt:=qF λ_ _ _ _=>.bl _
def JA:RO gGe aGe:=qF λ_ _ _ _=>.bl _
def FQ:RU sX yu:=λP h d v r=>by
 unfold yu
 split
 ·obtain rfl:=r.int;exact⟨_,rfl,.int _⟩
 ·trivial
def D1:RO pX o5:=λP h d1 d2 v1 v2 r1 r2=>by
 unfold o5
 split
 ·obtain⟨n,ds,rfl,e1,_,q1⟩:=r1.lst
  obtain rfl:=r2.int
  split
  ·rename_i hl
   exact⟨.lst (List.replicate _ ds).flatten,by unfold pX;dsimp only;rw[e1];dsimp only;rw[if_pos (by rw[q1.len];exact hl)],trivial,.lst (q1.rep _)⟩
  ·trivial
 ·trivial
def ua(r:Rds P h ds vs)(e:atI vs i=some v):∃d,atI ds i=some d/\Rd P h d v:=by
 unfold atI at e ⊢
 rw[r.len]
 cases q:ixN vs.length i with
 |none=>rw[q] at e;cases e
 |some j=>rw[q] at e;exact r.get e
def Jq:RO gIx aIx:=λP h d1 d2 v1 v2 r1 r2=>by
 unfold aIx
 split
 ·rename_i xs i e1
  obtain⟨ds,e2,q⟩:=r1.items e1
  obtain rfl:=r2.int
  split
  ·rename_i v e3
   obtain⟨d,e4,q2⟩:=ua q e3
   exact⟨d,by unfold gIx;rw[e2];dsimp only;rw[e4],q2⟩
  ·trivial
 ·trivial
end
mutual
def cC:Nat->Val->Option PyData
 |0,_=>none
 |_+1,.non=>some .none
 |_+1,.bl b=>some (.bool b)
 |_+1,.int i=>some (.int i)
 |_+1,.str x=>some (.str x)
 |k+1,.tup xs=>(dN k xs).map .tuple
 |k+1,.lst xs=>(dN k xs).map .list
 |_+1,_=>none
def dN:Nat->List Val->Option (List PyData)
 |_,[]=>some []
 |k,x::xs=>match cC k x,dN k xs with
  |some a,some b=>some (a::b)
  |_,_=>none
end
def yy(hk:∀d v pd,Rd P h d v->cC k v=some pd->dJ k h d=some pd):∀{ds:List D}{vs:List Val}{ps:List PyData},Rds P h ds vs->dN k vs=some ps->ds.mapM (dJ k h)=some ps:=by
 intro ds
 induction ds with
 |
  nil=>
  intro vs ps r q
  cases r
  unfold dN at q
  cases q
  rfl
 |
  cons d0 ds ih=>
  intro vs ps r q
  cases r with
  |
   cons r rr=>
   unfold dN at q
   split at q
   ·rename_i a b e1 e2
    cases q
    rw[LR,hk _ _ _ r e1,ih rr e2];rfl
   ·cases q
theorem mI:∀(k:Nat) (d:D) (v:Val) (pd:PyData),ShR P h d v->cC k v=some pd->dJ k h d=some pd
 |0,_,_,_,_,q=>by unfold cC at q;cases q
 |
  k+1,d,v,pd,r,q=>by
  have ih:∀{ds:List D}{vs:List Val}{ps:List PyData},Rds P h ds vs->dN k vs=some ps->ds.mapM (dJ k h)=some ps:=yy λd v pd r q=>mI k d v pd (.inl r) q
  cases v with
  |non=>obtain rfl:=r.non;simp only[cC] at q;cases q;rfl
  |bl b=>obtain rfl:=r.bl;simp only[cC] at q;cases q;rfl
  |int b=>obtain rfl:=r.int;simp only[cC] at q;cases q;rfl
  |str b=>obtain rfl:=r.str;simp only[cC] at q;cases q;rfl
  |
   tup xs=>
   obtain⟨ds,rfl,r2⟩:=r.tup
   simp only[cC] at q
   obtain⟨ps,q1,rfl⟩:=J_.mp q
   show (ds.mapM (dJ k h)).map PyData.tuple=_
   rw[ih r2 q1];rfl
  |
   lst xs=>
   obtain⟨n,ds,rfl,_,e1,r2⟩:=r.lst
   simp only[cC] at q
   obtain⟨ps,q1,rfl⟩:=J_.mp q
   unfold dJ
   rw[e1]
   show (ds.mapM (dJ k h)).map PyData.list=_
   rw[ih r2 q1];rfl
  |_=>simp only[cC] at q;cases q
def cA(x y:Val):Option Bool:=match cC 164 x,cC 164 y with
 |some a,some b=>if shp a=true/\shp b=true then some (PyData.eqv a b) else none
 |_,_=>none
def aEq(neg:Bool):Val->Val->Bv:=λx y=>match cA x y with
 |some b=>.val (.bl (if neg then !b else b))
 |none=>.stuck
def GD(r1:ShR P h d1 v1)(r2:ShR P h d2 v2)(q:cA v1 v2=some b):pf h d1 d2=some b:=by
 unfold cA at q
 split at q
 ·rename_i a c e1 e2
  unfold pf
  rw[mI 164 _ _ _ r1 e1,mI 164 _ _ _ r2 e2]
  exact q
 ·cases q
def Aj(neg:Bool):RO (gEq neg) (aEq neg):=λP h d1 d2 v1 v2 r1 r2=>by
 unfold aEq
 split
 ·rename_i b q
  exact⟨_,by unfold gEq;rw[GD r1 r2 q],.bl _⟩
 ·trivial
noncomputable def toV3:Val->V
 |.bl b=>.bl b
 |.int i=>.int i
 |.str x=>.str x
 |_=>.non
def eq1(x y:Val):Bool:=eqV (toV3 x) (toV3 y)
def tG(neg:Bool):Val->Val->Bv:=λx y=>match x,y with
 |.non,.non=>.val (.bl (!neg))
 |_,.non=>.val (.bl neg)
 |_,_=>.stuck
def vm(neg:Bool):RO (mB neg) (tG neg):=λP h d1 d2 v1 v2 r1 r2=>by
 unfold tG
 split
 ·obtain rfl:=r1.non;obtain rfl:=r2.non;exact⟨_,rfl,.bl _⟩
 ·rename_i hn
  obtain rfl:=r2.non
  have:d1 ≠ .non:=by
   rintro rfl
   rcases r1 with r |⟨n,o,z,_⟩
   ·cases r;exact hn rfl
   ·cases z
  refine⟨_,?_,.bl neg⟩
  unfold mB
  split
  ·exact absurd rfl this
  ·rfl
  ·rename_i h1 h2;exact (h1 rfl).elim
 ·trivial
def x8:List Val->Bv:=λvs=>match vs with
 | [v]=>(match v.items with
  |some xs=>.val (.int xs.length)
  |none=>(match v with
   |.str z=>if z.length<=16777216 then .val (.int z.length) else .stuck
   |_=>.stuck))
 |_=>.stuck
def zD:List Val->Bv:=λvs=>match vs with
 | [.int i]=>.val (.int (if i<0 then -i else i))
 |_=>.stuck
def sW:List Val->Bv:=λvs=>match vs with
 | [.int i,.int j]=>.val (.int (if j>i then j else i))
 |_=>.stuck
def sY:List Val->Bv:=λvs=>match vs with
 | [.int i,.int j]=>.val (.int (if j<i then j else i))
 |_=>.stuck
noncomputable def eB:List Val->Option (List Bool)
 | []=>some []
 |.bl b::r=>(eB r).map (b :: ·)
 |_=>none
noncomputable def i6:List Val->Option (List Int)
 | []=>some []
 |.int b::r=>(i6 r).map (b :: ·)
 |_=>none
def yk:List Val->Bv:=λvs=>match vs with
 | [.lst xs]=>(match eB xs with
  |some bs=>.val (.bl (bs.all id))
  |none=>.stuck)
 |_=>.stuck
def yp:List Val->Bv:=λvs=>match vs with
 | [.lst xs]=>(match i6 xs with
  |some bs=>.val (.int bs.sum)
  |none=>.stuck)
 |_=>.stuck
def tS:List Val->Bv:=λvs=>match vs with
 | [v]=>(match v.items with
  |some xs=>.new (.lst xs)
  |none=>.stuck)
 |_=>.stuck
def yQ:List Val->Bv:=λvs=>match vs with
 | [.int i]=>.val (.int i)
 | [.bl b]=>.val (.int (if b then 1 else 0))
 |_=>.stuck
def Hm:RFn qf x8:=λP h ds vs r=>by
 unfold x8
 split
 ·obtain⟨d,hd,rr1⟩:=fS r;subst hd;clear r;have r:=rr1
  split
  ·rename_i xs e
   obtain⟨es,e2,q⟩:=r.items e
   exact⟨_,by unfold qf;dsimp only;rw[e2],by rw[<- q.len];exact .int _⟩
  ·split
   ·rename_i z _
    obtain rfl:=r.str
    split
    ·rename_i hl;exact⟨_,by show (if z.length<=16777216 then _ else _)=_;rw[if_pos hl],.int _⟩
    ·trivial
   ·trivial
 ·trivial
def CZ:RFn tD zD:=λP h ds vs r=>by
 unfold zD
 split
 ·obtain⟨d,hd,rr1⟩:=fS r;subst hd;clear r;have r:=rr1;obtain rfl:=r.int;exact⟨_,rfl,.int _⟩
 ·trivial
def AG:RFn oH sW:=λP h ds vs r=>by
 unfold sW
 split
 ·obtain⟨d,d',hd,rr1,r'⟩:=tq r;subst hd;clear r;have r:=rr1;obtain rfl:=r.int;obtain rfl:=r'.int;exact⟨_,rfl,.int _⟩
 ·trivial
def Bb:RFn oG sY:=λP h ds vs r=>by
 unfold sY
 split
 ·obtain⟨d,d',hd,rr1,r'⟩:=tq r;subst hd;clear r;have r:=rr1;obtain rfl:=r.int;obtain rfl:=r'.int;exact⟨_,rfl,.int _⟩
 ·trivial
def Ak:∀{ds:List D}{vs:List Val}{bs:List Bool},Rds P h ds vs->eB vs=some bs->fD ds=some bs:=by
 intro ds
 induction ds with
 |
  nil=>
  intro vs bs r q
  cases r
  cases q
  rfl
 |
  cons d0 ds ih=>
  intro vs bs r q
  cases r with
  |
   cons r rr=>
   rename_i v vs
   cases v with
   |
    bl b=>
    obtain rfl:=ShR.bl (.inl r)
    obtain⟨b',q1,rfl⟩:=J_.mp (show (eB vs).map (b :: ·)=some bs from q)
    show (fD _).map (b :: ·)=_
    rw[ih rr q1];rfl
   |_=>cases q
def C6:∀{ds:List D}{vs:List Val}{bs:List Int},Rds P h ds vs->i6 vs=some bs->fE ds=some bs:=by
 intro ds
 induction ds with
 |
  nil=>
  intro vs bs r q
  cases r
  cases q
  rfl
 |
  cons d0 ds ih=>
  intro vs bs r q
  cases r with
  |
   cons r rr=>
   rename_i v vs
   cases v with
   |
    int b=>
    obtain rfl:=ShR.int (.inl r)
    obtain⟨b',q1,rfl⟩:=J_.mp (show (i6 vs).map (b :: ·)=some bs from q)
    show (fE _).map (b :: ·)=_
    rw[ih rr q1];rfl
   |_=>cases q
def C1:RFn pY yk:=λP h ds vs r=>by
 unfold yk
 split
 ·obtain⟨d,hd,rr1⟩:=fS r;subst hd;clear r;have r:=rr1
  obtain⟨n,es,rfl,_,e1,q⟩:=r.lst
  split
  ·rename_i bs e2
   exact⟨_,by unfold pY;dsimp only;rw[e1];show (match fD es with |some bs=>_ |none=>_)=_;rw[Ak q e2],.bl _⟩
  ·trivial
 ·trivial
def DH:RFn qy yp:=λP h ds vs r=>by
 unfold yp
 split
 ·obtain⟨d,hd,rr1⟩:=fS r;subst hd;clear r;have r:=rr1
  obtain⟨n,es,rfl,_,e1,q⟩:=r.lst
  split
  ·rename_i bs e2
   exact⟨_,by unfold qy;dsimp only;rw[e1];show (match fE es with |some bs=>_ |none=>_)=_;rw[C6 q e2],.int _⟩
  ·trivial
 ·trivial
def Cg:RFn lH tS:=λP h ds vs r=>by
 unfold tS
 split
 ·obtain⟨d,hd,rr1⟩:=fS r;subst hd;clear r;have r:=rr1
  split
  ·rename_i xs e
   obtain⟨es,e2,q⟩:=r.items e
   exact⟨.lst es,by unfold lH;dsimp only;rw[e2],trivial,.lst q⟩
  ·trivial
 ·trivial
def EO:RFn tN yQ:=λP h ds vs r=>by
 unfold yQ
 split
 ·obtain⟨d,hd,rr1⟩:=fS r;subst hd;clear r;have r:=rr1;obtain rfl:=r.int;exact⟨_,rfl,.int _⟩
 ·obtain⟨d,hd,rr1⟩:=fS r;subst hd;clear r;have r:=rr1;obtain rfl:=r.bl;exact⟨_,rfl,.int _⟩
 ·trivial
def tyC:Val->Option Cl
 |.non=>some (.b "NoneType")
 |.bl _=>some (.b "bool")
 |.int _=>some (.b "int")
 |.str _=>some (.b "str")
 |.tup _=>some (.b "tuple")
 |.exc x=>some (.o x)
 |.lst _=>some (.b "list")
 |.dct _=>some (.b "dict")
 |_=>none
noncomputable def clV:Val->Option Cl
 |.ty n=>some (.b n)
 |.glb x=>some (.o x)
 |_=>none
def tL:List Val->Option (List Cl)
 | []=>some []
 |v::vs=>match clV v,tL vs with
  |some c,some cs=>some (c::cs)
  |_,_=>none
def JL:Val->Option (List Cl)
 |.tup cs=>tL cs
 |v=>(clV v).map ([·])
def zo(kt:iQ):List Val->Bv:=λvs=>match vs with
 | [v,c]=>(match tyC v,JL c with
  |some t,some (c0::cr)=>(match eX kt t (c0::cr),kit kt t c0 with
   |some b,some _=>.val (.bl b)
   |_,_=>.stuck)
  |_,_=>.stuck)
 |_=>.stuck
def JJ(r:ShR P h d v)(q:tyC v=some t):tyD h d=some t:=by
 cases v with
 |non=>obtain rfl:=r.non;exact q
 |bl b=>obtain rfl:=r.bl;exact q
 |int b=>obtain rfl:=r.int;exact q
 |str b=>obtain rfl:=r.str;exact q
 |exc b=>obtain rfl:=r.exc;exact q
 |tup b=>obtain⟨ds,rfl,_⟩:=r.tup;exact q
 |lst b=>obtain⟨n,ds,rfl,e,_⟩:=r.lst;unfold tyD;dsimp only;rw[e];exact q
 |dct b=>obtain⟨n,ds,rfl,e,_⟩:=r.dct;unfold tyD;dsimp only;rw[e];exact q
 |_=>cases q
def Aq(r:ShR P h d v)(q:clV v=some c):clD d=some c:=by
 cases v with
 |ty b=>obtain rfl:=r.ty;exact q
 |glb b=>obtain rfl:=r.glb;exact q
 |_=>cases q
def FO:∀{ds:List D}{vs:List Val}{cs:List Cl},Rds P h ds vs->tL vs=some cs->ds.mapM clD=some cs:=by
 intro ds
 induction ds with
 |
  nil=>
  intro vs cs r q
  cases r
  cases q
  rfl
 |
  cons d0 ds ih=>
  intro vs cs r q
  cases r with
  |
   cons r rr=>
   unfold tL at q
   split at q
   ·rename_i c cs' e1 e2
    cases q
    rw[LR,Aq (.inl r) e1,ih rr e2];rfl
   ·cases q
def DY(kt:iQ):RFn (pC kt) (zo kt):=λP h ds vs r=>by
 unfold zo
 split
 ·rename_i v c
  obtain⟨d,d',rfl,r1,r2⟩:=tq r
  split
  ·rename_i t c0 cr e1 e2
   have e3:=JJ r1 e1
   split
   ·rename_i b b' e4 e5
    refine⟨.bl b,?_,.bl b⟩
    unfold pC
    dsimp only
    rw[e3]
    dsimp only
    by_cases ht:∃cs,c=.tup cs
    ·obtain⟨cs,rfl⟩:=ht
     obtain⟨es,rfl,q⟩:=r2.tup
     dsimp only
     rw[FO q e2]
     dsimp only
     rw[e4,e5]
    ·have e2':(clV c).map ([·])=some (c0::cr):=by
      cases c with
      |tup cs=>exact absurd ⟨cs,rfl⟩ ht
      |_=>exact e2
     obtain⟨cl,y1,y2⟩:=J_.mp e2'
     cases y2
     have y3:=Aq r2 y1
     have hd:∀cs,d' ≠ .tup cs:=λcs z=>by subst z;cases y3
     split
     ·rename_i cs;exact absurd rfl (hd cs)
     ·rw[y3]
      dsimp only
      have:kit kt t c0=some b:=by
       unfold eX at e4
       rw[e5] at e4 ⊢
       cases b' with
       |true=>exact e4
       |false=>unfold eX at e4;exact e4
      rw[this]
   ·trivial
  ·trivial
 ·trivial
def fL(xs:List Val)(lo hi:Option Int):List Val:=(xs.drop (HT.sIx xs.length 0 lo)).take (HT.sIx xs.length xs.length hi-HT.sIx xs.length 0 lo)
abbrev MO3:=E3->R3 (Option Int)
def zi(_:Ns)(_:E3)(_:AH)(b c:Option Int):Prop:=b=c
def ROp(F:MO)(G:MO3):Prop:=∀X h0 ns e ae h,Sat X h0 ns e ae h->Po X h0 ns e ae h zi (F ae h) (G e)
def v8:MO3:=λe=>.ok none e
def wc(F:ME3):MO3:=λe=>(F e).bind λt e1=>match rs e1 t with
 |some (.int i)=>.ok (some i) e1
 |_=>.stuck
def aSl(x:Val)(lo hi:Option Int):Bv:=match x with
 |.tup xs=>if HT.sIx xs.length 0 lo=0/\HT.sIx xs.length xs.length hi=xs.length then .stuck else .val (.tup (fL xs lo hi))
 |.lst xs=>.new (.lst (fL xs lo hi))
 |.kl xs=>.new (.lst (fL xs lo hi))
 |_=>.stuck
def vSl(F:ME3)(L U:MO3):ME3:=λe=>(F e).bind λt e1=>(L e1).bind λlo e2=>(U e2).bind λhi e3=>match rs e3 t.drop with
 |some v=>(aSl v lo hi).at e3
 |none=>.stuck
def Bp:ROp tP v8:=λX h0 ns e ae h S=>Po.ret S rfl
def Cv(hF:RE F F3):ROp (sV F) (wc F3):=λX h0 ns e ae h S=>
 Po.bind S (hF X h0 0 ns e ae h S (KA _)) λd t h1 ns1 e1 a1 S1 r1=>by
  by_cases hq:∃i,rs e1 t=some (.int i)
  ·obtain⟨i,hq⟩:=hq
   have hd:=(r1.sh S1 hq).int
   subst hd
   show Po X h0 ns1 e1 ae h1 zi (R.ok (some i) h1) (match rs e1 t with |some (.int i)=>R3.ok (some i) e1 |_=>.stuck)
   rw[hq]
   exact Po.ret S1 rfl
  ·have:(match rs e1 t with |some (.int i)=>R3.ok (some i) e1 |_=>.stuck)=(.stuck:R3 (Option Int)):=by
    split
    ·rename_i i q;exact absurd ⟨i,q⟩ hq
    ·rfl
   show Po X h0 ns1 e1 ae h1 zi _ (match rs e1 t with |some (.int i)=>R3.ok (some i) e1 |_=>.stuck)
   rw[this];trivial
def IM(hF:RE F F3)(hL:ROp L L3')(hU:ROp U U3):RE (eSl F L U) (vSl F3 L3' U3):=λX h0 LL ns e ae h S hl=>
 Po.bind
  S (hF X h0 LL ns e ae h S hl) λd t h1 ns1 e1 a1 S1 r1=>Po.bind S1 (hL X h0 ns1 e1 ae h1 S1) λlo lo' h2 ci e2 a2 S2 r2=>Po.bind S2 (hU X h0 ci e2 ae h2 S2) λhi hi' h3 ns3 e3 a3 S3 r3=>by
  cases r2;cases r3
  obtain⟨r1',hn⟩:=r1.drop
  have r4:=(r1'.stp S1 a2 hn).stp S2 a3 hn
  try dsimp only
  split
  ·rename_i v q
   have rr:=r4.sh S3 q
   refine BvR.po S3 (x_ hl (x_ a1.len (x_ a2.len a3.len))) ?_
   unfold aSl
   split
   ·rename_i xs
    obtain⟨ds,rfl,q1⟩:=rr.tup
    split
    ·trivial
    ·rename_i hne
     refine⟨_,by unfold gSl;dsimp only;rw[if_neg (by rw[q1.len];exact hne)],.tup ?_⟩
     unfold L2.cutD fL
     rw[q1.len]
     exact (q1.drop _).take _
   ·rename_i xs
    obtain⟨n,ds,rfl,_,e1,q1⟩:=rr.lst
    refine⟨.lst (L2.cutD ds lo hi),by unfold gSl;dsimp only;rw[e1],trivial,.lst ?_⟩
    unfold L2.cutD fL
    rw[q1.len]
    exact (q1.drop _).take _
   ·rename_i xs
    have key:∃ds,gSl d lo hi h3=.ok (.ref h3.length) (h3++[.lst (L2.cutD ds lo hi)])/\Rds (Oc X ns3) h3 ds xs:=by
     rcases rr with rr |⟨n,o,rfl,e,rr⟩
     ·cases rr with
      |kl q1=>exact⟨_,rfl,q1⟩
      |cell p e rc=>cases rc with |fz q1=>exact⟨_,by unfold gSl aT;dsimp only;rw[e],q1⟩
     ·cases rr with |fz q1=>exact⟨_,by unfold gSl aT;dsimp only;rw[e],q1⟩
    obtain⟨ds,e1,q1⟩:=key
    refine⟨.lst (L2.cutD ds lo hi),e1,trivial,.lst ?_⟩
    unfold L2.cutD fL
    rw[q1.len]
    exact (q1.drop _).take _
   ·trivial
  ·trivial
def mS:Val->List Val->Option (Val×Val):=λu vs=>match u,vs with
 |.lst xs,[v]=>if xs.length<16777216 then some (.lst (xs++[v]),.non) else none
 |_,_=>none
def pO:Val->List Val->Option (Val×Val):=λu vs=>match u,vs with
 |.lst xs,[]=>(match xs[xs.length-1]? with
  |some v=>some (.lst xs.dropLast,v)
  |none=>none)
 |_,_=>none
section
variable{P:Nat->Prop}{h:AH}
def oA(e:h[n]?=some o)(r:Rc P h o (.lst xs)):jE h (.ref n)=true/\∃ds,h[n]?=some (.lst ds)/\Rds P h ds xs/\∀f,iH h (.ref n) f=f n ds:=by
 obtain⟨ds,e1,e2,q⟩:=Rc.seq e r
 refine⟨by show (aT h n).isSome=true;rw[e2];rfl,ds,e1,q,λf=>?_⟩
 unfold iH;dsimp only;rw[e1]
def rds1(r:Rds P h ds [v]):∃d,ds=[d]/\Rd P h d v:=by
 cases r with |cons r rr=>cases rr;exact⟨_,rfl,r⟩
end
def vP:RM jT mS:=λP h n o u ds vs u' v e hf r rs q=>by
 unfold mS at q
 split at q
 ·split at q
  ·rename_i hl
   cases q
   obtain⟨q1,es,q2,q3,q4⟩:=oA e r
   obtain⟨d,rfl,rd⟩:=rds1 rs
   refine⟨q1,.lst (es++[d]),.non,?_,trivial,.lst (q3.append (.cons rd .nil)),.non⟩
   unfold jT;rw[q4];dsimp only;rw[if_pos (by rw[q3.len];exact hl)]
  ·cases q
 ·cases q
def GN:RM uG pO:=λP h n o u ds vs u' v e hf r rs q=>by
 unfold pO at q
 split at q
 ·split at q
  ·rename_i w hw
   cases q
   obtain⟨q1,es,q2,q3,q4⟩:=oA e r
   cases rs
   obtain⟨d,e2,rd⟩:=q3.get hw
   refine⟨q1,.lst es.dropLast,d,?_,trivial,.lst ?_,rd⟩
   ·unfold uG;rw[q4];dsimp only;rw[q3.len,e2]
   ·rw[LQ,LQ,q3.len];exact q3.take _
  ·cases q
 ·cases q
def sL:Val->Val->Val->Option Val:=λu i v=>match u,i with
 |.lst xs,.int k=>(match ixN xs.length k with
  |some j=>some (.lst (xs.set j v))
  |none=>none)
 |_,_=>none
def Er:xA wL sL:=λP h n o u di vi d v u' _ e hf r ri rd q=>by
 unfold sL at q
 split at q
 ·split at q
  ·rename_i j hj
   cases q
   obtain⟨q1,es,q2,q3,q4⟩:=oA e r
   obtain rfl:=ri.int
   refine⟨.lst (es.set j d),?_,trivial,.lst (q3.set rd j)⟩
   unfold wL;dsimp only;rw[q2];dsimp only;rw[q3.len,hj]
  ·cases q
 ·cases q
structure PEx where
 F:ME
 G:ME3
 ok:RE F G
structure PTs where
 F:MT
 G:MT3
 ok:RT F G
structure PAs where
 F:MA
 G:MA3
 ok:RA F G
structure PSt where
 F:MS
 G:MS3
 ok:RS F G
structure PGt where
 F:MG
 G:MG3
 ok:RG F G
structure PGs where
 F:MGs
 G:i5
 ok:RGs F G
structure PIt where
 F:MI
 G:MI3
 ok:RI F G
structure POp where
 F:MO
 G:MO3
 ok:ROp F G
structure PO2 where
 F:D->D->AH->R D
 G:Val->Val->Bv
 ok:RO F G
structure PU1 where
 F:D->AH->R D
 G:Val->Bv
 ok:RU F G
structure PBf where
 F:Fn
 G:List Val->Bv
 ok:RFn F G
structure PMm where
 F:D->List D->AH->R D
 G:Val->List Val->Option (Val×Val)
 ok:RM F G
structure PSe where
 F:D->D->D->AH->R Unit
 G:Val->Val->Val->Option Val
 ok:xA F G
structure PFn where
 ms:List Bool
 F:Fn
 G:Fn3
 ok:RF ms F G
structure PFx(ms:List Bool) where
 F:Fn
 G:Fn3
 ok:RF ms F G
noncomputable section
def PFx.fn{ms:List Bool}(p:PFx ms):PFn:=⟨ms,p.F,p.G,p.ok⟩
def af(i:Nat):PEx:=⟨aH i,yZ i,DJ i⟩
def ah(i:Int):PEx:=⟨eC (.int i),vC (.int i),mT λ_ _=>.int i⟩
def pBl(i:Bool):PEx:=⟨eC (.bl i),vC (.bl i),mT λ_ _=>.bl i⟩
def bT(i:Str):PEx:=⟨eC (.str i),vC (.str i),mT λ_ _=>.str i⟩
def fg:PEx:=⟨eC .non,vC .non,mT λ_ _=>.non⟩
def pTy(i:String):PEx:=⟨eC (.ty i),vC (.ty i),mT λ_ _=>.ty i⟩
def wO(d:D)(v:Val)(r:∀P h,Rd P h d v):PEx:=⟨eC d,vC v,mT r⟩
def pUn(o:PU1)(a:PEx):PEx:=⟨eUn o.F a.F,vUn o.G a.G,Ik o.ok a.ok⟩
def pOp(o:PO2)(a b:PEx):PEx:=⟨eOp o.F a.F b.F,vOp o.G a.G b.G,Jo o.ok a.ok b.ok⟩
def ag:PAs:=⟨ji,nh,ve⟩
def aa(a:PEx)(r:PAs):PAs:=⟨gF a.F r.F,zV a.G r.G,BA a.ok r.ok⟩
def pFn(o:PBf)(a:PAs):PEx:=⟨eFn o.F a.F,vFn o.G a.G,ID o.ok a.ok⟩
def aG(a:PAs):PEx:=⟨eFn gB a.F,vTup a.G,En a.ok⟩
def bD(a:PAs):PEx:=⟨eFn cZ a.F,vLst a.G,F5 a.ok⟩
def dg(a b:PEx):PEx:=⟨oR a.F b.F,vAnd a.G b.G,Ee a.ok b.ok⟩
def iW(a:PEx):PEx:=⟨y0 a.F,vNot a.G,EF a.ok⟩
def qOf(a:PEx):PTs:=⟨tOf a.F,cOf a.G,Ii a.ok⟩
def qAn(a b:PTs):PTs:=⟨tAn a.F b.F,cAn a.G b.G,Kd a.ok b.ok⟩
def qO(a b:PTs):PTs:=⟨tO a.F b.F,cO a.G b.G,rt_o a.ok b.ok⟩
def qNo(a:PTs):PTs:=⟨tNo a.F,cNo a.G,Jl a.ok⟩
def qY:PTs:=⟨tY,cY,rt_y⟩
def xNx:PSt:=⟨sNx,wNx,I0⟩
def aB(a:PEx):PSt:=⟨xx a.F,wRet a.G,GJ a.ok⟩
def cH(a:PEx):PSt:=⟨uM a.F,zK a.G,Ba a.ok⟩
def ao(a b:PSt):PSt:=⟨xv a.F b.F,wSeq a.G b.G,E7 a.ok b.ok⟩
def xIf(c:PTs)(a b:PSt):PSt:=⟨sIf c.F a.F b.F,wIf c.G a.G b.G,Jd c.ok a.ok b.ok⟩
def aE(o:Bool)(i:Nat)(a:PEx):PSt:=⟨fJ a.F (gN i),wAsg o i a.G,FX o i a.ok⟩
def gtN(i:Nat):PGt:=⟨gN i,pN i,xt i⟩
def bG:PGs:=⟨gsN,psN,Io⟩
def aF(a:PGt)(b:PGs):PGs:=⟨gsC a.F b.F,psC a.G b.G,JU a.ok b.ok⟩
def gtT(n:Nat)(a:PGs):PGt:=⟨gT λds ae h=>if ds.length=n then a.F ds ae h else .stuck,pT n a.G,rg_t n a.ok⟩
def gtX(a:PGt):PGt:=⟨λd ae h=>noX (a.F d ae h),a.G,FD a.ok⟩
def dS(a:PEx)(g:PGt):PSt:=⟨fJ a.F g.F,zP a.G g.G,Bn a.ok g.ok⟩
def eR(i j:Nat)(a:PAs):PSt:=⟨zj i j a.F,wPar i j a.G,Dp i j a.ok⟩
def gn(c:Str)(a:PAs):PSt:=⟨qI c a.F,xi c a.G,zG c a.ok⟩
def dZ(i:Nat)(w:PSe)(k a:PEx):PSt:=⟨fJ a.F (gS (aH i) k.F w.F),wSet i k.G a.G w.G,Et i w.ok k.ok a.ok⟩
def gX(i:Nat)(m:PMm)(a:PAs):PEx:=⟨eM m.F (aH i) a.F,kP i m.G a.G,xh i m.ok a.ok⟩
def lQ(i:Nat)(m:PMm):PEx:=⟨eM0 m.F (aH i),kP i m.G nh,Bi i m.ok⟩
def dB(a:PEx):PIt:=⟨zf a.F,zR a.G,F7 a.ok⟩
def f6(a:PAs):PIt:=⟨yT a.F,xr gu a.G,CT a.ok⟩
def f9(a:PAs):PIt:=⟨yG a.F,Ag a.G,Fh a.ok⟩
def dk(i:PIt)(g:PGt)(b:PSt):PSt:=⟨zu i.F g.F b.F,wFor i.G g.G b.G,Eb i.ok g.ok b.ok⟩
def xWh(c:PTs)(b:PSt):PSt:=⟨sWh c.F b.F,wWh c.G b.G,HS c.ok b.ok⟩
def pLC(i:PIt)(sub:Nd)(hs:(sub.filterMap id).Nodup)(g:PGt)(c:PTs)(a:PEx):PEx:=⟨eLC i.F sub g.F c.F a.F,vLC i.G sub g.G c.G a.G,Iu hs i.ok g.ok c.ok a.ok⟩
def ak(f:PFn)(a:PAs):PEx:=⟨lT f.ms.length f.F a.F,zT f.ms f.G a.G,Cf rfl f.ok a.ok⟩
def oN:POp:=⟨tP,v8,Bp⟩
def oS(a:PEx):POp:=⟨sV a.F,wc a.G,Cv a.ok⟩
def pSl(a:PEx)(l u:POp):PEx:=⟨eSl a.F l.F u.F,vSl a.G l.G u.G,IM a.ok l.ok u.ok⟩
def fnP(ms:List Bool)(N:Nat)(c:PSt):PFn:=⟨ms,fnD N c.F,fnV ms N c.G,Jj c.ok⟩
def aM:PO2:=⟨ug,yg,Ep⟩
def df:PO2:=⟨xp,aMin,Df⟩
def aA:PO2:=⟨ym,uJ,Fo⟩
def iR:PO2:=⟨y7,tu,Dz⟩
def bZ:PO2:=⟨zq,t4,Fm⟩
def fP:PO2:=⟨yW,uB,FZ⟩
def qz:PO2:=⟨yq,uu,Hg⟩
def bLt:PO2:=⟨gLt,aLt,Jk⟩
def bLe:PO2:=⟨gLe,aLe,IX⟩
def bGt:PO2:=⟨gGt,aGt,JF⟩
def bGe:PO2:=⟨gGe,aGe,JA⟩
def uk:PO2:=⟨pX,o5,D1⟩
def bIx:PO2:=⟨gIx,aIx,Jq⟩
def bEq:PO2:=⟨gEq false,aEq false,Aj false⟩
def bNe:PO2:=⟨gEq true,aEq true,Aj true⟩
def bIs:PO2:=⟨mB false,tG false,vm false⟩
def kK:PO2:=⟨mB true,tG true,vm true⟩
def xB:PU1:=⟨sX,yu,FQ⟩
def bj:PBf:=⟨qf,x8,Hm⟩
def fq:PBf:=⟨tD,zD,CZ⟩
def qg:PBf:=⟨oH,sW,AG⟩
def o6:PBf:=⟨oG,sY,Bb⟩
def iE:PBf:=⟨pY,yk,C1⟩
def iY:PBf:=⟨qy,yp,DH⟩
def fH:PBf:=⟨lH,tS,Cg⟩
def tE:PBf:=⟨tN,yQ,EO⟩
def a9(kt:iQ):PBf:=⟨pC kt,zo kt,DY kt⟩
def cL:PMm:=⟨jT,mS,vP⟩
def l6:PMm:=⟨uG,pO,GN⟩
def seL:PSe:=⟨wL,sL,Er⟩
end
theorem nj:∀(ns:List Int),Rds P h (ns.map D.int) (ns.map Val.int)
 | []=>.nil
 |_::r=>.cons (.int _) (nj r)
def law3(p:PFn)(hm:p.ms=[false])(hG:∀ns:List Int,ns.length<=63->p.G [.kl (ns.map .int)]=.ok (.val (.bl true)) [])(d:D)(h:AH)(ns:List Int)(hl:ns.length<=63)(sc:Script h d ns):∃h',p.F [d] h=.ok (.bl true) h':=by
 have hp:=p.ok
 rw[hm] at hp
 have rd:Rd (Oc (λ_=>False) [none]) h d (.kl (ns.map .int)):=by
  rcases sc.form with ⟨n,rfl,e⟩ |rfl
  ·exact .cell ⟨λz=>z,by simp⟩ e (.fz (nj ns))
  ·exact .kl (nj ns)
 have S:Sat (λ_=>False) h.length [none] (sls [false] [.kl (ns.map .int)]) ([d].map some) h:=by
  refine⟨rfl,rfl,n_ _,λ_ z=>z.elim,λi j n q=>?_,λi n q z=>z,λi s q=>?_⟩
  ·cases i with
   |zero=>simp at q
   |succ i=>simp at q
  ·cases i with
   |
    zero=>
    have:sl1 false (.kl (ns.map .int))=s:=by simpa [sls] using q
    subst this
    exact⟨rfl,d,rfl,rd⟩
   |succ i=>simp [sls] at q
 have:=hp _ _ [d] [.kl (ns.map .int)] h rfl S
 rw[hG ns hl] at this
 obtain⟨d',h',e,_,_,r⟩:=this
 cases r with
 |bl=>exact⟨h',e⟩
 |cell p e r=>cases r
section
variable(e:E3)
@[simp] theorem bR(a:α)(f:α->E3->R3 β):(R3.ok a e).bind f=f a e:=rfl
@[simp] theorem Jn(a:α)(f:α->E3->SR3):(R3.ok a e).toS f=f a e:=rfl
@[simp] theorem Kb(f:E3->SR3):(SR3.nx e).then f=f e:=rfl
@[simp] theorem JO(r:Rt)(f:E3->SR3):(SR3.rt r e).then f=.rt r e:=rfl
@[simp] theorem Gj(c:Str)(f:E3->SR3):(SR3.exc c e).then f=.exc c e:=rfl
@[simp] theorem jK(f:E3->SR3):(SR3.nx e).loop f=f e:=rfl
@[simp] theorem uc(f:E3->SR3):(SR3.ct e).loop f=f e:=rfl
@[simp] theorem Hw(r:Rt)(f:E3->SR3):(SR3.rt r e).loop f=.rt r e:=rfl
@[simp] theorem Iw(r:SR3):r.unl none=r:=by cases r <;> rfl
@[simp] theorem zF:lockO e none=e:=rfl
@[simp] theorem tW:ee e none=e:=rfl
@[simp] theorem DV(v:Val):(Bv.val v).at e=.ok (.val v) e:=rfl
@[simp] theorem GG(v:Val):(Bv.new v).at e=.ok (.new v) e:=rfl
@[simp] theorem E4(v:Val):rs e (.val v)=some v:=rfl
@[simp] theorem E8(v:Val):rs e (.new v)=some v:=rfl
@[simp] theorem Fq(i:Nat):rs e (.bor i)=(e[i]?).bind Sl.val:=rfl
@[simp] theorem Fx(v:Val):(Tm.val v).drop=.val v:=rfl
@[simp] theorem Hs(v:Val):(Tm.new v).drop=.val v:=rfl
@[simp] theorem C7(i:Nat):(Tm.bor i).drop=.bor i:=rfl
@[simp] theorem A0:rss e []=some []:=rfl
@[simp] theorem yN(t:Tm)(ts:List Tm):rss e (t::ts)=match rs e t,rss e ts with
 |some v,some vs=>some (v::vs)
 |_,_=>none:=rfl
@[simp] theorem Ek(v:Val):bY e (.val v)=some (e,v):=rfl
@[simp] theorem DU(v:Val):bY e (.new v)=some (e,v):=rfl
@[simp] theorem FP(i:Nat):bY e (.bor i)=match e[i]? with
 |some (.sh v)=>some (e,v)
 |some (.ow v)=>some (e.set i (.sh v),v)
 |_=>none:=rfl
@[simp] theorem wR:dem e []=some (e,[]):=rfl
@[simp] theorem Bf(t:Tm)(ts:List Tm):dem e (t::ts)=match bY e t with
 |some (e1,v)=>match dem e1 ts with
  |some (e2,vs)=>some (e2,v::vs)
  |none=>none
 |none=>none:=rfl
@[simp] theorem F9(b:Bool):bOf (some (.bl b))=some b:=rfl
@[simp] theorem Je(i:Nat):(af i).G e=match e[i]? with
 |some (.sh v)=>.ok (.val v) e
 |some .no=>.stuck
 |some _=>.ok (.bor i) e
 |none=>.stuck:=rfl
@[simp] theorem Kk(i:Int):(ah i).G e=.ok (.val (.int i)) e:=rfl
@[simp] theorem v_bl(i:Bool):(pBl i).G e=.ok (.val (.bl i)) e:=rfl
@[simp] theorem JS(i:Str):(bT i).G e=.ok (.val (.str i)) e:=rfl
@[simp] theorem JM:fg.G e=.ok (.val .non) e:=rfl
@[simp] theorem v_ty(i:String):(pTy i).G e=.ok (.val (.ty i)) e:=rfl
@[simp] theorem v_un(o:PU1)(a:PEx):(pUn o a).G e=(a.G e).bind λt e1=>match rs e1 t with
 |some v=>(o.G v).at e1
 |none=>.stuck:=rfl
@[simp] theorem v_op(o:PO2)(a b:PEx):(pOp o a b).G e=(a.G e).bind λt1 e1=>(b.G e1).bind λt2 e2=>match rs e2 t1.drop,rs e2 t2 with
 |some v1,some v2=>(o.G v1 v2).at e2
 |_,_=>.stuck:=rfl
@[simp] theorem Hx:ag.G e=.ok [] e:=rfl
@[simp] theorem FG(a:PEx)(r:PAs):(aa a r).G e=(a.G e).bind λt e1=>(r.G e1).bind λts e2=>.ok (t.drop::ts) e2:=rfl
@[simp] theorem v_fn(o:PBf)(a:PAs):(pFn o a).G e=(a.G e).bind λts e1=>match rss e1 ts with
 |some vs=>(o.G vs).at e1
 |none=>.stuck:=rfl
@[simp] theorem Ke(a:PAs):(aG a).G e=(a.G e).bind λts e1=>match dem e1 ts with
 |some (e2,vs)=>if vs.length<=16777216 then .ok (.val (.tup vs)) e2 else .stuck
 |none=>.stuck:=rfl
@[simp] theorem Iy(a:PAs):(bD a).G e=(a.G e).bind λts e1=>match dem e1 ts with
 |some (e2,vs)=>if vs.length<=16777216 then .ok (.new (.lst vs)) e2 else .stuck
 |none=>.stuck:=rfl
@[simp] theorem Kf(a b:PEx):(dg a b).G e=(a.G e).bind λt e1=>match bOf (rs e1 t) with
 |some true=>b.G e1
 |some false=>.ok (.val (.bl false)) e1
 |none=>.stuck:=rfl
@[simp] theorem HR(a:PEx):(iW a).G e=(a.G e).bind λt e1=>match bOf (rs e1 t) with
 |some b=>.ok (.val (.bl (!b))) e1
 |none=>.stuck:=rfl
@[simp] theorem c_of(a:PEx):(qOf a).G e=(a.G e).bind λt e1=>match bOf (rs e1 t) with
 |some b=>.ok b e1
 |none=>.stuck:=rfl
@[simp] theorem c_an(a b:PTs):(qAn a b).G e=(a.G e).bind λk e1=>if k=true then b.G e1 else .ok false e1:=rfl
@[simp] theorem c_o(a b:PTs):(qO a b).G e=(a.G e).bind λk e1=>if k=true then .ok true e1 else b.G e1:=rfl
@[simp] theorem c_no(a:PTs):(qNo a).G e=(a.G e).bind λk e1=>.ok (!k) e1:=rfl
@[simp] theorem c_y:qY.G e=.ok true e:=rfl
@[simp] theorem x_nx:xNx.G e=.nx e:=rfl
@[simp] theorem Jm(a:PEx):(aB a).G e=(a.G e).toS mq:=rfl
@[simp] theorem CA(v:Val):mq (.val v) e=.rt (.val v) e:=rfl
@[simp] theorem BX(v:Val):mq (.new v) e=.rt (.new v) e:=rfl
@[simp] theorem Bq(i:Nat):mq (.bor i) e=match e[i]? with
 |some (.sh v)=>.rt (.val v) e
 |some (.ow v)=>.rt (.new v) (e.set i .no)
 |some (.mu _)=>.rt (.par i) e
 |_=>.stuck:=rfl
@[simp] theorem FE(a:PEx):(cH a).G e=(a.G e).toS λ_ e1=>.nx e1:=rfl
@[simp] theorem Ai(a b:PSt):(ao a b).G e=(a.G e).then b.G:=rfl
@[simp] theorem x_if(c:PTs)(a b:PSt):(xIf c a b).G e=(c.G e).toS λk e1=>if k=true then a.G e1 else b.G e1:=rfl
@[simp] theorem Ju(o:Bool)(i:Nat)(a:PEx):(aE o i a).G e=(a.G e).toS (g7 o i):=rfl
@[simp] theorem HM:Sl.no.pl=true:=rfl
@[simp] theorem Hz(v:Val):(Sl.sh v).pl=true:=rfl
@[simp] theorem JD(v:Val):(Sl.ow v).pl=true:=rfl
@[simp] theorem Bs(o:Bool)(i:Nat)(v:Val):g7 o i (.val v) e=match e[i]? with
 |some s0=>if s0.pl=true then .nx (e.set i (.sh v)) else .stuck
 |none=>.stuck:=by unfold g7;rfl
@[simp] theorem yL(i:Nat)(v:Val):g7 true i (.new v) e=match e[i]? with
 |some s0=>if s0.pl=true then .nx (e.set i (.ow v)) else .stuck
 |none=>.stuck:=by unfold g7;rfl
@[simp] theorem xR(i:Nat)(v:Val):g7 false i (.new v) e=match e[i]? with
 |some s0=>if s0.pl=true then .nx (e.set i (.sh v)) else .stuck
 |none=>.stuck:=by unfold g7;rfl
@[simp] theorem g_n(i:Nat)(v:Val):(gtN i).G v e=match e[i]? with
 |some s=>if s.pl=true then some (e.set i (.sh v)) else none
 |none=>none:=rfl
@[simp] theorem g_sn:bG.G [] e=some e:=rfl
@[simp] theorem g_sc(a:PGt)(b:PGs)(v:Val)(vs:List Val):(aF a b).G (v::vs) e=(a.G v e).bind λe1=>b.G vs e1:=rfl
@[simp] theorem g_t(n:Nat)(a:PGs)(vs:List Val):(gtT n a).G (.tup vs) e=if vs.length=n then a.G vs e else none:=rfl
@[simp] theorem g_x(a:PGt)(v:Val):(gtX a).G v e=a.G v e:=rfl
@[simp] theorem GR(a:PEx)(g:PGt):(dS a g).G e=(a.G e).toS λt e1=>match bY e1 t with
 |some (e2,v)=>match g.G v e2 with
  |some e3=>.nx e3
  |none=>.stuck
 |none=>.stuck:=rfl
@[simp] theorem J1(i j:Nat)(a:PAs):(eR i j a).G e=(a.G e).toS λts e1=>match dem e1 ts with
 |some (e2,[v,u])=>match (pN i v e2).bind (pN j u) with
  |some e3=>.nx e3
  |none=>.stuck
 |_=>.stuck:=rfl
@[simp] theorem J8(i:Nat)(v:Val):pN i v e=match e[i]? with
 |some s=>if s.pl=true then some (e.set i (.sh v)) else none
 |none=>none:=rfl
@[simp] theorem Bl(c:Str)(a:PAs):(gn c a).G e=(a.G e).toS λts e1=>if ts.length<=16777216 then .exc c e1 else .stuck:=rfl
@[simp] theorem Iv(i:Nat)(w:PSe)(k a:PEx):(dZ i w k a).G e=(a.G e).toS λt e1=>match (e1[i]?).bind Sl.mv with
 |none=>.stuck
 |some _=>(k.G e1).toS λt2 e2=>match rs e2 t2 with
  |none=>.stuck
  |some vi=>match bY e2 t.drop with
   |none=>.stuck
   |some (e3,v)=>match e3[i]? with
    |none=>.stuck
    |some s=>match s.mv with
     |none=>.stuck
     |some u=>match w.G u vi v with
      |some u'=>.nx (e3.set i (s.re u'))
      |none=>.stuck:=rfl
@[simp] theorem JN(v:Val):(Sl.ow v).mv=some v:=rfl
@[simp] theorem Kh(v:Val):(Sl.mu v).mv=some v:=rfl
@[simp] theorem HD(v u:Val):(Sl.ow v).re u=.ow u:=rfl
@[simp] theorem J5(v u:Val):(Sl.mu v).re u=.mu u:=rfl
@[simp] theorem CU(v:Val):(Sl.ow v).val=some v:=rfl
@[simp] theorem Fb(v:Val):(Sl.mu v).val=some v:=rfl
@[simp] theorem HH(i:Nat)(m:PMm)(a:PAs):(gX i m a).G e=match e[i]? with
 |some s=>if (s.mv.map jj)=some true then (a.G e).bind λts e1=>match dem e1 ts with
  |some (e2,vs)=>match e2[i]? with
   |some s2=>match s2.mv with
    |some u=>match m.G u vs with
     |some (u',v)=>.ok (.val v) (e2.set i (s2.re u'))
     |none=>.stuck
    |none=>.stuck
   |none=>.stuck
  |none=>.stuck else .stuck
 |none=>.stuck:=rfl
@[simp] theorem Gp(i:Nat)(m:PMm):(lQ i m).G e=match e[i]? with
 |some s=>if (s.mv.map jj)=some true then (match s.mv with
  |some u=>match m.G u [] with
   |some (u',v)=>.ok (.val v) (e.set i (s.re u'))
   |none=>.stuck
  |none=>.stuck) else .stuck
 |none=>.stuck:=by
 show kP i m.G nh e=_
 unfold kP
 cases q:e[i]? with
 |none=>rfl
 |
  some s=>
  dsimp only
  split
  ·simp only[nh,bR,wR,q];try rfl
  ·rfl
@[simp] theorem yc(xs:List Val):jj (.lst xs)=true:=rfl
@[simp] theorem HW(a:PEx):(dB a).G e=(a.G e).bind λt e1=>match gZ t e1 with
 |some p=>.ok p e1
 |none=>.stuck:=rfl
@[simp] theorem Jv(a:PAs):(f9 a).G e=(a.G e).bind λts e1=>match ts with
 | [t]=>(match gZ t e1 with
  |some p=>.ok (d7 0 p.1,p.2) e1
  |none=>.stuck)
 |_=>.stuck:=rfl
@[simp] theorem DM(v:Val):gZ (.val v) e=(gP v).map λxs=>(xs,none):=rfl
@[simp] theorem FC(v:Val):gZ (.new v) e=(gP v).map λxs=>(xs,none):=rfl
@[simp] theorem Ds(xs:List Val):gP (.tup xs)=some xs:=rfl
@[simp] theorem Gy(xs:List Val):gP (.lst xs)=some xs:=rfl
@[simp] theorem Ja(a:PAs):(f6 a).G e=(a.G e).bind λts e1=>match (rss e1 ts).bind gu with
 |some xs=>.ok (xs,none) e1
 |none=>.stuck:=rfl
@[simp] theorem H9(i:PIt)(g:PGt)(b:PSt):(dk i g b).G e=(i.G e).toS λp e1=>(bJ g.G b.G p.1 (lockO e1 p.2)).unl p.2:=rfl
@[simp] theorem m7(g:MG3)(B:MS3):bJ g B [] e=.nx e:=rfl
theorem d6(g:MG3)(B:MS3)(v:Val)(vs:List Val):bJ g B (v::vs) e=match g v e with
 |some e1=>(B e1).loop (bJ g B vs)
 |none=>.stuck:=rfl
def kT(c:PTs)(b:PSt):(xWh c b).G e=(c.G e).toS λk e1=>if k=true then (b.G e1).loop (xWh c b).G else .nx e1:=xP c.G b.G e
@[simp] theorem v_lc(i:PIt)(sub:Nd)(hs:(sub.filterMap id).Nodup)(g:PGt)(c:PTs)(a:PEx):(pLC i sub hs g c a).G e=(i.G e).bind λp e1=>match lcV g.G c.G a.G p.1 [] (ba sub (lockO e1 p.2)) with
 |.ok ys e2=>if ys.length<=16777216 then .ok (.new (.lst ys)) (ee (aW sub e2 (lockO e1 p.2)) p.2) else .stuck
 |_=>.stuck:=rfl
@[simp] theorem Gd(f:PFn)(a:PAs):(ak f a).G e=(a.G e).bind λts e1=>match rss e1 ts with
 |none=>.stuck
 |some vs=>if okA e1 f.ms ts=true then (match f.G vs with
  |.stuck=>.stuck
  |.ok r mv=>if (aO e1 f.ms ts).isEmpty || (jB r&&mv.all flatC) then .ok (r.tm ts) (aW (bo f.ms ts) (aN f.ms mv) e1) else (match nc e1 (aO e1 f.ms ts) with
   |some e2=>.ok (r.tm ts) (aW (bo f.ms ts) (aN f.ms mv) e2)
   |none=>.stuck)
  |.exc c mv=>if (aO e1 f.ms ts).isEmpty || mv.all flatC then .exc c (aW (bo f.ms ts) (aN f.ms mv) e1) else .stuck) else .stuck:=rfl
@[simp] theorem DZ(ts:List Tm)(v:Val):(Rt.val v).tm ts=.val v:=rfl
@[simp] theorem FI(ts:List Tm)(v:Val):(Rt.new v).tm ts=.new v:=rfl
@[simp] theorem o_n:oN.G e=.ok none e:=rfl
@[simp] theorem o_s(a:PEx):(oS a).G e=(a.G e).bind λt e1=>match rs e1 t with
 |some (.int i)=>.ok (some i) e1
 |_=>.stuck:=rfl
@[simp] theorem v_sl(a:PEx)(l u:POp):(pSl a l u).G e=(a.G e).bind λt e1=>(l.G e1).bind λlo e2=>(u.G e2).bind λhi e3=>match rs e3 t.drop with
 |some v=>(aSl v lo hi).at e3
 |none=>.stuck:=rfl
theorem aY(ms:List Bool)(N:Nat)(c:PSt)(vs:List Val):(fnP ms N c).G vs=if vs.length=ms.length then (match c.G (sls ms vs++List.replicate (N-vs.length) .no) with
 |.nx e=>(match muV ms e with |some mv=>.ok (.val .non) mv |none=>.stuck)
 |.rt r e=>(match muV ms e with |some mv=>.ok r mv |none=>.stuck)
 |.exc c e=>(match muV ms e with |some mv=>.exc c mv |none=>.stuck)
 |_=>.stuck) else .stuck:=rfl
end
@[simp] theorem IA(i j:Int):aM.G (.int i) (.int j)=.val (.int (i+j)):=rfl
@[simp] theorem HU(i j:Int):df.G (.int i) (.int j)=.val (.int (i-j)):=rfl
@[simp] theorem k_lt(i j:Int):bLt.G (.int i) (.int j)=.val (.bl (decide (i<j))):=rfl
@[simp] theorem k_le(i j:Int):bLe.G (.int i) (.int j)=.val (.bl (decide (i<=j))):=rfl
@[simp] theorem k_gt(i j:Int):bGt.G (.int i) (.int j)=.val (.bl (decide (j<i))):=rfl
@[simp] theorem k_ge(i j:Int):bGe.G (.int i) (.int j)=.val (.bl (decide (j<=i))):=rfl
@[simp] theorem J6(i:Int):xB.G (.int i)=.val (.int (-i)):=rfl
def aK(c:CMulA i j):aA.G (.int i) (.int j)=.val (.int (i*j)):=by show uJ (.int i) (.int j)=_;unfold uJ aIc;dsimp only;rw[if_pos c]
def jQ(c:CDivB i j):iR.G (.int i) (.int j)=.val (.int (i.fdiv j)):=by show tu (.int i) (.int j)=_;unfold tu aIc;dsimp only;rw[if_pos c]
def eL(c:j≠0):bZ.G (.int i) (.int j)=.val (.int (i.fmod j)):=by show t4 (.int i) (.int j)=_;unfold t4 aIc;dsimp only;rw[if_pos c]
def oz(c:fM i j):fP.G (.int i) (.int j)=.val (.int (i^j.toNat)):=by show uB (.int i) (.int j)=_;unfold uB aIc;dsimp only;rw[if_pos c]
def HY(c:fM i j):qz.G (.int i) (.int j)=.val (.int (i*2^j.toNat)):=by show uu (.int i) (.int j)=_;unfold uu aIc;dsimp only;rw[if_pos c]
@[simp] theorem k_ix(x:Val)(i:Int):bIx.G x (.int i)=match x.items with
 |some xs=>(match atI xs i with
  |some v=>.val v
  |none=>.stuck)
 |none=>.stuck:=by show aIx x (.int i)=_;unfold aIx;cases x.items <;> rfl
@[simp] theorem Gm(xs:List Val):(Val.tup xs).items=some xs:=rfl
@[simp] theorem G1(xs:List Val):(Val.lst xs).items=some xs:=rfl
@[simp] theorem JI(xs:List Val):(Val.kl xs).items=some xs:=rfl
@[simp] theorem k_eq(x y:Val):bEq.G x y=match cA x y with
 |some b=>.val (.bl b)
 |none=>.stuck:=by show aEq false x y=_;unfold aEq;cases cA x y <;> rfl
@[simp] theorem k_ne(x y:Val):bNe.G x y=match cA x y with
 |some b=>.val (.bl (!b))
 |none=>.stuck:=by show aEq true x y=_;unfold aEq;cases cA x y <;> rfl
@[simp] theorem JE(x y:Int):cA (.int x) (.int y)=some (x==y):=rfl
def eq_str(hx:PyData.strOk x=true)(hy:PyData.strOk y=true):cA (.str x) (.str y)=some (x==y):=by
 unfold cA
 show (if shp (.str x)=true/\shp (.str y)=true then _ else _)=_
 rw[if_pos ⟨gG hx (KA _),gG hy (KA _)⟩]
 rfl
@[simp] theorem k_is(x:Val):bIs.G x .non=match x with
 |.non=>.val (.bl true)
 |_=>.val (.bl false):=by cases x <;> rfl
@[simp] theorem Jw(x:Val):kK.G x .non=match x with
 |.non=>.val (.bl false)
 |_=>.val (.bl true):=by cases x <;> rfl
@[simp] theorem Iq(v:Val):bj.G [v]=match v.items with
 |some xs=>.val (.int xs.length)
 |none=>(match v with
  |.str z=>if z.length<=16777216 then .val (.int z.length) else .stuck
  |_=>.stuck):=rfl
@[simp] theorem JT(i:Int):fq.G [.int i]=.val (.int (if i<0 then -i else i)):=rfl
@[simp] theorem J4(i j:Int):qg.G [.int i,.int j]=.val (.int (if j>i then j else i)):=rfl
@[simp] theorem HI(i j:Int):o6.G [.int i,.int j]=.val (.int (if j<i then j else i)):=rfl
@[simp] theorem Ji(xs:List Val):iE.G [.lst xs]=match eB xs with
 |some bs=>.val (.bl (bs.all id))
 |none=>.stuck:=rfl
@[simp] theorem Ie(xs:List Val):iY.G [.lst xs]=match i6 xs with
 |some bs=>.val (.int bs.sum)
 |none=>.stuck:=rfl
@[simp] theorem EZ(v:Val):fH.G [v]=match v.items with
 |some xs=>.new (.lst xs)
 |none=>.stuck:=rfl
@[simp] theorem EA(b:Bool):tE.G [.bl b]=.val (.int (if b then 1 else 0)):=rfl
@[simp] theorem ze(xs:List Val)(v:Val):cL.G (.lst xs) [v]=if xs.length<16777216 then some (.lst (xs++[v]),.non) else none:=rfl
@[simp] theorem jf:∀(bs:List Int),i6 (bs.map Val.int)=some bs
 | []=>rfl
 |b::r=>by show (i6 (r.map Val.int)).map (b :: ·)=_;rw[jf r];rfl
@[simp] theorem kD:∀(bs:List Bool),eB (bs.map Val.bl)=some bs
 | []=>rfl
 |b::r=>by show (eB (r.map Val.bl)).map (b :: ·)=_;rw[kD r];rfl
section
variable(K:W.Frag)(mg:Na)(X:Cx)(ES:L2.St->XK)
@[irreducible] def DE(e:Expr)(F:ME):Prop:=L2.DE K mg X ES e F
@[irreducible] def DT(e:Expr)(F:MT):Prop:=L2.DT K mg X ES e F
@[irreducible] def DA(es:List Expr)(F:MA):Prop:=L2.DA K mg X ES es F
@[irreducible] def DS(st:Stmt)(F:MS):Prop:=L2.DS K mg X ES st F
@[irreducible] def DSs(st:List Stmt)(F:MS):Prop:=L2.DSs K mg X ES st F
@[irreducible] def DI(tg al:Expr)(F:MI):Prop:=L2.DI K mg X ES tg al F
end
section
variable{K:W.Frag}{mg:Na}{X:Cx}{ES:L2.St->XK}{e a b c o i tg al c_:Expr}{es:List Expr}{st:Stmt}{sts sts':List Stmt}{p q r:PEx}{A:PAs}{t u:PTs}{x y:PSt}{g:PGt}{gs:PGs}{I:PIt}{pos:Pos}
def vG(i:Nat){x:Str}(hN:X.N[i]?=some x:=by rfl)(hv:Vis X.env.scope x:=by first |exact Or.inl rfl |exact Or.inr (Or.inl rfl) |exact Or.inr (Or.inr rfl))(hd:(x==("__debug__" : Str))=false:=by decide)(hcd:(x==("__classdict__" : Str))=false:=by decide):DE K mg X ES (.Name x pos) (af i).F:=by with_unfolding_all exact Gs i hN hv hd hcd
def Dw{i:Int}{j:Nat}:DE K mg X ES (.Constant (.int i) j pos) (ah i).F:=by with_unfolding_all exact EN
def JQ{i:Bool}{j:Nat}:DE K mg X ES (.Constant (.bool i) j pos) (pBl i).F:=by with_unfolding_all exact JW
def Fe:DE K mg X ES (.Constant .none j pos) fg.F:=by with_unfolding_all exact Dh
def F1{i:Str}{j:Nat}:DE K mg X ES (.Constant (.str i) j pos) (bT i).F:=by with_unfolding_all exact D6
def Im{x:Str}{d:D}{v:Val}{r:∀P h,Rd P h d v}(hg:Gl X x)(ha:GC K mg x d)(hm:X.mg=mg:=by rfl)(hd:(x==("__debug__" : Str))=false:=by decide):DE K mg X ES (.Name x pos) (wO d v r).F:=by with_unfolding_all exact HC hg ha hm hd
def HV{x:Str}{n:String}(hg:Gl X x)(hm:mg x=none)(hv:bootBuiltins x=some (.type n))(he:X.mg=mg:=by rfl)(hn:x ≠ "__name__":=by decide)(hd:(x==("__debug__" : Str))=false:=by decide):DE K mg X ES (.Name x pos) (pTy n).F:=by with_unfolding_all exact Jz hg hm hv he hn hd
def Ia(ho:OpR X (binaryOp op) r')(hd:OpD K mg r' k.F)(ha:DE K mg X ES a p.F)(hb:DE K mg X ES b q.F):DE K mg X ES (.BinOp a op b pos) (pOp k p q).F:=by with_unfolding_all exact Ib ho hd ha hb
def IJ(hr:IxR X r')(hd:OpD K mg r' k.F)(ha:DE K mg X ES a p.F)(hb:DE K mg X ES b q.F)(hs:mU b:=by exact λ_ _=>rfl):DE K mg X ES (.Subscript a b pos) (pOp k p q).F:=by with_unfolding_all exact HL hr hd ha hb hs
def Ed(ho:OpR X (compareOp op) r')(hd:OpD K mg r' k.F)(ha:DE K mg X ES a p.F)(hb:DE K mg X ES b q.F)(hm:behindInMarks op b=false:=by first |exact uY _ |with_unfolding_all rfl):DE K mg X ES (.Compare a [op] [b] pos) (pOp k p q).F:=by with_unfolding_all exact EV ho hd ha hb hm
def Dm(ho:OpR X (compareOp op) r')(hd:OpD K mg r' k.F)(ha:DE K mg X ES a p.F)(hb:DE K mg X ES b q.F)(hm:behindInMarks op b=false:=by first |exact uY _ |with_unfolding_all rfl):DT K mg X ES (.Compare a [op] [b] pos) (qOf (pOp k p q)).F:=by with_unfolding_all exact EG ho hd ha hb hm
def gm(ha:DE K mg X ES a p.F)(he:∀gl,isTrue a X.env gl=(do let v <- gl;standAt a.pos;holding [v] (truthy v)):=by intro _;rfl):DT K mg X ES a (qOf p).F:=by with_unfolding_all exact Hn ha he
def js(ha:DT K mg X ES a t.F):DT K mg X ES (.UnaryOp .Not a pos) (qNo t).F:=by with_unfolding_all exact Di ha
def m8(ha:DT K mg X ES a t.F):DW K mg X ES (.BoolOp .And [a] pos) t.F:=by with_unfolding_all exact Cc ha
def wm(ha:DT K mg X ES a t.F):DW K mg X ES (.BoolOp .Or [a] pos) t.F:=by with_unfolding_all exact Ha ha
def lM(ha:DT K mg X ES a t.F)(hb:DW K mg X ES (.BoolOp .And (b::es) pos) u.F):DW K mg X ES (.BoolOp .And (a::b::es) pos) (qAn t u).F:=by with_unfolding_all exact DN ha hb
def ub(ha:DT K mg X ES a t.F)(hb:DW K mg X ES (.BoolOp .Or (b::es) pos) u.F):DW K mg X ES (.BoolOp .Or (a::b::es) pos) (qO t u).F:=by with_unfolding_all exact IG ha hb
def ZW.dt(h:DW K mg X ES a t.F):DT K mg X ES a t.F:=by with_unfolding_all exact DW.dt h
def zt_w{op}(h:DW K mg X ES (.BoolOp op es pos) t.F):DT K mg X ES (.BoolOp op es pos) t.F:=ZW.dt h
def Fj{op}(h:DE K mg X ES a p.F):DE K mg X ES (.BoolOp op [a] pos) p.F:=by with_unfolding_all exact Dk h
def Hv(ha:DE K mg X ES a p.F)(hb:DE K mg X ES (.BoolOp .And (b::es) pos) q.F):DE K mg X ES (.BoolOp .And (a::b::es) pos) (dg p q).F:=by with_unfolding_all exact EL ha hb
def Gu(ha:DE K mg X ES a p.F):DE K mg X ES (.UnaryOp .Not a pos) (iW p).F:=by with_unfolding_all exact C0 ha
def HP(ho:UnR X (unaryOp op) r')(hd:UnD K mg r' k.F)(ha:DE K mg X ES a p.F):DE K mg X ES (.UnaryOp op a pos) (pUn k p).F:=by with_unfolding_all exact Kj ho hd ha
def Dj:DA K mg X ES [] ag.F:=by with_unfolding_all exact Ey
def cG(ha:DE K mg X ES e p.F)(hr:DA K mg X ES es A.F)(hs:starEach (e::es) X.env=(false,eval e X.env)::starEach es X.env:=by rfl):DA K mg X ES (e::es) (aa p A).F:=by with_unfolding_all exact BO ha hr hs
def He{x1}(h:DA K mg X ES es A.F):DE K mg X ES (.Tuple es x1 pos) (aG A).F:=by with_unfolding_all exact FR h
def xg(h:DA K mg X ES es A.F):DE K mg X ES (.List es pos) (bD A).F:=by with_unfolding_all exact EW h
def cI{id:String}{r':List V->Hp->VK->Prop}{k:PBf}{x:Str}{p0:Pos}(hc:CallR X (.builtin id) r')(hd:bg K mg r' k.F)(hg:Gl X x)(hm:mg x=none)(hv:bootBuiltins x=some (.builtin id))(ha:DA K mg X ES (e::es) A.F)(hk:X.mg=mg:=by rfl)(hn:x ≠ "__name__":=by decide)(hdb:(x==("__debug__" : Str))=false:=by decide)(he:starEach (e::es) X.env=(false,eval e X.env)::starEach es X.env:=by rfl)(hpl:(backTo pos (starEach es X.env)).any (·.1)=false:=by rfl):DE K mg X ES (.Call (.Name x p0) (e::es) [] pos) (pFn k A).F:=by with_unfolding_all exact yP hc hd hg hm hv ha hk hn hdb he hpl
def wZ{id:String}{r':List V->Hp->VK->Prop}{k:PBf}{x:Str}{p0:Pos}(hc:CallR X (.type id) r')(hd:bg K mg r' k.F)(hg:Gl X x)(hm:mg x=none)(hv:bootBuiltins x=some (.type id))(ha:DA K mg X ES (e::es) A.F)(hk:X.mg=mg:=by rfl)(hn:x ≠ "__name__":=by decide)(hdb:(x==("__debug__" : Str))=false:=by decide)(he:starEach (e::es) X.env=(false,eval e X.env)::starEach es X.env:=by rfl)(hpl:(backTo pos (starEach es X.env)).any (·.1)=false:=by rfl):DE K mg X ES (.Call (.Name x p0) (e::es) [] pos) (pFn k A).F:=by with_unfolding_all exact wG hc hd hg hm hv ha hk hn hdb he hpl
def zv{f:PFn}{x:Str}{p0:Pos}{k n:Nat}{ps:List Str}(C:Callee X.prog X.w X.K X.mg X.base x k ps (spD K mg n f.F))(hr:Room k X.A)(hg:Gl X x)(hx:iC X ES)(ha:DA K mg X ES (e::es) A.F)(hn:f.ms.length=n)(hdb:(x==("__debug__" : Str))=false)(he:starEach (e::es) X.env=(false,eval e X.env)::starEach es X.env)(hpl:(backTo pos (starEach es X.env)).any (·.1)=false):DE K mg X ES (.Call (.Name x p0) (e::es) [] pos) (ak f A).F:=by
 subst hn
 with_unfolding_all exact yY C hr hg hx ha hdb he hpl
def Bt:DSs K mg X ES [] xNx.F:=by with_unfolding_all exact BS
def hZ(h1:DS K mg X ES st x.F):DSs K mg X ES [st] x.F:=by with_unfolding_all exact A9 h1
def aw(h1:DS K mg X ES st x.F)(h2:DSs K mg X ES sts y.F):DSs K mg X ES (st::sts) (ao x y).F:=by with_unfolding_all exact zA h1 h2
def GF(he:DE K mg X ES e p.F):DS K mg X ES (.Return (some e) pos) (aB p).F:=by with_unfolding_all exact E5 he
def B7(he:DE K mg X ES e p.F)(hs:swapsWith e none pos.line X.env=pure false:=by rfl):DS K mg X ES (.Expr e pos) (cH p).F:=by with_unfolding_all exact Cw he hs
def fT(hc:DT K mg X ES c t.F)(ha:DSs K mg X ES sts x.F)(hb:DSs K mg X ES sts' y.F):DS K mg X ES (.If c sts sts' pos) (xIf t x y).F:=by with_unfolding_all exact HN hc ha hb
def BG{i:Nat}{x:Str}(hN:X.N.Nodup)(hi:X.N[i]?=some x)(hx:Loc X.env.scope x)(hf:X.fn x=true\/X.env.scope.names.lookup x=some .local):DG K mg X ES (.Name x pos) (gtN i).F:=By hN hi hx hf
def BH:DGs K mg X ES [] bG.F:=sM
def xK(h1:DG K mg X (λ_=>E0) e g.F)(h2:DGs K mg X (λ_=>E0) es gs.F)(hs:(assignEach (e::es) X.env).map (·.2)=assign e X.env::(assignEach es X.env).map (·.2):=by rfl):DGs K mg X (λ_=>E0) (e::es) (aF g gs).F:=kz h1 h2 hs
def Ez(hK:X.K=K)(hc:X.calm=true)(h:DGs K mg X (λ_=>E0) es gs.F)(hn:(assignEach es X.env).length=n:=by rfl)(hst:(assignEach es X.env).findIdx? (·.1)=none:=by rfl):DG K mg X (λ_=>E0) (.Tuple es k pos) (gtT n gs).F:=wY hK hc h hn hst
def ZG.weak(hg:DG K mg X (λ_=>E0) e g.F):DG K mg X ES e (gtX g).F:=DG.weak hg
def A6(he:DE K mg X ES e p.F)(hg:DG K mg X ES a g.F)(hs:swapsWithSole [a] e pos.line X.env=pure false:=by rfl)(hw:swappedStores [a] e X.env=pure none:=by rfl)(h1:(assignEach [a] X.env).map (·.2)=[assign a X.env]:=by rfl):DS K mg X ES (.Assign [a] e pos) (dS p g).F:=by with_unfolding_all exact qH he hg hs hw h1
def Cb(he:DE K mg X ES e p.F)(ho:DE K mg X ES o (af j).F)(hi:DE K mg X ES i q.F)(hs':uL X r')(hd:uo K mg r' w.F)(hs:swapsWithSole [.Subscript o i p1] e pos.line X.env=pure false:=by rfl)(hw:swappedStores [.Subscript o i p1] e X.env=pure none:=by rfl)(h1:(assignEach [.Subscript o i p1] X.env).map (·.2)=[assign (.Subscript o i p1) X.env]:=by rfl)
 (ha:∀v,assign (.Subscript o i p1) X.env v=(do
  let ov <- holding [v] (eval o X.env)
  let iv <- holding [v,ov] (eval i X.env)
  standAt p1
  holding [v,ov,iv] (setItem ov iv v)
  release [v,ov,iv] []):=by intro _;rfl):DS K mg X ES (.Assign [.Subscript o i p1] e pos) (dZ j w q p).F:=by with_unfolding_all exact qH he (u4 ho hi hs' hd ha) hs hw h1
def DQ{ow:Bool}{i:Nat}{x:Str}{pos':Pos}(hN:X.N.Nodup)(hi:X.N[i]?=some x)(hx:Loc X.env.scope x)(he:DE K mg X ES e p.F)(hs:swapsWith e (some (.Name x pos')) pos.line X.env=pure false)(hf:X.fn x=true\/X.env.scope.names.lookup x=some .local):DS K mg X ES (.Assign [.Name x pos'] e pos) (aE ow i p).F:=by with_unfolding_all exact Eu hN hi hx he hs hf
def Fi{i j:Nat}{x y:Str}{px py pt:Pos}{kt k2 pt2}(hN:X.N.Nodup)(ha:DA K mg X ES [a,b] A.F)(hc:X.calm=true:=by rfl)(hi:X.N[i]?=some x:=by rfl)(hj:X.N[j]?=some y:=by rfl)(hij:i≠j:=by decide)(hx:X.env.scope.names.lookup x=some .local:=by rfl)(hy:X.env.scope.names.lookup y=some .local:=by rfl)(hw:swappedStores [.Tuple [.Name x px,.Name y py] kt pt] (.Tuple [a,b] k2 pt2) X.env=pure (some [x,y]):=by rfl)(hs:swapsWithSole [.Tuple [.Name x px,.Name y py] kt pt] (.Tuple [a,b] k2 pt2) pos.line X.env=pure false:=by rfl):DS K mg X ES (.Assign [.Tuple [.Name x px,.Name y py] kt pt] (.Tuple [a,b] k2 pt2) pos) (eR i j A).F:=by with_unfolding_all exact ED hc hN hi hj hij hx hy ha hw hs
def zc{x:Str}{C:Addr}{E:XK}{np cpos:Pos}(hc:X.calm=true)(hR:Rz X E)(hg:Gl X x)(hm:mg x=some (.ref C))(hq:W.excIn X.K C kJ "ValueError.__new__"=true)(ha:DA K mg X (λ_=>E) (e::es) A.F)(hk:X.mg=mg:=by rfl)(he:starEach (e::es) X.env=(false,eval e X.env)::starEach es X.env:=by rfl)(ce:(backTo cpos (starEach es X.env)).any (·.1)=false:=by rfl)(hd:(x==("__debug__" : Str))=false:=by decide):DS K mg X (λ_=>E) (.Raise (some (.Call (.Name x np) (e::es) [] cpos)) none pos) (gn x A).F:=by with_unfolding_all exact zd hc hR hg hm hq ha hk he ce hd
def Gg(hK:X.K=K)(he:DE K mg X ES e p.F):DI K mg X ES tg e (dB p).F:=by with_unfolding_all exact FY hK he
def vX(hg:Gl X "range")(hm:mg "range"=none)(ha:DA K mg X ES [a] A.F)(hk:X.mg=mg:=by rfl)(hs:starEach [a] X.env=[(false,eval a X.env)]:=by rfl):DI K mg X ES tg (.Call (.Name "range" p0) [a] [] pos) (f6 A).F:=by with_unfolding_all exact vw hg hm ha hk hs
def CC(hK:X.K=K)(hg:Gl X "enumerate")(hm:mg "enumerate"=none)(ha:DA K mg X ES [a] A.F)(hk:X.mg=mg:=by rfl)(hs:starEach [a] X.env=[(false,eval a X.env)]:=by rfl):DI K mg X ES (.Tuple elts x1 tp) (.Call (.Name "enumerate" p0) [a] [] pos) (f9 A).F:=by with_unfolding_all exact CK hK hg hm ha hk hs
def wX(hp:PassesOwn (model X.prog X.w) X.A X.env X.xe)(hc:X.calm=true)(hi:DI K mg X ES tg al I.F)(hg:DG K mg X ES tg g.F)(hb:DSs K mg X ES sts x.F)(hs:∀x,foldedSetIterable al X.env x=pure x:=by intro _;rfl):DS K mg X ES (.For tg al sts [] pos) (dk I g x).F:=by with_unfolding_all exact GP hp hc hi hg hb hs
def oW(hp:PassesOwn (model X.prog X.w) X.A X.env X.xe)(hc:DT K mg X ES c t.F)(hb:DSs K mg X ES sts x.F):DS K mg X ES (.While c sts [] pos) (xWh t x).F:=by with_unfolding_all exact yD hp hc hb
def Jr{scope:Scope}(M:List Str)(kn:List (Str×NameKind))(N:List Str)(sub:Nd){hsb:(sub.filterMap id).Nodup}(hc:X.calm=true)(hi:DI K mg X ES tg al I.F)(hg:∀cl C s₂ H fp,DG K mg (aQ X N scope cl C s₂ H fp) (λ_=>E0) tg g.F)(he:∀cl C s₂ H fp,DE K mg (aQ X N scope cl C s₂ H fp) (λ_=>E0) c_ p.F)(hM:X.N=M)(hkn:X.env.scope.names=kn)(bn:fy M scope.names sub N=true)(hk:scope.kind=.function)(hnc:∀x∈scope.names,x.2 ≠ .cell)(be:∀x∈scope.names,x.2=.local->scope.names.lookup x.1=some .local)(hfr:g0 kn scope.names=true)(hsl:sub.length=N.length)(hs:∀x,foldedSetIterable al X.env x=pure x):DE K mg X ES (.ListComp c_ [⟨tg,al,[],0⟩] scope pos) (pLC I sub hsb g qY p).F:=by with_unfolding_all exact IE M kn N sub hc hi hg he hM hkn bn hk hnc be hfr hsl hs
def JP{ow:Bool}{px spos:Pos}{iT:Nat}{xT:Str}{scope:Scope}(M:List Str)(kn:List (Str×NameKind))(N:List Str)(sub:Nd){hsb:(sub.filterMap id).Nodup}(hc:X.calm=true)(hN:X.N.Nodup)(hix:X.N[iT]?=some xT)(hxl:Loc X.env.scope xT)(hi:DI K mg X ES tg al I.F)(hg:∀cl C s₂ H fp,DG K mg (aQ X N scope cl C s₂ H fp) (λ_=>E0) tg g.F)(he:∀cl C s₂ H fp,DE K mg (aQ X N scope cl C s₂ H fp) (λ_=>E0) c_ p.F)(hsw:swapsWith (.ListComp c_ [⟨tg,al,[],0⟩] scope pos) (some (.Name xT px)) spos.line X.env=pure true)(hM:X.N=M)(hkn:X.env.scope.names=kn)(bn:fy M scope.names sub N=true)(hk:scope.kind=.function)(hnc:∀x∈scope.names,x.2 ≠ .cell)(be:∀x∈scope.names,x.2=.local->scope.names.lookup x.1=some .local)(hfr:g0 kn scope.names=true)(hsl:sub.length=N.length)(hs:∀x,foldedSetIterable al X.env x=pure x)(hf:X.fn xT=true\/X.env.scope.names.lookup xT=some .local):DS K mg X ES (.Assign [.Name xT px] (.ListComp c_ [⟨tg,al,[],0⟩] scope pos) spos) (aE ow iT (pLC I sub hsb g qY p)).F:=by with_unfolding_all exact HB M kn N sub hc hN hix hxl hi hg he hsw hM hkn bn hk hnc be hfr hsl hs hf
def Fp{j:Nat}{name:Str}{id:String}{apos cpos:Pos}{r':V->List V->Hp->VK->Prop}{k:PMm}(hK:X.K=K)(slot:Slot "list" name id)(hty:typeOf (.builtin id)=pure (.type "method_descriptor"))(hm:MtM X id r')(hd:MtD K mg r' k.F)(ho:DE K mg X ES o (af j).F)(ha:DA K mg X ES (e::es) A.F)(e_:attributeBase o name X.env (eval o X.env)=eval o X.env:=by rfl)(hfew:((backTo cpos (starEach (e::es) X.env)).all (λx=>!x.1)&&(backToKw cpos (keywordEach [] X.env)).all (λx=>x.1.isSome)&&decide ((e::es).length+([]:List Keyword).length+(if ([]:List Keyword).isEmpty then 0 else 1)<30))=true:=by rfl)(ge:(apos.endLine==cpos.line)=true:=by rfl)(hs:starEach (e::es) X.env=(false,eval e X.env)::starEach es X.env:=by rfl)(ce:(backTo cpos (starEach es X.env)).any (·.1)=false:=by rfl):DE K mg X ES (.Call (.Attribute o name apos) (e::es) [] cpos) (gX j k A).F:=by with_unfolding_all exact de_m hK slot hty hm hd ho ha e_ hfew ge hs ce
def Az{j:Nat}{name:Str}{id:String}{apos cpos:Pos}{r':V->List V->Hp->VK->Prop}{k:PMm}(hK:X.K=K)(slot:Slot "list" name id)(hty:typeOf (.builtin id)=pure (.type "method_descriptor"))(hm:MtM X id r')(hd:MtD K mg r' k.F)(ho:DE K mg X ES o (af j).F)(e_:attributeBase o name X.env (eval o X.env)=eval o X.env:=by rfl)(ge:(apos.endLine==cpos.line)=true:=by rfl):DE K mg X ES (.Call (.Attribute o name apos) [] [] cpos) (lQ j k).F:=by with_unfolding_all exact Jx hK slot hty hm hd ho e_ ge
def AF:DO K mg X ES none oN.F:=CJ
def BW(he:DE K mg X ES e p.F):DO K mg X ES (some e) (oS p).F:=by with_unfolding_all exact BN he
def yh{l u:POp}{lo hi:Option Expr}{p2:Pos}(hK:X.K=K)(he:DE K mg X ES e p.F)(hl:DO K mg X ES lo l.F)(hu:DO K mg X ES hi u.F):DE K mg X ES (.Subscript e (.Slice lo hi none p2) pos) (pSl p l u).F:=by with_unfolding_all exact zH hK he hl hu
def Hb:OpD K mg (λx y H Q=>rI0 (λi j=>.int (i+j)) x y H Q\/(mz x y H Q\/(jM K x y H Q\/jX K x y H Q))) aM.F:=DB
def F4:OpD K mg (rI0 λi j=>.int (i-j)) df.F:=CS
def FL:OpD K mg (rI CMulA λi j=>.int (i*j)) aA.F:=Hk
def FT:OpD K mg (rI CDivB λi j=>.int (i.fdiv j)) iR.F:=Gn
def EH:OpD K mg (rI (λ_ j=>j≠0) λi j=>.int (i.fmod j)) bZ.F:=G8
def Fs:OpD K mg (rI fM λi j=>.int (i^j.toNat)) fP.F:=Dg
def DF:OpD K mg (rI fM λi j=>.int (i*2^j.toNat)) qz.F:=Ei
def uw:OpD K mg (rI0 λi j=>.bl (decide (i<j))) bLt.F:=Il
def Ka:OpD K mg (rI0 λi j=>.bl (decide (i<=j))) bLe.F:=JX
def zQ:OpD K mg (rI0 λi j=>.bl (decide (j<i))) bGt.F:=Jf
def Ax:OpD K mg (rI0 λi j=>.bl (decide (j<=i))) bGe.F:=IL
def EM:OpD K mg xU uk.F:=Co
def IT:OpD K mg (λx y H Q=>uj K x y H Q\/uC K x y H Q) bIx.F:=Hr
def Ab:OpD K mg (sT K) bEq.F:=Gw
def JB:OpD K mg (tZ K) bNe.F:=FJ
def Fu:OpD K mg (λx y H Q=>y=.non/\Q (.bl (!decide (x=.non))) H) kK.F:=xI
def CP:bg K mg (λxs H Q=>(∃p ys,xs=[.ref p]/\(SqL K H p ys\/SqT K H p ys)/\Q (.int ys.length) H)\/(∃z,xs=[.str z]/\z.length<=sizeLine/\Q (.int z.length) H)) bj.F:=Hq
def Ho:bg K mg (λxs H Q=>∃i,xs=[.int i]/\Q (.int (if i<0 then -i else i)) H) fq.F:=Gb
def BK:bg K mg (λxs H Q=>∃i j,xs=[.int i,.int j]/\Q (.int (if j>i then j else i)) H) qg.F:=B0
def AL:bg K mg (λxs H Q=>∃i j,xs=[.int i,.int j]/\Q (.int (if j<i then j else i)) H) o6.F:=BE
def jx:bg K mg (λxs H Q=>∃(a:Addr) (bs:List Bool),xs=[.ref a]/\SqL K H a (bs.map V.bl)/\Q (.bl (bs.all id)) H) iE.F:=Eg
def pQ:bg K mg (λxs H Q=>∃(a:Addr) (ns:List Int),xs=[.ref a]/\SqL K H a (ns.map V.int)/\Q (.int ns.sum) H) iY.F:=CW
def Cq:bg K mg (λxs H Q=>∃p ys,xs=[.ref p]/\(SqL K H p ys\/SqT K H p ys)/\∀l,H l=none->Q (.ref l) (upd H l (.lst ys))) fH.F:=BJ
def Fg:bg K mg (λxs H Q=>(∃i,xs=[.int i]/\Q (.int i) H)\/∃k,xs=[.bl k]/\Q (.int (if k then 1 else 0)) H) tE.F:=G0
def Fy(ok:KitsOk K mg kt):bg K mg (λxs H Q=>(∃x c t v b,xs=[x,c]/\TyX K H x t/\eF c=some v/\W.kitOne K t v=some b/\Q (.bl b) H)\/
 (∃x tp cs t vs b,xs=[x,.ref tp]/\SqT K H tp cs/\TyX K H x t/\cs.mapM eF=some vs/\W.kitAny K t vs=some b/\Q (.bl b) H)) (a9 kt).F:=Hc ok
def wJ:MtD K mg nq cL.F:=vd
def FH:MtD K mg yn l6.F:=DR
def BV:uo K mg tU seL.F:=sE
def Ea:UnD K mg (rU λi=>.int (-i)) xB.F:=C8
variable{P:Program}{w:World}{base:Heap}{fx:Str}{fst:Stmt}{k n m:Nat}{ps N:List Str}{ms:List Bool}
def okP(D:Def K mg fx fst)(S:FnScope N ps (az fst))
 (hb:∀(kV doc pm:Value) (an:Option Addr) (cdv ct:Value) (us:List Value),us.length=ps.length->bindArgs (W.fnOf fx fx (cW fst) (bF fst) (az fst) .none kV doc pm an cdv ct) ⟨us,[]⟩=pure (ps.zip us))
 (f_:∀(f:Addr) (cdv:Value) (A:Around) (outer:List Env) (s:Shared) (H:Hp) (E:XK),Room k (A.deeper (envOfC fx (az fst) s.heap.objs.size f cdv))->
  DSs K mg (dG (CX1 P w) P w K mg base N fx (az fst) f cdv A outer s H E) (λ_=>E) (bF fst) x.F) (hn:ps.length=n) (hm:N.length=m):Callee P w K mg base fx (k+1) ps (spD K mg n (fnP ms m x).F):=by
 subst hn hm
 with_unfolding_all exact D.okD S hb f_
end
def Fv(b:Bool)(ms:List Bool)(v:Val)(vs:List Val):sls (b::ms) (v::vs)=sl1 b v::sls ms vs:=rfl
def Cy:sls [] []=[]:=rfl
def Ih(v:Val):sl1 true v=.mu v:=rfl
def Jc(v:Val):sl1 false v=.sh v:=rfl
section
variable(e:E3)
def AN:okA e [] []=true:=rfl
def EJ(i:Nat)(ms:List Bool)(ts:List Tm):okA e (true::ms) (.bor i::ts)=(((e[i]?).bind Sl.mv).isSome && !(fN i ts)&&okA e ms ts):=rfl
def Ec(i:Nat)(ms:List Bool)(ts:List Tm):okA e (false::ms) (.bor i::ts)=(!(hE i ms ts)&&okA e ms ts):=rfl
def GO(v:Val)(ms:List Bool)(ts:List Tm):okA e (false::ms) (.val v::ts)=okA e ms ts:=rfl
def yE(i:Nat):fN i []=false:=rfl
def CN(i j:Nat)(ts:List Tm):fN i (.bor j::ts)=((i==j) || fN i ts):=rfl
def FK(i:Nat)(v:Val)(ts:List Tm):fN i (.val v::ts)=fN i ts:=rfl
def yf(i:Nat):hE i [] []=false:=rfl
def FN(i:Nat)(t:Tm)(ms:List Bool)(ts:List Tm):hE i (false::ms) (t::ts)=hE i ms ts:=by cases t <;> rfl
def vH:aO e [] []=[]:=rfl
theorem Cn(i:Nat)(ms:List Bool)(ts:List Tm):aO e (false::ms) (.bor i::ts)=match e[i]? with
 |some (.sh _)=>aO e ms ts
 |_=>i::aO e ms ts:=rfl
def B4(v:Val)(ms:List Bool)(ts:List Tm):aO e (false::ms) (.val v::ts)=aO e ms ts:=rfl
def Ge(t:Tm)(ms:List Bool)(ts:List Tm):aO e (true::ms) (t::ts)=aO e ms ts:=by cases t <;> rfl
end
def wV:bo [] []=[]:=rfl
def BC(b:Bool)(t:Tm)(ms:List Bool)(ts:List Tm):bo (b::ms) (t::ts)=mE b t::bo ms ts:=rfl
def Bm(i:Nat):mE true (.bor i)=some i:=rfl
def Dc(t:Tm):mE false t=none:=by cases t <;> rfl
def xZ(e:E3):aW [] [] e=e:=rfl
def G7(o:Option Nat)(sub:Nd)(s:Sl)(i e:E3):aW (o::sub) (s::i) e=aW sub i (eV o s e):=rfl
theorem AZ(i:Nat)(v:Val)(e:E3):eV (some i) (.mu v) e=match e[i]? with
 |some t=>e.set i (t.re v)
 |none=>e:=rfl
def CM(s:Sl)(e:E3):eV none s e=e:=rfl
def yA(vs:List Val):aN [] vs=[]:=rfl
def El(ms:List Bool)(v:Val)(vs:List Val):aN (true::ms) (v::vs)=.mu v::aN ms vs:=rfl
def Hf(ms:List Bool)(vs:List Val):aN (false::ms) vs=.no::aN ms vs:=by cases vs <;> rfl
def AO(e:E3):muV [] e=some []:=by cases e <;> rfl
def Ir(ms:List Bool)(v:Val)(e:E3):muV (true::ms) (.mu v::e)=(muV ms e).map (v :: ·):=rfl
def IP(ms:List Bool)(s:Sl)(e:E3):muV (false::ms) (s::e)=muV ms e:=by cases s <;> rfl
def vN(v:Val):jB (.val v)=flatV v:=rfl
def vK(v:Val):jB (.new v)=flatC v:=rfl
def nT(xs:List Val):flatC (.lst xs)=flatVs xs:=rfl
def iM:flatVs []=true:=by simp [flatVs]
def fC(v:Val)(vs:List Val):flatVs (v::vs)=(flatV v&&flatVs vs):=by simp [flatVs]
def je(i:Int):flatV (.int i)=true:=by simp [flatV]
def zB(i:Bool):flatV (.bl i)=true:=by simp [flatV]
def xk(i:Str):flatV (.str i)=true:=by simp [flatV]
def nK:flatV .non=true:=by simp [flatV]
def nM(xs:List Val):flatV (.tup xs)=flatVs xs:=by simp [flatV]
theorem iP(f:α->Val)(hf:∀a,flatV (f a)=true):∀l:List α,flatVs (l.map f)=true
 | []=>iM
 |a::l=>by rw[C_,fC,hf a,iP f hf l];rfl
def aS(h0:0<=i)(h:l[i.toNat]?=some x):atI l i=some x:=by
 have hl:=(h_.mp h).1
 unfold atI ixN
 rw[if_pos h0,if_pos (by omega)]
 exact h
def mf(h0:0<=i)(h:i.toNat<n):ixN n i=some i.toNat:=by
 unfold ixN
 rw[if_pos h0,if_pos (by omega)]
section
variable(a b c d e f g h:α)(l:List α)
def ati0:atI (a::l) 0=some a:=aS (by decide) rfl
def ati1:atI (a::b::l) 1=some b:=aS (by decide) rfl
def ati2:atI (a::b::c::l) 2=some c:=aS (by decide) rfl
def ati3:atI (a::b::c::d::l) 3=some d:=aS (by decide) rfl
end
def ixn0(n:Nat):ixN (n+1) 0=some 0:=mf (i:=0) (by decide) (by show 0<n+_;omega)
def ixn1(n:Nat):ixN (n+2) 1=some 1:=mf (i:=1) (by decide) (by show 1<n+_;omega)
theorem Iz(xs:List Val)(k:Int)(v:Val):seL.G (.lst xs) (.int k) v=match ixN xs.length k with
 |some j=>some (.lst (xs.set j v))
 |none=>none:=rfl
mutual
def vq:Val->Val->Bool
 |.non,.non=>true
 |.bl a,.bl b=>a==b
 |.bl a,.int j=>(if a then 1 else 0)==j
 |.int i,.bl b=>i==(if b then 1 else 0)
 |.int i,.int j=>i==j
 |.str x,.str y=>x==y
 |.tup xs,.tup ys=>vqs xs ys
 |.lst xs,.lst ys=>vqs xs ys
 |_,_=>false
def vqs:List Val->List Val->Bool
 | [],[]=>true
 |x::xs,y::ys=>vq x y&&vqs xs ys
 |_,_=>false
end
mutual
def wfV:Nat->Val->Bool
 |_,.non=>true
 |_,.bl _=>true
 |_,.int _=>true
 |_,.str x=>PyData.strOk x
 |k+1,.tup xs=>dM k xs
 |k+1,.lst xs=>dM k xs
 |_,_=>false
def dM:Nat->List Val->Bool
 |_,[]=>true
 |k,x::xs=>wfV k x&&dM k xs
end
mutual
def fO:Val->PyData
 |.bl b=>.bool b
 |.int i=>.int i
 |.str x=>.str x
 |.tup xs=>.tuple (dz xs)
 |.lst xs=>.list (dz xs)
 |_=>.none
def dz:List Val->List PyData
 | []=>[]
 |x::xs=>fO x::dz xs
end
mutual
theorem mM:∀(k:Nat) (v:Val),wfV k v=true->(∀j,k<j->cC j v=some (fO v))/\(fO v).canLay0=true/\(fO v).depth<=k
 |k,.non,_=>⟨λj hj=>by cases j with |zero=>exact absurd hj (Ls _) |succ j=>rfl,rfl,KA _⟩
 |k,.bl b,_=>⟨λj hj=>by cases j with |zero=>exact absurd hj (Ls _) |succ j=>rfl,rfl,KA _⟩
 |k,.int b,_=>⟨λj hj=>by cases j with |zero=>exact absurd hj (Ls _) |succ j=>rfl,rfl,KA _⟩
 |k,.str b,w=>⟨λj hj=>by cases j with |zero=>exact absurd hj (Ls _) |succ j=>rfl,by cases k <;> exact w,KA _⟩
 |0,.tup xs,w=>absurd w p_
 |0,.lst xs,w=>absurd w p_
 |
  k+1,.tup xs,w=>by
  obtain⟨h1,h2,h3⟩:=kU k xs w
  exact⟨λj hj=>by cases j with |zero=>exact absurd hj (Ls _) |succ j=>simp only[cC,fO,h1 j (Nat.lt_of_succ_lt_succ hj),Option.map_some],h2,by simpa [fO,PyData.depth] using h3⟩
 |
  k+1,.lst xs,w=>by
  obtain⟨h1,h2,h3⟩:=kU k xs w
  exact⟨λj hj=>by cases j with |zero=>exact absurd hj (Ls _) |succ j=>simp only[cC,fO,h1 j (Nat.lt_of_succ_lt_succ hj),Option.map_some],h2,by simpa [fO,PyData.depth] using h3⟩
 |k,.ty _,w=>by cases k <;> exact absurd w p_
 |k,.glb _,w=>by cases k <;> exact absurd w p_
 |k,.exc _,w=>by cases k <;> exact absurd w p_
 |k,.kl _,w=>by cases k <;> exact absurd w p_
 |k,.dct _,w=>by cases k <;> exact absurd w p_
 |k,.set _,w=>by cases k <;> exact absurd w p_
theorem kU:∀(k:Nat) (vs:List Val),dM k vs=true->(∀j,k<j->dN j vs=some (dz vs))/\PyData.canLayAll0 (dz vs)=true/\PyData.depthAll (dz vs)<=k
 |k,[],_=>⟨λj hj=>by simp [dN,dz],rfl,KA _⟩
 |
  k,v::vs,w=>by
  have w':(wfV k v&&dM k vs)=true:=w
  rw[k_] at w'
  obtain⟨h1,h2,h3⟩:=mM k v w'.1
  obtain⟨i1,i2,i3⟩:=kU k vs w'.2
  exact⟨λj hj=>by simp [dN,dz,h1 j hj,i1 j hj],by simp [dz,PyData.canLayAll0,h2,i2],Nat.max_le.mpr ⟨h3,i3⟩⟩
end
mutual
theorem vI:∀(k:Nat) (v u:Val),wfV k v=true->wfV k u=true->PyData.eqv (fO v) (fO u)=vq v u
 |
  k,v,u,hv,hu=>by
  cases v <;> first |(cases k <;> exact absurd hv p_) |skip
  all_goals (cases u <;> first |(cases k <;> exact absurd hu p_) |rfl |(cases k with |zero=>exact absurd hv p_ |succ k=>exact rL k _ _ hv hu))
theorem rL:∀(k:Nat) (v u:List Val),dM k v=true->dM k u=true->PyData.eqvAll (dz v) (dz u)=vqs v u
 |_,[],[],_,_=>rfl
 |_,[],_::_,_,_=>rfl
 |_,_::_,[],_,_=>rfl
 |
  k,x::xs,y::ys,hv,hu=>by
  have h1:(wfV k x&&dM k xs)=true:=hv
  have h2:(wfV k y&&dM k ys)=true:=hu
  rw[k_] at h1 h2
  show (PyData.eqv (fO x) (fO y)&&PyData.eqvAll (dz xs) (dz ys))=(vq x y&&vqs xs ys)
  rw[vI k x y h1.1 h2.1,rL k xs ys h1.2 h2.2]
end
def xa(hk:k<=160)(hx:wfV k x=true)(hy:wfV k y=true):cA x y=some (vq x y):=by
 obtain⟨h1,h2,h3⟩:=mM k x hx
 obtain⟨i1,i2,i3⟩:=mM k y hy
 unfold cA
 rw[h1 164 (by omega),i1 164 (by omega)]
 dsimp only
 rw[if_pos ⟨gG h2 (by omega),gG i2 (by omega)⟩,vI k x y hx hy]
def oC(hx:wfV 60 x=true)(hy:wfV 60 y=true):cA x y=some (vq x y):=xa (by decide) hx hy
mutual
def kq:Val->Bool
 |.bl _=>false
 |.tup xs=>gO xs
 |.lst xs=>gO xs
 |.non=>true
 |.int _=>true
 |.str _=>true
 |_=>false
def gO:List Val->Bool
 | []=>true
 |x::xs=>kq x&&gO xs
end
mutual
theorem uU:∀(v u:Val),kq v=true->kq u=true->(vq v u=true ↔ v=u)
 |
  v,u,hv,hu=>by
  cases v <;> first |exact absurd hv p_ |skip
  all_goals (cases u <;> first |exact absurd hu p_ |exact⟨λz=>absurd z p_,λz=>nomatch z⟩ |(simp [vq];done) |skip)
  all_goals
   refine Iff.trans (rM _ _ hv hu) ?_
   constructor
   ·rintro rfl;rfl
   ·intro z;cases z;rfl
theorem rM:∀(v u:List Val),gO v=true->gO u=true->(vqs v u=true ↔ v=u)
 | [],[],_,_=>⟨λ_=>rfl,λ_=>rfl⟩
 | [],_::_,_,_=>⟨λz=>absurd z p_,λz=>nomatch z⟩
 |_::_,[],_,_=>⟨λz=>absurd z p_,λz=>nomatch z⟩
 |
  x::xs,y::ys,hv,hu=>by
  have h1:(kq x&&gO xs)=true:=hv
  have h2:(kq y&&gO ys)=true:=hu
  rw[k_] at h1 h2
  show (vq x y&&vqs xs ys)=true ↔ _
  rw[k_,uU x y h1.1 h2.1,rM xs ys h1.2 h2.2,List.cons.injEq]
end
mutual
theorem jF:∀(k:Nat) (v:Val),wfV k v=true->vq v v=true
 |
  k,v,hv=>by
  cases v <;> first |(cases k <;> exact absurd hv p_) |rfl |exact beq_self_eq_true _ |(cases k with |zero=>exact absurd hv p_ |succ k=>exact pz k _ hv)
theorem pz:∀(k:Nat) (v:List Val),dM k v=true->vqs v v=true
 |_,[],_=>rfl
 |
  k,x::xs,hv=>by
  have h1:(wfV k x&&dM k xs)=true:=hv
  rw[k_] at h1
  show (vq x x&&vqs xs xs)=true
  rw[jF k x h1.1,pz k xs h1.2]
  rfl
end
noncomputable def fV(q:Rat):Val:=.tup [.int q.num,.int q.den]
structure Bx where
 l:Rat
 t:Rat
 w:Rat
 h:Rat
structure Bx.Ok(b:Bx):Prop where
 w:0<b.w
 h:0<b.h
structure Bx.Sz(n:Nat)(b:Bx):Prop where
 l:L2.Sz n b.l
 t:L2.Sz n b.t
 w:L2.Sz n b.w
 h:L2.Sz n b.h
def Bx.Sz.mono{n m:Nat}{b:Bx}(s:b.Sz n)(l:n<=m):b.Sz m:=⟨s.l.mono l,s.t.mono l,s.w.mono l,s.h.mono l⟩
def bV(b:Bx):Val:=.tup [fV b.l,fV b.t,fV b.w,fV b.h]
def F2(e:fV p=fV q):p=q:=by
 unfold fV at e
 simp only[Val.tup.injEq,List.cons.injEq,Val.int.injEq,KG] at e
 rw[fh p,fh q,e.1,e.2]
def tQ(q:Rat)(k:Nat):wfV (k+1) (fV q)=true:=by simp [fV,wfV,dM]
def zM(q:Rat):kq (fV q)=true:=by simp [fV,kq,gO]
def zO(p q:Rat):cA (fV p) (fV q)=some (decide (p=q)):=by
 rw[oC (tQ p 59) (tQ q 59)]
 congr 1
 rw[Mo,uU _ _ (zM p) (zM q),Lw]
 exact⟨F2,λz=>by rw[z]⟩
def H0(q:Rat):flatV (fV q)=true:=by simp [fV,flatV,flatVs]
def Ic(b:Bx):flatV (bV b)=true:=by simp [bV,flatV,flatVs,H0]
def knV:Val->Bool
 |.exc _=>false
 |v=>(tyC v).isSome
def bu:Nat->Val->Bool
 |k+1,.tup xs=>xs.all (bu k)
 |_,v=>knV v
noncomputable def dH:Val->Bool
 |.int _=>true
 |_=>false
noncomputable def aD:Val->Bool
 |.tup [.int a,.int b]=>decide (1<=b)&&decide (Int.gcd a b=1)
 |_=>false
noncomputable def eH:Val->Bool
 |.tup (.int a::_)=>decide (0<a)
 |_=>false
def aR:Val->Bool
 |.tup [a,b,c,d]=>aD a&&(aD b&&(aD c&&(aD d&&(eH c&&eH d))))
 |_=>false
noncomputable def gH:Val->Bool
 |.int i=>decide (1<=i)
 |_=>false
noncomputable def cm:Val->Bool
 |.tup _=>true
 |_=>false
def Ac(h1:1<=b)(h2:Int.gcd a b=1):Val.tup [.int a,.int b]=fV ((a:Rat)/(b:Rat)):=by
 have hb:b≠0:=by omega
 have h:=kX (a:=a) hb
 have s:=Fr.self (by omega) h2
 unfold fV
 rw[<- h.1,<- h.2,s.1,s.2]
def cM(q:Rat):aD (fV q)=true:=by
 show (decide (1<=(q.den:Int))&&decide (Int.gcd q.num q.den=1))=true
 have:=q.den_pos
 rw[F_ (by omega),F_ (mx q)];rfl
def lY(h:aD d=true):∃q,d=fV q:=by
 unfold aD at h
 split at h
 ·simp only[k_,Lw] at h
  exact⟨_,Ac h.1 h.2⟩
 ·cases h
def sf(q:Rat):eH (fV q)=decide (0<q):=by
 show decide (0<q.num)=decide (0<q)
 rw[decide_eq_decide]
 exact sJ
def kS(h:b.Ok):aR (bV b)=true:=by
 show (aD (fV b.l)&&(aD (fV b.t)&&(aD (fV b.w)&&(aD (fV b.h)&&(eH (fV b.w)&&eH (fV b.h))))))=true
 rw[cM,cM,cM,cM,sf,sf,F_ h.w,F_ h.h];rfl
def lO(b:Bx):bu 2 (bV b)=true:=by simp [bV,fV,bu,knV,tyC]
theorem jA(P:E3->Prop):∀(vs acc:List Val) (e:E3),P e->(∀v∈vs,∀e,P e->∃e1 t e2,g v e=some e1/\F e1=.ok t e2/\bY e2 t=some (e2,f v)/\P e2)->acc.length+vs.length<=16777216->∃e',P e'/\lcV g cY F vs acc e=.ok (acc++vs.map f) e'
 | [],acc,e,hp,_,_=>⟨e,hp,by simp [lcV]⟩
 |
  v::vs,acc,e,hp,hf,hl=>by
  obtain⟨e1,t,e2,q1,q2,q3,q4⟩:=hf v (m_ ..) e hp
  obtain⟨e',p',q5⟩:=jA P vs (acc++[f v]) e2 q4 (λu hu=>hf u (i_ _ hu)) (by simp at hl ⊢;omega)
  refine⟨e',p',?_⟩
  unfold lcV
  rw[if_pos (by simp at hl;omega),q1]
  simp only[cY,bR,LV,q2,q3,q5]
  simp
theorem pA(P:E3->Prop):∀(vs:List Val) (e:E3),P e->(∀v∈vs,∀e,P e->∃e1 e2,g v e=some e1/\(B e1=.nx e2\/B e1=.ct e2)/\P e2)->∃e',P e'/\bJ g B vs e=.nx e'
 | [],e,hp,_=>⟨e,hp,rfl⟩
 |
  v::vs,e,hp,hf=>by
  obtain⟨e1,e2,q1,q2,q3⟩:=hf v (m_ ..) e hp
  obtain⟨e',p',q4⟩:=pA P vs e2 q3 λu hu=>hf u (i_ _ hu)
  refine⟨e',p',?_⟩
  rw[d6,q1]
  rcases q2 with q2 |q2 <;> simp only[q2,jK,uc,q4]
theorem eT(f:α->Val):∀(l:List α) (k:Nat),d7 k (l.map f)=(l.zipIdx k).map λp=>.tup [.int (p.2:Nat),f p.1]
 | [],k=>rfl
 |
  a::l,k=>by
  show Val.tup [.int (k:Nat),f a]::d7 (k+1) (l.map f)=_
  rw[eT f l (k+1),List.zipIdx_cons]
  rfl
def sg(l:List Val)(k:Nat):d7 k l=(l.zipIdx k).map λp=>.tup [.int (p.2:Nat),p.1]:=by
 have:=eT id l k
 rwa [List.map_id] at this
noncomputable def rgV(k:Nat):List Val:=(List.range k).map λj=>Val.int (j:Nat)
def ip(h:k<1000000):gu [.int (k:Nat)]=some (rgV k):=by
 simp only[gu]
 rw[if_pos (⟨by omega,by omega⟩:RgB _),G_]
 unfold ur rgV
 simp only[Int.zero_add]
def mF(h0:0<=i)(h:i<1000000):gu [.int i]=some (rgV i.toNat):=by
 have:=ip (k:=i.toNat) (by omega)
 rwa [show ((i.toNat:Nat):Int)=i from by omega] at this
def fdS{α:Type}(r:α->Rt)(e:E3):Option α->SR3
 |some a=>.rt (r a) e
 |none=>.nx e
def cB(r:α->Rt)(e:E3)(a:α):fdS r e (some a)=.rt (r a) e:=rfl
def cz(r:α->Rt)(e:E3):fdS r e none=.nx e:=rfl
theorem bO(f:α->Val)(p:α->Bool)(r:α->Rt)(P:E3->Prop):∀(l:List α) (e:E3),P e->(∀a∈l,∀e,P e->∃e1 e2,g (f a) e=some e1/\P e2/\((p a=true/\B e1=.rt (r a) e2)\/(p a=false/\(B e1=.nx e2\/B e1=.ct e2))))->∃e',P e'/\bJ g B (l.map f) e=fdS r e' (l.find? p)
 | [],e,hp,_=>⟨e,hp,rfl⟩
 |
  a::l,e,hp,hf=>by
  obtain⟨e1,e2,q1,q2,q3⟩:=hf a (m_ ..) e hp
  rw[C_,d6,q1]
  rcases q3 with ⟨c,q3⟩ |⟨c,q3⟩
  ·exact⟨e2,q2,by rw[List.find?_cons,c];simp only[q3,Hw,fdS]⟩
  ·obtain⟨e',p',q4⟩:=bO f p r P l e2 q2 λu hu=>hf u (i_ _ hu)
   refine⟨e',p',?_⟩
   rw[List.find?_cons,c]
   rcases q3 with q3 |q3 <;> simp only[q3,jK,uc,q4]
theorem eS(fv fw:α->Val)(P:E3->Prop):∀(l:List α) (acc:List Val) (e:E3),P e->(∀a∈l,∀e,P e->∃e1 t e2,g (fv a) e=some e1/\F e1=.ok t e2/\bY e2 t=some (e2,fw a)/\P e2)->acc.length+l.length<=16777216->∃e',P e'/\lcV g qY.G F (l.map fv) acc e=.ok (acc++l.map fw) e'
 | [],acc,e,hp,_,_=>⟨e,hp,by simp [lcV]⟩
 |
  v::vs,acc,e,hp,hf,hl=>by
  obtain⟨e1,t,e2,q1,q2,q3,q4⟩:=hf v (m_ ..) e hp
  obtain⟨e',p',q5⟩:=eS fv fw P vs (acc++[fw v]) e2 q4 (λu hu=>hf u (i_ _ hu)) (by simp at hl ⊢;omega)
  refine⟨e',p',?_⟩
  rw[C_]
  unfold lcV
  have cy:qY.G=cY:=rfl
  rw[cy] at q5 ⊢
  rw[if_pos (by simp at hl;omega),q1]
  simp only[cY,bR,LV,q2,q3,q5]
  simp
def AJ(i:Nat)(v:Val)(e:E3):eV (some i) (.sh v) e=e:=rfl
def kF(ms:List Bool)(r:SR3):R3F:=match r with
 |.nx e=>(match muV ms e with |some mv=>.ok (.val .non) mv |none=>.stuck)
 |.rt r e=>(match muV ms e with |some mv=>.ok r mv |none=>.stuck)
 |.exc c e=>(match muV ms e with |some mv=>.exc c mv |none=>.stuck)
 |_=>.stuck
def lG(h:vs.length=ms.length):(fnP ms N c).G vs=kF ms (c.G (sls ms vs++List.replicate (N-vs.length) .no)):=by
 rw[aY,if_pos h];rfl
def jR(ms:List Bool)(r:Rt)(e:E3):kF ms (.rt r e)=match muV ms e with |some mv=>.ok r mv |none=>.stuck:=rfl
def ay{Q:SR3->Prop}(I:E3->Prop){a b:PSt}{e:E3}(h1:∃e1,a.G e=.nx e1/\I e1)(h2:∀e1,I e1->Q (b.G e1)):Q ((ao a b).G e):=by
 obtain⟨e1,q,i⟩:=h1
 rw[Ai,q]
 exact h2 e1 i
def iV(i:Int):Val.tup [.int i,.int 1]=fV (i:Rat):=rfl
noncomputable def sm8(h:m.natAbs<1099511627776):Sm 8000 m:=y_ (show m.natAbs<2^40 from h) (K5 (by decide) (by decide))
def kY(h:m.natAbs<=2000000000000000000000000000000):Sm 101 m:=by unfold Sm;exact LJ h (by decide)
noncomputable def fG{m:Int}(h:m.natAbs<=2000000000000000000000000000000):Sz 101 (m:Rat):=⟨kY h,kY (by show (1:Int).natAbs<=_;decide)⟩
def gi{a b:Int}(hb:b≠0)(h1:a.natAbs<=2000000000000000000000000000000)(h2:b.natAbs<=2000000000000000000000000000000):Sz 101 ((a:Rat)/(b:Rat)):=Sz.div hb (kY h1) (kY h2) 101 (n_ _) (n_ _)
noncomputable def fi{m:Int}(h:0<m):(0:Rat)<(m:Rat):=Rat.intCast_pos.mpr h
def eP{a b:Int}(h1:0<a)(h2:0<b):(0:Rat)<(a:Rat)/(b:Rat):=by
 rw[MF]
 exact Rat.mul_pos (fi h1) (Rat.inv_pos.mpr (fi h2))
structure Good(b:Bx):Prop where
 ok:b.Ok
 sz:b.Sz 101
def jH(h:m.natAbs<=2000000000000000000000000000000):Sm 8000 m:=(kY h).mono (by decide)
section
variable{K:W.Frag}{mg:Na}{X:Cx}{ES:L2.St->XK}{e:Expr}{es:List Expr}{A:PAs}{pos:Pos}
end
def GB(xs ys:List Val):aM.G (.lst xs) (.lst ys)=if xs.length+ys.length<=16777216 then .new (.lst (xs++ys)) else .stuck:=rfl
section
variable{K:W.Frag}{mg:Na}{X:Cx}{ES:L2.St->XK}{e a b c o lo hi:Expr}{p q r:PEx}{pos p1 p2:Pos}
end
theorem ar1{α:Type}{P:List α->Prop}(h:∀a,P [a]):∀us:List α,us.length=1->P us
 | [a],_=>h a
theorem ar2{α:Type}{P:List α->Prop}(h:∀a b,P [a,b]):∀us:List α,us.length=2->P us
 | [a,b],_=>h a b
theorem ar3{α:Type}{P:List α->Prop}(h:∀a b c,P [a,b,c]):∀us:List α,us.length=3->P us
 | [a,b,c],_=>h a b c
section
variable{P:Nat->Prop}{h:AH}
end
def sD:Val->Val->Val->Option Val:=λo i v=>match o with
 |.dct kvs=>(match i with
  |.str k=>if kvs.length<16777216 then some (.dct (putD kvs (.inr k) v)) else none
  |_=>none)
 |_=>none
section
variable{K:W.Frag}{mg:Na}{X:Cx}{ES:L2.St->XK}{a b:Expr}{p q:PEx}{pos:Pos}
end
def yH:List Val->Bv:=λvs=>match vs with
 | [.lst xs]=>(match eB xs with
  |some bs=>.val (.bl (bs.any id))
  |none=>.stuck)
 |_=>.stuck
def DD:RFn pB yH:=λP h ds vs r=>by
 unfold yH
 split
 ·obtain⟨d,hd,rr1⟩:=fS r;subst hd;clear r;have r:=rr1
  obtain⟨n,es,rfl,_,e1,q⟩:=r.lst
  split
  ·rename_i bs e2
   exact⟨_,by unfold pB;dsimp only;rw[e1];show (match fD es with |some bs=>_ |none=>_)=_;rw[Ak q e2],.bl _⟩
  ·trivial
 ·trivial
def ud:PBf:=⟨pB,yH,DD⟩
theorem J9(xs:List Val):ud.G [.lst xs]=match eB xs with
 |some bs=>.val (.bl (bs.any id))
 |none=>.stuck:=rfl
def Fc{K:W.Frag}{mg:Na}:bg K mg (λxs H Q=>∃(a:Addr) (bs:List Bool),xs=[.ref a]/\SqL K H a (bs.map V.bl)/\Q (.bl (bs.any id)) H) ud.F:=EY
end L3
namespace L3
open PySem L2
theorem nS(P:Nat->E3->Prop)(m:Nat)(hs:∀i,i<m->∀e,P i e->∃e1 e2,g (.int (i:Nat)) e=some e1/\(B e1=.nx e2\/B e1=.ct e2)/\P (i+1) e2):∀(k i:Nat) (e:E3),i+k=m->P i e->∃e',P m e'/\bJ g B ((List.range' i k).map λj=>Val.int (j:Nat)) e=.nx e'
 |
  0,i,e,h,p=>by
  obtain rfl:i=m:=by omega
  exact⟨e,p,rfl⟩
 |
  k+1,i,e,h,p=>by
  obtain⟨e1,e2,q1,q2,q3⟩:=hs i (by omega) e p
  obtain⟨e',p',q4⟩:=nS P m hs k (i+1) e2 (by omega) q3
  refine⟨e',p',?_⟩
  rw[List.range'_succ,C_,d6,q1]
  rcases q2 with q2 |q2
  ·simp only[q2,jK];exact q4
  ·simp only[q2,uc];exact q4
def yR(P:Nat->E3->Prop)(m:Nat)(h0:P 0 e)(hs:∀i,i<m->∀e,P i e->∃e1 e2,g (.int (i:Nat)) e=some e1/\(B e1=.nx e2\/B e1=.ct e2)/\P (i+1) e2):∃e',P m e'/\bJ g B (rgV m) e=.nx e':=by
 have:=nS P m hs m 0 e (by omega) h0
 rw[<- List.range_eq_range'] at this
 exact this
def lF(xs:List Val)(n:Nat):fL xs none (some (n:Int))=xs.take n:=by
 unfold fL
 rw[HT.sIx_none,HT.sIx_nat,List.drop_zero,Nat.sub_zero]
 by_cases h:n<=xs.length
 ·rw[My h]
 ·rw[Nat.min_eq_right (by omega),Ll (n_ _),Ll (by omega)]
def kE(xs:List Val)(n:Nat):fL xs (some (n:Int)) none=xs.drop n:=by
 unfold fL
 rw[HT.sIx_none,HT.sIx_nat]
 by_cases h:n<=xs.length
 ·rw[My h,Ll (by rw[KD];exact n_ _)]
 ·rw[Nat.min_eq_right (by omega),List.drop_of_length_le (n_ _),List.drop_of_length_le (by omega),LD]
def mh(xs:List Val)(lo hi:Option Int):aSl (.lst xs) lo hi=.new (.lst (fL xs lo hi)):=rfl
end L3
namespace L3
open PySem PySem.Spec PyProof.Rows L2
def pU(n:Nat)(u:i5):MG3:=λv e=>match v with
 |.tup vs=>if vs.length=n then u vs e else none
 |.lst vs=>if vs.length=n then u vs e else none
 |_=>none
section
variable{gs:MGs}{gs3:i5}
def rg_u(n:Nat)(hs:RGs gs gs3):RG (gU λds ae h=>if ds.length=n then gs ds ae h else .stuck) (pU n gs3):=λX h0 ns e ae h d v e' S r q=>by
 unfold pU at q
 split at q
 ·split at q
  ·rename_i hn
   obtain⟨ds,rfl,r2⟩:=ShR.tup (.inl r)
   obtain⟨b_,ns1,p1,S1,a1⟩:=hs _ _ _ _ _ _ _ _ _ S r2 q
   refine⟨b_,ns1,?_,S1,a1⟩
   unfold gU;dsimp only;rw[if_pos (by rw[r2.len];exact hn)];exact p1
  ·cases q
 ·split at q
  ·rename_i hn
   obtain⟨m,ds,rfl,_,eq,r2⟩:=ShR.lst (.inl r)
   obtain⟨b_,ns1,p1,S1,a1⟩:=hs _ _ _ _ _ _ _ _ _ S r2 q
   refine⟨b_,ns1,?_,S1,a1⟩
   unfold gU;dsimp only;rw[eq];dsimp only;rw[if_pos (by rw[r2.len];exact hn)];exact p1
  ·cases q
 ·cases q
end
def gtU(n:Nat)(a:PGs):PGt:=⟨gU λds ae h=>if ds.length=n then a.F ds ae h else .stuck,pU n a.G,rg_u n a.ok⟩
section
variable{e:E3}
def g_u(n:Nat)(a:PGs)(vs:List Val):(gtU n a).G (.tup vs) e=if vs.length=n then a.G vs e else none:=rfl
def g_uL(n:Nat)(a:PGs)(vs:List Val):(gtU n a).G (.lst vs) e=if vs.length=n then a.G vs e else none:=rfl
end
section
variable{K:W.Frag}{mg:Na}{X:Cx}{es:List Expr}{gs:PGs}{pos:Pos}
def Du{k n:Nat}(hK:X.K=K)(hc:X.calm=true)(h:DGs K mg X (λ_=>E0) es gs.F)(hn:(assignEach es X.env).length=n:=by rfl)(hst:(assignEach es X.env).findIdx? (·.1)=none:=by rfl):DG K mg X (λ_=>E0) (.Tuple es k pos) (gtU n gs).F:=Eh hK hc h hn hst
end
section
variable{K:W.Frag}{mg:Na}{X:Cx}{ES:L2.St->XK}{a:Expr}{A:PAs}{pos q2 p1 p2:Pos}
end
section
variable{K:W.Frag}{mg:Na}{n:Str}{kvs:List (Str×Int)}
end
end L3
namespace L3
open PySem L2
end L3
namespace L3
open PySem PySem.Spec PyProof.Rows L2
section
variable{K:W.Frag}{mg:Na}
end
section
variable{X:Cx}{K:W.Frag}{mg:Na}{ES:L2.St->XK}{e:Expr}{es:List Expr}{A:PAs}{pos:Pos}{x:PSt}
variable{P:Program}{w:World}{base:Heap}{fx:Str}{fst:Stmt}{k n m:Nat}{ps N:List Str}{ms:List Bool}
end
end L3
namespace L3
open PySem L2
end L3
namespace L3
open PySem PySem.Spec PyProof.Rows L2
def mr:Val->List Val->Option (Val×Val):=λu vs=>match u,vs with
 |.lst xs,[.int i,v]=>if 0<=i/\i<=(xs.length:Nat)/\xs.length<16777216 then some (.lst (xs.take i.toNat++v::xs.drop i.toNat),.non) else none
 |_,_=>none
def vT:RM jJ mr:=λP h n o u ds vs u' v e hf r rs q=>by
 unfold mr at q
 split at q
 ·split at q
  ·rename_i hb
   cases q
   obtain⟨q1,es,q2,q3,q4⟩:=oA e r
   cases rs with
   |
    cons r1 rs=>
    obtain⟨d,rfl,rd⟩:=rds1 rs
    obtain rfl:=ShR.int (.inl r1)
    refine⟨q1,.lst (es.take _++d::es.drop _),.non,?_,trivial,.lst ((q3.take _).append (.cons rd (q3.drop _))),.non⟩
    unfold jJ;rw[q4];dsimp only;rw[if_pos (by rw[q3.len];exact hb)]
  ·cases q
 ·cases q
def kM:PMm:=⟨jJ,mr,vT⟩
def xM(xs:List Val)(i:Int)(v:Val):kM.G (.lst xs) [.int i,v]=if 0<=i/\i<=(xs.length:Nat)/\xs.length<16777216 then some (.lst (xs.take i.toNat++v::xs.drop i.toNat),.non) else none:=rfl
def wN{K:W.Frag}{mg:Na}:MtD K mg m9 kM.F:=vE
section
variable{X:Nat->Prop}{h0:Nat}{ns ns1:Ns}{e e1:E3}{ae:AE}{h h1:AH}
end
section
variable{K:W.Frag}{mg:Na}{X:Cx}{ES:L2.St->XK}{re qe al:Expr}{st1:Stmt}{sts:List Stmt}{q:PEx}{y:PSt}{g:PGt}{I1 I2:PIt}{pos p2 p3 p4 p5:Pos}{x:Str}{j t:Nat}{hjt:j≠t}{ow:Bool}{tg oe:Expr}{hsb:(([none]:Nd).filterMap id).Nodup}
end
section
variable{K:W.Frag}{mg:Na}
end
section
variable{K:W.Frag}{mg:Na}{X:Cx}{ES:L2.St->XK}{e o a b:Expr}{es:List Expr}{p q:PEx}{A:PAs}{pos:Pos}
end
section
variable{K:W.Frag}{mg:Na}
end
end L3
namespace L3
open PySem L2
end L3
namespace L3
open PySem PySem.Spec PyProof.Rows L2
section
variable{K:W.Frag}{mg:Na}
end
section
variable{K:W.Frag}{mg:Na}{X:Cx}{ES:L2.St->XK}{e:Expr}{es:List Expr}{p:PEx}{A:PAs}{pos:Pos}
def zcF{f:PFn}{x:Str}{p0:Pos}{k j n:Nat}{ps:List Str}(C:Callee X.prog X.w X.K X.mg X.base x j ps (spD K mg n f.F))(hr:Room k X.A)(ha:DA K mg X ES (e::es) A.F)(hk:j<=k:=by omega)(hg:Gl X x:=by exact rfl)(hx:iC X ES:=by first |exact kc Aa |exact qL |assumption)(hn:f.ms.length=n:=by rfl)(hdb:(x==("__debug__" : Str))=false:=by decide)(he:starEach (e::es) X.env=(false,eval e X.env)::starEach es X.env:=by rfl)(hpl:(backTo pos (starEach es X.env)).any (·.1)=false:=by rfl):DE K mg X ES (.Call (.Name x p0) (e::es) [] pos) (ak f A).F:=zv C (hr.mono hk) hg hx ha hn hdb he hpl
def zsS{ow:Bool}(i:Nat){x:Str}{pos':Pos}(hN:X.N.Nodup)(he:DE K mg X ES e p.F)(hi:X.N[i]?=some x:=by exact rfl)(hx:Loc X.env.scope x:=by first |exact Or.inl rfl |exact Or.inr rfl)(hs:swapsWith e (some (.Name x pos')) pos.line X.env=pure false:=by rfl)(hf:X.fn x=true\/X.env.scope.names.lookup x=some .local:=by first |exact .inl rfl |exact .inr rfl |assumption):DS K mg X ES (.Assign [.Name x pos'] e pos) (aE ow i p).F:=DQ hN hi hx he hs hf
def zgN(i:Nat){x:Str}(hN:X.N.Nodup)(hi:X.N[i]?=some x:=by exact rfl)(hx:Loc X.env.scope x:=by first |exact Or.inl rfl |exact Or.inr rfl)(hf:X.fn x=true\/X.env.scope.names.lookup x=some .local:=by first |exact .inl rfl |exact .inr rfl |assumption):DG K mg X ES (.Name x pos) (gtN i).F:=BG hN hi hx hf
end
def zx:Val->Val->Bv:=λx y=>match x,y with
 |.lst xs,.lst []=>.val (.bl (!xs.isEmpty))
 |_,_=>.stuck
def EB:RO pZ zx:=λP h d1 d2 v1 v2 r1 r2=>by
 unfold zx
 split
 ·obtain⟨n,es,rfl,g1,_,g2⟩:=ShR.lst r1
  obtain⟨m,fs,rfl,g3,_,g4⟩:=ShR.lst r2
  cases g4
  refine⟨_,?_,.bl _⟩
  unfold pZ
  dsimp only
  rw[g1,g3]
  dsimp only
  cases g2 <;> rfl
 ·trivial
def uF:PO2:=⟨pZ,zx,EB⟩
def tI(xs:List Val):uF.G (.lst xs) (.lst [])=.val (.bl (!xs.isEmpty)):=rfl
def G9{K:W.Frag}{mg:Na}:OpD K mg xq uF.F:=B9
end L3
namespace L3
open PySem PySem.Spec PyProof.Rows L2 PySem.W
noncomputable def adr(K:Frag)(x:Str):Addr:=match nsIn K mainGlobals x with
 |some (some (.ref a))=>a
 |_=>0
noncomputable def jt(K:Frag)(x:Str):Bool:=match nsIn K mainGlobals x with
 |some (some (.ref _))=>true
 |_=>false
noncomputable def yF(K:Frag)(x:Str):Bool:=match nsIn K mainGlobals x with
 |some none=>true
 |_=>false
noncomputable def xcB(K:Frag)(C:Addr):Bool:=(clsIn K C).isSome&&(findIn K (.ref C) "__getattribute__" == some (some (.builtin "BaseException.__getattribute__"))&&(findIn K (.ref C) "__getattr__" == some none&&(findIn K (.ref C) "__class__" == some (some (.builtin "object.__class__"))&&(specialIn K (.builtin "object.__class__") "__get__" == some (some (.builtin "getset_descriptor.__get__"))&&(takesIn K (.builtin "object.__class__")==some true&&(mroIn K C (.type "object")==some true&&mroIn K C (.type "BaseException")==some true))))))
noncomputable def hdB(K:Frag)(C:Addr):Bool:=typeIn K (.ref C)==some (.type "type")&&((clsIn K C).isSome&&mroIn K C (.type "BaseException")==some true)
def clA(K:Frag):Cl->Value
 |.b n=>.type n
 |.o x=>.ref (adr K x)
def yK(K:Frag):Cl->Bool
 |.b _=>true
 |.o x=>jt K x
def xy(K:Frag)(p:Cl×Cl×Bool):Bool:=kitOne K (clA K p.1) (clA K p.2.1)==some p.2.2&&(yK K p.1&&yK K p.2.1)
def xkB(K:Frag):Cl->Bool
 |.b _=>true
 |.o x=>xcB K (adr K x)
noncomputable def uz:D->Value->Bool
 |.int i,.int j _=>i==j
 |.str x,.str y _=>x==y
 |.non,.none=>true
 |.bl b,.bool c=>b==c
 |_,_=>false
noncomputable def dV:D->V
 |.int i=>.int i
 |.str x=>.str x
 |.bl b=>.bl b
 |_=>.non
def oE:List D->List Value->Bool
 | [],[]=>true
 |d::ds,v::vs=>uz d v&&oE ds vs
 |_,_=>false
def gcB(K:Frag)(x:Str):D->Bool
 |.tup ds=>(match nsIn K mainGlobals x with
  |some (some (.ref a))=>(match K.lookup a with
   |some ⟨.type "tuple",_,.seq its _,_⟩=>decide (its.size<=1000)&&oE ds its.toList
   |_=>false)
  |_=>false)
 |d=>match nsIn K mainGlobals x with
  |some (some v)=>uz d v
  |_=>false
def bFn:List String:=["abs", "all", "any", "isinstance", "len", "max", "min", "sorted", "sum"]
def bTy:List String:=["bool", "dict", "int", "list", "set", "str", "tuple"]
noncomputable def bIt:List String:=["range", "zip", "enumerate"]
def DK:(bFn.all λn=>bootBuiltins (Str.ofString n)==some (.builtin n))=true:=by decide
def Gk:(bTy.all λn=>bootBuiltins (Str.ofString n)==some (.type n))=true:=by decide
def boF{n:String}(h:bFn.contains n=true):bootBuiltins (Str.ofString n)=some (.builtin n):=Kx.mp (I_.mp DK n (KW.mp h))
def boT{n:String}(h:bTy.contains n=true):bootBuiltins (Str.ofString n)=some (.type n):=Kx.mp (I_.mp Gk n (KW.mp h))
structure Tb where
 us:List Str
 rs:List Str
 hs:List (Str×List Str)
 kt:iQ
 gs:List (Str×D)
def Tb.ok(b:Tb)(K:Frag):Bool:=(bFn++(bTy++bIt)).all (λn=>yF K (Str.ofString n))&&(b.us.all (jt K)&&(b.rs.all (λx=>excIn K (adr K x) kJ "ValueError.__new__" && jt K x)&&(b.hs.all (λp=>hdB K (adr K p.1)&&p.2.all λc=>mroIn K (adr K c) (.ref (adr K p.1))==some true&&jt K c)&&(b.kt.all (λp=>xy K p&&xkB K p.1)&&b.gs.all λp=>gcB K p.1 p.2))))
structure Tx(b:Tb)(K:Frag)(mg:Na):Prop where
 n:∀{n:String},(bFn++(bTy++bIt)).contains n=true->mg (Str.ofString n)=none
 m:∀{x:Str},b.us.contains x=true->mg x=some (.ref (adr K x))
 x:∀{x:Str},b.rs.contains x=true->excIn K (adr K x) kJ "ValueError.__new__"=true
 h:∀{x:Str}{l:List Str},(x,l)∈b.hs->XHand K (adr K x)/\∀c∈l,∀Ce,mg c=some (.ref Ce)->mroIn K Ce (.ref (adr K x))=some true
 k:KitsOk K mg b.kt
 g:∀{x:Str}{d:D},b.gs.lookup x=some d->GC K mg x d
section
variable{K:Frag}{h:Heap}{mg:Na}{x:Str}(X:K.In h)(G:h.Ns mainGlobals mg)
include X G
def oD(e:jt K x=true):mg x=some (.ref (adr K x)):=by
 unfold jt at e
 split at e
 ·rename_i a q
  unfold adr
  rw[q]
  exact mg_of X G q
 ·cases e
def IW(e:yF K x=true):mg x=none:=by
 unfold yF at e
 split at e
 ·rename_i q
  exact mg_none_of X G q
 ·cases e
omit X G in
def Ij{C:Addr}(e:xcB K C=true):XCls K C:=by
 simp only[xcB,k_,Kx] at e
 obtain⟨e1,e2,e3,e4,e5,e6,e7,e8⟩:=e
 exact⟨e1,e2,e3,e4,e5,e6,e7,e8⟩
def Ar{c:Cl}{v:Value}(e:yK K c=true)(q:ClV mg c v):v=clA K c:=by
 cases c with
 |b n=>exact q
 |
  o y=>
  obtain⟨a,rfl,m⟩:=q
  rw[oD X G (show jt K y=true from e)] at m
  cases m
  rfl
omit X G in
def wC{d:D}{v:Value}(e:uz d v=true):RelV (dV d) v/\∀ρ H,RelD K mg ρ H d (dV d):=by
 unfold uz at e
 split at e
 ·cases Kx.mp e;exact⟨⟨_,rfl⟩,λ_ _=>.int _⟩
 ·cases Kx.mp e;exact⟨⟨_,rfl⟩,λ_ _=>.str _⟩
 ·exact⟨rfl,λ_ _=>.non⟩
 ·cases Kx.mp e;exact⟨rfl,λ_ _=>.bl _⟩
 ·cases e
omit X G in
theorem so:∀{ds:List D}{vs:List Value},oE ds vs=true->Vals (ds.map dV) vs/\∀ρ H,RelDs K mg ρ H ds (ds.map dV)
 | [],[],_=>⟨.nil,λ_ _=>.nil⟩
 |
  d::ds,v::vs,e=>by
  rw[oE,k_] at e
  obtain⟨a1,a2⟩:=wC (K:=K) (mg:=mg) e.1
  obtain⟨b1,b2⟩:=so e.2
  exact⟨.cons a1 b1,λρ H=>.cons (a2 ρ H) (b2 ρ H)⟩
 | [],_::_,e=>nomatch e
 |_::_,[],e=>nomatch e
def HJ{d:D}(e:gcB K x d=true):GC K mg x d:=by
 unfold gcB at e
 split at e
 ·rename_i ds
  split at e
  ·rename_i a q
   split at e
   ·rename_i dd its n sl l
    rw[k_] at e
    obtain⟨v1,v2⟩:=so (K:=K) (mg:=mg) e.2
    exact Dr X G q l (x_ (of_decide_eq_true e.1) (by decide)) v1 v2
   ·cases e
  ·cases e
 ·split at e
  ·rename_i v q
   obtain⟨v1,v2⟩:=wC (K:=K) (mg:=mg) e
   exact⟨_,_,mg_of X G q,v1,v2⟩
  ·cases e
omit X G in
theorem wH{d:D}:∀{l:List (Str×D)},l.lookup x=some d->(x,d)∈l
 | [],h=>nomatch h
 |
  (y,e)::l,h=>by
  rw[Li] at h
  split at h
  ·rename_i q
   cases h
   rw[Kx.mp q]
   exact m_
  ·exact i_ _ (wH h)
def JC{b:Tb}(e:b.ok K=true):Tx b K mg:=by
 unfold Tb.ok at e
 simp only[k_] at e
 obtain⟨e1,e2,e3,e4,e5,e6⟩:=e
 simp only[I_,k_] at e1 e2 e3 e4 e5 e6
 refine⟨λh=>IW X G (e1 _ (KW.mp h)),λh=>oD X G (e2 _ (KW.mp h)),λh=>(e3 _ (KW.mp h)).1,λh=>?_,⟨λp hp t v h1 h2=>?_,λp hp x C e' m=>?_⟩,λh=>HJ X G (e6 _ (wH h))⟩
 ·obtain⟨a1,a2⟩:=e4 _ h
  refine⟨?_,λc hc Ce m=>?_⟩
  ·simp only[hdB,k_,Kx] at a1
   exact⟨a1.1,a1.2.1,a1.2.2⟩
  ·obtain⟨b1,b2⟩:=a2 c hc
   rw[oD X G b2] at m
   cases m
   exact Kx.mp b1
 ·obtain⟨a1,_⟩:=e5 p hp
  simp only[xy,k_,Kx] at a1
  rw[Ar X G a1.2.1 h1,Ar X G a1.2.2 h2]
  exact a1.1
 ·obtain⟨a1,a2⟩:=e5 p hp
  simp only[xy,k_,Kx] at a1
  have a3:=a1.2.1
  rw[e'] at a2 a3
  rw[oD X G (show jt K x=true from a3)] at m
  cases m
  exact Ij a2
end
def dNm(s:Stmt):Str:=match s with
 |.FunctionDef n ..=>n
 |_=>""
def AllD(K:Frag)(mg:Na)(top:Nat->Stmt):List Nat->Prop
 | []=>True
 |i::l=>Def K mg (dNm (top i)) (top i)/\AllD K mg top l
theorem AllD.get{K:Frag}{mg:Na}{top:Nat->Stmt}:∀{l:List Nat},AllD K mg top l->∀i,l.contains i=true->Def K mg (dNm (top i)) (top i)
 | [],_,i,h=>nomatch h
 |
  j::l,⟨a,b⟩,i,h=>by
  rcases B_.mp (KW.mp h) with rfl |h
  ·exact a
  ·exact b.get i (KW.mpr h)
structure Ty(b:Tb)(top:Nat->Stmt)(ds:List Nat)(K:Frag)(mg:Na):Prop extends Tx b K mg where
 d:AllD K mg top ds
def scB(N P:List Str)(sc:Scope):Bool:=decide (sc.kind=.function)&&(!sc.isCoroutine&&(!sc.isGenerator&&(decide N.Nodup&&(decide (N.take P.length=P)&&(P.all (λx=>decide (sc.names.lookup x=some .local\/sc.names.lookup x=some .cell))&&sc.names.all λy=>decide (y.2 ≠ .free))))))
def aP{N P:List Str}{sc:Scope}(e:scB N P sc=true):FnScope N P sc:=by
 simp only[scB,k_,Lw,I_,Bool.not_eq_true'] at e
 obtain⟨e1,e2,e3,e4,e5,e6,e7⟩:=e
 exact⟨e1,e2,e3,e4,e5,e6,e7⟩
section
variable{K:W.Frag}{mg:Na}{X:Cx}{ES:L2.St->XK}{e a b c o i tg al c_:Expr}{p q r:PEx}{t u:PTs}{x y:PSt}{g:PGt}{I:PIt}{pos:Pos}
def jl{scope:Scope}(M:List Str)(kn:List (Str×NameKind))(N:List Str)(sub:Nd){hsb:(sub.filterMap id).Nodup}(hi:DI K mg X ES tg al I.F)(hg:N.Nodup->∀cl C s₂ H fp,DG K mg (aQ X N scope cl C s₂ H fp) (λ_=>E0) tg g.F)(he:N.Nodup->∀cl C s₂ H fp,DE K mg (aQ X N scope cl C s₂ H fp) (λ_=>E0) c_ p.F)(hnd:N.Nodup:=by decide)(hc:X.calm=true:=by rfl)(hM:X.N=M:=by rfl)(hkn:X.env.scope.names=kn:=by rfl)(bn:fy M scope.names sub N=true:=by decide)(hk:scope.kind=.function:=by rfl)(hnc:∀x∈scope.names,x.2 ≠ .cell:=by decide)(be:∀x∈scope.names,x.2=.local->scope.names.lookup x.1=some .local:=by decide)(hfr:g0 kn scope.names=true:=by decide)(hsl:sub.length=N.length:=by rfl)(hs:∀x,foldedSetIterable al X.env x=pure x:=by intro _;rfl):DE K mg X ES (.ListComp c_ [⟨tg,al,[],0⟩] scope pos) (pLC I sub hsb g qY p).F:=Jr M kn N sub hc hi (hg hnd) (he hnd) hM hkn bn hk hnc be hfr hsl hs
def zSlc{ow:Bool}{px spos:Pos}{iT:Nat}{xT:Str}{scope:Scope}(hN:X.N.Nodup)(M:List Str)(kn:List (Str×NameKind))(N:List Str)(sub:Nd){hsb:(sub.filterMap id).Nodup}(hi:DI K mg X ES tg al I.F)(hg:N.Nodup->∀cl C s₂ H fp,DG K mg (aQ X N scope cl C s₂ H fp) (λ_=>E0) tg g.F)(he:N.Nodup->∀cl C s₂ H fp,DE K mg (aQ X N scope cl C s₂ H fp) (λ_=>E0) c_ p.F)(hsw:swapsWith (.ListComp c_ [⟨tg,al,[],0⟩] scope pos) (some (.Name xT px)) spos.line X.env=pure true:=by rfl)(hnd:N.Nodup:=by decide)(hc:X.calm=true:=by rfl)(hix:X.N[iT]?=some xT:=by rfl)(hxl:Loc X.env.scope xT:=by first |exact Or.inl rfl |exact Or.inr rfl)(hM:X.N=M:=by rfl)(hkn:X.env.scope.names=kn:=by rfl)(bn:fy M scope.names sub N=true:=by decide)(hk:scope.kind=.function:=by rfl)(hnc:∀x∈scope.names,x.2 ≠ .cell:=by decide)(be:∀x∈scope.names,x.2=.local->scope.names.lookup x.1=some .local:=by decide)(hfr:g0 kn scope.names=true:=by decide)(hsl:sub.length=N.length:=by rfl)(hs:∀x,foldedSetIterable al X.env x=pure x:=by intro _;rfl)(hf:X.fn xT=true\/X.env.scope.names.lookup xT=some .local:=by first |exact .inl rfl |exact .inr rfl |assumption):DS K mg X ES (.Assign [.Name xT px] (.ListComp c_ [⟨tg,al,[],0⟩] scope pos) spos) (aE ow iT (pLC I sub hsb g qY p)).F:=JP M kn N sub hc hN hix hxl hi (hg hnd) (he hnd) hsw hM hkn bn hk hnc be hfr hsl hs hf
end
section
variable{K:W.Frag}{mg:Na}{P:Program}{w:World}{base:Heap}{fx:Str}{fst:Stmt}{k n m:Nat}{ps N:List Str}{ms:List Bool}{x:PSt}
def aX(D:Def K mg fx fst)(S:FnScope N ps (az fst))
 (hb:∀(kV doc pm:Value) (an:Option Addr) (cdv ct:Value) (us:List Value),us.length=ps.length->bindArgs (W.fnOf fx fx (cW fst) (bF fst) (az fst) .none kV doc pm an cdv ct) ⟨us,[]⟩=pure (ps.zip us))
 (f_:N.Nodup->∀(f:Addr) (cdv:Value) (A:Around) (outer:List Env) (s:Shared) (H:Hp) (E:XK),Room k (A.deeper (envOfC fx (az fst) s.heap.objs.size f cdv))->
  DSs K mg (dG (CX1 P w) P w K mg base N fx (az fst) f cdv A outer s H E) (λ_=>E) (bF fst) x.F) (hn:ps.length=n:=by rfl) (hm:N.length=m:=by rfl):Callee P w K mg base fx (k+1) ps (spD K mg n (fnP ms m x).F):=okP D S hb (f_ S.nd) hn hm
end
end L3
namespace L3
open PySem PySem.Spec PyProof.Rows L2
def oJ(M:ME)(k:Int->ME):ME:=λae h=>(M ae h).bind λd h1=>match d with
 |.int i=>k i ae h1
 |_=>.stuck
def zU(M:ME3)(k:Int->ME3):ME3:=λe=>(M e).bind λt e1=>match t with
 |.val (.int i)=>k i e1
 |_=>.stuck
def B6{M:ME}{M3:ME3}{k:Int->ME}{k3:Int->ME3}(hM:RE M M3)(hk:∀i,RE (k i) (k3 i)):RE (oJ M k) (zU M3 k3):=λX h0 L ns e ae h S hl=>
 Po.bind S (hM X h0 L ns e ae h S hl) λd1 t1 h1 ns1 e1 a1 S1 r1=>by
  cases t1 with
  |
   val v=>
   cases v with
   |
    int i=>
    have q:d1=D.int i:=ShR.int (.inl r1)
    subst q
    exact hk i X h0 L ns1 e1 ae h1 S1 (x_ hl a1.len)
   |_=>trivial
  |_=>trivial
def ue(m:PEx)(k:Int->PEx):PEx:=⟨oJ m.F λi=>(k i).F,zU m.G λi=>(k i).G,B6 m.ok λi=>(k i).ok⟩
theorem GA(m:PEx)(k:Int->PEx)(e:E3):(ue m k).G e=(m.G e).bind λt e1=>match t with
 |.val (.int i)=>(k i).G e1
 |_=>.stuck:=rfl
section
variable{K:W.Frag}{mg:Na}{X:Cx}{ES:L2.St->XK}{a b c:Expr}{F G M:ME}{pos p2:Pos}{ρ:List Addr}{H:Hp}{h:AH}{ae:AE}{σ:L2.St}
def Es{n:Int}{r r':R2}{g g':D->D->AH->R D}(hd:OpD K mg r g)(hd':OpD K mg r' g')(Q:VK)(q:rdE K mg ES (oJ M λi=>oR (eOp g (eC (.int n)) (eC (.int i))) (eOp g' (eC (.int i)) G)) σ H Q):uW r r' (λ_ H Q=>Q (.int n) H) (rdE K mg ES M) (rdE K mg ES G) σ H Q:=by
 obtain⟨ρ,h,ae,w,re,p⟩:=q
 refine⟨ρ,h,ae,w,re,p.bind.imp λdy h1 ρ1 H1 l1 w1 p1 y ry=>?_⟩
 split at p1
 ·rename_i i
  cases ry
  refine hd ρ1 h1 H1 (.int n) (.int i) _ _ _ (ES σ) w1 (.int n) (.int i) ?_
  have p2:PostG K mg ρ1 H1 (ES σ) (λd _ ρ' H'=>∀v,RelD K mg ρ' H' d v->Q v H') ((g (.int n) (.int i) h1).bind λz h3=>(asB z h3).bind λb h4=>if b=true then (eOp g' (eC (.int i)) G) ae h4 else .ok (.bl false) h4):=by
   exact p1
  refine p2.bind.imp λz h3 ρ3 H3 l3 w3 p3 vz rz=>?_
  unfold asB at p3
  split at p3
  ·rename_i b'
   cases rz
   refine⟨b',rfl,?_⟩
   cases b' with
   |
    true=>
    have p4:PostG K mg ρ3 H3 (ES σ) (λd _ ρ' H'=>∀v,RelD K mg ρ' H' d v->Q v H') ((G ae h3).bind λdw h5=>g' (.int i) dw h5):=p3
    exact⟨ρ3,h3,ae,w3,(re.mono l1).mono l3,p4.bind.imp λdw h5 ρ5 H5 l5 w5 p5 w' rw'=>hd' ρ5 h5 H5 (.int i) dw _ w' Q _ w5 (.int i) rw' p5⟩
   |false=>exact p3 ρ3 H3 Le.refl w3 _ (.bl false)
  ·exact p3.elim
 ·exact p1.elim
def Bh{Q:Bool->Hp->Prop}{E:XK}{A:ME}(p:tV K mg ρ H Q E (tOf A ae h)):c7 K mg ρ H (λx H'=>∃k,x=.bl k/\Q k H') E (A ae h):=by
 unfold tOf at p
 cases qa:A ae h with
 |stuck=>rw[qa] at p;exact p
 |exc c h1=>rw[qa] at p;exact p
 |
  ok x h1=>
  rw[qa] at p
  cases x with
  |bl b=>exact λρ' H' l w v rv=>by cases rv;exact⟨b,rfl,p ρ' H' l w⟩
  |_=>exact p.elim
def G4{n:Int}{j:Nat}{p0:Pos}{op op':CmpOp}{r r':R2}{g g':D->D->AH->R D}(ho:OpR X (compareOp op) r)(hd:OpD K mg r g)(ho':OpR X (compareOp op') r')(hd':OpD K mg r' g')(hb:L2.DE K mg X ES b M)(hc:L2.DE K mg X ES c G)(hm:lastMarks [op,op'] [b,c]=false):L2.DT K mg X ES (.Compare (.Constant (.int n) j p0) [op,op'] [b,c] pos) (tOf (oJ M λi=>oR (eOp g (eC (.int n)) (eC (.int i))) (eOp g' (eC (.int i)) G))):=
 PT.imp (ya ho ho' vn hb hc hm) λσ H Q q_=>q_.el λρ h ae w re p=>Es hd hd' _ ⟨ρ,h,ae,w,re,Bh p⟩
def CO{n:Int}{j:Nat}{p0:Pos}{op op':CmpOp}{r r':R2}{k k':PO2}{m q:PEx}(ho:OpR X (compareOp op) r)(hd:OpD K mg r k.F)(ho':OpR X (compareOp op') r')(hd':OpD K mg r' k'.F)(hb:DE K mg X ES b m.F)(hc:DE K mg X ES c q.F)(hm:lastMarks [op,op'] [b,c]=false:=by with_unfolding_all rfl):DT K mg X ES (.Compare (.Constant (.int n) j p0) [op,op'] [b,c] pos) (qOf (ue m λi=>dg (pOp k (ah n) (ah i)) (pOp k' (ah i) q))).F:=by with_unfolding_all exact G4 ho hd ho' hd' hb hc hm
end
def yj(j a b:Nat):MS:=fJ (eFn gB (gF (eOp gIx (aH j) (aH b)) (gF (eOp gIx (aH j) (aH a)) ji))) (λd ae h=>noX (gT (λds ae h=>if ds.length=2 then gsC (gS (aH j) (aH a) wL) (gsC (gS (aH j) (aH b) wL) gsN) ds ae h else .stuck) d ae h))
def zI(j a b:Nat):MS3:=λe=>match e[j]?,e[a]?,e[b]? with
 |some s,some (.sh (.int p)),some (.sh (.int q))=>(match s.mv with
  |some (.lst vs)=>(match atI vs q,atI vs p,ixN vs.length p,ixN vs.length q with
   |some u,some v,some x,some y=>.nx (e.set j (s.re (.lst ((vs.set x u).set y v))))
   |_,_,_,_=>.stuck)
  |_=>.stuck)
 |_,_,_=>.stuck
def Dx(j a b:Nat):RS (yj j a b) (zI j a b):=λX h0 ns e ae h S=>by
 unfold zI
 split
 ·rename_i s p q qj qa qb
  split
  ·rename_i vs qm
   split
   ·rename_i u v x y au av ix iy
    obtain⟨n,o,k1,k2,k3,k4,k5⟩:=S.write qj qm
    cases k4 with
    |
     lst rr=>
     rename_i ds
     obtain⟨_,da,ea,ra⟩:=S.sl a _ qa
     obtain⟨_,db,eb,rb⟩:=S.sl b _ qb
     obtain rfl:da=D.int p:=ShR.int (.inl ra)
     obtain rfl:db=D.int q:=ShR.int (.inl rb)
     obtain⟨du,hu,ru⟩:=ua rr au
     obtain⟨dv,hv,rv⟩:=ua rr av
     obtain⟨_,S',st⟩:=k5 (.lst ((ds.set x du).set y dv)) (.lst ((vs.set x u).set y v)) trivial (.lst (Rds.set rv y (Rds.set ru x rr)))
     refine⟨ae,_,ns,?_,st,S'⟩
     have lt:=bW k2
     have vj:∀h',aH j ae h'=.ok (.ref n) h':=λh'=>by unfold aH;rw[k1]
     have va:∀h',aH a ae h'=.ok (.int p) h':=λh'=>by unfold aH;rw[ea]
     have vb:∀h',aH b ae h'=.ok (.int q) h':=λh'=>by unfold aH;rw[eb]
     have it:eQ h (.ref n)=some ds:=by unfold eQ aT;dsimp only;rw[k2]
     have g1:gIx (.ref n) (.int q) h=.ok du h:=by unfold gIx;rw[it];dsimp only;rw[hu]
     have g2:gIx (.ref n) (.int p) h=.ok dv h:=by unfold gIx;rw[it];dsimp only;rw[hv]
     have w1:wL (.ref n) (.int p) du h=.ok () (h.set n (.lst (ds.set x du))):=by unfold wL;dsimp only;rw[k2];dsimp only;rw[rr.len,ix]
     have w2:wL (.ref n) (.int q) dv (h.set n (.lst (ds.set x du)))=.ok () (h.set n (.lst ((ds.set x du).set y dv))):=by
      unfold wL
      dsimp only
      rw[bI lt]
      dsimp only
      rw[A_,rr.len,iy]
      dsimp only
      rw[List.set_set]
     have tup:eFn gB (gF (eOp gIx (aH j) (aH b)) (gF (eOp gIx (aH j) (aH a)) ji)) ae h=.ok (.tup [du,dv]) h:=by
      simp only[eFn,gF,ji,eOp,vj,va,vb,dn,g1,g2,gB]
      rfl
     have s1:gS (aH j) (aH a) wL du ae h=.ok ae (h.set n (.lst (ds.set x du))):=by simp only[gS,vj,va,dn,w1]
     have s2:gS (aH j) (aH b) wL dv ae (h.set n (.lst (ds.set x du)))=.ok ae (h.set n (.lst ((ds.set x du).set y dv))):=by simp only[gS,vj,vb,dn,w2]
     unfold yj fJ
     rw[tup]
     show ((noX ((gS (aH j) (aH a) wL du ae h).bind λam h'=>gsC (gS (aH j) (aH b) wL) gsN [dv] am h')).toS ae λam h2=>SR.nx am h2)=_
     rw[s1]
     show ((noX ((gS (aH j) (aH b) wL dv ae (h.set n (.lst (ds.set x du)))).bind λam h'=>gsN [] am h')).toS ae λam h2=>SR.nx am h2)=_
     rw[s2]
     rfl
   ·trivial
  ·trivial
 ·trivial
def um(j a b:Nat):PSt:=⟨yj j a b,zI j a b,Dx j a b⟩
theorem IU(j a b:Nat)(e:E3):(um j a b).G e=match e[j]?,e[a]?,e[b]? with
 |some s,some (.sh (.int p)),some (.sh (.int q))=>(match s.mv with
  |some (.lst vs)=>(match atI vs q,atI vs p,ixN vs.length p,ixN vs.length q with
   |some u,some v,some x,some y=>.nx (e.set j (s.re (.lst ((vs.set x u).set y v))))
   |_,_,_,_=>.stuck)
  |_=>.stuck)
 |_,_,_=>.stuck:=rfl
section
variable{K:W.Frag}{mg:Na}{X:Cx}{ES:L2.St->XK}{e o i t1 t2:Expr}{pos p2:Pos}{j a b:Nat}
def xb(ho:DE K mg X ES o (af j).F)(hi:DE K mg X ES i (af a).F)
 (ha:∀v,assign (.Subscript o i pos) X.env v=(do
  let ov <- holding [v] (eval o X.env)
  let iv <- holding [v,ov] (eval i X.env)
  standAt pos
  holding [v,ov,iv] (setItem ov iv v)
  release [v,ov,iv] []):=by intro _;rfl):DG K mg X ES (.Subscript o i pos) (gS (aH j) (aH a) wL):=by with_unfolding_all exact u4 ho hi o3 sE ha
def C4{k:Nat}(he:DE K mg X ES e (aG (aa (pOp bIx (af j) (af b)) (aa (pOp bIx (af j) (af a)) ag))).F)(h1:DG K mg X (λ_=>E0) t1 (gS (aH j) (aH a) wL))(h2:DG K mg X (λ_=>E0) t2 (gS (aH j) (aH b) wL))(hK:X.K=K:=by rfl)(hc:X.calm=true:=by rfl)
 (hs1:(assignEach [t1,t2] X.env).map (·.2)=assign t1 X.env::(assignEach [t2] X.env).map (·.2):=by rfl) (hs2:(assignEach [t2] X.env).map (·.2)=assign t2 X.env::(assignEach [] X.env).map (·.2):=by rfl) (hn:(assignEach [t1,t2] X.env).length=2:=by rfl) (hst:(assignEach [t1,t2] X.env).findIdx? (·.1)=none:=by rfl)
 (hs:swapsWithSole [.Tuple [t1,t2] k p2] e pos.line X.env=pure false:=by rfl) (hw:swappedStores [.Tuple [t1,t2] k p2] e X.env=pure none:=by rfl) (ha:(assignEach [.Tuple [t1,t2] k p2] X.env).map (·.2)=[assign (.Tuple [t1,t2] k p2) X.env]:=by rfl):DS K mg X ES (.Assign [.Tuple [t1,t2] k p2] e pos) (um j a b).F:=by
 with_unfolding_all exact qH he (DG.weak (wY hK hc (kz h1 (kz h2 sM hs2) hs1) hn hst)) hs hw ha
end
mutual
def apV(k:List Val->Bool):Val->Bool
 |.tup xs=>bU k xs
 |.lst xs=>k xs&&bU k xs
 |.kl _=>false
 |.dct _=>false
 |.set _=>false
 |_=>true
def bU(k:List Val->Bool):List Val->Bool
 | []=>true
 |v::vs=>apV k v&&bU k vs
end
theorem kB{k:List Val->Bool}:∀{vs:List Val},(∀v∈vs,apV k v=true)->bU k vs=true
 | [],_=>by rw[bU]
 |v::vs,h=>by rw[bU,h v (m_ ..),kB λu hu=>h u (i_ _ hu)];rfl
section
variable{P P':Nat->Prop}{h h':AH}{k:List Val->Bool}
def ap2{xs:List Val}(f:apV k (.lst xs)=true):k xs=true/\bU k xs=true:=by
 rw[apV,k_] at f
 exact f
def Rd.apt(hm:∀n o ys,P n->h[n]?=some o->Rc P h o (.lst ys)->k ys=true->P' n)(r:Rd P h d v):apV k v=true->Rd P' h d v:=
 @Rd.rec P h (λd v _=>apV k v=true->Rd P' h d v) (λo v _=>apV k v=true->Rc P' h o v) (λds vs _=>bU k vs=true->Rds P' h ds vs) (λws us _=>True)
  (λ_=>.non) (λb _=>.bl b) (λi _=>.int i) (λx _=>.str x) (λn _=>.ty n) (λx _=>.glb x) (λx _=>.exc x)
  (λ_ ih f=>.tup (ih (by rw[apV] at f;exact f))) (λ_ _ f=>by simp [apV] at f)
  (λp e r ih f=>.cell (by cases r with
   |lst r=>exact hm _ _ _ p e (.lst r) (ap2 f).1
   |fz r=>simp [apV] at f
   |dct r=>simp [apV] at f
   |set r=>simp [apV] at f) e (ih f))
  (λ_ ih f=>.lst (ih (ap2 f).2)) (λ_ _ f=>by simp [apV] at f) (λ_ _ f=>by simp [apV] at f) (λ_ f=>by simp [apV] at f)
  (λ_=>.nil) (λ_ _ ih1 ih2 f=>by rw[bU,k_] at f;exact .cons (ih1 f.1) (ih2 f.2)) trivial (λ_ _ _ _=>trivial) d v r
def Rds.apt(hm:∀n o ys,P n->h[n]?=some o->Rc P h o (.lst ys)->k ys=true->P' n){ds:List D}{vs:List Val}(r:Rds P h ds vs)(f:bU k vs=true):Rds P' h ds vs:=
 r.ind (M:=λds vs=>bU k vs=true->Rds P' h ds vs) (λ_=>.nil) (λr _ ih f=>by
  rw[bU,k_] at f
  exact .cons (r.apt hm f.1) (ih f.2)) f
def Rd.uni(r:Rd P h d v):∀v',Rd P' h d v'->v'=v:=
 @Rd.rec P h (λd v _=>∀v',Rd P' h d v'->v'=v) (λo v _=>∀v',Rc P' h o v'->v'=v) (λds vs _=>∀vs',Rds P' h ds vs'->vs'=vs) (λws us _=>∀us',Rk P' h ws us'->us'=us)
  (λ_ q=>by cases q;rfl) (λ_ _ q=>by cases q;rfl) (λ_ _ q=>by cases q;rfl) (λ_ _ q=>by cases q;rfl) (λ_ _ q=>by cases q;rfl) (λ_ _ q=>by cases q;rfl) (λ_ _ q=>by cases q;rfl)
  (λ_ ih _ q=>by cases q with |tup q=>rw[ih _ q]) (λ_ ih _ q=>by cases q with |kl q=>rw[ih _ q])
  (λ_ e _ ih _ q=>by cases q with |cell _ e' q=>rw[e] at e';cases e';exact ih _ q)
  (λ_ ih _ q=>by cases q with |lst q=>rw[ih _ q]) (λ_ ih _ q=>by cases q with |fz q=>rw[ih _ q]) (λ_ ih _ q=>by cases q with |dct q=>rw[ih _ q]) (λ_ _ q=>by cases q;rfl)
  (λ_ q=>by cases q;rfl) (λ_ _ ih1 ih2 _ q=>by cases q with |cons q1 q2=>rw[ih1 _ q1,ih2 _ q2])
  (λ_ q=>by cases q;rfl) (λ_ _ ih1 ih2 _ q=>by cases q with |cons q1 q2=>rw[ih1 _ q1,ih2 _ q2]) d v r
def Rds.uni{ds:List D}{vs:List Val}(r:Rds P h ds vs):∀vs',Rds P' h ds vs'->vs'=vs:=
 r.ind (M:=λds vs=>∀vs',Rds P' h ds vs'->vs'=vs) (λ_ q=>by cases q;rfl) (λr _ ih _ q=>by cases q with |cons q1 q2=>rw[r.uni _ q1,ih _ q2])
end
def Kp(e:E3)(is:List Nat)(r:Rt)(mv:List Val):Prop:=∃(k:List Val->Bool) (us:List Val),r=.new (.lst us)/\(∀i∈is,∃xs,(e[i]?).bind Sl.val=some (.lst xs)/\k xs=false)/\bU k us=true/\mv.all flatC=true
section
variable{X:Nat->Prop}{h0 L:Nat}{ns:Ns}{e:E3}{ae:AE}{h:AH}{ms:List Bool}{ts:List Tm}{ds:List D}{vs:List Val}{S2:Fn}{G3:Fn3}{r:Rt}{mv:List Val}
def u7(S:Sat X h0 ns e ae h)(hL:L<=h.length)(rt:TsR X ns ae h ds ts)(qv:rss e ts=some vs)(ok:okA e ms ts=true)(hG:RF ms S2 G3)(q:G3 vs=.ok r mv)(hk:Kp e (aO e ms ts) r mv):
 Po X h0 ns e ae h (relE X h0 L ae) (S2 ds h) (.ok (r.tm ts) (aW (bo ms ts) (aN ms mv) e)):=by
 obtain⟨k,us,rfl,hl,ha,hf⟩:=hk
 have p:=hG _ _ ds vs h (by rw[ij qv,eZ ok]) (kL S rt qv ok)
 rw[q] at p
 obtain⟨d,h',p1,a,n,o,z1,z2,z3,z4,z5,S3,z7⟩:=p
 have K:=kN (vs:=vs) ok
 have xcl:∀n,X n->n<h.length:=S.xl
 have hnx:¬ X n:=λy=>by have:=xcl n y;omega
 obtain⟨S4,a4⟩:=S.back (Y:=Xn X n) K a (λm z=>by
  rcases z with z |rfl
  ·exact⟨y_ (xcl m z) a.len,.inl z⟩
  ·exact⟨bW z4,.inr z2⟩) (λ_ z=>.inl z) λj w n' q1 q2=>by
  obtain⟨s,u,o,b1,b2,b3,b4,b5,b6,b7⟩:=S3.own q2
  rw[q1] at b1;cases b1;cases b3
  exact⟨o,b5,b6,b7.flat (I_.mp hf w (dm q1))⟩
 refine⟨d,h',ns,p1,a4,S4.weak λ_ z=>.inl z,n,o,z1,x_ hL z2,hnx,z4,z5,S4,?_⟩
 have nm:∀m,some m∉bE (bo ms ts) ns->¬ Mt (bE (bo ms ts) ns) (sls ms vs) m:=λm y ⟨i,s,w,_⟩=>y (aU.mpr ⟨i,w⟩)
 cases z7 with
 |
  lst r7=>
  refine .lst (r7.apt (k:=k) (λm o' ys z y r' hy=>?_) ha)
  by_cases w:X m\/some m∈ns
  ·exfalso
   have hz:∃i,i∈aO e ms ts/\ns[i]?=some (some m):=Lx λc=>z.1 (.inl ⟨w,z.2,λi hi c2=>c ⟨i,hi,c2⟩⟩)
   obtain⟨i,hi,ni⟩:=hz
   obtain⟨s,v,o1,b1,b2,b3,b4,b5,b6,b7⟩:=S.own ni
   obtain⟨xs,x1,x2⟩:=hl i hi
   rw[b1] at x1
   rw[show (some s).bind Sl.val=s.val from rfl,b3] at x1
   cases x1
   have y2:=a.keep m o1 b5 (nm m z.2)
   rw[y] at y2
   cases y2
   have r2:Rc (Oc (Xn (Xc X ns e ms ts) n) (bE (bo ms ts) ns)) h' o' (.lst xs):=b7.mono λn' o'' c1 c2=>⟨⟨λc3=>by
    rcases c3 with c3 |c3
    ·rcases c3.1 with c4 |c4
     ·exact c1.1 c4
     ·exact c1.2 c4
    ·have:=bW c2;omega,λc3=>c1.2 (gp c3)⟩,a.keep n' o'' c2 (nm n' λc3=>c1.2 (gp c3))⟩
   cases r2 with
   |
    lst r2=>
    cases r' with
    |
     lst r'=>
     rw[r2.uni _ r'] at hy
     rw[x2] at hy
     cases hy
  ·exact⟨λc=>by
    rcases c with c |c
    ·exact w (.inl c)
    ·exact z.1 (.inr c),λc=>w (.inr c)⟩
open Classical in
def l7(ms:List Bool)(G:Fn3)(A:MA3):ME3:=λe=>(A e).bind λts e1=>match rss e1 ts with
 |none=>.stuck
 |some vs=>if okA e1 ms ts=true then (match G vs with
  |.ok r mv=>if Kp e1 (aO e1 ms ts) r mv then .ok (r.tm ts) (aW (bo ms ts) (aN ms mv) e1) else .stuck
  |_=>.stuck) else .stuck
def zJ(hn:n=ms.length)(hG:RF ms S2 G3)(hA:RA A A3):RE (lT n S2 A) (l7 ms G3 A3):=λX h0 L ns e ae h S hl=>
 Po.bind
  S (hA X h0 ns e ae h S) λds ts h1 ns1 e1 a1 S1 r1=>by
  try dsimp only
  cases qv:rss e1 ts with
  |none=>trivial
  |
   some vs=>
   dsimp only
   by_cases ok:okA e1 ms ts=true
   ·rw[if_pos ok]
    have bi:ds.length=n:=by rw[hn,eZ ok];exact TsR.len r1
    rw[if_pos bi]
    have hL:L<=h1.length:=x_ hl a1.len
    cases q:G3 vs with
    |stuck=>trivial
    |exc c mv=>trivial
    |
     ok r mv=>
     dsimp only
     by_cases hf:Kp e1 (aO e1 ms ts) r mv
     ·rw[if_pos hf]
      exact u7 S1 hL r1 qv ok hG q hf
     ·rw[if_neg hf];trivial
   ·rw[if_neg ok];trivial
end
def ir(f:PFn)(a:PAs):PEx:=⟨lT f.ms.length f.F a.F,l7 f.ms f.G a.G,zJ rfl f.ok a.ok⟩
def sy(f:PFn)(a:PAs)(h1:a.G e=.ok ts e1)(h2:rss e1 ts=some vs)(h3:okA e1 f.ms ts=true)(h4:f.G vs=.ok r mv)(h5:Kp e1 (aO e1 f.ms ts) r mv):(ir f a).G e=.ok (r.tm ts) (aW (bo f.ms ts) (aN f.ms mv) e1):=by
 show l7 f.ms f.G a.G e=_
 unfold l7
 rw[h1]
 show (match rss e1 ts with |none=>R3.stuck |some vs=>_)=_
 rw[h2]
 dsimp only
 rw[if_pos h3,h4]
 dsimp only
 rw[if_pos h5]
section
variable{K:W.Frag}{mg:Na}{X:Cx}{ES:L2.St->XK}{e:Expr}{es:List Expr}{pos:Pos}{A:PAs}
def zcK{f:PFn}{x:Str}{p0:Pos}{k j n:Nat}{ps:List Str}(C:Callee X.prog X.w X.K X.mg X.base x j ps (spD K mg n f.F))(hr:Room k X.A)(ha:DA K mg X ES (e::es) A.F)(hk:j<=k:=by omega)(hg:Gl X x:=by exact rfl)(hx:iC X ES:=by first |exact kc Aa |exact qL |assumption)(hn:f.ms.length=n:=by rfl)(hdb:(x==("__debug__" : Str))=false:=by decide)(he:starEach (e::es) X.env=(false,eval e X.env)::starEach es X.env:=by rfl)(hpl:(backTo pos (starEach es X.env)).any (·.1)=false:=by rfl):DE K mg X ES (.Call (.Name x p0) (e::es) [] pos) (ir f A).F:=zcF C hr ha hk hg hx hn hdb he hpl
end
end L3
namespace L3
open PySem L2
noncomputable def shL(s l:Rat)(W:Int):Int->List Int->List (Rat×Rat)
 |_,[]=>[]
 |a,w::ws=>(s+l*((a:Rat)/(W:Rat)),l*((w:Rat)/(W:Rat)))::shL s l W (a+w) ws
theorem sv(s l:Rat)(W:Int):∀(ws:List Int) (a:Int),(shL s l W a ws).length=ws.length
 | [],_=>rfl
 |w::ws,a=>by unfold shL;rw[Em,Em,sv s l W ws (a+w)]
def cT(b:Bx)(way:Str)(ws:List Int):List Bx:=if way="across" then (shL b.l b.w ws.sum 0 ws).map λp=>⟨p.1,b.t,p.2,b.h⟩ else (shL b.t b.h ws.sum 0 ws).map λp=>⟨b.l,p.1,b.w,p.2⟩
theorem jg:∀{l:List Int},(∀w∈l,1<=w)->(l.length:Int)<=l.sum
 | [],_=>by simp
 |
  x::l,h=>by
  rw[Kq,Em]
  have:=h x (m_ ..)
  have:=jg (l:=l) λw hw=>h w (i_ _ hw)
  omega
theorem rS:∀(ws:List Int) (a:Int),0<=a->(∀w∈ws,1<=w)->a+ws.sum<=W->p∈shL s l W a ws->∃a' w:Int,0<=a'/\a'<=W/\1<=w/\w<=W/\p=(s+l*((a':Rat)/(W:Rat)),l*((w:Rat)/(W:Rat)))
 | [],_,_,_,_,h=>nomatch h
 |
  w::ws,a,ha,hw,hs,h=>by
  have h1:=hw w (m_ ..)
  have h2:=jg (l:=ws) λx hx=>hw x (i_ _ hx)
  rw[Kq] at hs
  unfold shL at h
  rcases B_.mp h with rfl |h
  ·exact⟨a,w,ha,by omega,h1,by omega,rfl⟩
  ·exact rS ws (a+w) (by omega) (λx hx=>hw x (i_ _ hx)) (by omega) h
def liV(l:List Int):Val:=.lst (l.map .int)
noncomputable def wsAt(ws:List Int)(i:Int):Int:=ws.getD i.toNat 0
def wt(ws l:List Int):Int:=(l.map (wsAt ws)).sum
end L3
namespace L3
open PySem PySem.Spec PyProof.Rows L2
inductive AT where
 |lf (k:Nat)
 |nd (w:Bool) (ts:List AT)
def wy(w:Bool):Str:=if w=true then "across" else "down"
def AT.ind{P:AT->Prop}(h1:∀k,P (.lf k))(h2:∀w ts,(∀t∈ts,P t)->P (.nd w ts))(t:AT):P t:=
 @AT.rec P (λts=>∀t∈ts,P t) h1 (λw ts ih=>h2 w ts ih) (λt h=>nomatch h) (λt ts i1 i2 u hu=>by
  rcases B_.mp hu with rfl |hu
  ·exact i1
  ·exact i2 u hu) t
mutual
def AT.lvs:AT->List Nat
 |.lf k=>[k]
 |.nd _ ts=>AT.lvsL ts
def AT.lvsL:List AT->List Nat
 | []=>[]
 |t::ts=>AT.lvs t++AT.lvsL ts
end
mutual
def AT.pth(x:Nat):AT->Option (List Nat)
 |.lf k=>if k=x then some [] else none
 |.nd _ ts=>AT.pthL x 0 ts
def AT.pthL(x:Nat):Nat->List AT->Option (List Nat)
 |_,[]=>none
 |i,t::ts=>match AT.pth x t with
  |some q=>some (i::q)
  |none=>AT.pthL x (i+1) ts
end
mutual
def AT.ok:AT->Bool
 |.lf _=>true
 |.nd _ ts=>decide (2<=ts.length)&&AT.okL ts
def AT.okL:List AT->Bool
 | []=>true
 |t::ts=>AT.ok t&&AT.okL ts
end
theorem AT.lvsL_mem:∀{ts:List AT},x∈AT.lvsL ts ↔ ∃t∈ts,x∈t.lvs
 | []=>by simp [AT.lvsL]
 |t::ts=>by rw[AT.lvsL,KC,AT.lvsL_mem (ts:=ts)];simp
theorem AT.okL_mem:∀{ts:List AT},AT.okL ts=true ↔ ∀t∈ts,t.ok=true
 | []=>by simp [AT.okL]
 |t::ts=>by rw[AT.okL,k_,AT.okL_mem (ts:=ts)];simp
theorem AT.pthL_some:∀{ts:List AT}{i:Nat}{q:List Nat},AT.pthL x i ts=some q->∃k t r,ts[k]?=some t/\t.pth x=some r/\q=(i+k)::r/\∀(k':Nat) (t':AT),k'<k->ts[k']?=some t'->t'.pth x=none
 | [],i,q,h=>by rw[AT.pthL] at h;cases h
 |
  t::ts,i,q,h=>by
  rw[AT.pthL] at h
  split at h
  ·rename_i r e
   cases h
   exact⟨0,t,r,rfl,e,rfl,λk' t' hk=>absurd hk (by omega)⟩
  ·rename_i e
   obtain⟨k,u,r,h1,h2,h3,h4⟩:=AT.pthL_some h
   refine⟨k+1,u,r,h1,h2,by rw[h3];congr 1;omega,λk' t' hk e'=>?_⟩
   cases k' with
   |zero=>cases e';exact e
   |succ k'=>exact h4 k' t' (by omega) e'
theorem AT.pthL_none:∀{ts:List AT}{i:Nat},AT.pthL x i ts=none ↔ ∀t∈ts,t.pth x=none
 | [],i=>by simp [AT.pthL]
 |
  t::ts,i=>by
  rw[AT.pthL]
  cases e:t.pth x with
  |some q=>simp [e]
  |none=>simp [e,AT.pthL_none (ts:=ts)]
def AT.pth_mem(t:AT):t.pth x=none ↔ x∉t.lvs:=by
 induction t using AT.ind with
 |h1 k=>simp [AT.pth,AT.lvs,eq_comm]
 |
  h2 w ts ih=>
  rw[AT.pth,AT.lvs,AT.pthL_none,AT.lvsL_mem]
  constructor
  ·rintro h ⟨t,ht,hx⟩
   exact (ih t ht).mp (h t ht) hx
  ·intro h t ht
   exact (ih t ht).mpr λhx=>h ⟨t,ht,hx⟩
def AT.at:List Nat->AT->Option Nat
 | [],.lf k=>some k
 |i::p,.nd _ ts=>match ts[i]? with
  |some t=>AT.at p t
  |none=>none
 |_,_=>none
def AT.pth_at(t:AT):∀p,t.pth x=some p->AT.at p t=some x:=by
 induction t using AT.ind with
 |
  h1 k=>
  intro p h
  rw[AT.pth] at h
  split at h
  ·cases h;rename_i e;rw[<- e];rfl
  ·cases h
 |
  h2 w ts ih=>
  intro p h
  rw[AT.pth] at h
  obtain⟨k,u,r,h1,h2,h3,_⟩:=AT.pthL_some h
  subst h3
  rw[Nat.zero_add,AT.at,h1]
  exact ih u (K2 h1) r h2
def wd(w b:Bool):Str:=if w=true then (if b=true then "left" else "right") else (if b=true then "above" else "below")
def AT.rel:List Nat->List Nat->AT->Option Str
 |i::p,j::q,.nd w ts=>if i=j then (match ts[i]? with
  |some t=>AT.rel p q t
  |none=>none) else some (wd w (decide (i<j)))
 |_,_,_=>none
theorem AT.rel_some(hxy:x≠y):∀(p q:List Nat) (t:AT),AT.at p t=some x->AT.at q t=some y->∃u,AT.rel p q t=some u
 |
  [],q,.lf k,h1,h2=>by
  cases q with
  |
   nil=>
   rw[AT.at] at h1 h2
   rw[z_ h1] at h2
   exact absurd (z_ h2) hxy
  |cons j q=>simp [AT.at] at h2
 | [],q,.nd w ts,h1,h2=>by simp [AT.at] at h1
 |i::p,q,.lf k,h1,h2=>by simp [AT.at] at h1
 |i::p,[],.nd w ts,h1,h2=>by simp [AT.at] at h2
 |
  i::p,j::q,.nd w ts,h1,h2=>by
  rw[AT.rel]
  split
  ·rename_i e
   subst e
   rw[AT.at] at h1 h2
   split at h1
   ·rename_i t e
    rw[e] at h2
    exact AT.rel_some hxy p q t h1 h2
   ·cases h1
  ·exact⟨_,rfl⟩
def Bw{t:AT}(h:t.ok=true):1<=t.lvs.length:=by
 induction t using AT.ind with
 |h1 k=>simp [AT.lvs]
 |
  h2 w ts ih=>
  rw[AT.ok,k_] at h
  cases ts with
  |nil=>exact absurd h.1 (by decide)
  |
   cons t ts=>
   have:=ih t (m_ ..) (AT.okL_mem.mp h.2 t (m_ ..))
   rw[AT.lvs,AT.lvsL,r_]
   omega
theorem jW:∀{vs:List Val},(∀v∈vs,wfV k v=true)->dM k vs=true
 | [],_=>rfl
 |
  v::vs,h=>by
  show (wfV k v&&dM k vs)=true
  rw[h v (m_ ..),jW λu hu=>h u (i_ _ hu)]
  rfl
def uP(v:Val)(l:List Val):atI (v::l) 0=some v:=aS (by decide) rfl
noncomputable def inB(x:Nat)(t:AT):Bool:=decide (x∈t.lvs)
def itV(l:List Nat):Val:=.lst (l.map λk:Nat=>.int k)
def qM(xs:List Val)(x:Val):l6.G (.lst (xs++[x])) []=some (.lst xs,x):=by
 show pO (.lst (xs++[x])) []=_
 unfold pO
 dsimp only
 rw[r_,La,Nat.add_sub_cancel,Ku (n_ _),Mz,List.dropLast_concat]
 rfl
noncomputable def wtA(ws:List Int)(l:List Nat):Int:=(l.map λk=>ws.getD k 0).sum
def wtT(ws:List Int)(t:AT):Int:=wtA ws t.lvs
mutual
def AT.bx(ws:List Int):AT->Bx->List (Nat×Bx)
 |.lf k,b=>[(k,b)]
 |.nd w ts,b=>AT.bxL ws ts (cT b (wy w) (ts.map (wtT ws)))
def AT.bxL(ws:List Int):List AT->List Bx->List (Nat×Bx)
 |t::ts,b::bs=>AT.bx ws t b++AT.bxL ws ts bs
 |_,_=>[]
end
def zy(h:a.Perm b):wtA ws a=wtA ws b:=by
 unfold wtA
 induction h with
 |nil=>rfl
 |cons x _ ih=>rw[C_,C_,Kq,Kq,ih]
 |swap x y l=>simp only[C_,Kq];omega
 |trans _ _ h1 h2=>rw[h1,h2]
theorem wk(ws:List Int):∀ts:List AT,wtA ws (AT.lvsL ts)=(ts.map (wtT ws)).sum
 | []=>rfl
 |
  t::ts=>by
  rw[AT.lvsL,C_,Kq,<- wk ws ts]
  unfold wtT wtA
  rw[KO,List.sum_append]
noncomputable def bxO(l:List (Nat×Bx))(k:Nat):Bx:=((l.find? λp=>p.1==k).map (·.2)).getD ⟨0,0,0,0⟩
def nJ(b:Bx)(way:Str)(ws:List Int):(cT b way ws).length=ws.length:=by
 unfold cT
 split <;> rw[g_,sv]
def AT.bx_keys(ws:List Int)(t:AT):∀b,(AT.bx ws t b).map (·.1)=t.lvs:=by
 induction t using AT.ind with
 |h1 k=>intro b;rw[AT.bx,AT.lvs];rfl
 |
  h2 w ts ih=>
  intro b
  rw[AT.bx,AT.lvs]
  have hl:(cT b (wy w) (ts.map (wtT ws))).length=ts.length:=by rw[nJ,g_]
  generalize cT b (wy w) (ts.map (wtT ws))=bs at *
  induction ts generalizing bs with
  |nil=>cases bs <;> rfl
  |
   cons t ts ih2=>
   cases bs with
   |nil=>exact nomatch hl
   |
    cons b bs=>
    rw[AT.bxL,AT.lvsL,KO,ih t (m_ ..) b,ih2 (λu hu=>ih u (i_ _ hu)) bs (by simpa using hl)]
structure Rp(D A B:Nat)(b:Bx):Prop where
 pos:0<D
 l:∃z:Int,b.l=(z:Rat)/((D:Int):Rat)/\z.natAbs<=A*D
 t:∃z:Int,b.t=(z:Rat)/((D:Int):Rat)/\z.natAbs<=A*D
 w:∃z:Int,b.w=(z:Rat)/((D:Int):Rat)/\0<z/\z<=B*D
 h:∃z:Int,b.h=(z:Rat)/((D:Int):Rat)/\0<z/\z<=B*D
def Jh(x y a D W:Rat)(h1:D≠0)(h2:W≠0):x/D+(y/D)*(a/W)=(x*W+y*a)/(D*W):=by grind
def Av(y a D W:Rat)(h1:D≠0)(h2:W≠0):(y/D)*(a/W)=(y*a)/(D*W):=by grind
def IZ(y D W:Rat)(h1:D≠0)(h2:W≠0):y/D=(y*W)/(D*W):=by grind
def dW{z:Int}(h:z≠0):(z:Rat)≠0:=λe=>h (Rat.intCast_inj.mp e)
def oI{x y a W:Int}{D A B:Nat}(hD:0<D)(hx:x.natAbs<=A*D)(hy:0<y/\y<=B*D)(ha:0<=a/\a<=W)(hW:0<W):∃z:Int,(x:Rat)/((D:Int):Rat)+((y:Rat)/((D:Int):Rat))*((a:Rat)/(W:Rat))=(z:Rat)/(((D*W.toNat:Nat):Int):Rat)/\z.natAbs<=(A+B)*(D*W.toNat):=by
 obtain⟨V,rfl⟩:∃V:Nat,W=V:=⟨W.toNat,by omega⟩
 refine⟨x*V+y*a,?_,?_⟩
 ·rw[Jh _ _ _ _ _ (dW (by omega)) (dW (by omega))]
  congr 1
  ·rw[L9,Kv,Kv]
  ·rw[G_,KN,Kv]
 ·rw[G_]
  have h1:(x*(V:Int)).natAbs<=A*D*V:=by rw[KR];exact K4 hx (n_ _)
  have h2:(y*a).natAbs<=B*D*V:=by
   rw[KR]
   refine K4 ?_ (by omega)
   have:=hy.2
   omega
  have h3:=Int.natAbs_add_le (x*V) (y*a)
  rw[Mk,<- L5,<- L5]
  omega
def Al{y a W:Int}{D B:Nat}(hD:0<D)(hy:0<y/\y<=B*D)(ha:1<=a/\a<=W):∃z:Int,((y:Rat)/((D:Int):Rat))*((a:Rat)/(W:Rat))=(z:Rat)/(((D*W.toNat:Nat):Int):Rat)/\0<z/\z<=((B:Nat):Int)*((D*W.toNat:Nat):Int):=by
 obtain⟨V,rfl⟩:∃V:Nat,W=V:=⟨W.toNat,by omega⟩
 refine⟨y*a,?_,Mj hy.1 (by omega),?_⟩
 ·rw[Av _ _ _ _ (dW (by omega)) (dW (by omega))]
  congr 1
  ·rw[Kv]
  ·rw[G_,KN,Kv]
 ·rw[G_,KN,<- K0]
  exact Int.mul_le_mul hy.2 ha.2 (by omega) (Int.le_trans (Int.le_of_lt hy.1) hy.2)
def mi{y W:Int}{D:Nat}(hD:0<D)(hW:0<W):(y:Rat)/((D:Int):Rat)=((y*W:Int):Rat)/(((D*W.toNat:Nat):Int):Rat):=by
 obtain⟨V,rfl⟩:∃V:Nat,W=V:=⟨W.toNat,by omega⟩
 rw[IZ _ _ _ (dW (show ((D:Nat):Int)≠0 by omega)) (dW (show ((V:Nat):Int)≠0 by omega)),Kv,G_,KN,Kv]
def vY{z W:Int}{D A B:Nat}(hz:z.natAbs<=A*D)(hW:0<W):(z*W).natAbs<=(A+B)*(D*W.toNat):=by
 rw[KR,<- L5]
 refine K4 ?_ (by omega)
 rw[Mk]
 omega
def vD{z W:Int}{D B:Nat}(hz:0<z/\z<=B*D)(hW:0<W):0<z*W/\z*W<=((B:Nat):Int)*((D*W.toNat:Nat):Int):=by
 refine⟨Mj hz.1 hW,?_⟩
 rw[KN,<- K0,Int.toNat_of_nonneg (by omega)]
 exact Int.mul_le_mul_of_nonneg_right hz.2 (by omega)
def Rp.parts{D A B:Nat}{b b':Bx}{way:Str}{ws:List Int}(r:Rp D A B b)(hw:∀w∈ws,1<=w)(h:b'∈cT b way ws):Rp (D*ws.sum.toNat) (A+B) B b':=by
 obtain⟨pos,⟨zl,el,bl⟩,⟨zt,et,bt⟩,⟨zw,ew,bw⟩,⟨zh,eh,bh⟩⟩:=r
 have key:∀p:Rat×Rat,∀s l:Rat,p∈shL s l ws.sum 0 ws->0<ws.sum/\∃a' w:Int,0<=a'/\a'<=ws.sum/\1<=w/\w<=ws.sum/\p=(s+l*((a':Rat)/(ws.sum:Rat)),l*((w:Rat)/(ws.sum:Rat))):=λp s l hp=>by
  obtain⟨a',w,h1,h2,h3,h4,h5⟩:=rS ws 0 (by omega) hw (by omega) hp
  exact⟨by omega,a',w,h1,h2,h3,h4,h5⟩
 unfold cT at h
 split at h
 ·obtain⟨p,hp,rfl⟩:=Kr.mp h
  obtain⟨hS,a',w,h1,h2,h3,h4,rfl⟩:=key p _ _ hp
  have hV:0<D*ws.sum.toNat:=K_ pos (by omega)
  refine⟨hV,?_,⟨zt*ws.sum,by show b.t=_;rw[et];exact mi pos hS,vY bt hS⟩,?_,⟨zh*ws.sum,by show b.h=_;rw[eh];exact mi pos hS,vD bh hS⟩⟩
  ·show ∃z:Int,b.l+b.w*_=_/\_
   rw[el,ew]
   exact oI pos bl bw ⟨h1,h2⟩ hS
  ·show ∃z:Int,b.w*_=_/\_
   rw[ew]
   exact Al pos bw ⟨h3,h4⟩
 ·obtain⟨p,hp,rfl⟩:=Kr.mp h
  obtain⟨hS,a',w,h1,h2,h3,h4,rfl⟩:=key p _ _ hp
  have hV:0<D*ws.sum.toNat:=K_ pos (by omega)
  refine⟨hV,⟨zl*ws.sum,by show b.l=_;rw[el];exact mi pos hS,vY bl hS⟩,?_,⟨zw*ws.sum,by show b.w=_;rw[ew];exact mi pos hS,vD bw hS⟩,?_⟩
  ·show ∃z:Int,b.t+b.h*_=_/\_
   rw[et,eh]
   exact oI pos bt bh ⟨h1,h2⟩ hS
  ·show ∃z:Int,b.h*_=_/\_
   rw[eh]
   exact Al pos bh ⟨h3,h4⟩
def Rp.ok{D A B:Nat}{b:Bx}(r:Rp D A B b):b.Ok:=by
 obtain⟨pos,_,_,⟨zw,ew,bw⟩,⟨zh,eh,bh⟩⟩:=r
 exact⟨by rw[ew];exact eP bw.1 (by omega),by rw[eh];exact eP bh.1 (by omega)⟩
def Rp.sz{D A B n:Nat}{b:Bx}(r:Rp D A B b)(hA:A*D<2^n)(hB:B*D<2^n)(hD:D<2^n):b.Sz n:=by
 obtain⟨pos,⟨zl,el,bl⟩,⟨zt,et,bt⟩,⟨zw,ew,bw⟩,⟨zh,eh,bh⟩⟩:=r
 have sD:Sm n ((D:Nat):Int):=by show ((D:Nat):Int).natAbs<2^n;omega
 have k:∀z:Int,z.natAbs<2^n->Sz n ((z:Rat)/((D:Int):Rat)):=λz hz=>Sz.div (by omega) hz sD n (n_ _) (n_ _)
 have hb:∀z:Int,0<z/\z<=B*D->z.natAbs<2^n:=λz hz=>by
  have h1:z<=((B*D:Nat):Int):=by rw[KN];exact hz.2
  omega
 exact⟨by rw[el];exact k zl (by omega),by rw[et];exact k zt (by omega),by rw[ew];exact k zw (hb zw bw),by rw[eh];exact k zh (hb zh bh)⟩
theorem gf{ws:List Int}:∀{l:List Nat},(∀k∈l,1<=ws.getD k 0)->(l.length:Int)<=wtA ws l
 | [],_=>by simp [wtA]
 |
  k::l,h=>by
  have h1:=h k (m_ ..)
  have h2:=gf (l:=l) λj hj=>h j (i_ _ hj)
  unfold wtA at h2 ⊢
  rw[C_,Kq,Em]
  omega
def eY(b:Bx)(w:Bool)(W a x:Int):Bx:=if w=true then ⟨b.l+b.w*((a:Rat)/(W:Rat)),b.t,b.w*((x:Rat)/(W:Rat)),b.h⟩ else ⟨b.l,b.t+b.h*((a:Rat)/(W:Rat)),b.w,b.h*((x:Rat)/(W:Rat))⟩
def frm(b:Bx)(w:Bool)(W:Int):Int->List Int->List Bx
 |_,[]=>[]
 |a,x::xs=>eY b w W a x::frm b w W (a+x) xs
theorem sN(b:Bx)(w:Bool)(W:Int):∀(xs:List Int) (a:Int),(frm b w W a xs).length=xs.length
 | [],_=>rfl
 |x::xs,a=>by rw[frm,Em,Em,sN b w W xs]
def vp(b:Bx)(w:Bool)(xs:List Int):cT b (wy w) xs=frm b w xs.sum 0 xs:=by
 have key:∀(W:Int) (xs:List Int) (a:Int),(if wy w="across" then (shL b.l b.w W a xs).map λp=>(⟨p.1,b.t,p.2,b.h⟩:Bx) else (shL b.t b.h W a xs).map λp=>⟨b.l,p.1,b.w,p.2⟩)=frm b w W a xs:=by
  intro W xs
  induction xs with
  |nil=>intro a;unfold shL frm;split <;> rfl
  |
   cons x xs ih=>
   intro a
   rw[frm,<- ih,shL,shL]
   unfold eY
   cases w with
   |true=>rw[if_pos (show wy true="across" from rfl),if_pos (show wy true="across" from rfl),if_pos rfl];rfl
   |
    false=>
    have hn:¬ (wy false="across"):=by decide
    rw[if_neg hn,if_neg hn,if_neg (by decide)];rfl
 exact key xs.sum xs 0
def BQ(ws:List Int)(bs:List Bx):AT.bxL ws [] bs=[]:=by rw[AT.bxL];intro _ _ _ _ h;cases h
structure Bx.In(c b:Bx):Prop where
 l:b.l<=c.l
 r:c.l+c.w<=b.l+b.w
 t:b.t<=c.t
 u:c.t+c.h<=b.t+b.h
noncomputable def Bx.In.refl(b:Bx):Bx.In b b:=⟨by grind,by grind,by grind,by grind⟩
noncomputable def Bx.In.trans{a b c:Bx}(h:Bx.In a b)(k:Bx.In b c):Bx.In a c:=by
 obtain⟨a1,a2,a3,a4⟩:=h
 obtain⟨b1,b2,b3,b4⟩:=k
 exact⟨by grind,by grind,by grind,by grind⟩
def xV{w a W:Rat}(hw:0<w)(hW:0<W)(ha:0<=a):0<=w*(a/W):=by
 rw[MF]
 exact Rat.mul_nonneg (Rat.le_of_lt hw) (Rat.mul_nonneg ha (Rat.le_of_lt (Rat.inv_pos.mpr hW)))
def uv{w a x c W:Rat}(hw:0<w)(hW:0<W)(h:a+x<=c):w*(a/W)+w*(x/W)<=w*(c/W):=by
 have h1:=xV (a:=c-(a+x)) hw hW (by grind)
 have e:w*((c-(a+x))/W)=w*(c/W)-(w*(a/W)+w*(x/W)):=by grind
 grind
def z9{w W:Rat}(hW:0<W):w*(W/W)=w:=by grind
noncomputable def uf{a b:Int}(h:a<=b):(a:Rat)<=(b:Rat):=Rat.intCast_le_intCast.mpr h
noncomputable def pV{a:Int}(h:0<a):(0:Rat)<(a:Rat):=Rat.intCast_pos.mpr h
def C9{b:Bx}{w:Bool}{W a x:Int}(hb:b.Ok)(ha:0<=a)(hx:0<x)(hs:a+x<=W):(eY b w W a x).Ok/\Bx.In (eY b w W a x) b:=by
 have hW:0<W:=by omega
 have p:(0:Rat)<(x:Rat)/(W:Rat):=eP hx hW
 have hWr:=pV hW
 have har:(0:Rat)<=(a:Rat):=by have:=uf ha;simpa using this
 have hsr:(a:Rat)+(x:Rat)<=(W:Rat):=by rw[<- L9];exact uf hs
 have w1:=xV hb.w hWr har
 have w2:=uv hb.w hWr hsr
 have h1:=xV hb.h hWr har
 have h2:=uv hb.h hWr hsr
 rw[z9 hWr] at w2 h2
 unfold eY
 cases w with
 |
  true=>
  refine⟨⟨Rat.mul_pos hb.w p,hb.h⟩,?_,?_,?_,?_⟩
  ·show b.l<=b.l+_;grind
  ·show b.l+_+_<=b.l+b.w;grind
  ·show b.t<=b.t;grind
  ·show b.t+b.h<=b.t+b.h;grind
 |
  false=>
  refine⟨⟨hb.w,Rat.mul_pos hb.h p⟩,?_,?_,?_,?_⟩
  ·show b.l<=b.l;grind
  ·show b.l+b.w<=b.l+b.w;grind
  ·show b.t<=b.t+_;grind
  ·show b.t+_+_<=b.t+b.h;grind
theorem vv{b:Bx}{w:Bool}{W:Int}:∀{xs:List Int}{i:Nat}{a:Int}{c:Bx},(frm b w W a xs)[i]?=some c->∃x,xs[i]?=some x/\c=eY b w W (a+(xs.take i).sum) x
 | [],i,a,c,h=>by rw[frm,K6] at h;cases h
 |
  x::xs,0,a,c,h=>by
  rw[frm,List.getElem?_cons_zero] at h
  cases h
  exact⟨x,rfl,by rw[List.take_zero,List.sum_nil,Int.add_zero]⟩
 |
  x::xs,i+1,a,c,h=>by
  rw[frm,KP] at h
  obtain⟨y,h1,h2⟩:=vv h
  exact⟨y,by rw[KP];exact h1,by rw[h2,LC,Kq,Int.add_assoc]⟩
theorem o8:∀{xs:List Int}{i:Nat}{x:Int},(∀y∈xs,1<=y)->xs[i]?=some x->0<=(xs.take i).sum/\(xs.take i).sum+x<=xs.sum
 | [],i,x,_,h=>by rw[K6] at h;cases h
 |
  y::xs,0,x,hp,h=>by
  cases h
  have:=jg λz hz=>hp z (i_ _ hz)
  rw[List.take_zero,List.sum_nil,Kq]
  omega
 |
  y::xs,i+1,x,hp,h=>by
  rw[KP] at h
  obtain⟨h1,h2⟩:=o8 (λz hz=>hp z (i_ _ hz)) h
  have:=hp y (m_ ..)
  rw[LC,Kq,Kq]
  omega
theorem qh:∀{xs:List Int}{i j:Nat}{x y:Int},(∀y∈xs,1<=y)->xs[i]?=some x->xs[j]?=some y->i<j->(xs.take i).sum+x<=(xs.take j).sum
 | [],i,j,x,y,_,h,_,_=>by rw[K6] at h;cases h
 |z::xs,i,0,x,y,_,_,_,h=>by omega
 |
  z::xs,0,j+1,x,y,hp,h,hj,_=>by
  cases h
  rw[KP] at hj
  have:=(o8 (λz hz=>hp z (i_ _ hz)) hj).1
  rw[List.take_zero,List.sum_nil,LC,Kq]
  omega
 |
  z::xs,i+1,j+1,x,y,hp,h,hj,hij=>by
  rw[KP] at h hj
  have:=qh (λz hz=>hp z (i_ _ hz)) h hj (by omega)
  rw[LC,Kq,LC,Kq]
  omega
def fK(w s:Bool)(c d:Bx):Prop:=if w=true then (if s=true then c.l+c.w<=d.l else d.l+d.w<=c.l) else (if s=true then c.t+c.h<=d.t else d.t+d.h<=c.t)
def sG{b:Bx}{w:Bool}{W a x e y:Int}(hb:b.Ok)(hW:0<W)(h:a+x<=e):fK w true (eY b w W a x) (eY b w W e y):=by
 have hWr:=pV hW
 have hsr:(a:Rat)+(x:Rat)<=(e:Rat):=by rw[<- L9];exact uf h
 have w2:=uv hb.w hWr hsr
 have h2:=uv hb.h hWr hsr
 unfold fK eY
 cases w with
 |true=>show b.l+_+_<=b.l+_;grind
 |false=>show b.t+_+_<=b.t+_;grind
def vc{w s:Bool}{c d c' d':Bx}(h:fK w s c d)(hc:Bx.In c' c)(hd:Bx.In d' d):fK w s c' d':=by
 obtain⟨a1,a2,a3,a4⟩:=hc
 obtain⟨b1,b2,b3,b4⟩:=hd
 unfold fK at h ⊢
 cases w <;> cases s <;> simp only[LV,Md,Lm] at h ⊢ <;> grind
def zk{w s:Bool}{c d:Bx}(h:fK w s c d):fK w (!s) d c:=by
 unfold fK at h ⊢
 cases w <;> cases s <;> exact h
def AT.bxAt(ws:List Int):List Nat->AT->Bx->Option Bx
 | [],.lf _,b=>some b
 |i::p,.nd w ts,b=>match ts[i]?,(frm b w (ts.map (wtT ws)).sum 0 (ts.map (wtT ws)))[i]? with
  |some t,some c=>AT.bxAt ws p t c
  |_,_=>none
 |_,_,_=>none
def pH{ws:List Int}{t:AT}(ho:t.ok=true)(hw:∀k∈t.lvs,1<=ws.getD k 0):1<=wtT ws t:=by
 have h1:=Bw ho
 have h2:=gf (ws:=ws) (l:=t.lvs) hw
 unfold wtT
 omega
def jD{ws:List Int}{i:Nat}{p:List Nat}{w:Bool}{ts:List AT}{b d:Bx}(ho:AT.ok (.nd w ts)=true)(hw:∀k∈AT.lvs (.nd w ts),1<=ws.getD k 0)(hb:b.Ok)(h:AT.bxAt ws (i::p) (.nd w ts) b=some d):
 ∃t a,ts[i]?=some t/\t.ok=true/\(∀k∈t.lvs,1<=ws.getD k 0)/\a=((ts.map (wtT ws)).take i).sum/\0<=a/\a+wtT ws t<=wtT ws (.nd w ts)/\1<=wtT ws t/\(ts.map (wtT ws))[i]?=some (wtT ws t)/\(eY b w (wtT ws (.nd w ts)) a (wtT ws t)).Ok/\Bx.In (eY b w (wtT ws (.nd w ts)) a (wtT ws t)) b/\AT.bxAt ws p t (eY b w (wtT ws (.nd w ts)) a (wtT ws t))=some d:=by
 have es:wtT ws (.nd w ts)=(ts.map (wtT ws)).sum:=by unfold wtT;rw[AT.lvs];exact wk ws ts
 rw[AT.ok,k_] at ho
 have hk:=AT.okL_mem.mp ho.2
 rw[AT.lvs] at hw
 have hws:∀t∈ts,∀k∈t.lvs,1<=ws.getD k 0:=λt ht k hk'=>hw k (AT.lvsL_mem.mpr ⟨t,ht,hk'⟩)
 have hone:∀x∈ts.map (wtT ws),1<=x:=λx hx=>by obtain⟨t,ht,rfl⟩:=Kr.mp hx;exact pH (hk t ht) (hws t ht)
 unfold AT.bxAt at h
 split at h
 ·rename_i t c e1 e2
  obtain⟨x,h1,h2⟩:=vv e2
  have hm:=K2 e1
  have ex:x=wtT ws t:=by rw[t_,e1] at h1;exact (z_ h1).symm
  subst ex
  obtain⟨p1,p2⟩:=o8 hone h1
  have p3:=pH (hk t hm) (hws t hm)
  rw[Int.zero_add] at h2
  rw[<- es] at p2 h2
  obtain⟨s1,s2⟩:=C9 (w:=w) hb p1 (by omega:0<wtT ws t) p2
  exact⟨t,_,e1,hk t hm,hws t hm,rfl,p1,p2,p3,h1,s1,s2,by rw[<- h2];exact h⟩
 ·cases h
theorem jP{ws:List Int}:∀{p:List Nat}{t:AT}{b d:Bx},t.ok=true->(∀k∈t.lvs,1<=ws.getD k 0)->b.Ok->AT.bxAt ws p t b=some d->d.Ok/\Bx.In d b
 | [],.lf k,b,d,_,_,hb,h=>by unfold AT.bxAt at h;cases h;exact⟨hb,Bx.In.refl b⟩
 | [],.nd w ts,b,d,_,_,_,h=>by unfold AT.bxAt at h;cases h
 |i::p,.lf k,b,d,_,_,_,h=>by unfold AT.bxAt at h;cases h
 |
  i::p,.nd w ts,b,d,ho,hw,hb,h=>by
  obtain⟨t,a,h1,h2,h3,_,_,_,_,_,h4,h5,h6⟩:=jD ho hw hb h
  obtain⟨k1,k2⟩:=jP h2 h3 h4 h6
  exact⟨k1,k2.trans h5⟩
theorem nD{ws:List Int}:∀{p:List Nat}{t:AT}{b d:Bx}{k:Nat},t.ok=true->(∀k∈t.lvs,1<=ws.getD k 0)->b.Ok->AT.bxAt ws p t b=some d->AT.at p t=some k->d.w*d.h=b.w*b.h*(((ws.getD k 0:Int):Rat)/((wtT ws t:Int):Rat))
 |
  [],.lf k,b,d,j,_,hw,hb,h,hk=>by
  unfold AT.bxAt at h
  cases h
  unfold AT.at at hk
  cases hk
  have e:wtT ws (.lf k)=ws.getD k 0:=by unfold wtT wtA;rw[AT.lvs];simp
  have:=hw k (by rw[AT.lvs];exact m_ ..)
  rw[e,z9 (pV (by omega))]
 | [],.nd w ts,b,d,_,_,_,_,h,_=>by unfold AT.bxAt at h;cases h
 |i::p,.lf k,b,d,_,_,_,_,h,_=>by unfold AT.bxAt at h;cases h
 |
  i::p,.nd w ts,b,d,k,ho,hw,hb,h,hk=>by
  obtain⟨t,a,h1,h2,h3,_,g1,g2,g3,_,h4,h5,h6⟩:=jD ho hw hb h
  have hk':AT.at p t=some k:=by unfold AT.at at hk;rw[h1] at hk;exact hk
  rw[nD h2 h3 h4 h6 hk']
  have n1:=dW (show wtT ws t≠0 by omega)
  have n2:=dW (show wtT ws (.nd w ts)≠0 by omega)
  generalize ((ws.getD k 0:Int):Rat)=v at *
  unfold eY
  generalize ((wtT ws t:Int):Rat)=x at *
  generalize ((wtT ws (.nd w ts):Int):Rat)=W at *
  cases w with
  |true=>show b.w*(x/W)*b.h*(v/x)=_;grind
  |false=>show b.w*(b.h*(x/W))*(v/x)=_;grind
theorem pM{ws:List Int}{u:Str}:∀{p q:List Nat}{t:AT}{b c d:Bx},t.ok=true->(∀k∈t.lvs,1<=ws.getD k 0)->b.Ok->AT.bxAt ws p t b=some c->AT.bxAt ws q t b=some d->AT.rel p q t=some u->∃w s,u=wd w s/\AT.rel q p t=some (wd w (!s))/\fK w s c d
 | [],q,t,b,c,d,_,_,_,_,_,h=>by rw[AT.rel] at h;cases h;intro _ _ _ _ _ _ z;cases z
 |i::p,[],t,b,c,d,_,_,_,_,_,h=>by rw[AT.rel] at h;cases h;intro _ _ _ _ _ _ _ z;cases z
 |i::p,j::q,.lf k,b,c,d,_,_,_,_,_,h=>by rw[AT.rel] at h;cases h;intro _ _ _ _ _ _ _ _ z;cases z
 |
  i::p,j::q,.nd w ts,b,c,d,ho,hw,hb,hc,hd,h=>by
  obtain⟨t,a,h1,h2,h3,ea,a1,a2,a3,a4,a5,a6,a7⟩:=jD ho hw hb hc
  obtain⟨t',a',h1',h2',h3',ea',b1,b2,b3,b4,b5,b6,b7⟩:=jD ho hw hb hd
  have hone:∀x∈ts.map (wtT ws),1<=x:=λx hx=>by
   obtain⟨u,hu,rfl⟩:=Kr.mp hx
   rw[AT.ok,k_] at ho
   rw[AT.lvs] at hw
   exact pH (AT.okL_mem.mp ho.2 u hu) λk hk'=>hw k (AT.lvsL_mem.mpr ⟨u,hu,hk'⟩)
  unfold AT.rel at h ⊢
  by_cases e:i=j
  ·subst e
   rw[if_pos rfl,h1] at h
   rw[if_pos rfl,h1]
   rw[h1] at h1'
   cases h1'
   have:a=a':=by rw[ea,ea']
   subst this
   exact pM h2 h3 a5 a7 b7 h
  ·rw[if_neg e] at h
   rw[if_neg (λz=>e z.symm)]
   cases h
   have i1:=(jP h2 h3 a5 a7).2
   have i2:=(jP h2' h3' b5 b7).2
   by_cases hij:i<j
   ·have o:=qh hone a4 b4 hij
    rw[<- ea,<- ea'] at o
    refine⟨w,true,by rw[F_ hij],by rw[w_ (by omega)];rfl,vc (sG hb (by omega) o) i1 i2⟩
   ·have hji:j<i:=by omega
    have o:=qh hone b4 a4 hji
    rw[<- ea,<- ea'] at o
    refine⟨w,false,by rw[w_ hij],by rw[F_ hji];rfl,zk (vc (sG hb (by omega) o) i2 i1)⟩
def nu{k:Nat}(a b:List (Nat×Bx)):bxO (a++b) k=if k∈a.map (·.1) then bxO a k else bxO b k:=by
 unfold bxO
 rw[List.find?_append]
 by_cases h:k∈a.map (·.1)
 ·rw[if_pos h]
  obtain⟨p,hp,e⟩:=Kr.mp h
  have:(a.find? λp=>p.1==k).isSome=true:=List.find?_isSome.mpr ⟨p,hp,by simpa using e⟩
  obtain⟨q,hq⟩:=KZ.mp this
  rw[hq]
  rfl
 ·rw[if_neg h]
  have:a.find? (λp=>p.1==k)=none:=KY.mpr λp hp z=>h (Kr.mpr ⟨p,hp,by simpa using z⟩)
  rw[this]
  rfl
theorem vZ{ws:List Int}{x:Nat}{t:AT}{c:Bx}:∀{ts:List AT}{bs:List Bx}{i:Nat},ts[i]?=some t->bs[i]?=some c->(∀(j:Nat) (u:AT),j<i->ts[j]?=some u->x∉u.lvs)->x∈t.lvs->bxO (AT.bxL ws ts bs) x=bxO (AT.bx ws t c) x
 | [],bs,i,h,_,_,_=>by rw[K6] at h;cases h
 |u::ts,[],i,_,h,_,_=>by rw[K6] at h;cases h
 |
  u::ts,b::bs,0,h1,h2,_,hx=>by
  cases h1
  cases h2
  rw[AT.bxL,nu,if_pos (by rw[AT.bx_keys];exact hx)]
 |
  u::ts,b::bs,i+1,h1,h2,hn,hx=>by
  rw[KP] at h1 h2
  rw[AT.bxL,nu,if_neg (by rw[AT.bx_keys];exact hn 0 u (by omega) rfl)]
  exact vZ h1 h2 (λj v hj hv=>hn (j+1) v (by omega) (by rw[KP];exact hv)) hx
def AA{ws:List Int}{x:Nat}(t:AT):∀p b,t.pth x=some p->AT.bxAt ws p t b=some (bxO (AT.bx ws t b) x):=by
 induction t using AT.ind with
 |
  h1 k=>
  intro p b h
  unfold AT.pth at h
  split at h
  ·rename_i e
   cases h
   subst e
   unfold AT.bxAt
   rw[AT.bx]
   simp [bxO]
  ·cases h
 |
  h2 w ts ih=>
  intro p b h
  unfold AT.pth at h
  obtain⟨i,t,r,h1,h2,rfl,h4⟩:=AT.pthL_some h
  have hm:=K2 h1
  rw[Nat.zero_add]
  have hi:=(h_.mp h1).1
  have hf:i<(frm b w (ts.map (wtT ws)).sum 0 (ts.map (wtT ws))).length:=by rw[sN,g_];exact hi
  have e2:=l_ hf
  unfold AT.bxAt
  rw[h1,e2]
  dsimp only
  rw[ih t hm r _ h2,AT.bx,vp,vZ h1 e2 (λj u hj hu=>(AT.pth_mem u).mp (h4 j u hj hu))]
  cases q:decide (x∈t.lvs) with
  |true=>exact of_decide_eq_true q
  |
   false=>
   have:=(AT.pth_mem t).mpr (of_decide_eq_false q)
   rw[h2] at this
   cases this
theorem rY{k:Nat}:∀{l:List (Nat×Bx)},k∈l.map (·.1)->∃p∈l,bxO l k=p.2
 | [],h=>nomatch h
 |
  p::l,h=>by
  unfold bxO
  by_cases hp:p.1=k
  ·exact⟨p,m_ ..,by rw[List.find?_cons_of_pos (by simpa using hp)];rfl⟩
  ·rw[C_,B_] at h
   obtain⟨q,hq,e⟩:=rY (l:=l) (h.resolve_left λz=>hp z.symm)
   refine⟨q,i_ _ hq,?_⟩
   rw[List.find?_cons_of_neg (by simpa using hp)]
   exact e
end L3
set_option maxHeartbeats 4000000
namespace KK
open PySem PySem.Spec PyProof.Rows L2 L3
def top(i:Nat):Stmt:=PySem.Challenge.pw_weightrooms_k08_looked_at.main.body.getD i (.Pass ⟨0,0,0,0⟩)
def bN:iQ:=[((.b "NoneType"),(.b "bool"),false),((.b "bool"),(.b "bool"),true),((.b "int"),(.b "bool"),false),((.b "str"),(.b "bool"),false),((.b "tuple"),(.b "bool"),false),((.b "list"),(.b "bool"),false),((.b "dict"),(.b "bool"),false),((.b "NoneType"),(.b "int"),false),((.b "bool"),(.b "int"),true),((.b "int"),(.b "int"),true),((.b "str"),(.b "int"),false),((.b "tuple"),(.b "int"),false),((.b "list"),(.b "int"),false),((.b "dict"),(.b "int"),false),((.b "NoneType"),(.b "list"),false),((.b "bool"),(.b "list"),false),((.b "int"),(.b "list"),false),((.b "str"),(.b "list"),false),((.b "tuple"),(.b "list"),false),((.b "list"),(.b "list"),true),((.b "dict"),(.b "list"),false),((.b "NoneType"),(.b "tuple"),false),((.b "bool"),(.b "tuple"),false),((.b "int"),(.b "tuple"),false),((.b "str"),(.b "tuple"),false),((.b "tuple"),(.b "tuple"),true),((.b "list"),(.b "tuple"),false),((.b "dict"),(.b "tuple"),false)]
noncomputable def ie:D:=(.int 40)
abbrev tb:Tb:=⟨["NoFraction", "NoBox", "NoWeights", "TooMany"],["NoFraction", "NoBox", "NoWeights", "TooMany"],[],bN,[("MOST_WEIGHTS",ie)]⟩
abbrev TT(K:W.Frag)(mg:Na):Prop:=Ty tb top [7,8,9,10,11,12,13,16,17,18,19,20,22,23,24,25,26,28,29,30,31,32,33,34,35,36,37,38,39,40,41,42,43,44] K mg
section
variable{P:Program}{w:World}{K:W.Frag}{mg:Na}{base:Heap}
def gM:PEx:=wO ie (.int 40) (λ_ _=>.int _)
def lx(e:E3):gM.G e=.ok (.val (.int 40)) e:=rfl
def dI(s:String):Lean.TSyntax `term:=⟨Lean.mkIdent (s.replace "%" "").toName⟩
def dA(f:String)(a:Lean.TSyntax `term):Lean.TSyntax `term:=Lean.Syntax.mkApp (dI f) #[a]
def dF:List (Lean.TSyntax `tactic)->Lean.MacroM (Lean.TSyntax `tactic)
 | []=>`(tactic|fail)
 |a::l=>do `(tactic|first | $a:tactic | $(<- dF l):tactic)
def dL(f:String->Lean.MacroM (Lean.TSyntax `tactic)):List String->Lean.MacroM (List (Lean.TSyntax `tactic))
 | []=>pure []
 |s::l=>do return (<- f s)::(<- dL f l)
set_option hygiene false in
def dQ(ap:String->Lean.TSyntax `term)(s:String):Lean.MacroM (Lean.TSyntax `tactic):=match (s.splitOn ";").map ap with
 | [d,c,a,b]=>`(tactic|((case d=>with_reducible exact $d);(case c=>exact $c);(case a=>exact $a);(case b=>exact $b)))
 |d::c::_=>`(tactic|((case d=>with_reducible exact $d);(case c=>exact $c)))
 |_=>`(tactic|fail)
set_option hygiene false in
def dR(ap:String->Lean.TSyntax `term)(g:String):Lean.MacroM (Lean.TSyntax `tactic):=match g.splitOn ":" with
 | [r]=>`(tactic|refine $(ap r))
 |r::l=>do `(tactic|(refine' $(ap r);$(<- dF (<- dL (dQ ap) l)):tactic))
 | []=>`(tactic|fail)
set_option hygiene false in
local macro_rules | `('d')=>do
 let h <- `(?_)
 let u <- `(_)
 let R:=dI "rfl"
 let qA <- `(?a)
 let qB <- `(?b)
 let qC <- `(?c)
 let qD <- `(?d)
 let ap:=λ(s:String)=>let w:=s.splitOn " ";Lean.Syntax.mkApp (dI (w.getD 0 "")) (((w.getD 1 "").toList.map λc=>([('8',dI "hr.u180"),('A',qA),('B',qB),('C',qC),('D',qD),('K',dI "T.k"),('_',u),('b',dA "%boT" R),('f',dA "%boF" R),('g',dA "T.g" R),('k',dA "T.n" R),('m',dA "T.m" R),('n',dI "nd"),('o',dI "%yz"),('r',R),('t',dI "T"),('u',dA "%Jy" (dI "hr")),('v',dA "%vG" u),('x',dA "T.x" R),('z',dI "%rz1")].lookup c).getD h).toArray)
 let rd:=λ(s:String)=>dL (dR ap) (s.splitOn "|")
 let e0 <- `(tactic|refine zcF (by $(<- dF (<- rd "%ih|qS t|ph t|rn t|n6 t|pJ t|md t|qZ t|nY t|mJ t|qt t|jm t|lK t|uA t|nW t|nX t|j4 t|pS t|vB t|yt t|xf t|wz t|qW t|lE t|fY t|mw t|wB t|gz t|jY t|mO t|pE t|oK t|pP t|rk t")):tactic) hr ?_)
 `(by repeat' $(<- dF ((<- rd "%vG _|Dw|Dj|cG ??|aw ??|hZ ?|zsS _n?|fT ???|GF ?|He ?|gm ?|F1|JQ|Bt|xg ?")++[e0]++(<- rd "%IJ CD??:IT;ixK r|Dm CD??:Ab;eqDK r8:Ax;Am:zQ;Ad:uw;uh:G9;Dt u:JB;neDK r8:Fu;CI|cI CDrkf?:CP;Jt r:Ho;yw:AL;vQ r:BK;we r:pQ;ju rr:Fy K;HX r|Ia CD??:EH;Bg:Hb;E9 r:Fs;Fd:FT;xX:FL;ET:F4;Fl:DF;Gx:EM;EU|wZ CDrkb?:Cq;D2 r:Fg;vR|Ed CD??:Ax;Am:Ab;eqDK r8:zQ;Ad:uw;uh|Fp rABCDv?:wJ;wD;PySem.F.slot_list_append;PySem.F.type_list_append:wN;vL;PySem.F.slot_list_insert;PySem.F.type_list_insert|Az rABCDv:FH;Hj;PySem.F.slot_list_pop;PySem.F.type_list_pop|HP CD?:Ea;Fz|Cb ?v?CD:BV;o3|ZG.weak ?|zt_w ?|Hv ??|Im rg|Fe|Gu ?|Fj ?|yh r???|HV rkb|zgN _n|Ez rr?|Du rr?|xK ??|BH|CC rrk?|vX rk?|Gg r?|AF|BW ?|A6 ??|B7 ?|wX or???|Fi n?|zc rzrmx?|oW o??|js ?|lM ??|m8 ?|ub ??|wm ?"))):tactic)
def lW:PSt:=
 (ao (xIf (qOf (pOp bEq (pFn bj (aa (af 0) ag)) (ah 0))) (aB (bD (aa (ah 0) (aa (ah 0) (aa (af 1) ag))))) xNx)
  (aB (bD (aa (pOp bIx (af 0) (pOp bZ (af 1) (pFn bj (aa (af 0) ag)))) (aa (ah 0) (aa (af 1) ag))))))
def cK:PFn:=fnP [false,false] 2 lW
def rh:cK.ms=[false,false]:=rfl
def qS(T:TT K mg):Callee P w K mg base "_law_feed" 1 ["_law_script", "_law_k"] (spD K mg 2 cK.F):=aX (T.d.get 28 rfl) (aP (N:=["_law_script", "_law_k"]) (by decide)) (λ_ _ _ _ _ _=>ar2 λ_ _=>rfl) λnd _ _ _ _ _ _ _ hr=>'d'
def lg:PSt:=
 (ao (dZ 0 seL (ah 1) (pOp aM (pOp bIx (af 0) (ah 1)) (ah 1)))
  (ao (xIf (qOf (pOp bGe (pOp bIx (af 0) (ah 0)) (pOp fP (ah 10) (ah 18)))) (ao (aE false 2 (pOp bZ (pOp bIx (af 0) (ah 0)) (af 1)))
  (ao (dZ 0 seL (ah 0) (pOp iR (pOp bIx (af 0) (ah 0)) (af 1)))
  (aB (af 2)))) xNx)
  (ao (aE false 3 (pOp aM (pOp aM (pOp bZ (pOp bIx (af 0) (ah 0)) (ah 1000003)) (pOp aA (ah 7919) (pOp bIx (af 0) (ah 2)))) (pOp aA (ah 104729) (pOp bIx (af 0) (ah 1)))))
  (ao (aE false 3 (pOp bZ (pOp aA (af 3) (ah 48271)) (ah 2147483647)))
  (aB (pOp bZ (pOp bZ (pOp aA (af 3) (pOp aM (pOp bZ (af 3) (ah 65521)) (pOp bIx (af 0) (ah 1)))) (ah 2147483629)) (af 1)))))))
def aq:PFn:=fnP [true,false] 4 lg
def rj:aq.ms=[true,false]:=rfl
def ph(T:TT K mg):Callee P w K mg base "_law_next" 1 ["_law_feed_here", "_law_many"] (spD K mg 2 aq.F):=aX (T.d.get 29 rfl) (aP (N:=["_law_feed_here", "_law_many", "_law_digit", "_law_mixed"]) (by decide)) (λ_ _ _ _ _ _=>ar2 λ_ _=>rfl) λnd _ _ _ _ _ _ _ hr=>'d'
def fW:PSt:=
 (eR 2 3 (aa (af 3) (aa (pOp bZ (af 2) (af 3)) ag)))
def nB:PSt:=
 (ao (eR 2 3 (aa (pFn fq (aa (af 0) ag)) (aa (pFn fq (aa (af 1) ag)) ag)))
  (ao (xWh (qOf (pOp bGt (af 3) (ah 0))) (fW))
  (ao (xIf (qOf (pOp bLt (af 1) (ah 0))) (aE false 2 (pOp df (ah 0) (af 2))) xNx)
  (aB (aG (aa (pOp iR (af 0) (af 2)) (aa (pOp iR (af 1) (af 2)) ag)))))))
def aC:PFn:=fnP [false,false] 4 nB
def tH:aC.ms=[false,false]:=rfl
def rn(T:TT K mg):Callee P w K mg base "_law_low" 1 ["_law_top", "_law_bottom"] (spD K mg 2 aC.F):=aX (T.d.get 31 rfl) (aP (N:=["_law_top", "_law_bottom", "_law_one", "_law_two"]) (by decide)) (λ_ _ _ _ _ _=>ar2 λ_ _=>rfl) λnd _ _ _ _ _ _ _ hr=>'d'
def jd:PSt:=
 (aE false 2 (pOp aM (pOp aA (af 2) (pOp fP (ah 10) (ah 6))) (ak aq (aa (af 0) (aa (pOp fP (ah 10) (ah 6)) ag)))))
def j5:PSt:=
 (ao (aE false 2 (ah 0))
  (ao (dk (f6 (aa (ah 6) ag)) (gtN 3) (jd))
  (aB (pOp df (pOp bZ (af 2) (pOp aM (pOp aA (ah 2) (af 1)) (ah 1))) (af 1)))))
def bq:PFn:=fnP [true,false] 4 j5
def qN:bq.ms=[true,false]:=rfl
def n6(T:TT K mg):Callee P w K mg base "_law_great" 2 ["_law_feed_here", "_law_far"] (spD K mg 2 bq.F):=aX (T.d.get 30 rfl) (aP (N:=["_law_feed_here", "_law_far", "_law_number", "_law_k"]) (by decide)) (λ_ _ _ _ _ _=>ar2 λ_ _=>rfl) λnd _ _ _ _ _ _ _ hr=>'d'
def iG:PSt:=
 (ao (aE false 1 (ak aq (aa (af 0) (aa (ah 6) ag))))
  (ao (eR 2 3 (aa (aG (aa (pOp df (ak aq (aa (af 0) (aa (ah 19) ag))) (ah 9)) (aa (ah 1) ag))) (aa (aG (aa (pOp df (ak aq (aa (af 0) (aa (ah 19) ag))) (ah 9)) (aa (ah 1) ag))) ag)))
  (ao (eR 4 5 (aa (aG (aa (pOp aM (ah 1) (ak aq (aa (af 0) (aa (ah 12) ag)))) (aa (ah 1) ag))) (aa (aG (aa (pOp aM (ah 1) (ak aq (aa (af 0) (aa (ah 12) ag)))) (aa (ah 1) ag))) ag)))
  (ao (xIf (qOf (pOp bEq (af 1) (ah 1))) (aE false 5 (af 4)) xNx)
  (ao (xIf (qOf (pOp bEq (af 1) (ah 2))) (aE false 4 (aG (aa (pOp aM (ah 1) (ak aq (aa (af 0) (aa (ah 99) ag)))) (aa (ah 1) ag)))) xNx)
  (ao (xIf (qOf (pOp bEq (af 1) (ah 3))) (aE false 5 (aG (aa (pOp aM (ah 1) (ak aq (aa (af 0) (aa (ah 99) ag)))) (aa (ah 1) ag)))) xNx)
  (ao (xIf (qOf (pOp bEq (af 1) (ah 4))) (ao (eR 2 3 (aa (ak aC (aa (pOp df (ak aq (aa (af 0) (aa (ah 199) ag))) (ah 99)) (aa (pOp aM (ah 1) (ak aq (aa (af 0) (aa (ah 30) ag)))) ag))) (aa (ak aC (aa (ak aq (aa (af 0) (aa (ah 9) ag))) (aa (ah 7) ag))) ag)))
  (eR 4 5 (aa (ak aC (aa (pOp aM (ah 1) (ak aq (aa (af 0) (aa (ah 99) ag)))) (aa (pOp aM (ah 1) (ak aq (aa (af 0) (aa (ah 30) ag)))) ag))) (aa (ak aC (aa (pOp aM (ah 1) (ak aq (aa (af 0) (aa (ah 99) ag)))) (aa (ah 11) ag))) ag)))) xNx)
  (ao (xIf (qOf (pOp bEq (af 1) (ah 5))) (ao (aE false 6 (pOp df (pOp fP (ah 10) (ah 30)) (ah 1)))
  (ao (eR 2 3 (aa (ak aC (aa (ak bq (aa (af 0) (aa (af 6) ag))) (aa (pOp aM (ah 1) (pFn fq (aa (ak bq (aa (af 0) (aa (pOp df (af 6) (ah 1)) ag))) ag))) ag))) (aa (aG (aa (ak bq (aa (af 0) (aa (af 6) ag))) (aa (ah 1) ag))) ag)))
  (eR 4 5 (aa (aG (aa (pOp aM (ah 1) (pFn fq (aa (ak bq (aa (af 0) (aa (pOp df (af 6) (ah 1)) ag))) ag))) (aa (ah 1) ag))) (aa (ak aC (aa (pOp aM (ah 1) (pFn fq (aa (ak bq (aa (af 0) (aa (pOp df (af 6) (ah 1)) ag))) ag))) (aa (af 6) ag))) ag))))) xNx)
  (aB (aG (aa (af 2) (aa (af 3) (aa (af 4) (aa (af 5) ag))))))))))))))
def eG:PFn:=fnP [true] 7 iG
def rB:eG.ms=[true]:=rfl
def pJ(T:TT K mg):Callee P w K mg base "_law_room" 3 ["_law_feed_here"] (spD K mg 1 eG.F):=aX (T.d.get 32 rfl) (aP (N:=["_law_feed_here", "_law_way", "_law_left", "_law_top", "_law_wide", "_law_high", "_law_far"]) (by decide)) (λ_ _ _ _ _ _=>ar1 λ_=>rfl) λnd _ _ _ _ _ _ _ hr=>'d'
def dD:PSt:=
 (ao (aE true 3 (ak cK (aa (af 0) (aa (pOp aM (pOp aM (af 1) (ah 1)) (af 8)) ag))))
  (ao (aE false 9 (pOp bIx (bD (aa (ah 1) (aa (pOp aM (ah 1) (ak aq (aa (af 3) (aa (ah 9) ag)))) (aa (pOp qz (ah 1) (pOp bZ (af 8) (ah 24))) (aa (pOp aM (ah 1) (ak aq (aa (af 3) (aa (ah 9) ag)))) (aa (ah 1) (aa (pOp aM (ah 1) (ak aq (aa (af 3) (aa (ah 3) ag)))) ag))))))) (af 6)))
  (ao (xIf (qAn (qOf (pOp bEq (af 6) (ah 3))) (qOf (pOp bEq (ak aq (aa (af 3) (aa (ah 4) ag))) (ah 0)))) (aE false 9 (pOp aM (pOp fP (ah 10) (ah 29)) (ak aq (aa (af 3) (aa (ah 100) ag))))) xNx)
  (ao (xIf (qOf (pOp bEq (af 6) (ah 4))) (aE false 9 (pOp aM (ah 1) (pFn fq (aa (ak bq (aa (af 3) (aa (pOp df (pOp fP (ah 10) (ah 30)) (ah 2)) ag))) ag)))) xNx)
  (cH (gX 7 cL (aa (af 9) ag)))))))
def fI:PSt:=
 (ao (aE true 3 (ak cK (aa (af 0) (aa (af 1) ag))))
  (ao (aE false 4 (pOp aM (ah 1) (ak aq (aa (af 3) (aa (pFn o6 (aa (af 2) (aa (ah 7) ag))) ag)))))
  (ao (aE false 5 (ak aq (aa (af 3) (aa (ah 6) ag))))
  (ao (xIf (qOf (pOp bLt (af 5) (ah 2))) (aE false 4 (pOp bIx (bD (aa (af 2) (aa (pFn qg (aa (ah 1) (aa (pOp iR (pOp aA (af 4) (af 2)) (ah 8)) ag))) ag))) (af 5))) xNx)
  (ao (aE false 6 (ak aq (aa (af 3) (aa (ah 6) ag))))
  (ao (xIf (qOf (pOp bGt (af 4) (ah 9))) (aE false 6 (pOp bZ (af 6) (ah 3))) xNx)
  (ao (aE true 7 (bD ag))
  (ao (dk (f6 (aa (af 4) ag)) (gtN 8) (dD))
  (aB (af 7))))))))))
def cV:PFn:=fnP [false,false,false] 10 fI
def m5:cV.ms=[false,false,false]:=rfl
def md(T:TT K mg):Callee P w K mg base "_law_weights" 3 ["_law_script", "_law_at", "_law_most"] (spD K mg 3 cV.F):=aX (T.d.get 33 rfl) (aP (N:=["_law_script", "_law_at", "_law_most", "_law_feed_here", "_law_many", "_law_more", "_law_style", "_law_some", "_law_k", "_law_weight"]) (by decide)) (λ_ _ _ _ _ _=>ar3 λ_ _ _=>rfl) λnd _ _ _ _ _ _ _ hr=>'d'
def nF:PSt:=
 (aB (ak aC (aa (pOp aM (pOp aA (pOp bIx (af 0) (ah 0)) (pOp bIx (af 1) (ah 1))) (pOp aA (pOp bIx (af 1) (ah 0)) (pOp bIx (af 0) (ah 1)))) (aa (pOp aA (pOp bIx (af 0) (ah 1)) (pOp bIx (af 1) (ah 1))) ag))))
def bA:PFn:=fnP [false,false] 2 nF
def uy:bA.ms=[false,false]:=rfl
def qZ(T:TT K mg):Callee P w K mg base "_law_add" 2 ["_law_one", "_law_two"] (spD K mg 2 bA.F):=aX (T.d.get 34 rfl) (aP (N:=["_law_one", "_law_two"]) (by decide)) (λ_ _ _ _ _ _=>ar2 λ_ _=>rfl) λnd _ _ _ _ _ _ _ hr=>'d'
def cF:PSt:=
 (ao (xIf (qOf (pOp bEq (af 1) (bT "across"))) (ao (aE false 11 (ak bA (aa (af 3) (aa (ak aC (aa (pOp aA (pOp bIx (af 5) (ah 0)) (af 9)) (aa (pOp aA (pOp bIx (af 5) (ah 1)) (af 7)) ag))) ag))))
  (cH (gX 8 cL (aa (aG (aa (af 11) (aa (af 4) (aa (ak aC (aa (pOp aA (pOp bIx (af 5) (ah 0)) (af 10)) (aa (pOp aA (pOp bIx (af 5) (ah 1)) (af 7)) ag))) (aa (af 6) ag))))) ag)))) (ao (aE false 11 (ak bA (aa (af 4) (aa (ak aC (aa (pOp aA (pOp bIx (af 6) (ah 0)) (af 9)) (aa (pOp aA (pOp bIx (af 6) (ah 1)) (af 7)) ag))) ag))))
  (cH (gX 8 cL (aa (aG (aa (af 3) (aa (af 11) (aa (af 5) (aa (ak aC (aa (pOp aA (pOp bIx (af 6) (ah 0)) (af 10)) (aa (pOp aA (pOp bIx (af 6) (ah 1)) (af 7)) ag))) ag))))) ag)))))
  (aE false 9 (pOp aM (af 9) (af 10))))
def j8:PSt:=
 (ao (dS (af 0) (gtX (gtT 4 (aF (gtN 3) (aF (gtN 4) (aF (gtN 5) (aF (gtN 6) bG)))))))
  (ao (aE false 7 (pFn iY (aa (af 2) ag)))
  (ao (aE true 8 (bD ag))
  (ao (aE false 9 (ah 0))
  (ao (dk (dB (af 2)) (gtN 10) (cF))
  (aB (af 8)))))))
def dP:PFn:=fnP [false,false,false] 12 j8
def qu:dP.ms=[false,false,false]:=rfl
def nY(T:TT K mg):Callee P w K mg base "_law_parts" 3 ["_law_box", "_law_way", "_law_weights_here"] (spD K mg 3 dP.F):=aX (T.d.get 35 rfl) (aP (N:=["_law_box", "_law_way", "_law_weights_here", "_law_left", "_law_top", "_law_wide", "_law_high", "_law_whole", "_law_parts_here", "_law_ahead", "_law_weight", "_law_at"]) (by decide)) (λ_ _ _ _ _ _=>ar3 λ_ _ _=>rfl) λnd _ _ _ _ _ _ _ hr=>'d'
def cR:PSt:=
 (cH (gX 3 kM (aa (ak aq (aa (af 0) (aa (pOp aM (pFn bj (aa (af 3) ag)) (ah 1)) ag))) (aa (af 4) ag))))
def dU:PSt:=
 (ao (dS (lQ 6 l6) (gtX (gtU 2 (aF (gtN 7) (aF (gtN 8) bG)))))
  (xIf (qOf (pOp bEq (pFn bj (aa (af 8) ag)) (ah 1))) (dZ 5 seL (pOp bIx (af 8) (ah 0)) (af 7)) (ao (aE false 9 (pOp aM (ah 1) (ak aq (aa (af 0) (aa (pOp df (pFn bj (aa (af 8) ag)) (ah 1)) ag)))))
  (ao (aE false 10 (bD (aa (pFn iY (aa (pLC (dB (pSl (af 8) oN (oS (af 9)))) [none,some 2] (by decide) (gtN 0) qY (pOp bIx (af 1) (af 0))) ag)) (aa (pFn iY (aa (pLC (dB (pSl (af 8) (oS (af 9)) oN)) [none,some 2] (by decide) (gtN 0) qY (pOp bIx (af 1) (af 0))) ag)) ag))))
  (ao (dS (ak dP (aa (af 7) (aa (pOp bIx (bD (aa (bT "across") (aa (bT "down") ag))) (ak aq (aa (af 0) (aa (ah 2) ag)))) (aa (af 10) ag)))) (gtX (gtU 2 (aF (gtN 11) (aF (gtN 12) bG)))))
  (aE true 6 (pOp aM (af 6) (bD (aa (aG (aa (af 11) (aa (pSl (af 8) oN (oS (af 9))) ag))) (aa (aG (aa (af 12) (aa (pSl (af 8) (oS (af 9)) oN) ag))) ag))))))))))
def gw:PSt:=
 (ao (aE true 3 (bD ag))
  (ao (dk (f6 (aa (pFn bj (aa (af 2) ag)) ag)) (gtN 4) (cR))
  (ao (aE true 5 (pOp uk (bD (aa fg ag)) (pFn bj (aa (af 2) ag))))
  (ao (aE true 6 (bD (aa (aG (aa (af 1) (aa (af 3) ag))) ag)))
  (ao (xWh (qOf (pOp uF (af 6) (bD ag))) (dU))
  (aB (af 5)))))))
def b9:PFn:=fnP [true,false,false] 13 gw
def n8:b9.ms=[true,false,false]:=rfl
def mJ(T:TT K mg):Callee P w K mg base "_law_cut_up" 4 ["_law_feed_here", "_law_room_here", "_law_weights_here"] (spD K mg 3 b9.F):=aX (T.d.get 36 rfl) (aP (N:=["_law_feed_here", "_law_room_here", "_law_weights_here", "_law_numbers", "_law_k", "_law_boxes", "_law_todo", "_law_box", "_law_some", "_law_at", "_law_sums", "_law_one", "_law_two"]) (by decide)) (λ_ _ _ _ _ _=>ar3 λ_ _ _=>rfl) λnd _ _ _ _ _ _ _ hr=>(aw 'd' (aw 'd' (aw 'd' (aw 'd' (aw (oW yz 'd' (aw 'd' (hZ (fT 'd' 'd' (aw 'd' (aw (zsS 10 nd (xg (cG (cI (ju (K:=K) rfl rfl) pQ rfl (T.n rfl) (by first |exact boF rfl |exact boT rfl) (cG (jl ["_law_feed_here", "_law_room_here", "_law_weights_here", "_law_numbers", "_law_k", "_law_boxes", "_law_todo", "_law_box", "_law_some", "_law_at", "_law_sums", "_law_one", "_law_two"] (az (top 36)).names ["_law_k", "_law_weights_here"] [none,some 2] 'd' (λnd _ _ _ _ _=>'d') (λnd _ _ _ _ _=>'d')) 'd')) (cG (cI (ju (K:=K) rfl rfl) pQ rfl (T.n rfl) (by first |exact boF rfl |exact boT rfl) (cG (jl ["_law_feed_here", "_law_room_here", "_law_weights_here", "_law_numbers", "_law_k", "_law_boxes", "_law_todo", "_law_box", "_law_some", "_law_at", "_law_sums", "_law_one", "_law_two"] (az (top 36)).names ["_law_k", "_law_weights_here"] [none,some 2] 'd' (λnd _ _ _ _ _=>'d') (λnd _ _ _ _ _=>'d')) 'd')) 'd')))) 'd')))))) 'd')))))
def lr:PSt:=
 (aB (dg (pFn (a9 bN) (aa (af 0) (aa (pTy "int") ag))) (iW (pFn (a9 bN) (aa (af 0) (aa (pTy "bool") ag))))))
def cN:PFn:=fnP [false] 1 lr
def qX:cN.ms=[false]:=rfl
def qt(T:TT K mg):Callee P w K mg base "is_whole" 1 ["thing"] (spD K mg 1 cN.F):=aX (T.d.get 7 rfl) (aP (N:=["thing"]) (by decide)) (λ_ _ _ _ _ _=>ar1 λ_=>rfl) λnd _ _ _ _ _ _ _ hr=>'d'
def cD:PSt:=
 (eR 0 1 (aa (af 1) (aa (pOp bZ (af 0) (af 1)) ag)))
def gq:PSt:=
 (ao (eR 0 1 (aa (pFn fq (aa (af 0) ag)) (aa (pFn fq (aa (af 1) ag)) ag)))
  (ao (xWh (qOf (pOp bNe (af 1) (ah 0))) (cD))
  (aB (af 0))))
def bH:PFn:=fnP [false,false] 2 gq
def jZ:bH.ms=[false,false]:=rfl
def jm(T:TT K mg):Callee P w K mg base "common_divisor" 1 ["one", "other"] (spD K mg 2 bH.F):=aX (T.d.get 8 rfl) (aP (N:=["one", "other"]) (by decide)) (λ_ _ _ _ _ _=>ar2 λ_ _=>rfl) λnd _ _ _ _ _ _ _ hr=>'d'
def jc:PSt:=
 (ao (xIf (qO (qNo (qOf (pFn (a9 bN) (aa (af 0) (aa (pTy "tuple") ag))))) (qOf (pOp bNe (pFn bj (aa (af 0) ag)) (ah 2)))) (aB (pBl false)) xNx)
  (ao (dS (af 0) (gtX (gtT 2 (aF (gtN 1) (aF (gtN 2) bG)))))
  (ao (xIf (qO (qNo (qOf (ak cN (aa (af 1) ag)))) (qNo (qOf (ak cN (aa (af 2) ag))))) (aB (pBl false)) xNx)
  (aB (dg (pOp bGe (af 2) (ah 1)) (pOp bEq (ak bH (aa (af 1) (aa (af 2) ag))) (ah 1)))))))
def cn:PFn:=fnP [false] 3 jc
def my:cn.ms=[false]:=rfl
def lK(T:TT K mg):Callee P w K mg base "is_fraction" 2 ["thing"] (spD K mg 1 cn.F):=aX (T.d.get 9 rfl) (aP (N:=["thing", "top", "bottom"]) (by decide)) (λ_ _ _ _ _ _=>ar1 λ_=>rfl) λnd _ _ _ _ _ _ _ hr=>'d'
def oY:PSt:=
 (ao (xIf (qO (qNo (qOf (pFn (a9 bN) (aa (af 0) (aa (pTy "tuple") ag))))) (qOf (pOp bNe (pFn bj (aa (af 0) ag)) (ah 4)))) (aB (pBl false)) xNx)
  (ao (xIf (qNo (qOf (pFn iE (aa (pLC (dB (af 0)) [none] (by decide) (gtN 0) qY (ak cn (aa (af 0) ag))) ag)))) (aB (pBl false)) xNx)
  (aB (dg (pOp bGt (pOp bIx (pOp bIx (af 0) (ah 2)) (ah 0)) (ah 0)) (pOp bGt (pOp bIx (pOp bIx (af 0) (ah 3)) (ah 0)) (ah 0))))))
def eN:PFn:=fnP [false] 1 oY
def vk:eN.ms=[false]:=rfl
def uA(T:TT K mg):Callee P w K mg base "is_box" 3 ["thing"] (spD K mg 1 eN.F):=aX (T.d.get 16 rfl) (aP (N:=["thing"]) (by decide)) (λ_ _ _ _ _ _=>ar1 λ_=>rfl) λnd _ _ _ _ _ _ _ hr=>(aw 'd' (aw (fT (js (gm (cI (oU (K:=K) rfl rfl) jx rfl (T.n rfl) (by first |exact boF rfl |exact boT rfl) (cG (jl ["thing"] (az (top 16)).names ["part"] [none] 'd' (λnd _ _ _ _ _=>'d') (λnd _ _ _ _ _=>'d')) 'd')))) 'd' 'd') 'd'))
def j7:PSt:=
 (xIf (qNo (qOf (ak eN (aa (af 0) ag)))) (gn "NoBox" (aa (bT "this is no box") ag)) xNx)
def cx:PFn:=fnP [false] 1 j7
def qR:cx.ms=[false]:=rfl
def nW(T:TT K mg):Callee P w K mg base "check_box" 4 ["thing"] (spD K mg 1 cx.F):=aX (T.d.get 17 rfl) (aP (N:=["thing"]) (by decide)) (λ_ _ _ _ _ _=>ar1 λ_=>rfl) λnd _ _ _ _ _ _ _ hr=>'d'
def ka:PSt:=
 (aB (dg (ak cN (aa (af 0) ag)) (pOp bGe (af 0) (ah 1))))
def cX:PFn:=fnP [false] 1 ka
def oM:cX.ms=[false]:=rfl
def nX(T:TT K mg):Callee P w K mg base "is_weight" 2 ["thing"] (spD K mg 1 cX.F):=aX (T.d.get 18 rfl) (aP (N:=["thing"]) (by decide)) (λ_ _ _ _ _ _=>ar1 λ_=>rfl) λnd _ _ _ _ _ _ _ hr=>'d'
def gL:PSt:=
 (ao (xIf (qO (qNo (qOf (pFn (a9 bN) (aa (af 0) (aa (pTy "list") ag))))) (qOf (pOp bEq (pFn bj (aa (af 0) ag)) (ah 0)))) (gn "NoWeights" (aa (bT "this is no list of weights") ag)) xNx)
  (ao (xIf (qNo (qOf (pFn iE (aa (pLC (dB (af 0)) [none] (by decide) (gtN 0) qY (ak cX (aa (af 0) ag))) ag)))) (gn "NoWeights" (aa (bT "a weight is a whole number from 1 on") ag)) xNx)
  (xIf (qOf (pOp bGt (pFn bj (aa (af 0) ag)) gM)) (gn "TooMany" (aa (bT "these are more weights than forty") ag)) xNx)))
def bS:PFn:=fnP [false] 1 gL
def kj:bS.ms=[false]:=rfl
def j4(T:TT K mg):Callee P w K mg base "check_weights" 3 ["thing"] (spD K mg 1 bS.F):=aX (T.d.get 19 rfl) (aP (N:=["thing"]) (by decide)) (λ_ _ _ _ _ _=>ar1 λ_=>rfl) λnd _ _ _ _ _ _ _ hr=>(aw 'd' (aw (fT (js (gm (cI (oU (K:=K) rfl rfl) jx rfl (T.n rfl) (by first |exact boF rfl |exact boT rfl) (cG (jl ["thing"] (az (top 19)).names ["weight"] [none] 'd' (λnd _ _ _ _ _=>'d') (λnd _ _ _ _ _=>'d')) 'd')))) 'd' 'd') 'd'))
def lz:PSt:=
 (ao (xIf (qOf (pOp bEq (af 1) (ah 0))) (gn "NoFraction" (aa (bT "a fraction has no bottom of 0") ag)) xNx)
  (ao (aE false 2 (ak bH (aa (af 0) (aa (af 1) ag))))
  (ao (xIf (qOf (pOp bLt (af 1) (ah 0))) (aE false 2 (pUn xB (af 2))) xNx)
  (aB (aG (aa (pOp iR (af 0) (af 2)) (aa (pOp iR (af 1) (af 2)) ag)))))))
def cP:PFn:=fnP [false,false] 3 lz
def rf:cP.ms=[false,false]:=rfl
def pS(T:TT K mg):Callee P w K mg base "fraction" 2 ["top", "bottom"] (spD K mg 2 cP.F):=aX (T.d.get 10 rfl) (aP (N:=["top", "bottom", "divisor"]) (by decide)) (λ_ _ _ _ _ _=>ar2 λ_ _=>rfl) λnd _ _ _ _ _ _ _ hr=>'d'
def rG:PSt:=
 (aB (ak cP (aa (pOp aA (pOp bIx (af 0) (ah 0)) (pOp bIx (af 1) (ah 0))) (aa (pOp aA (pOp bIx (af 0) (ah 1)) (pOp bIx (af 1) (ah 1))) ag))))
def gh:PFn:=fnP [false,false] 2 rG
def yd:gh.ms=[false,false]:=rfl
def vB(T:TT K mg):Callee P w K mg base "times" 3 ["one", "other"] (spD K mg 2 gh.F):=aX (T.d.get 12 rfl) (aP (N:=["one", "other"]) (by decide)) (λ_ _ _ _ _ _=>ar2 λ_ _=>rfl) λnd _ _ _ _ _ _ _ hr=>'d'
def uZ:PSt:=
 (ao (cH (ak cx (aa (af 0) ag)))
  (aB (ak gh (aa (pOp bIx (af 0) (ah 2)) (aa (pOp bIx (af 0) (ah 3)) ag)))))
def iw:PFn:=fnP [false] 1 uZ
def Ca:iw.ms=[false]:=rfl
def yt(T:TT K mg):Callee P w K mg base "area" 5 ["box"] (spD K mg 1 iw.F):=aX (T.d.get 20 rfl) (aP (N:=["box"]) (by decide)) (λ_ _ _ _ _ _=>ar1 λ_=>rfl) λnd _ _ _ _ _ _ _ hr=>'d'
def rR:PSt:=
 (aB (ak cP (aa (pOp aM (pOp aA (pOp bIx (af 0) (ah 0)) (pOp bIx (af 1) (ah 1))) (pOp aA (pOp bIx (af 1) (ah 0)) (pOp bIx (af 0) (ah 1)))) (aa (pOp aA (pOp bIx (af 0) (ah 1)) (pOp bIx (af 1) (ah 1))) ag))))
def gg:PFn:=fnP [false,false] 2 rR
def xQ:gg.ms=[false,false]:=rfl
def xf(T:TT K mg):Callee P w K mg base "added" 3 ["one", "other"] (spD K mg 2 gg.F):=aX (T.d.get 11 rfl) (aP (N:=["one", "other"]) (by decide)) (λ_ _ _ _ _ _=>ar2 λ_ _=>rfl) λnd _ _ _ _ _ _ _ hr=>'d'
def rK:PSt:=
 (ao (dS (af 0) (gtX (gtT 4 (aF (gtN 1) (aF (gtN 2) (aF (gtN 3) (aF (gtN 4) bG)))))))
  (aB (aG (aa (af 1) (aa (ak gg (aa (af 1) (aa (af 3) ag))) (aa (af 2) (aa (ak gg (aa (af 2) (aa (af 4) ag))) ag)))))))
def ec:PFn:=fnP [false] 5 rK
def zp:ec.ms=[false]:=rfl
def wz(T:TT K mg):Callee P w K mg base "walls" 4 ["box"] (spD K mg 1 ec.F):=aX (T.d.get 23 rfl) (aP (N:=["box", "left", "top", "wide", "high"]) (by decide)) (λ_ _ _ _ _ _=>ar1 λ_=>rfl) λnd _ _ _ _ _ _ _ hr=>'d'
def nN:PSt:=
 (aB (pOp bLt (pOp aA (pOp bIx (af 0) (ah 0)) (pOp bIx (af 1) (ah 1))) (pOp aA (pOp bIx (af 1) (ah 0)) (pOp bIx (af 0) (ah 1)))))
def bC:PFn:=fnP [false,false] 2 nN
def sU:bC.ms=[false,false]:=rfl
def qW(T:TT K mg):Callee P w K mg base "is_less" 1 ["one", "other"] (spD K mg 2 bC.F):=aX (T.d.get 13 rfl) (aP (N:=["one", "other"]) (by decide)) (λ_ _ _ _ _ _=>ar2 λ_ _=>rfl) λnd _ _ _ _ _ _ _ hr=>'d'
def jb:PSt:=
 (ao (dS (ak ec (aa (af 1) ag)) (gtX (gtT 4 (aF (gtN 2) (aF (gtN 3) (aF (gtN 4) (aF (gtN 5) bG)))))))
  (ao (dS (ak ec (aa (af 0) ag)) (gtX (gtT 4 (aF (gtN 6) (aF (gtN 7) (aF (gtN 8) (aF (gtN 9) bG)))))))
  (ao (xIf (qO (qOf (ak bC (aa (af 2) (aa (af 6) ag)))) (qOf (ak bC (aa (af 7) (aa (af 3) ag))))) (aB (pBl false)) xNx)
  (aB (dg (iW (ak bC (aa (af 4) (aa (af 8) ag)))) (iW (ak bC (aa (af 9) (aa (af 5) ag)))))))))
def cQ:PFn:=fnP [false,false] 10 jb
def mG:cQ.ms=[false,false]:=rfl
def lE(T:TT K mg):Callee P w K mg base "lies_within" 5 ["room", "box"] (spD K mg 2 cQ.F):=aX (T.d.get 24 rfl) (aP (N:=["room", "box", "left", "right", "top", "bottom", "begin", "end", "upper", "lower"]) (by decide)) (λ_ _ _ _ _ _=>ar2 λ_ _=>rfl) λnd _ _ _ _ _ _ _ hr=>'d'
def dE:PSt:=
 (ao (dS (af 0) (gtX (gtT 4 (aF (gtN 2) (aF (gtN 3) (aF (gtN 4) (aF (gtN 5) bG)))))))
  (ao (dS (af 1) (gtX (gtT 4 (aF (gtN 6) (aF (gtN 7) (aF (gtN 8) (aF (gtN 9) bG)))))))
  (ao (xIf (qO (qNo (qOf (ak bC (aa (af 2) (aa (af 7) ag))))) (qNo (qOf (ak bC (aa (af 6) (aa (af 3) ag)))))) (aB (pBl false)) xNx)
  (aB (dg (ak bC (aa (af 4) (aa (af 9) ag))) (ak bC (aa (af 8) (aa (af 5) ag))))))))
def aZ:PFn:=fnP [false,false] 10 dE
def gr:aZ.ms=[false,false]:=rfl
def fY(T:TT K mg):Callee P w K mg base "share_more_than_walls" 2 ["one", "other"] (spD K mg 2 aZ.F):=aX (T.d.get 25 rfl) (aP (N:=["one", "other", "left", "right", "top", "bottom", "begin", "end", "upper", "lower"]) (by decide)) (λ_ _ _ _ _ _=>ar2 λ_ _=>rfl) λnd _ _ _ _ _ _ _ hr=>'d'
def dX:PSt:=
 (xIf (qOf (ak aZ (aa (pOp bIx (af 1) (af 4)) (aa (af 3) ag)))) (aB (aG (aa (bT "over") (aa (af 4) (aa (af 2) ag))))) xNx)
def dY:PSt:=
 (dk (f6 (aa (af 2) ag)) (gtN 4) (dX))
def jr:PSt:=
 (ao (aE false 1 (pLC (dB (af 0)) [none] (by decide) (gtN 0) qY (ak ec (aa (af 0) ag))))
  (ao (dk (f9 (aa (af 1) ag)) (gtX (gtT 2 (aF (gtN 2) (aF (gtN 3) bG)))) (dY))
  (aB fg)))
def de:PFn:=fnP [false] 5 jr
def n9:de.ms=[false]:=rfl
def mw(T:TT K mg):Callee P w K mg base "first_over" 5 ["boxes"] (spD K mg 1 de.F):=aX (T.d.get 26 rfl) (aP (N:=["boxes", "drawn", "at", "later", "ahead"]) (by decide)) (λ_ _ _ _ _ _=>ar1 λ_=>rfl) λnd _ _ _ _ _ _ _ hr=>(aw (zSlc nd ["boxes", "drawn", "at", "later", "ahead"] (az (top 26)).names ["box"] [none] 'd' (λnd _ _ _ _ _=>'d') (λnd _ _ _ _ _=>'d')) 'd')
def kh:PSt:=
 (xIf (qNo (qOf (ak eN (aa (af 4) ag)))) (aB (aG (aa (bT "box") (aa (af 3) ag)))) xNx)
def kH:PSt:=
 (xIf (qOf (pOp bNe (ak iw (aa (af 4) ag)) (ak gh (aa (ak iw (aa (af 0) ag)) (aa (ak cP (aa (pOp bIx (af 1) (af 3)) (aa (pFn iY (aa (af 1) ag)) ag))) ag))))) (aB (aG (aa (bT "area") (aa (af 3) ag)))) xNx)
def kA:PSt:=
 (xIf (qNo (qOf (ak cQ (aa (af 0) (aa (af 4) ag))))) (aB (aG (aa (bT "out") (aa (af 3) ag)))) xNx)
def jN:PSt:=
 (ao (cH (ak cx (aa (af 0) ag)))
  (ao (cH (ak bS (aa (af 1) ag)))
  (ao (xIf (qOf (pOp bNe (pFn bj (aa (af 2) ag)) (pFn bj (aa (af 1) ag)))) (aB (aG (aa (bT "count") ag))) xNx)
  (ao (dk (f9 (aa (af 2) ag)) (gtX (gtT 2 (aF (gtN 3) (aF (gtN 4) bG)))) (kh))
  (ao (dk (f9 (aa (af 2) ag)) (gtX (gtT 2 (aF (gtN 3) (aF (gtN 4) bG)))) (kH))
  (ao (dk (f9 (aa (af 2) ag)) (gtX (gtT 2 (aF (gtN 3) (aF (gtN 4) bG)))) (kA))
  (aB (ak de (aa (af 2) ag)))))))))
def bp:PFn:=fnP [false,false,false] 5 jN
def xO:bp.ms=[false,false,false]:=rfl
def wB(T:TT K mg):Callee P w K mg base "fault" 6 ["room", "weights", "boxes"] (spD K mg 3 bp.F):=aX (T.d.get 22 rfl) (aP (N:=["room", "weights", "boxes", "at", "box"]) (by decide)) (λ_ _ _ _ _ _=>ar3 λ_ _ _=>rfl) λnd _ _ _ _ _ _ _ hr=>'d'
def iI:PSt:=
 (ao (eR 2 3 (aa (ak aq (aa (af 0) (aa (pFn bj (aa (af 1) ag)) ag))) (aa (ak aq (aa (af 0) (aa (pFn bj (aa (af 1) ag)) ag))) ag)))
  (ao (aE false 4 (ak aq (aa (af 0) (aa (ah 8) ag))))
  (ao (dS (pOp bIx (af 1) (af 2)) (gtX (gtT 4 (aF (gtN 5) (aF (gtN 6) (aF (gtN 7) (aF (gtN 8) bG)))))))
  (ao (aE true 9 (pFn fH (aa (af 1) ag)))
  (ao (xIf (qOf (pOp bEq (af 4) (ah 0))) (aB (pOp aM (pSl (af 9) oN (oS (af 2))) (pSl (af 9) (oS (pOp aM (af 2) (ah 1))) oN))) xNx)
  (ao (xIf (qOf (pOp bEq (af 4) (ah 1))) (aB (pOp aM (pOp aM (pSl (af 9) oN (oS (af 2))) (bD (aa (pOp bIx (af 9) (af 3)) ag))) (pSl (af 9) (oS (af 2)) oN))) xNx)
  (ao (xIf (qOf (pOp bEq (af 4) (ah 2))) (um 9 2 3) xNx)
  (ao (xIf (qOf (pOp bEq (af 4) (ah 3))) (ao (aE false 10 (ak aC (aa (pOp aA (pOp bIx (af 7) (ah 0)) (pOp aM (ah 1) (ak aq (aa (af 0) (aa (ah 3) ag))))) (aa (pOp aA (pOp bIx (af 7) (ah 1)) (ah 4)) ag))))
  (ao (dZ 9 seL (af 2) (aG (aa (ak bA (aa (af 5) (aa (pOp bIx (bD (aa (af 10) (aa (aG (aa (pOp df (ah 0) (pOp bIx (af 10) (ah 0))) (aa (pOp bIx (af 10) (ah 1)) ag))) ag))) (ak aq (aa (af 0) (aa (ah 2) ag)))) ag))) (aa (af 6) (aa (af 7) (aa (af 8) ag))))))
  (xIf (qOf (pOp bEq (ak aq (aa (af 0) (aa (ah 2) ag))) (ah 0))) (ao (aE false 10 (ak aC (aa (pOp aA (pOp bIx (af 8) (ah 0)) (pOp aM (ah 1) (ak aq (aa (af 0) (aa (ah 3) ag))))) (aa (pOp aA (pOp bIx (af 8) (ah 1)) (ah 4)) ag))))
  (dZ 9 seL (af 2) (aG (aa (af 5) (aa (ak bA (aa (af 6) (aa (pOp bIx (bD (aa (af 10) (aa (aG (aa (pOp df (ah 0) (pOp bIx (af 10) (ah 0))) (aa (pOp bIx (af 10) (ah 1)) ag))) ag))) (ak aq (aa (af 0) (aa (ah 2) ag)))) ag))) (aa (af 7) (aa (af 8) ag))))))) xNx))) xNx)
  (ao (xIf (qOf (pOp bEq (af 4) (ah 4))) (dZ 9 seL (af 2) (aG (aa (af 5) (aa (af 6) (aa (ak aC (aa (pOp aA (pOp bIx (af 7) (ah 0)) (ah 2)) (aa (pOp bIx (af 7) (ah 1)) ag))) (aa (ak aC (aa (pOp bIx (af 8) (ah 0)) (aa (pOp aA (pOp bIx (af 8) (ah 1)) (ah 2)) ag))) ag)))))) xNx)
  (ao (xIf (qOf (pOp bEq (af 4) (ah 5))) (dZ 9 seL (af 2) (aG (aa (af 5) (aa (af 6) (aa (af 7) (aa (ak aC (aa (pOp aA (pOp bIx (af 8) (ah 0)) (ah 10)) (aa (pOp aA (pOp bIx (af 8) (ah 1)) (ah 9)) ag))) ag)))))) xNx)
  (ao (xIf (qOf (pOp bEq (af 4) (ah 6))) (ao (aE false 11 (bD (aa (pFn fH (aa (pOp bIx (af 1) (af 2)) ag)) (aa (aG (aa (af 5) (aa (af 6) (aa (af 7) ag)))) (aa fg (aa (bT "box") (aa (aG (aa (af 5) (aa (af 6) (aa (aG (aa (ah 0) (aa (ah 1) ag))) (aa (af 8) ag))))) (aa (aG (aa (pBl true) (aa (af 6) (aa (af 7) (aa (af 8) ag))))) ag))))))))
  (dZ 9 seL (af 2) (pOp bIx (pOp aM (af 11) (bD (aa (aG (aa (af 5) (aa (af 6) (aa (aG (aa (pOp aA (ah 2) (pOp bIx (af 7) (ah 0))) (aa (pOp aA (ah 2) (pOp bIx (af 7) (ah 1))) ag))) (aa (af 8) ag))))) (aa (ah 7) ag)))) (ak aq (aa (af 0) (aa (ah 8) ag)))))) xNx)
  (aB (af 9)))))))))))))
def bf:PFn:=fnP [true,false] 12 iI
def rq:bf.ms=[true,false]:=rfl
def gz(T:TT K mg):Callee P w K mg base "_law_bent" 3 ["_law_feed_here", "_law_boxes"] (spD K mg 2 bf.F):=aX (T.d.get 37 rfl) (aP (N:=["_law_feed_here", "_law_boxes", "_law_at", "_law_other", "_law_way", "_law_left", "_law_top", "_law_wide", "_law_high", "_law_some", "_law_part", "_law_odd"]) (by decide)) (λ_ _ _ _ _ _=>ar2 λ_ _=>rfl) λnd _ _ _ _ _ _ _ hr=>(aw 'd' (aw 'd' (aw 'd' (aw 'd' (aw 'd' (aw 'd' (aw (fT 'd' (hZ (C4 'd' (xb 'd' 'd') (xb 'd' 'd'))) 'd') 'd')))))))
def gE:PSt:=
 (ao (xIf (qO (qNo (qOf (pFn (a9 bN) (aa (af 0) (aa (pTy "tuple") ag))))) (qOf (pOp bNe (pFn bj (aa (af 0) ag)) (ah 2)))) (aB (pBl false)) xNx)
  (ao (xIf (qNo (qOf (pFn iE (aa (pLC (dB (af 0)) [none] (by decide) (gtN 0) qY (dg (pFn (a9 bN) (aa (af 0) (aa (pTy "int") ag))) (iW (pFn (a9 bN) (aa (af 0) (aa (pTy "bool") ag)))))) ag)))) (aB (pBl false)) xNx)
  (aB (dg (pOp bGt (pOp bIx (af 0) (ah 1)) (ah 0)) (pOp bEq (ak aC (aa (pOp bIx (af 0) (ah 0)) (aa (pOp bIx (af 0) (ah 1)) ag))) (af 0))))))
def cq:PFn:=fnP [false] 1 gE
def kQ:cq.ms=[false]:=rfl
def jY(T:TT K mg):Callee P w K mg base "_law_is_number" 2 ["_law_thing"] (spD K mg 1 cq.F):=aX (T.d.get 38 rfl) (aP (N:=["_law_thing"]) (by decide)) (λ_ _ _ _ _ _=>ar1 λ_=>rfl) λnd _ _ _ _ _ _ _ hr=>(aw 'd' (aw (fT (js (gm (cI (oU (K:=K) rfl rfl) jx rfl (T.n rfl) (by first |exact boF rfl |exact boT rfl) (cG (jl ["_law_thing"] (az (top 38)).names ["_law_one"] [none] 'd' (λnd _ _ _ _ _=>'d') (λnd _ _ _ _ _=>'d')) 'd')))) 'd' 'd') 'd'))
def jn:PSt:=
 (ao (xIf (qO (qNo (qOf (pFn (a9 bN) (aa (af 0) (aa (pTy "tuple") ag))))) (qO (qOf (pOp bNe (pFn bj (aa (af 0) ag)) (ah 4))) (qNo (qOf (pFn iE (aa (pLC (dB (af 0)) [none] (by decide) (gtN 0) qY (ak cq (aa (af 0) ag))) ag)))))) (aB (pBl false)) xNx)
  (aB (dg (pOp bGt (pOp bIx (pOp bIx (af 0) (ah 2)) (ah 0)) (ah 0)) (pOp bGt (pOp bIx (pOp bIx (af 0) (ah 3)) (ah 0)) (ah 0)))))
def bP:PFn:=fnP [false] 1 jn
def nV:bP.ms=[false]:=rfl
def mO(T:TT K mg):Callee P w K mg base "_law_is_box" 3 ["_law_thing"] (spD K mg 1 bP.F):=aX (T.d.get 39 rfl) (aP (N:=["_law_thing"]) (by decide)) (λ_ _ _ _ _ _=>ar1 λ_=>rfl) λnd _ _ _ _ _ _ _ hr=>(aw (fT (ZW.dt (ub 'd' (ub 'd' (wm (js (gm (cI (oU (K:=K) rfl rfl) jx rfl (T.n rfl) (by first |exact boF rfl |exact boT rfl) (cG (jl ["_law_thing"] (az (top 39)).names ["_law_one"] [none] 'd' (λnd _ _ _ _ _=>'d') (λnd _ _ _ _ _=>'d')) 'd')))))))) 'd' 'd') 'd')
def lU:PSt:=
 (aB (aG (aa (pOp bIx (af 0) (ah 0)) (aa (pOp bIx (af 0) (ah 1)) (aa (ak bA (aa (pOp bIx (af 0) (ah 0)) (aa (pOp bIx (af 0) (ah 2)) ag))) (aa (ak bA (aa (pOp bIx (af 0) (ah 1)) (aa (pOp bIx (af 0) (ah 3)) ag))) ag))))))
def cu:PFn:=fnP [false] 1 lU
def rC:cu.ms=[false]:=rfl
def pE(T:TT K mg):Callee P w K mg base "_law_ends" 3 ["_law_box"] (spD K mg 1 cu.F):=aX (T.d.get 41 rfl) (aP (N:=["_law_box"]) (by decide)) (λ_ _ _ _ _ _=>ar1 λ_=>rfl) λnd _ _ _ _ _ _ _ hr=>'d'
def lB:PSt:=
 (aB (pOp bLt (pOp aA (pOp bIx (af 0) (ah 0)) (pOp bIx (af 1) (ah 1))) (pOp aA (pOp bIx (af 1) (ah 0)) (pOp bIx (af 0) (ah 1)))))
def bc:PFn:=fnP [false,false] 2 lB
def rA:bc.ms=[false,false]:=rfl
def oK(T:TT K mg):Callee P w K mg base "_law_less" 1 ["_law_one", "_law_two"] (spD K mg 2 bc.F):=aX (T.d.get 40 rfl) (aP (N:=["_law_one", "_law_two"]) (by decide)) (λ_ _ _ _ _ _=>ar2 λ_ _=>rfl) λnd _ _ _ _ _ _ _ hr=>'d'
def lV:PSt:=
 (ao (xIf (qO (qNo (qOf (ak bc (aa (pOp bIx (af 0) (ah 0)) (aa (pOp bIx (af 1) (ah 2)) ag))))) (qNo (qOf (ak bc (aa (pOp bIx (af 1) (ah 0)) (aa (pOp bIx (af 0) (ah 2)) ag)))))) (aB (pBl false)) xNx)
  (aB (dg (ak bc (aa (pOp bIx (af 0) (ah 1)) (aa (pOp bIx (af 1) (ah 3)) ag))) (ak bc (aa (pOp bIx (af 1) (ah 1)) (aa (pOp bIx (af 0) (ah 3)) ag))))))
def eE:PFn:=fnP [false,false] 2 lV
def rD:eE.ms=[false,false]:=rfl
def pP(T:TT K mg):Callee P w K mg base "_law_over" 2 ["_law_a", "_law_b"] (spD K mg 2 eE.F):=aX (T.d.get 42 rfl) (aP (N:=["_law_a", "_law_b"]) (by decide)) (λ_ _ _ _ _ _=>ar2 λ_ _=>rfl) λnd _ _ _ _ _ _ _ hr=>'d'
def iZ:PSt:=
 (xIf (qNo (qOf (ak bP (aa (af 4) ag)))) (aB (aG (aa (bT "box") (aa (af 3) ag)))) xNx)
def iz:PSt:=
 (ao (aE false 6 (ak aC (aa (pOp aA (pOp aA (pOp bIx (pOp bIx (af 0) (ah 2)) (ah 0)) (pOp bIx (pOp bIx (af 0) (ah 3)) (ah 0))) (pOp bIx (af 1) (af 3))) (aa (pOp aA (pOp aA (pOp bIx (pOp bIx (af 0) (ah 2)) (ah 1)) (pOp bIx (pOp bIx (af 0) (ah 3)) (ah 1))) (af 5)) ag))))
  (xIf (qOf (pOp bNe (ak aC (aa (pOp aA (pOp bIx (pOp bIx (af 4) (ah 2)) (ah 0)) (pOp bIx (pOp bIx (af 4) (ah 3)) (ah 0))) (aa (pOp aA (pOp bIx (pOp bIx (af 4) (ah 2)) (ah 1)) (pOp bIx (pOp bIx (af 4) (ah 3)) (ah 1))) ag))) (af 6))) (aB (aG (aa (bT "area") (aa (af 3) ag)))) xNx))
def i9:PSt:=
 (ao (aE false 8 (ak cu (aa (af 4) ag)))
  (ao (xIf (qO (qOf (ak bc (aa (pOp bIx (af 8) (ah 0)) (aa (pOp bIx (af 7) (ah 0)) ag)))) (qOf (ak bc (aa (pOp bIx (af 8) (ah 1)) (aa (pOp bIx (af 7) (ah 1)) ag))))) (aB (aG (aa (bT "out") (aa (af 3) ag)))) xNx)
  (xIf (qO (qOf (ak bc (aa (pOp bIx (af 7) (ah 2)) (aa (pOp bIx (af 8) (ah 2)) ag)))) (qOf (ak bc (aa (pOp bIx (af 7) (ah 3)) (aa (pOp bIx (af 8) (ah 3)) ag))))) (aB (aG (aa (bT "out") (aa (af 3) ag)))) xNx)))
def fX:PSt:=
 (xIf (qOf (ak eE (aa (pOp bIx (af 9) (af 10)) (aa (pOp bIx (af 9) (af 3)) ag)))) (aB (aG (aa (bT "over") (aa (af 10) (aa (af 3) ag))))) xNx)
def fZ:PSt:=
 (dk (f6 (aa (af 3) ag)) (gtN 10) (fX))
def gC:PSt:=
 (ao (xIf (qOf (pOp bNe (pFn bj (aa (af 2) ag)) (pFn bj (aa (af 1) ag)))) (aB (aG (aa (bT "count") ag))) xNx)
  (ao (dk (f9 (aa (af 2) ag)) (gtX (gtT 2 (aF (gtN 3) (aF (gtN 4) bG)))) (iZ))
  (ao (aE false 5 (pFn iY (aa (af 1) ag)))
  (ao (dk (f9 (aa (af 2) ag)) (gtX (gtT 2 (aF (gtN 3) (aF (gtN 4) bG)))) (iz))
  (ao (aE false 7 (ak cu (aa (af 0) ag)))
  (ao (dk (f9 (aa (af 2) ag)) (gtX (gtT 2 (aF (gtN 3) (aF (gtN 4) bG)))) (i9))
  (ao (aE false 9 (pLC (dB (af 2)) [none] (by decide) (gtN 0) qY (ak cu (aa (af 0) ag))))
  (ao (dk (f6 (aa (pFn bj (aa (af 2) ag)) ag)) (gtN 3) (fZ))
  (aB fg)))))))))
def bB:PFn:=fnP [false,false,false] 11 gC
def uK:bB.ms=[false,false,false]:=rfl
def rk(T:TT K mg):Callee P w K mg base "_law_due" 4 ["_law_room_here", "_law_weights_here", "_law_boxes"] (spD K mg 3 bB.F):=aX (T.d.get 43 rfl) (aP (N:=["_law_room_here", "_law_weights_here", "_law_boxes", "_law_k", "_law_box", "_law_whole", "_law_due_here", "_law_most", "_law_ends_here", "_law_some", "_law_j"]) (by decide)) (λ_ _ _ _ _ _=>ar3 λ_ _ _=>rfl) λnd _ _ _ _ _ _ _ hr=>(aw 'd' (aw 'd' (aw 'd' (aw 'd' (aw 'd' (aw 'd' (aw (zSlc nd ["_law_room_here", "_law_weights_here", "_law_boxes", "_law_k", "_law_box", "_law_whole", "_law_due_here", "_law_most", "_law_ends_here", "_law_some", "_law_j"] (az (top 43)).names ["_law_box"] [none] 'd' (λnd _ _ _ _ _=>'d') (λnd _ _ _ _ _=>'d')) 'd')))))))
def lL:PSt:=
 (ao (aE false 7 (ir bf (aa (af 1) (aa (af 4) ag))))
  (ao (xIf (qAn (qOf (pOp bEq (ak aq (aa (af 1) (aa (ah 2) ag))) (ah 0))) (qAn (qOf (ue (pFn bj (aa (af 7) ag)) λi=>dg (pOp bLt (ah 0) (ah i)) (pOp bLe (ah i) (pFn bj (aa (af 3) ag))))) (qOf (pFn iE (aa (pLC (dB (af 7)) [none] (by decide) (gtN 0) qY (ak bP (aa (af 0) ag))) ag))))) (aE false 7 (ir bf (aa (af 1) (aa (af 7) ag)))) xNx)
  (ao (aE false 8 (pFn fH (aa (af 7) ag)))
  (ao (aE false 9 (ak bp (aa (af 2) (aa (af 3) (aa (af 8) ag)))))
  (ao (xIf (qO (qOf (pOp bNe (af 9) (ak bB (aa (af 2) (aa (af 3) (aa (af 7) ag)))))) (qO (qOf (pOp bNe (af 8) (af 7))) (qOf (pOp bNe (af 3) (af 5))))) (aB (pBl false)) xNx)
  (ao (xIf (qAn (qOf (pOp kK (af 9) fg)) (qNo (qOf (pFn (a9 bN) (aa (af 9) (aa (pTy "tuple") ag)))))) (aB (pBl false)) xNx)
  (xIf (qAn (qOf (pOp kK (af 9) fg)) (qOf (pFn ud (aa (pLC (dB (af 9)) [none] (by decide) (gtN 0) qY (pFn (a9 bN) (aa (af 0) (aa (pTy "bool") ag)))) ag)))) (aB (pBl false)) xNx)))))))
def uO:PSt:=
 (ao (aE true 1 (ak cK (aa (af 0) (aa (ah 55) ag))))
  (ao (aE false 2 (ak eG (aa (af 1) ag)))
  (ao (aE true 3 (ak cV (aa (af 0) (aa (ah 0) (aa (pOp bIx (bD (aa (ah 9) (aa (ah 40) ag))) (pFn tE (aa (pOp bEq (ak aq (aa (af 1) (aa (ah 6) ag))) (ah 0)) ag))) ag)))))
  (ao (aE true 4 (ak b9 (aa (af 1) (aa (af 2) (aa (af 3) ag)))))
  (ao (aE false 5 (pFn fH (aa (af 3) ag)))
  (ao (xIf (qOf (pOp kK (ak bp (aa (af 2) (aa (af 3) (aa (pFn fH (aa (af 4) ag)) ag)))) fg)) (aB (pBl false)) xNx)
  (ao (dk (f6 (aa (ah 4) ag)) (gtN 6) (lL))
  (ao (xIf (qOf (pOp kK (ak bp (aa (af 2) (aa (af 3) (aa (af 4) ag)))) fg)) (aB (pBl false)) xNx)
  (ao (cH (gX 4 cL (aa (pOp bIx (af 4) (ah 0)) ag)))
  (ao (xIf (qOf (pOp bNe (ak bp (aa (af 2) (aa (af 3) (aa (af 4) ag)))) (aG (aa (bT "count") ag)))) (aB (pBl false)) xNx)
  (ao (cH (gX 3 cL (aa (ah 1) ag)))
  (ao (cH (lQ 4 l6))
  (aB (pOp bEq (ak bp (aa (af 2) (aa (pSl (af 3) oN (oS (ah 40))) (aa (af 4) ag)))) (ak bB (aa (af 2) (aa (pSl (af 3) oN (oS (ah 40))) (aa (af 4) ag))))))))))))))))))
def ox:PFn:=fnP [false] 10 uO
def CF(T:TT K mg):Callee P w K mg base "law" 7 ["_law_script"] (spD K mg 1 ox.F):=aX (T.d.get 44 rfl) (aP (N:=["_law_script", "_law_feed_here", "_law_room_here", "_law_weights_here", "_law_boxes", "_law_kept", "_law_again", "_law_some", "_law_handed", "_law_found"]) (by decide)) (λ_ _ _ _ _ _=>ar1 λ_=>rfl) λnd _ _ _ _ _ _ _ hr=>(aw 'd' (aw 'd' (aw 'd' (aw 'd' (aw 'd' (aw 'd' (aw (wX yz rfl 'd' 'd' (aw (zsS 7 nd (zcK (gz T) hr 'd')) (aw (fT (ZW.dt (lM 'd' (lM (CO uh uw JH Ka 'd' 'd') (m8 (gm (cI (oU (K:=K) rfl rfl) jx rfl (T.n rfl) (by first |exact boF rfl |exact boT rfl) (cG (jl ["_law_script", "_law_feed_here", "_law_room_here", "_law_weights_here", "_law_boxes", "_law_kept", "_law_again", "_law_some", "_law_handed", "_law_found"] (az (top 44)).names ["_law_one"] [none] 'd' (λnd _ _ _ _ _=>'d') (λnd _ _ _ _ _=>'d')) 'd'))))))) (hZ (zsS 7 nd (zcK (gz T) hr 'd'))) 'd') (aw 'd' (aw 'd' (aw 'd' (aw 'd' (hZ (fT (ZW.dt (lM 'd' (m8 (gm (cI (anyK (K:=K) rfl rfl) Fc rfl (T.n rfl) (by first |exact boF rfl |exact boT rfl) (cG (jl ["_law_script", "_law_feed_here", "_law_room_here", "_law_weights_here", "_law_boxes", "_law_kept", "_law_again", "_law_some", "_law_handed", "_law_found"] (az (top 44)).names ["_law_one"] [none] 'd' (λnd _ _ _ _ _=>'d') (λnd _ _ _ _ _=>'d')) 'd')))))) 'd' 'd'))))))))) 'd')))))))
end
def fdV(a b k:Int):Val:=.lst [.int a,.int b,.int k]
def zN:fP.G (.int 10) (.int 18)=.val (.int (10^18)):=oz ⟨by decide,by decide,by decide⟩
noncomputable def c9{a m:Int}(h:0<m):0<=a.fmod m/\a.fmod m<m:=⟨Int.fmod_nonneg_of_pos a h,Int.fmod_lt_of_pos a h⟩
set_option hygiene false in
local macro_rules | `(tactic|simp![$args,*])=>do
 let l <- ("% GA IU bR Jn Kb JO Gj jK Iw zF tW DV GG E4 E8 Fq Fx Hs C7 A0 yN Ek DU FP wR Bf F9 Je Kk v_bl JS JM v_ty v_un v_op Hx FG v_fn Ke Iy Kf HR c_of c_an c_o c_no c_y x_nx Jm CA BX Bq FE Ai x_if Ju HM Hz JD Bs yL xR g_n g_sn g_sc g_t g_x GR J1 J8 Bl Iv JN Kh HD J5 CU Fb HH Gp yc HW Jv DM FC Ds Gy Ja H9 m7 v_lc Gd DZ FI o_n o_s v_sl IA HU k_lt k_le k_gt k_ge J6 k_ix Gm G1 JI k_eq k_ne JE Jw Iq JT J4 HI Ji Ie EZ EA ze jf kD List.getElem?_cons_zero List.getElem?_cons_succ List.set_cons_zero List.set_cons_succ List.length_cons List.length_nil List.length_set Option.bind_some Option.map_some Option.isSome_some if_true if_false Bool.not_true Bool.not_false Bool.and_true Bool.true_and Bool.and_false Bool.false_and Bool.or_true Bool.true_or Bool.or_false Bool.false_or Nat.reduceLeDiff Nat.reduceLT Nat.reduceAdd Nat.reduceSub Nat.zero_add Nat.add_zero Nat.sub_self List.cons_append List.nil_append List.append_nil List.replicate reduceCtorEq decide_true decide_false Bool.false_eq_true List.all_cons List.all_nil List.isEmpty_nil List.isEmpty_cons List.map_cons List.map_nil Int.reduceBEq Int.reduceLT Int.reduceAdd Int.reduceSub Int.reduceMul Int.cast_ofNat_Int Fv Cy EJ GO Ec AN yE CN FK yf FN vH Cn B4 Ge BC wV Bm Dc xZ G7 AZ CM yA El Hf AO Ir IP Ih Jc vN vK nT iM fC je zB nK nM ati0 ati1 ati2 ati3 ixn0 ixn1 Iz ba AJ GB g_u g_uL J9 rh rj tH qN rB m5 uy qu n8 qX jZ my vk qR oM kj rf yd Ca xQ zp sU mG gr n9 xO rq kQ nV rC rA rD uK lx".splitOn " ").tail.mapM λs=>`(Lean.Parser.Tactic.simpLemma| $(Lean.mkIdent s.toName):term)
 `(tactic|simp only[$(l.toArray),*,$args,*])
def ax{a b k m:Int}(h0:0<m)(hm:Sm 8000 m):∃r a' b',aq.G [fdV a b k,.int m]=.ok (.val (.int r)) [fdV a' b' k]/\0<=r/\r<m:=by
 unfold aq
 rw[aY]
 unfold lg fdV
 have m0:m≠0:=by omega
 have d1:=λi=>eL (i:=i) m0
 have d2:=λi=>jQ (i:=i) (CDivB.of m0 hm)
 have ca:∀x:Int,CMulA 7919 x:=λx=>CMulA.left (by decide) (by decide)
 have cb:∀x:Int,CMulA 104729 x:=λx=>CMulA.left (by decide) (by decide)
 have cc:∀x:Int,CMulA x 48271:=λx=>CMulA.right (by decide) (by decide)
 have e1:bZ.G (.int a) (.int 1000003)=.val (.int (a.fmod 1000003)):=eL (by decide)
 have e2:aA.G (.int 7919) (.int k)=.val (.int (7919*k)):=aK (ca k)
 have e3:=λx=>aK (cb x)
 have e4:=λx=>aK (cc x)
 have e5:∀x:Int,bZ.G (.int x) (.int 2147483647)=.val (.int (x.fmod 2147483647)):=λx=>eL (by decide)
 have e6:∀x:Int,bZ.G (.int x) (.int 65521)=.val (.int (x.fmod 65521)):=λx=>eL (by decide)
 have e7:∀x y:Int,aA.G (.int (x.fmod 2147483647)) (.int y)=.val (.int (x.fmod 2147483647*y)):=λx y=>aK (CMulA.left (by have:=(c9 (a:=x) (m:=2147483647) (by decide)).1;omega) (by have:=(c9 (a:=x) (m:=2147483647) (by decide)).2;omega))
 have e8:∀x:Int,bZ.G (.int x) (.int 2147483629)=.val (.int (x.fmod 2147483629)):=λx=>eL (by decide)
 by_cases hc:(10^18:Int)<=a
 ·have hc':decide ((10^18:Int)<=a)=true:=F_ hc
  refine⟨a.fmod m,a.fdiv m,b+1,?_,c9 h0⟩
  simp![zN,hc',d1,d2]
  done
 ·have hc':decide ((10^18:Int)<=a)=false:=w_ hc
  refine⟨Int.fmod (Int.fmod (Int.fmod ((Int.fmod a 1000003+7919*k+104729*(b+1))*48271) 2147483647*(Int.fmod (Int.fmod ((Int.fmod a 1000003+7919*k+104729*(b+1))*48271) 2147483647) 65521+(b+1))) 2147483629) m,a,b+1,?_,c9 h0⟩
  simp![zN,hc',d1,e1,e2,e3,e4,e5,e6,e7,e8]
def A1(xs:List Val):(a9 bN).G [.tup xs,.ty "tuple"]=.val (.bl true):=rfl
def gj(a:Int):(if a<0 then -a else a)=((a.natAbs:Nat):Int):=by split <;> omega
theorem o9:∀(n one a_:Nat),a_<=n->(xWh (qOf (pOp bNe (af 1) (ah 0))) cD).G [.sh (.int (one:Nat)),.sh (.int (a_:Nat))]=.nx [.sh (.int (Nat.gcd one a_:Nat)),.sh (.int 0)]
 |
  n,one,0,_=>by
  rw[kT]
  simp![bR]
  rw[Nat.gcd_zero_right]
  try rfl
 |0,one,a_+1,hl=>absurd hl (by omega)
 |
  n+1,one,a_+1,hl=>by
  rw[kT]
  have e:((((a_+1:Nat):Int)==0))=false:=by rw[o_];omega
  have e1:bZ.G (.int (one:Nat)) (.int ((a_+1:Nat):Int))=.val (.int (((one:Nat):Int).fmod ((a_+1:Nat):Int))):=eL (by omega)
  have e2:((one:Nat):Int).fmod ((a_+1:Nat):Int)=((one % (a_+1):Nat):Int):=by
   rw[Int.fmod_eq_emod_of_nonneg _ (by omega)];rfl
  have ih:=o9 n (a_+1) (one % (a_+1)) (by have:=Nat.mod_lt one (show a_+1>0 by omega);omega)
  rw[Fr.euc] at ih
  rw[e2] at e1
  have bb:cD.G [.sh (.int (one:Nat)),.sh (.int ((a_+1:Nat):Int))]=.nx [.sh (.int ((a_+1:Nat):Int)),.sh (.int ((one % (a_+1):Nat):Int))]:=by
   unfold cD
   simp![e1]
  simp![e,bb,ih]
def cE(a b:Int):bH.G [.int a,.int b]=.ok (.val (.int (Int.gcd a b:Nat))) []:=by
 unfold bH
 rw[aY]
 unfold gq
 have:=o9 b.natAbs a.natAbs b.natAbs (n_ _)
 simp![gj,this]
 rfl
def g9{a b:Int}(hb:b≠0)(hs:Sm 8000 b):cP.G [.int a,.int b]=.ok (.val (fV ((a:Rat)/(b:Rat)))) []:=by
 unfold cP
 rw[aY]
 unfold lz
 have e:(b==0)=false:=by rw[o_];exact hb
 have c:∀x,CDivB x (Fr.dv a b):=λx=>CDivB.of (Fr.dv_ne hb) (hs.of_le (by
  rw[Fr.dv_abs]
  exact Nat.le_of_dvd (by omega) (Nat.gcd_dvd_right a.natAbs b.natAbs)))
 have k1:=jQ (c a)
 have k2:=jQ (c b)
 have hh:=kX (a:=a) hb
 have em:Val.tup [.int (a.fdiv (Fr.dv a b)),.int (b.fdiv (Fr.dv a b))]=fV ((a:Rat)/(b:Rat)):=by
  unfold fV
  rw[<- hh.1,<- hh.2]
  rfl
 by_cases hn:b<0
 ·have hd:Fr.dv a b=-((Int.gcd a b:Nat):Int):=by unfold Fr.dv;rw[if_pos hn]
  rw[hd] at k1 k2 em
  simp![e,cE,F_ hn,k1,k2,em]
 ·have hd:Fr.dv a b=((Int.gcd a b:Nat):Int):=by unfold Fr.dv;rw[if_neg hn]
  rw[hd] at k1 k2 em
  simp![e,cE,w_ hn,k1,k2,em]
def qQ{p q:Rat}{n m:Nat}(hp:Sz n p)(hq:Sz m q)(h:n+m<=8000):gg.G [fV p,fV q]=.ok (.val (fV (p+q))) []:=by
 have c1:=aK (CMulA.of hp.top hq.bot (by omega) (by omega))
 have c2:=aK (CMulA.of hq.top hp.bot (by omega) (by omega))
 have c3:=aK (CMulA.of hp.bot hq.bot (by omega) (by omega))
 have fe:=g9 (a:=p.num*q.den+q.num*p.den) (b:=p.den*q.den) (Lc (cS p) (cS q)) ((hp.bot.mul hq.bot).mono h)
 rw[<- mZ] at fe
 unfold gg
 rw[aY]
 unfold rR
 rw[show fV p=.tup [.int p.num,.int p.den] from rfl,show fV q=.tup [.int q.num,.int q.den] from rfl]
 simp![c1,c2,c3,fe]
def p6{p q:Rat}{n m:Nat}(hp:Sz n p)(hq:Sz m q)(h:n+m<=8000):gh.G [fV p,fV q]=.ok (.val (fV (p*q))) []:=by
 have c1:=aK (CMulA.of hp.top hq.top (by omega) (by omega))
 have c2:=aK (CMulA.of hp.bot hq.bot (by omega) (by omega))
 have fe:=g9 (a:=p.num*q.num) (b:=p.den*q.den) (Lc (cS p) (cS q)) ((hp.bot.mul hq.bot).mono h)
 rw[<- jG] at fe
 unfold gh
 rw[aY]
 unfold rG
 rw[show fV p=.tup [.int p.num,.int p.den] from rfl,show fV q=.tup [.int q.num,.int q.den] from rfl]
 simp![c1,c2,fe]
def cw{p q:Rat}{n m:Nat}(hp:Sz n p)(hq:Sz m q)(h1:n<=100000)(h2:m<=100000):bC.G [fV p,fV q]=.ok (.val (.bl (decide (p<q)))) []:=by
 have c1:=aK (CMulA.of hp.top hq.bot h1 h2)
 have c2:=aK (CMulA.of hq.top hp.bot h2 h1)
 unfold bC
 rw[aY]
 unfold nN
 rw[show fV p=.tup [.int p.num,.int p.den] from rfl,show fV q=.tup [.int q.num,.int q.den] from rfl]
 simp![c1,c2]
 rw[show decide (p.num*(q.den:Int)<q.num*(p.den:Int))=decide (p<q) from decide_eq_decide.mpr (wb p q).symm]
def ek{v:Val}(hk:knV v=true):(a9 bN).G [v,.ty "tuple"]=.val (.bl (cm v)):=by
 cases v <;> first |rfl |cases hk
def gY{v:Val}(hk:knV v=true):cN.G [v]=.ok (.val (.bl (dH v))) []:=by
 unfold cN
 rw[aY]
 unfold lr
 cases v <;> first |rfl |cases hk
def iL(v:Val):cm v=false\/∃xs,v=.tup xs:=by
 cases v <;> first |exact .inr ⟨_,rfl⟩ |exact .inl rfl
def fk(v:Val):dH v=false\/∃i,v=.int i:=by
 cases v <;> first |exact .inr ⟨_,rfl⟩ |exact .inl rfl
def zZ{v:Val}(h:cm v=false):aD v=false:=by
 cases v <;> first |rfl |cases h
def Ah{v:Val}(h:cm v=false):aR v=false:=by
 cases v <;> first |rfl |cases h
def vx{a b:Val}(h:dH a=false):aD (.tup [a,b])=false:=by
 cases a <;> first |rfl |cases h
def vh{i:Int}{b:Val}(h:dH b=false):aD (.tup [.int i,b])=false:=by
 cases b <;> first |rfl |cases h
def Ao{xs:List Val}(hl:xs.length≠2):aD (.tup xs)=false:=by
 unfold aD
 split
 ·rename_i e;injection e with e;subst e;exact absurd rfl hl
 ·rfl
def zY{xs:List Val}(hl:xs.length≠4):aR (.tup xs)=false:=by
 unfold aR
 split
 ·rename_i e;injection e with e;subst e;exact absurd rfl hl
 ·rfl
def ou{k:Nat}{v:Val}(ha:bu k v=true)(h:cm v=false):knV v=true:=by
 cases v with
 |tup xs=>cases h
 |_=>cases k <;> exact ha
def mn{v:Val}(ha:bu 1 v=true):cn.G [v]=.ok (.val (.bl (aD v))) []:=by
 unfold cn
 rw[aY]
 unfold jc
 rcases iL v with ht |⟨xs,rfl⟩
 ·have it:=ek (ou ha ht)
  rw[ht] at it
  simp![it,zZ ht]
 have it:=ek (v:=.tup xs) rfl
 by_cases hl:xs.length=2
 ·match xs,hl,ha with
  |
   [a,b],_,ha=>
   have ha':(knV a&&(knV b&&true))=true:=by simpa [bu] using ha
   simp only[k_] at ha'
   have w1:=gY ha'.1
   have w2:=gY ha'.2.1
   rcases fk a with h1 |⟨i,rfl⟩
   ·rw[h1] at w1
    simp![it,cm,w1,vx h1]
   rcases fk b with h2 |⟨j,rfl⟩
   ·rw[h2] at w2
    simp![it,cm,w1,dH,w2,vh h2]
   have f:aD (.tup [.int i,.int j])=(decide (1<=j)&&decide (Int.gcd i j=1)):=rfl
   have g:((((Int.gcd i j:Nat):Int)==1):Bool)=decide (Int.gcd i j=1):=by
    rw[Mo,Kx,Lw];omega
   by_cases hj:1<=j
   ·simp![it,cm,w1,w2,dH,cE,F_ hj,f,g]
   ·simp![it,cm,w1,w2,dH,cE,w_ hj,f,g]
 ·have e:(((xs.length:Nat):Int)==2)=false:=by rw[o_];omega
  simp![it,cm,e,Ao hl]
def jz{v:Val}(ha:bu 2 v=true):eN.G [v]=.ok (.val (.bl (aR v))) []:=by
 unfold eN
 rw[aY]
 unfold oY
 rcases iL v with ht |⟨xs,rfl⟩
 ·have it:=ek (ou ha ht)
  rw[ht] at it
  simp![it,Ah ht]
 have it:=ek (v:=.tup xs) rfl
 by_cases hl:xs.length=4
 ·match
   xs,hl,ha with
  |
   [a,b,c,d],_,ha=>
   have e1:aR (.tup [a,b,c,d])=(aD a&&(aD b&&(aD c&&(aD d&&(eH c&&eH d))))):=rfl
   have bl4:∀x y z w:Bool,eB [.bl x,.bl y,.bl z,.bl w]=some [x,y,z,w]:=λ_ _ _ _=>rfl
   obtain⟨e',⟨s',rfl,_⟩,lc⟩:=jA (g:=(gtN 0).G) (F:=(ak cn (aa (af 0) ag)).G) (f:=λv=>.bl (aD v)) (λe=>∃s,e=[s]/\s.pl=true) [a,b,c,d] [] [.no] ⟨.no,rfl,rfl⟩ (by
    rintro v hv e ⟨s,rfl,hs⟩
    have hv':bu 1 v=true:=I_.mp (by simpa [bu] using ha) v hv
    refine⟨[.sh v],.val (.bl (aD v)),[.sh v],?_,?_,rfl,⟨_,rfl,rfl⟩⟩
    ·simp![hs]
    ·simp![mn hv']) (by simp)
   have cy:cY=qY.G:=rfl
   rw[cy,KU] at lc
   simp only[C_,KL] at lc
   cases hA:(aD a&&(aD b&&(aD c&&aD d))) with
   |
    true=>
    simp only[k_] at hA
    obtain⟨p,rfl⟩:=lY hA.2.2.1
    obtain⟨q,rfl⟩:=lY hA.2.2.2
    rw[hA.1,hA.2.1,hA.2.2.1,hA.2.2.2] at e1 lc
    have e2:aR (.tup [a,b,fV p,fV q])=(decide (0<p.num)&&decide (0<q.num)):=by rw[e1];rfl
    rw[e2]
    have i1:(fV p).items=some [.int p.num,.int p.den]:=rfl
    have i2:(fV q).items=some [.int q.num,.int q.den]:=rfl
    by_cases hp:0<p.num
    ·simp![it,cm,lc,ba,bl4,id,i1,i2,F_ hp]
    ·simp![it,cm,lc,ba,bl4,id,i1,w_ hp]
   |
    false=>
    have e2:aR (.tup [a,b,c,d])=false:=by
     rw[e1]
     revert hA
     generalize aD a=a',aD b=b',aD c=c',aD d=d',(eH c&&eH d)=z
     revert a' b' c' d' z
     decide
    rw[e2]
    simp![it,cm,lc,ba,bl4,id,hA]
 ·have e:(((xs.length:Nat):Int)==4)=false:=by rw[o_];omega
  simp![it,cm,e,zY hl]
def pD{v:Val}(ha:bu 2 v=true):cx.G [v]=if aR v=true then .ok (.val .non) [] else .exc "NoBox" []:=by
 unfold cx
 rw[aY]
 unfold j7
 cases h:aR v with
 |true=>simp![jz ha,h]
 |false=>simp![jz ha,h]
def eD{b:Bx}(hb:b.Ok):cx.G [bV b]=.ok (.val .non) []:=by rw[pD (lO b),kS hb];rfl
def IV{v:Val}(h:dH v=false):gH v=false:=by
 cases v <;> first |rfl |cases h
def yx(v:Val):jj v=false\/∃xs,v=.lst xs:=by
 cases v <;> first |exact .inr ⟨_,rfl⟩ |exact .inl rfl
def p7{v:Val}(hk:knV v=true):cX.G [v]=.ok (.val (.bl (gH v))) []:=by
 have w:=gY hk
 unfold cX
 rw[aY]
 unfold ka
 rcases fk v with h |⟨i,rfl⟩
 ·rw[h] at w
  simp![w,IV h]
 ·simp![w,dH];rfl
def rV{v:Val}(hk:knV v=true):(a9 bN).G [v,.ty "list"]=.val (.bl (jj v)):=by
 cases v <;> first |rfl |cases hk
def uN(v:Val):R3F:=match v with
 |.lst xs=>if xs=[] then .exc "NoWeights" [] else if xs.all gH=true then (if xs.length<=40 then .ok (.val .non) [] else .exc "TooMany" []) else .exc "NoWeights" []
 |_=>.exc "NoWeights" []
def GK{v:Val}(h:jj v=false):uN v=.exc "NoWeights" []:=by
 cases v <;> first |rfl |cases h
def pL:Val->Bool
 |.lst xs=>decide (xs.length<=1000)&&xs.all knV
 |v=>knV v
def Cz{v:Val}(h:pL v=true)(hl:jj v=false):knV v=true:=by cases v <;> first |(cases hl;done) |exact h
theorem i4(f:Val->Bool):∀xs:List Val,eB (xs.map λv=>.bl (f v))=some (xs.map f)
 | []=>rfl
 |x::xs=>by show (eB (xs.map λv=>.bl (f v))).map (f x :: ·)=_;rw[i4 f xs];rfl
def iF(f:Val->Bool)(xs:List Val):(xs.map f).all id=xs.all f:=by rw[List.all_map];rfl
def kx{v:Val}(ha:pL v=true):bS.G [v]=uN v:=by
 unfold bS
 rw[aY]
 unfold gL
 rcases yx v with hv |⟨xs,rfl⟩
 ·have il:=rV (Cz ha hv)
  rw[hv] at il
  rw[GK hv]
  simp![il]
 ·have ha':xs.length<=1000/\xs.all knV=true:=by simpa [pL] using ha
  have il:=rV (v:=.lst xs) rfl
  unfold uN
  dsimp only
  by_cases h0:xs=[]
  ·subst h0
   simp![il]
  ·have e0:(((xs.length:Nat):Int)==0)=false:=by
    rw[o_]
    intro z
    exact h0 (Lf.mp (by omega))
   rw[if_neg h0]
   obtain⟨e',p',lc⟩:=jA (g:=(gtN 0).G) (F:=(ak cX (aa (af 0) ag)).G) (f:=λv=>.bl (gH v)) (λe=>∃s,e=[s]/\s.pl=true) xs [] [.no] ⟨.no,rfl,rfl⟩ (by
    rintro v hv e ⟨s,rfl,hs⟩
    refine⟨[.sh v],.val (.bl (gH v)),[.sh v],?_,?_,rfl,⟨_,rfl,rfl⟩⟩
    ·simp![hs]
    ·simp![p7 (I_.mp ha'.2 v hv)]) (by simp;omega)
   obtain⟨s',rfl,_⟩:=p'
   have cy:cY=qY.G:=rfl
   rw[cy,KU] at lc
   have bi:(xs.map λv=>Val.bl (gH v)).length<=16777216:=by rw[g_];omega
   by_cases hw:xs.all gH=true
   ·rw[if_pos hw]
    by_cases h40:xs.length<=40
    ·have hd:decide ((40:Int)<((xs.length:Nat):Int))=false:=w_ (by omega)
     rw[if_pos h40]
     simp![il,e0,ba,lc,bi,i4,iF,hw,hd]
    ·have hd:decide ((40:Int)<((xs.length:Nat):Int))=true:=F_ (by omega)
     rw[if_neg h40]
     simp![il,e0,ba,lc,bi,i4,iF,hw,hd]
   ·have hw':xs.all gH=false:=Bool.eq_false_iff.mpr hw
    rw[if_neg hw]
    simp![il,e0,ba,lc,bi,i4,iF,hw']
def pb{ws:List Int}(h0:ws≠[])(h1:∀w∈ws,1<=w)(h2:ws.length<=40):bS.G [.lst (ws.map .int)]=.ok (.val .non) []:=by
 have ha:pL (.lst (ws.map .int))=true:=by
  simp only[pL,k_,Lw,g_]
  exact⟨by omega,by rw[I_];intro v hv;obtain⟨w,_,rfl⟩:=Kr.mp hv;rfl⟩
 rw[kx ha]
 unfold uN
 dsimp only
 rw[if_neg (by intro z;exact h0 (List.map_eq_nil_iff.mp z)),if_pos (by
  rw[I_];intro v hv
  obtain⟨w,hw,rfl⟩:=Kr.mp hv
  exact F_ (h1 w hw)),if_pos (by rw[g_];exact h2)]
def sA{b:Bx}{n:Nat}(hb:b.Ok)(hs:b.Sz n)(h:n+n<=8000):iw.G [bV b]=.ok (.val (fV (b.w*b.h))) []:=by
 have c:=eD hb
 have t:=p6 hs.w hs.h h
 unfold iw
 rw[aY]
 unfold uZ
 rw[show bV b=.tup [fV b.l,fV b.t,fV b.w,fV b.h] from rfl] at *
 simp![c,t]
structure Wl where
 l:Rat
 r:Rat
 t:Rat
 b:Rat
def wlV(w:Wl):Val:=.tup [fV w.l,fV w.r,fV w.t,fV w.b]
noncomputable def wlB(b:Bx):Wl:=⟨b.l,b.l+b.w,b.t,b.t+b.h⟩
structure Wl.Sz(n:Nat)(w:Wl):Prop where
 l:L2.Sz n w.l
 r:L2.Sz n w.r
 t:L2.Sz n w.t
 b:L2.Sz n w.b
def ig{b:Bx}{n:Nat}(hs:b.Sz n):(wlB b).Sz (n+n+1):=⟨hs.l.mono (by omega),(hs.l.add hs.w).mono (by omega),hs.t.mono (by omega),(hs.t.add hs.h).mono (by omega)⟩
def kg{b:Bx}{n:Nat}(hs:b.Sz n)(h:n+n<=8000):ec.G [bV b]=.ok (.val (wlV (wlB b))) []:=by
 have a1:=qQ hs.l hs.w h
 have a2:=qQ hs.t hs.h h
 unfold ec
 rw[aY]
 unfold rK
 rw[show bV b=.tup [fV b.l,fV b.t,fV b.w,fV b.h] from rfl]
 simp![a1,a2]
 rfl
noncomputable def inB(a b:Wl):Bool:=!decide (b.l<a.l) && !decide (a.r<b.r)&&(!decide (b.t<a.t) && !decide (a.b<b.b))
def mY{a b:Bx}{n m:Nat}(ha:a.Sz n)(hb:b.Sz m)(h1:n+n<=8000)(h2:m+m<=8000):cQ.G [bV a,bV b]=.ok (.val (.bl (inB (wlB a) (wlB b)))) []:=by
 have w1:=kg ha h1
 have w2:=kg hb h2
 have s1:=ig ha
 have s2:=ig hb
 generalize wlB a=A at *
 generalize wlB b=B at *
 have l1:=cw s2.l s1.l (by omega) (by omega)
 have l2:=cw s1.r s2.r (by omega) (by omega)
 have l3:=cw s2.t s1.t (by omega) (by omega)
 have l4:=cw s1.b s2.b (by omega) (by omega)
 unfold cQ
 rw[aY]
 unfold jb inB
 rw[show wlV A=.tup [fV A.l,fV A.r,fV A.t,fV A.b] from rfl] at w1
 rw[show wlV B=.tup [fV B.l,fV B.r,fV B.t,fV B.b] from rfl] at w2
 by_cases c1:B.l<A.l <;> by_cases c2:A.r<B.r <;> by_cases c3:B.t<A.t <;> (simp only[c1,c2,c3,decide_true,decide_false] at l1 l2 l3;simp![w1,w2,l1,l2,l3,l4,c1,c2,c3])
noncomputable def ovB(a b:Wl):Bool:=decide (a.l<b.r)&&decide (b.l<a.r)&&(decide (a.t<b.b)&&decide (b.t<a.b))
def zC{a b:Wl}{n m:Nat}(ha:a.Sz n)(hb:b.Sz m)(h1:n<=100000)(h2:m<=100000):aZ.G [wlV a,wlV b]=.ok (.val (.bl (ovB a b))) []:=by
 have l1:=cw ha.l hb.r h1 h2
 have l2:=cw hb.l ha.r h2 h1
 have l3:=cw ha.t hb.b h1 h2
 have l4:=cw hb.t ha.b h2 h1
 unfold aZ
 rw[aY]
 unfold dE ovB
 rw[show wlV a=.tup [fV a.l,fV a.r,fV a.t,fV a.b] from rfl,show wlV b=.tup [fV b.l,fV b.r,fV b.t,fV b.b] from rfl]
 by_cases c1:a.l<b.r <;> by_cases c2:b.l<a.r <;> by_cases c3:a.t<b.b <;> (simp only[c1,c2,c3,decide_true,decide_false] at l1 l2 l3;simp![l1,l2,l3,l4,c1,c2,c3])
def ovJ(D:List Wl)(w:Wl)(j:Nat):Bool:=match D[j]? with
 |some u=>ovB u w
 |none=>false
def ovP(D:List Wl)(p:Wl×Nat):Bool:=((List.range p.2).find? (ovJ D p.1)).isSome
def ovR(D:List Wl)(p:Wl×Nat):Val:=.tup [.str "over",.int (((List.range p.2).find? (ovJ D p.1)).getD 0:Nat),.int (p.2:Nat)]
def jU(bs:List Bx):Val:=match ((bs.map wlB).zipIdx).find? (ovP (bs.map wlB)) with
 |some p=>ovR (bs.map wlB) p
 |none=>.non
def BD{bs:List Val}{D:List Wl}{w:Wl}{i:Nat}{m:Nat}(hW:∀w∈D,w.Sz m)(hw:w∈D)(hi:i<D.length)(hm:m<=100000){s4:Sl}(h4:s4.pl=true):∃s4':Sl,s4'.pl=true/\bJ (gtN 4).G dX.G (rgV i) [.sh (.lst bs),.sh (.lst (D.map wlV)),.sh (.int (i:Nat)),.sh (wlV w),s4]=fdS (λj:Nat=>.val (.tup [.str "over",.int (j:Nat),.int (i:Nat)])) [.sh (.lst bs),.sh (.lst (D.map wlV)),.sh (.int (i:Nat)),.sh (wlV w),s4'] ((List.range i).find? (ovJ D w)):=by
 obtain⟨e2,⟨s4',rfl,h4'⟩,fr⟩:=bO (g:=(gtN 4).G) (B:=dX.G) (λj:Nat=>Val.int (j:Nat)) (ovJ D w) (λj=>.val (.tup [.str "over",.int (j:Nat),.int (i:Nat)])) (λe=>∃s4,e=[.sh (.lst bs),.sh (.lst (D.map wlV)),.sh (.int (i:Nat)),.sh (wlV w),s4]/\s4.pl=true) (List.range i) [.sh (.lst bs),.sh (.lst (D.map wlV)),.sh (.int (i:Nat)),.sh (wlV w),s4] ⟨_,rfl,h4⟩ (by
  rintro j hj e ⟨s4,rfl,h4⟩
  have hj:=K3.mp hj
  have hjl:j<D.length:=by omega
  have ej:D[j]?=some D[j]:=l_ hjl
  have at1:atI (D.map wlV) ((j:Nat):Int)=some (wlV D[j]):=aS (by omega) (by rw[G_,t_,ej];rfl)
  have sh:=zC (hW D[j] (Ks hjl)) (hW w hw) hm hm
  have oe:ovJ D w j=ovB D[j] w:=by unfold ovJ;rw[ej]
  refine⟨[.sh (.lst bs),.sh (.lst (D.map wlV)),.sh (.int (i:Nat)),.sh (wlV w),.sh (.int (j:Nat))],[.sh (.lst bs),.sh (.lst (D.map wlV)),.sh (.int (i:Nat)),.sh (wlV w),.sh (.int (j:Nat))],?_,⟨_,rfl,rfl⟩,?_⟩
  ·simp![h4]
  ·rw[oe]
   unfold dX
   cases hc:ovB D[j] w with
   |true=>left;simp![at1,sh,hc,KG]
   |false=>right;simp![at1,sh,hc,and_true,or_false,true_or])
 exact⟨s4',h4',fr⟩
def yB{bs:List Val}{D:List Wl}{m:Nat}(hW:∀w∈D,w.Sz m)(hm:m<=100000)(hl:D.length<=1000):∃s2 s3 s4:Sl,bJ (gtX (gtT 2 (aF (gtN 2) (aF (gtN 3) bG)))).G dY.G (d7 0 (D.map wlV)) [.sh (.lst bs),.sh (.lst (D.map wlV)),.no,.no,.no]=fdS (λp=>.val (ovR D p)) [.sh (.lst bs),.sh (.lst (D.map wlV)),s2,s3,s4] (D.zipIdx.find? (ovP D)):=by
 obtain⟨e2,⟨p2,p3,p4,rfl,h2,h3,h4⟩,fr⟩:=bO (g:=(gtX (gtT 2 (aF (gtN 2) (aF (gtN 3) bG)))).G) (B:=dY.G) (λp:Wl×Nat=>.tup [.int (p.2:Nat),wlV p.1]) (ovP D) (λp=>.val (ovR D p)) (λe=>∃s2 s3 s4,e=[.sh (.lst bs),.sh (.lst (D.map wlV)),s2,s3,s4]/\s2.pl=true/\s3.pl=true/\s4.pl=true) D.zipIdx [.sh (.lst bs),.sh (.lst (D.map wlV)),.no,.no,.no] ⟨_,_,_,rfl,rfl,rfl,rfl⟩ (by
  rintro⟨w,i⟩ hwi e ⟨s2,s3,s4,rfl,h2,h3,h4⟩
  have hi:=Mv hwi
  obtain⟨s4',h4',fr⟩:=BD (bs:=bs) (i:=i) hW (Kt hwi) (by omega) hm h4
  have rg:=ip (k:=i) (by omega)
  refine⟨[.sh (.lst bs),.sh (.lst (D.map wlV)),.sh (.int (i:Nat)),.sh (wlV w),s4],[.sh (.lst bs),.sh (.lst (D.map wlV)),.sh (.int (i:Nat)),.sh (wlV w),s4'],?_,⟨_,_,_,rfl,rfl,rfl,h4'⟩,?_⟩
  ·simp![h2,h3]
  ·have op:ovP D (w,i)=((List.range i).find? (ovJ D w)).isSome:=rfl
   have or:ovR D (w,i)=.tup [.str "over",.int (((List.range i).find? (ovJ D w)).getD 0:Nat),.int (i:Nat)]:=rfl
   unfold dY
   rw[op,or]
   cases hf:(List.range i).find? (ovJ D w) with
   |
    some j=>
    rw[hf,cB] at fr
    left
    simp![rg,fr,Option.getD_some,KG]
   |
    none=>
    rw[hf,cz] at fr
    right
    simp![rg,fr,Option.isSome_none,and_true,or_false,true_or])
 refine⟨p2,p3,p4,?_⟩
 rw[eT wlV D 0,fr]
def oh{bs:List Bx}{n:Nat}(hl:bs.length<=1000)(hs:∀b∈bs,b.Sz n)(h:n+n<=8000):de.G [.lst (bs.map bV)]=.ok (.val (jU bs)) []:=by
 obtain⟨e',⟨s',rfl,hs'⟩,lc⟩:=eS (g:=(gtN 0).G) (F:=(ak ec (aa (af 0) ag)).G) bV (λb=>wlV (wlB b)) (λe=>∃s,e=[s]/\s.pl=true) bs [] [.no] ⟨.no,rfl,rfl⟩ (by
  rintro b hb e ⟨s,rfl,hp⟩
  refine⟨[.sh (bV b)],.val (wlV (wlB b)),[.sh (bV b)],?_,?_,rfl,⟨_,rfl,rfl⟩⟩
  ·simp![hp]
  ·simp![kg (hs b hb) h]) (by simp;omega)
 rw[KU] at lc
 have hW:∀w∈bs.map wlB,w.Sz (n+n+1):=by
  intro w hw
  obtain⟨b,hb,rfl⟩:=Kr.mp hw
  exact ig (hs b hb)
 have hm:bs.map (λb=>wlV (wlB b))=(bs.map wlB).map wlV:=by rw[Ln];rfl
 have bi:(bs.map λb=>wlV (wlB b)).length<=16777216:=by rw[g_];omega
 rw[hm] at lc bi
 obtain⟨s2,s3,s4,fr⟩:=yB (bs:=bs.map bV) hW (by omega) (by rw[g_];exact hl)
 unfold jU
 generalize bs.map wlB=D at *
 unfold de
 rw[aY]
 unfold jr
 cases hf:D.zipIdx.find? (ovP D) with
 |
  some p=>
  rw[hf,cB] at fr
  simp![ba,lc,bi,fr]
 |
  none=>
  rw[hf,cz] at fr
  simp![ba,lc,bi,fr]
theorem ma:∀{ws:List Int},(∀w∈ws,1<=w)->(ws.length:Int)<=ws.sum
 | [],_=>by simp
 |
  w::ws,h=>by
  have h1:=h w (m_ ..)
  have h2:=ma (ws:=ws) λu hu=>h u (i_ _ hu)
  rw[Kq,Em]
  omega
def mj{ws:List Int}(h:∀w∈ws,1<=w)(h0:ws≠[]):1<=ws.sum:=by
 have:=ma h
 have:ws.length≠0:=λz=>h0 (Lf.mp z)
 omega
def ftE(r w b:Val)(e:E3):Prop:=∃s t:Sl,e=[.sh r,.sh w,.sh b,s,t]/\s.pl=true/\t.pl=true
def wW{r w:Val}{bs:List Val}(ha:∀b∈bs,bu 2 b=true){e:E3}(he:ftE r w (.lst bs) e):∃e',ftE r w (.lst bs) e'/\bJ (gtX (gtT 2 (aF (gtN 3) (aF (gtN 4) bG)))).G kh.G (d7 0 bs) e=fdS (λp=>.val (.tup [.str "box",.int (p.2:Nat)])) e' (bs.zipIdx.find? (λp=>!aR p.1)):=by
 rw[sg]
 refine bO (λp:Val×Nat=>.tup [.int (p.2:Nat),p.1]) _ (λp=>.val (.tup [.str "box",.int (p.2:Nat)])) (ftE r w (.lst bs)) bs.zipIdx e he ?_
 rintro⟨v,i⟩ hvi e ⟨s,t,rfl,hs,ht⟩
 have ib:=jz (ha v (Kt hvi))
 refine⟨[.sh r,.sh w,.sh (.lst bs),.sh (.int (i:Nat)),.sh v],[.sh r,.sh w,.sh (.lst bs),.sh (.int (i:Nat)),.sh v],?_,⟨_,_,rfl,rfl,rfl⟩,?_⟩
 ·simp![hs,ht]
 ·unfold kh
  dsimp only
  cases hc:aR v with
  |true=>right;simp![ib,hc,KG,Lk,Me]
  |false=>left;simp![ib,hc,KG]
noncomputable def arP(rm:Bx)(ws:List Int)(p:Bx×Nat):Bool:=match ws[p.2]? with
 |some w=>!decide (p.1.w*p.1.h=rm.w*rm.h*((w:Rat)/(ws.sum:Rat)))
 |none=>false
def Cp{rm:Bx}{ws:List Int}{bs:List Bx}{n m:Nat}(hr:rm.Ok)(hrs:rm.Sz n)(hb:∀b∈bs,b.Ok)(hbs:∀b∈bs,b.Sz n)(hw:∀w∈ws,1<=w)(hws:∀w∈ws,Sm m w)(hS:Sm m ws.sum)(hl:bs.length=ws.length)(h:n+n+m<=8000){e:E3}(he:ftE (bV rm) (.lst (ws.map .int)) (.lst (bs.map bV)) e):∃e',ftE (bV rm) (.lst (ws.map .int)) (.lst (bs.map bV)) e'/\bJ (gtX (gtT 2 (aF (gtN 3) (aF (gtN 4) bG)))).G kH.G (d7 0 (bs.map bV)) e=fdS (λp=>.val (.tup [.str "area",.int (p.2:Nat)])) e' (bs.zipIdx.find? (arP rm ws)):=by
 rw[eT]
 refine bO (λp:Bx×Nat=>.tup [.int (p.2:Nat),bV p.1]) _ (λp=>.val (.tup [.str "area",.int (p.2:Nat)])) (ftE (bV rm) (.lst (ws.map .int)) (.lst (bs.map bV))) bs.zipIdx e he ?_
 rintro⟨b,i⟩ hvi e ⟨s,t,rfl,hs,ht⟩
 have hm:=Kt hvi
 have hi:i<ws.length:=by have:=Mv hvi;omega
 have ar:=sA (hb b hm) (hbs b hm) (by omega)
 have rr:=sA hr hrs (by omega)
 have ei:ws[i]?=some ws[i]:=l_ hi
 have at1:atI (ws.map Val.int) ((i:Nat):Int)=some (.int ws[i]):=aS (by omega) (by rw[G_,t_,ei];rfl)
 have s0:ws.sum≠0:=by
  have:=mj hw (by intro z;rw[z] at hi;simp at hi)
  omega
 have fr:=g9 (a:=ws[i]) s0 (hS.mono (by omega))
 have sz:=Sz.div s0 (hws ws[i] (Ks hi)) hS m (n_ _) (n_ _)
 have tm:=p6 (hrs.w.mul hrs.h) sz (by omega)
 have eq:=zO (b.w*b.h) (rm.w*rm.h*((ws[i]:Rat)/(ws.sum:Rat)))
 have pe:arP rm ws (b,i)=!decide (b.w*b.h=rm.w*rm.h*((ws[i]:Rat)/(ws.sum:Rat))):=by unfold arP;dsimp only;rw[ei]
 refine⟨[.sh (bV rm),.sh (.lst (ws.map .int)),.sh (.lst (bs.map bV)),.sh (.int (i:Nat)),.sh (bV b)],[.sh (bV rm),.sh (.lst (ws.map .int)),.sh (.lst (bs.map bV)),.sh (.int (i:Nat)),.sh (bV b)],?_,⟨_,_,rfl,rfl,rfl⟩,?_⟩
 ·simp![hs,ht]
 ·rw[pe]
  unfold kH
  by_cases hc:b.w*b.h=rm.w*rm.h*((ws[i]:Rat)/(ws.sum:Rat))
  ·rw[F_ hc] at eq ⊢
   right;simp![ar,rr,at1,fr,tm,eq,KG,Lk,Me]
  ·rw[w_ hc] at eq ⊢
   left;simp![ar,rr,at1,fr,tm,eq,KG]
def iA(rm:Bx)(p:Bx×Nat):Bool:=!inB (wlB rm) (wlB p.1)
def D3{rm:Bx}{w:Val}{bs:List Bx}{n:Nat}(hrs:rm.Sz n)(hbs:∀b∈bs,b.Sz n)(h:n+n<=8000){e:E3}(he:ftE (bV rm) w (.lst (bs.map bV)) e):∃e',ftE (bV rm) w (.lst (bs.map bV)) e'/\bJ (gtX (gtT 2 (aF (gtN 3) (aF (gtN 4) bG)))).G kA.G (d7 0 (bs.map bV)) e=fdS (λp=>.val (.tup [.str "out",.int (p.2:Nat)])) e' (bs.zipIdx.find? (iA rm)):=by
 rw[eT]
 refine bO (λp:Bx×Nat=>.tup [.int (p.2:Nat),bV p.1]) _ (λp=>.val (.tup [.str "out",.int (p.2:Nat)])) (ftE (bV rm) w (.lst (bs.map bV))) bs.zipIdx e he ?_
 rintro⟨b,i⟩ hvi e ⟨s,t,rfl,hs,ht⟩
 have lw:=mY hrs (hbs b (Kt hvi)) h h
 refine⟨[.sh (bV rm),.sh w,.sh (.lst (bs.map bV)),.sh (.int (i:Nat)),.sh (bV b)],[.sh (bV rm),.sh w,.sh (.lst (bs.map bV)),.sh (.int (i:Nat)),.sh (bV b)],?_,⟨_,_,rfl,rfl,rfl⟩,?_⟩
 ·simp![hs,ht]
 ·have pe:iA rm (b,i)=!inB (wlB rm) (wlB b):=rfl
  rw[pe]
  unfold kA
  cases hc:inB (wlB rm) (wlB b) with
  |true=>right;simp![lw,hc,KG,Lk,Me]
  |false=>left;simp![lw,hc,KG]
def eK(rm:Bx)(ws:List Int)(bs:List Bx):Val:=match bs.zipIdx.find? (arP rm ws) with
 |some p=>.tup [.str "area",.int (p.2:Nat)]
 |none=>match bs.zipIdx.find? (iA rm) with
  |some p=>.tup [.str "out",.int (p.2:Nat)]
  |none=>jU bs
structure Wts(m:Nat)(ws:List Int):Prop where
 ne:ws≠[]
 pos:∀w∈ws,1<=w
 le:ws.length<=40
 sz:∀w∈ws,Sm m w
 sum:Sm m ws.sum
def j9{rm:Bx}{ws:List Int}{m:Nat}{bs:List Val}(hr:rm.Ok)(hw:Wts m ws)(hl:bs.length≠ws.length):bp.G [bV rm,.lst (ws.map .int),.lst bs]=.ok (.val (.tup [.str "count"])) []:=by
 have c:=eD hr
 have k:=pb hw.ne hw.pos hw.le
 have e:(((bs.length:Nat):Int)==((ws.map Val.int).length:Nat))=false:=by rw[o_,g_];omega
 unfold bp
 rw[aY]
 unfold jN
 simp![c,k,e]
def rE{rm:Bx}{ws:List Int}{m:Nat}{bs:List Val}(hr:rm.Ok)(hw:Wts m ws)(hl:bs.length=ws.length)(ha:∀b∈bs,bu 2 b=true){p:Val×Nat}(hf:bs.zipIdx.find? (λp=>!aR p.1)=some p):bp.G [bV rm,.lst (ws.map .int),.lst bs]=.ok (.val (.tup [.str "box",.int (p.2:Nat)])) []:=by
 have c:=eD hr
 have k:=pb hw.ne hw.pos hw.le
 have e:(((bs.length:Nat):Int)==((ws.map Val.int).length:Nat))=true:=by rw[Kx,g_];omega
 obtain⟨e',⟨s,t,rfl,_,_⟩,fr⟩:=wW (r:=bV rm) (w:=.lst (ws.map .int)) ha ⟨.no,.no,rfl,rfl,rfl⟩
 rw[hf,cB] at fr
 unfold bp
 rw[aY]
 unfold jN
 simp![c,k,e,fr]
def ku{rm:Bx}{ws:List Int}{n m:Nat}{bs:List Bx}(hr:rm.Ok)(hrs:rm.Sz n)(hw:Wts m ws)(hl:bs.length=ws.length)(hb:∀b∈bs,b.Ok)(hbs:∀b∈bs,b.Sz n)(h:n+n+m<=8000):bp.G [bV rm,.lst (ws.map .int),.lst (bs.map bV)]=.ok (.val (eK rm ws bs)) []:=by
 have c:=eD hr
 have k:=pb hw.ne hw.pos hw.le
 have e:((((bs.map bV).length:Nat):Int)==((ws.map Val.int).length:Nat))=true:=by rw[Kx,g_,g_];omega
 obtain⟨e1,he1,f1⟩:=wW (r:=bV rm) (w:=.lst (ws.map .int)) (bs:=bs.map bV) (by
  intro v hv
  obtain⟨b,_,rfl⟩:=Kr.mp hv
  exact lO b) ⟨.no,.no,rfl,rfl,rfl⟩
 rw[show (bs.map bV).zipIdx.find? (λp=>!aR p.1)=none from by
  rw[KY]
  rintro⟨v,i⟩ hvi
  obtain⟨b,hb',rfl⟩:=Kr.mp (Kt hvi)
  dsimp only
  rw[kS (hb b hb')]
  decide] at f1
 rw[cz] at f1
 obtain⟨e2,he2,f2⟩:=Cp hr hrs hb hbs hw.pos hw.sz hw.sum hl h he1
 obtain⟨s1,t1,rfl,hs1,ht1⟩:=he1
 have fo:=oh (by have:=hw.le;omega) hbs (by omega)
 unfold eK
 unfold bp
 rw[aY]
 unfold jN
 cases q2:bs.zipIdx.find? (arP rm ws) with
 |
  some p=>
  rw[q2,cB] at f2
  obtain⟨s2,t2,rfl,_,_⟩:=he2
  simp![c,k,e,f1,f2]
 |
  none=>
  rw[q2,cz] at f2
  obtain⟨e3,he3,f3⟩:=D3 hrs hbs (by omega) he2
  obtain⟨s2,t2,rfl,_,_⟩:=he2
  obtain⟨s3,t3,rfl,_,_⟩:=he3
  cases q3:bs.zipIdx.find? (iA rm) with
  |
   some p=>
   rw[q3,cB] at f3
   simp![c,k,e,f1,f2,f3]
  |
   none=>
   rw[q3,cz] at f3
   simp![c,k,e,f1,f2,f3,fo]
def mH{ns:List Int}{k:Int}(hk:0<=k):∃a,cK.G [.kl (ns.map .int),.int k]=.ok (.new (fdV a 0 k)) []:=by
 unfold cK
 rw[aY]
 unfold lW fdV
 by_cases h0:ns.length=0
 ·have e:((((ns.map Val.int).length:Nat):Int)==0)=true:=by rw[Kx,g_];omega
  exact⟨0,by simp![e]⟩
 ·have e:((((ns.map Val.int).length:Nat):Int)==0)=false:=by rw[o_,g_];omega
  have e1:bZ.G (.int k) (.int ((ns.map Val.int).length:Nat))=.val (.int (k.fmod ((ns.map Val.int).length:Nat))):=eL (by rw[g_];omega)
  have r:=c9 (a:=k) (m:=((ns.map Val.int).length:Nat)) (by rw[g_];omega)
  rw[g_] at r e1
  have hi:(k.fmod (ns.length:Nat)).toNat<ns.length:=by omega
  have at1:atI (ns.map Val.int) (k.fmod (ns.length:Nat))=some (.int ns[(k.fmod (ns.length:Nat)).toNat]):=aS r.1 (by rw[t_,l_ hi];rfl)
  rw[g_] at e
  exact⟨ns[(k.fmod (ns.length:Nat)).toNat],by simp![g_,e,e1,at1]⟩
def pow6:fP.G (.int 10) (.int 6)=.val (.int 1000000):=oz ⟨by decide,by decide,by decide⟩
def JZ:gu [.int 6]=some [.int 0,.int 1,.int 2,.int 3,.int 4,.int 5]:=mF (i:=6) (by decide) (by decide)
def fj{a b k far:Int}(h0:0<=far)(hf:far.natAbs<=2000000000000000000000000000000):∃r a' b',bq.G [fdV a b k,.int far]=.ok (.val (.int r)) [fdV a' b' k]/\-far<=r/\r<=far:=by
 obtain⟨r1,a1,b1,e1,_,_⟩:=ax (a:=a) (b:=b) (k:=k) (m:=1000000) (by decide) (sm8 (by decide))
 obtain⟨r2,a2,b2,e2,_,_⟩:=ax (a:=a1) (b:=b1) (k:=k) (m:=1000000) (by decide) (sm8 (by decide))
 obtain⟨r3,a3,b3,e3,_,_⟩:=ax (a:=a2) (b:=b2) (k:=k) (m:=1000000) (by decide) (sm8 (by decide))
 obtain⟨r4,a4,b4,e4,_,_⟩:=ax (a:=a3) (b:=b3) (k:=k) (m:=1000000) (by decide) (sm8 (by decide))
 obtain⟨r5,a5,b5,e5,_,_⟩:=ax (a:=a4) (b:=b4) (k:=k) (m:=1000000) (by decide) (sm8 (by decide))
 obtain⟨r6,a6,b6,e6,_,_⟩:=ax (a:=a5) (b:=b5) (k:=k) (m:=1000000) (by decide) (sm8 (by decide))
 have c6:∀x:Int,aA.G (.int x) (.int 1000000)=.val (.int (x*1000000)):=λx=>aK (CMulA.right (by decide) (by decide))
 have c2:aA.G (.int 2) (.int far)=.val (.int (2*far)):=aK (CMulA.left (by decide) (by decide))
 have c3:∀x:Int,bZ.G (.int x) (.int (2*far+1))=.val (.int (x.fmod (2*far+1))):=λx=>eL (by omega)
 have fr:=c9 (a:=(((((0*1000000+r1)*1000000+r2)*1000000+r3)*1000000+r4)*1000000+r5)*1000000+r6) (m:=2*far+1) (by omega)
 refine⟨((((((0*1000000+r1)*1000000+r2)*1000000+r3)*1000000+r4)*1000000+r5)*1000000+r6).fmod (2*far+1)-far,a6,b6,?_,by omega,by omega⟩
 unfold bq
 rw[aY]
 unfold j5 jd
 unfold fdV at *
 simp![JZ,d6,pow6,c6,e1,e2,e3,e4,e5,e6,c2,c3,Int.reduceMul]
theorem qK(x y:Val):∀(n one a_:Nat),a_<=n->(xWh (qOf (pOp bGt (af 3) (ah 0))) fW).G [.sh x,.sh y,.sh (.int (one:Nat)),.sh (.int (a_:Nat))]=.nx [.sh x,.sh y,.sh (.int (Nat.gcd one a_:Nat)),.sh (.int 0)]
 |
  n,one,0,_=>by
  rw[kT]
  simp![Nat.gcd_zero_right,Int.natCast_zero,Int.lt_irrefl]
 |0,one,a_+1,hl=>absurd hl (by omega)
 |
  n+1,one,a_+1,hl=>by
  rw[kT]
  have e:decide ((0:Int)<((a_+1:Nat):Int))=true:=F_ (by omega)
  have e1:bZ.G (.int (one:Nat)) (.int ((a_+1:Nat):Int))=.val (.int (((one:Nat):Int).fmod ((a_+1:Nat):Int))):=eL (by omega)
  have e2:((one:Nat):Int).fmod ((a_+1:Nat):Int)=((one % (a_+1):Nat):Int):=by
   rw[Int.fmod_eq_emod_of_nonneg _ (by omega)];rfl
  have ih:=qK x y n (a_+1) (one % (a_+1)) (by have:=Nat.mod_lt one (show a_+1>0 by omega);omega)
  rw[Fr.euc] at ih
  rw[e2] at e1
  have bb:fW.G [.sh x,.sh y,.sh (.int (one:Nat)),.sh (.int ((a_+1:Nat):Int))]=.nx [.sh x,.sh y,.sh (.int ((a_+1:Nat):Int)),.sh (.int ((one % (a_+1):Nat):Int))]:=by
   unfold fW
   simp![e1]
  simp![e,bb,ih]
def cU{a b:Int}(hb:b≠0)(hs:Sm 8000 b):aC.G [.int a,.int b]=.ok (.val (fV ((a:Rat)/(b:Rat)))) []:=by
 unfold aC
 rw[aY]
 unfold nB
 have lo:=qK (.int a) (.int b) b.natAbs a.natAbs b.natAbs (n_ _)
 rw[show Nat.gcd a.natAbs b.natAbs=Int.gcd a b from rfl] at lo
 have c:∀x,CDivB x (Fr.dv a b):=λx=>CDivB.of (Fr.dv_ne hb) (hs.of_le (by
  rw[Fr.dv_abs]
  exact Nat.le_of_dvd (by omega) (Nat.gcd_dvd_right a.natAbs b.natAbs)))
 have k1:=jQ (c a)
 have k2:=jQ (c b)
 have hh:=kX (a:=a) hb
 have em:Val.tup [.int (a.fdiv (Fr.dv a b)),.int (b.fdiv (Fr.dv a b))]=fV ((a:Rat)/(b:Rat)):=by
  unfold fV
  rw[<- hh.1,<- hh.2]
  rfl
 by_cases hn:b<0
 ·have hd:Fr.dv a b=0-((Int.gcd a b:Nat):Int):=by unfold Fr.dv;rw[if_pos hn];omega
  rw[hd] at k1 k2 em
  simp![gj,lo,F_ hn,k1,k2,em]
 ·have hd:Fr.dv a b=((Int.gcd a b:Nat):Int):=by unfold Fr.dv;rw[if_neg hn]
  rw[hd] at k1 k2 em
  simp![gj,lo,w_ hn,k1,k2,em]
def p30:fP.G (.int 10) (.int 30)=.val (.int 1000000000000000000000000000000):=oz ⟨by decide,by decide,by decide⟩
def rmQ(k:Int)(r:SR3):Prop:=∃b a c,Good b/\kF [true] r=.ok (.val (bV b)) [fdV a c k]
def rmI(k way:Int)(e:E3):Prop:=∃b x a c,Good b/\x.pl=true/\e=[.mu (fdV a c k),.sh (.int way),.sh (fV b.l),.sh (fV b.t),.sh (fV b.w),.sh (fV b.h),x]
def i7{r:Int}(h:0<=r):0<1+r:=by omega
def ui{r:Int}(h:0<=r):1+r≠0:=by omega
def gR{r m:Int}(h0:0<=r)(h1:r<m)(hm:m<=1000):(1+r).natAbs<=2000000000000000000000000000000:=by omega
def oo{r m c:Int}(h0:0<=r)(h1:r<m)(hm:m<=1000)(hc:0<=c/\c<=1000):(r-c).natAbs<=2000000000000000000000000000000:=by omega
def mQ{r far:Int}(h0:-far<=r)(h1:r<=far)(hf:far<=1000000000000000000000000000000):r.natAbs<=2000000000000000000000000000000/\(1+((r.natAbs:Nat):Int)).natAbs<=2000000000000000000000000000000:=by omega
def oB{r:Int}:0<1+((r.natAbs:Nat):Int):=by omega
def vU{r:Int}(h:0<r):r≠0:=by omega
def B8(a c k:Int):∃b a' c',Good b/\eG.G [fdV a c k]=.ok (.val (bV b)) [fdV a' c' k]:=by
 unfold eG
 rw[lG rfl]
 show rmQ k (iG.G [.mu (fdV a c k),.no,.no,.no,.no,.no,.no])
 unfold iG
 obtain⟨way,a1,c1,e1,hw0,hw1⟩:=ax (a:=a) (b:=c) (k:=k) (m:=6) (by decide) (sm8 (by decide))
 refine ay (λe=>e=[.mu (fdV a1 c1 k),.sh (.int way),.no,.no,.no,.no,.no]) ⟨_,by simp![e1],rfl⟩ ?_
 rintro _ rfl
 obtain⟨l,a2,c2,e2,hl0,hl1⟩:=ax (a:=a1) (b:=c1) (k:=k) (m:=19) (by decide) (sm8 (by decide))
 obtain⟨t,a3,c3,e3,ht0,ht1⟩:=ax (a:=a2) (b:=c2) (k:=k) (m:=19) (by decide) (sm8 (by decide))
 refine ay (λe=>e=[.mu (fdV a3 c3 k),.sh (.int way),.sh (fV ((l-9:Int):Rat)),.sh (fV ((t-9:Int):Rat)),.no,.no,.no]) ⟨_,by simp![e2,e3,iV],rfl⟩ ?_
 rintro _ rfl
 obtain⟨w,a4,c4,e4,hww0,hww1⟩:=ax (a:=a3) (b:=c3) (k:=k) (m:=12) (by decide) (sm8 (by decide))
 obtain⟨hh,a5,c5,e5,hh0,hh1⟩:=ax (a:=a4) (b:=c4) (k:=k) (m:=12) (by decide) (sm8 (by decide))
 refine ay (rmI k way) ⟨[.mu (fdV a5 c5 k),.sh (.int way),.sh (fV ((l-9:Int):Rat)),.sh (fV ((t-9:Int):Rat)),.sh (fV ((1+w:Int):Rat)),.sh (fV ((1+hh:Int):Rat)),.no],by simp![e4,e5,iV],⟨_,_,_,_⟩,.no,a5,c5,⟨⟨fi (i7 hww0),fi (i7 hh0)⟩,⟨fG (oo hl0 hl1 (by decide) (by decide)),fG (oo ht0 ht1 (by decide) (by decide)),fG (gR hww0 hww1 (by decide)),fG (gR hh0 hh1 (by decide))⟩⟩,rfl,rfl⟩ ?_
 rintro _ ⟨b,x,a,c,gb,hx,rfl⟩
 refine ay (rmI k way) ?_ ?_
 ·by_cases hw:way=1
  ·subst hw
   exact⟨[.mu (fdV a c k),.sh (.int 1),.sh (fV b.l),.sh (fV b.t),.sh (fV b.w),.sh (fV b.w),x],by simp![bR],⟨b.l,b.t,b.w,b.w⟩,x,a,c,⟨⟨gb.ok.w,gb.ok.w⟩,⟨gb.sz.l,gb.sz.t,gb.sz.w,gb.sz.w⟩⟩,hx,rfl⟩
  ·exact⟨_,by simp![o_.mpr hw],b,x,a,c,gb,hx,rfl⟩
 rintro _ ⟨b,x,a,c,gb,hx,rfl⟩
 refine ay (rmI k way) ?_ ?_
 ·by_cases hw:way=2
  ·subst hw
   obtain⟨r,a1,c1,e1,h0,h1⟩:=ax (a:=a) (b:=c) (k:=k) (m:=99) (by decide) (sm8 (by decide))
   exact⟨[.mu (fdV a1 c1 k),.sh (.int 2),.sh (fV b.l),.sh (fV b.t),.sh (fV ((1+r:Int):Rat)),.sh (fV b.h),x],by simp![e1,iV],⟨b.l,b.t,((1+r:Int):Rat),b.h⟩,x,a1,c1,⟨⟨fi (i7 h0),gb.ok.h⟩,⟨gb.sz.l,gb.sz.t,fG (gR h0 h1 (by decide)),gb.sz.h⟩⟩,hx,rfl⟩
  ·exact⟨_,by simp![o_.mpr hw],b,x,a,c,gb,hx,rfl⟩
 rintro _ ⟨b,x,a,c,gb,hx,rfl⟩
 refine ay (rmI k way) ?_ ?_
 ·by_cases hw:way=3
  ·subst hw
   obtain⟨r,a1,c1,e1,h0,h1⟩:=ax (a:=a) (b:=c) (k:=k) (m:=99) (by decide) (sm8 (by decide))
   exact⟨[.mu (fdV a1 c1 k),.sh (.int 3),.sh (fV b.l),.sh (fV b.t),.sh (fV b.w),.sh (fV ((1+r:Int):Rat)),x],by simp![e1,iV],⟨b.l,b.t,b.w,((1+r:Int):Rat)⟩,x,a1,c1,⟨⟨gb.ok.w,fi (i7 h0)⟩,⟨gb.sz.l,gb.sz.t,gb.sz.w,fG (gR h0 h1 (by decide))⟩⟩,hx,rfl⟩
  ·exact⟨_,by simp![o_.mpr hw],b,x,a,c,gb,hx,rfl⟩
 rintro _ ⟨b,x,a,c,gb,hx,rfl⟩
 refine ay (rmI k way) ?_ ?_
 ·by_cases hw:way=4
  ·subst hw
   obtain⟨r1,a1,c1,e1,d_,h11⟩:=ax (a:=a) (b:=c) (k:=k) (m:=199) (by decide) (sm8 (by decide))
   obtain⟨r2,a2,c2,e2,h20,h21⟩:=ax (a:=a1) (b:=c1) (k:=k) (m:=30) (by decide) (sm8 (by decide))
   obtain⟨r3,a3,c3,e3,h30,h31⟩:=ax (a:=a2) (b:=c2) (k:=k) (m:=9) (by decide) (sm8 (by decide))
   obtain⟨r4,a4,c4,e4,h40,h41⟩:=ax (a:=a3) (b:=c3) (k:=k) (m:=99) (by decide) (sm8 (by decide))
   obtain⟨r5,a5,c5,e5,h50,h51⟩:=ax (a:=a4) (b:=c4) (k:=k) (m:=30) (by decide) (sm8 (by decide))
   obtain⟨r6,a6,c6,e6,h60,h61⟩:=ax (a:=a5) (b:=c5) (k:=k) (m:=99) (by decide) (sm8 (by decide))
   have l1:=cU (a:=r1-99) (b:=1+r2) (ui h20) (jH (gR h20 h21 (by decide)))
   have l2:=cU (a:=r3) (b:=7) (by decide) (jH (by decide))
   have l3:=cU (a:=1+r4) (b:=1+r5) (ui h50) (jH (gR h50 h51 (by decide)))
   have l4:=cU (a:=1+r6) (b:=11) (by decide) (jH (by decide))
   exact⟨[.mu (fdV a6 c6 k),.sh (.int 4),.sh (fV (((r1-99:Int):Rat)/((1+r2:Int):Rat))),.sh (fV (((r3:Int):Rat)/((7:Int):Rat))),.sh (fV (((1+r4:Int):Rat)/((1+r5:Int):Rat))),.sh (fV (((1+r6:Int):Rat)/((11:Int):Rat))),x],by simp![e1,e2,e3,e4,e5,e6,l1,l2,l3,l4],⟨_,_,_,_⟩,x,a6,c6,⟨⟨eP (i7 h40) (i7 h50),eP (i7 h60) (by decide)⟩,⟨gi (ui h20) (oo d_ h11 (by decide) (by decide)) (gR h20 h21 (by decide)),gi (by decide) (by have:=oo (c:=0) h30 h31 (by decide) (by decide);rw[Int.sub_zero] at this;exact this) (by decide),gi (ui h50) (gR h40 h41 (by decide)) (gR h50 h51 (by decide)),gi (by decide) (gR h60 h61 (by decide)) (by decide)⟩⟩,hx,rfl⟩
  ·exact⟨_,by simp![o_.mpr hw],b,x,a,c,gb,hx,rfl⟩
 rintro _ ⟨b,x,a,c,gb,hx,rfl⟩
 refine ay (rmI k way) ?_ ?_
 ·by_cases hw:way=5
  ·subst hw
   obtain⟨r1,a1,c1,e1,d_,h11⟩:=fj (a:=a) (b:=c) (k:=k) (far:=999999999999999999999999999999) (by decide) (by decide)
   obtain⟨r2,a2,c2,e2,h20,h21⟩:=fj (a:=a1) (b:=c1) (k:=k) (far:=999999999999999999999999999998) (by decide) (by decide)
   obtain⟨r3,a3,c3,e3,h30,h31⟩:=fj (a:=a2) (b:=c2) (k:=k) (far:=999999999999999999999999999999) (by decide) (by decide)
   obtain⟨r4,a4,c4,e4,h40,h41⟩:=fj (a:=a3) (b:=c3) (k:=k) (far:=999999999999999999999999999998) (by decide) (by decide)
   obtain⟨r5,a5,c5,e5,h50,h51⟩:=fj (a:=a4) (b:=c4) (k:=k) (far:=999999999999999999999999999998) (by decide) (by decide)
   have n2:=gj r2
   have n4:=gj r4
   have n5:=gj r5
   have l1:=cU (a:=r1) (b:=1+((r2.natAbs:Nat):Int)) (vU oB) (jH (mQ h20 h21 (by decide)).2)
   have l4:=cU (a:=1+((r5.natAbs:Nat):Int)) (b:=999999999999999999999999999999) (by decide) (jH (by decide))
   exact⟨[.mu (fdV a5 c5 k),.sh (.int 5),.sh (fV (((r1:Int):Rat)/((1+((r2.natAbs:Nat):Int):Int):Rat))),.sh (fV ((r3:Int):Rat)),.sh (fV ((1+((r4.natAbs:Nat):Int):Int):Rat)),.sh (fV (((1+((r5.natAbs:Nat):Int):Int):Rat)/((999999999999999999999999999999:Int):Rat))),.sh (.int 999999999999999999999999999999)],by simp![hx,p30,e1,e2,e3,e4,e5,n2,n4,n5,l1,l4,iV],⟨_,_,_,_⟩,_,a5,c5,⟨⟨fi oB,eP oB (by decide)⟩,⟨gi (vU oB) (mQ d_ h11 (by decide)).1 (mQ h20 h21 (by decide)).2,fG (mQ h30 h31 (by decide)).1,fG (mQ h40 h41 (by decide)).2,gi (by decide) (mQ h50 h51 (by decide)).2 (by decide)⟩⟩,rfl,rfl⟩
  ·exact⟨_,by simp![o_.mpr hw],b,x,a,c,gb,hx,rfl⟩
 rintro _ ⟨b,x,a,c,gb,hx,rfl⟩
 refine⟨b,a,c,gb,?_⟩
 simp![jR,bV]
def p29:fP.G (.int 10) (.int 29)=.val (.int 100000000000000000000000000000):=oz ⟨by decide,by decide,by decide⟩
def EE{r:Int}(h0:0<=r)(h1:r<24):∃z,1<=z/\z<=8388608/\qz.G (.int 1) (.int r)=.val (.int z):=by
 have c1:(1:Nat)<=2^r.toNat:=Nat.one_le_two_pow
 have c2:2^r.toNat<=2^23:=K5 (by decide) (by omega)
 have e:(2:Int)^r.toNat=((2^r.toNat:Nat):Int):=by rw[Int.natCast_pow];rfl
 refine⟨1*2^r.toNat,?_,?_,HY ⟨h0,by omega,by decide⟩⟩
 ·rw[Int.one_mul,e];exact Int.ofNat_le.mpr c1
 ·rw[Int.one_mul,e];exact Int.ofNat_le.mpr c2
def Cs{ns:List Int}{at_ most many more sty k:Int}{acc:List Int}{s9:Sl}(h9:s9.pl=true)(hk:0<=k/\k<=40)(hs:0<=sty/\sty<6)(a c q:Int):
 ∃w a' c',1<=w/\w<=8388608/\(aE false 9 (pOp bIx (bD (aa (ah 1) (aa (pOp aM (ah 1) (ak aq (aa (af 3) (aa (ah 9) ag)))) (aa (pOp qz (ah 1) (pOp bZ (af 8) (ah 24))) (aa (pOp aM (ah 1) (ak aq (aa (af 3) (aa (ah 9) ag)))) (aa (ah 1) (aa (pOp aM (ah 1) (ak aq (aa (af 3) (aa (ah 3) ag)))) ag))))))) (af 6))).G [.sh (.kl (ns.map .int)),.sh (.int at_),.sh (.int most),.ow (fdV a c q),.sh (.int many),.sh (.int more),.sh (.int sty),.ow (.lst (acc.map .int)),.sh (.int k),s9]=.nx [.sh (.kl (ns.map .int)),.sh (.int at_),.sh (.int most),.ow (fdV a' c' q),.sh (.int many),.sh (.int more),.sh (.int sty),.ow (.lst (acc.map .int)),.sh (.int k),.sh (.int w)]:=by
 obtain⟨r1,a1,c1,e1,l1,u1⟩:=ax (a:=a) (b:=c) (k:=q) (m:=9) (by decide) (sm8 (by decide))
 obtain⟨r2,a2,c2,e2,l2,u2⟩:=ax (a:=a1) (b:=c1) (k:=q) (m:=9) (by decide) (sm8 (by decide))
 obtain⟨r3,a3,c3,e3,l3,u3⟩:=ax (a:=a2) (b:=c2) (k:=q) (m:=3) (by decide) (sm8 (by decide))
 have fm:=c9 (a:=k) (m:=24) (by decide)
 have km:=eL (i:=k) (j:=24) (by decide)
 have sh:=EE fm.1 fm.2
 obtain⟨z,z1,z2,z3⟩:=sh
 have hc:sty=0\/sty=1\/sty=2\/sty=3\/sty=4\/sty=5:=by omega
 have at6:∃w,1<=w/\w<=8388608/\atI [Val.int 1,.int (1+r1),.int z,.int (1+r2),.int 1,.int (1+r3)] sty=some (.int w):=by
  rcases hc with rfl |rfl |rfl |rfl |rfl |rfl
  ·exact⟨1,by decide,by decide,rfl⟩
  ·exact⟨1+r1,by omega,by omega,rfl⟩
  ·exact⟨z,z1,z2,rfl⟩
  ·exact⟨1+r2,by omega,by omega,rfl⟩
  ·exact⟨1,by decide,by decide,rfl⟩
  ·exact⟨1+r3,by omega,by omega,rfl⟩
 obtain⟨w,w1,w2,w3⟩:=at6
 refine⟨w,a3,c3,w1,w2,?_⟩
 simp![e1,e2,e3,km,z3,w3,h9]
def wtI(ns:List Int)(at_ most many more sty k:Int)(acc:List Int)(e:E3):Prop:=∃w a c q,1<=w/\w<=1000000000000000000000000000000/\(sty<3->w<=8388608)/\e=[.sh (.kl (ns.map .int)),.sh (.int at_),.sh (.int most),.ow (fdV a c q),.sh (.int many),.sh (.int more),.sh (.int sty),.ow (.lst (acc.map .int)),.sh (.int k),.sh (.int w)]
def wtQ(ns:List Int)(at_ most many more sty k:Int)(acc:List Int)(r:SR3):Prop:=∃w s3,1<=w/\w<=1000000000000000000000000000000/\(sty<3->w<=8388608)/\s3.pl=true/\r=.nx [.sh (.kl (ns.map .int)),.sh (.int at_),.sh (.int most),s3,.sh (.int many),.sh (.int more),.sh (.int sty),.ow (.lst ((acc++[w]).map .int)),.sh (.int k),.sh (.int w)]
def BB{ns:List Int}{at_ most many more sty k:Int}{acc:List Int}{s3 s9:Sl}(h3:s3.pl=true)(h9:s9.pl=true)(ha:0<=at_)(hk:0<=k/\k<=40)(hs:0<=sty/\sty<6)(hl:acc.length<=1000):
 wtQ ns at_ most many more sty k acc (dD.G [.sh (.kl (ns.map .int)),.sh (.int at_),.sh (.int most),s3,.sh (.int many),.sh (.int more),.sh (.int sty),.ow (.lst (acc.map .int)),.sh (.int k),s9]):=by
 unfold dD
 obtain⟨f,ef⟩:=mH (ns:=ns) (k:=at_+1+k) (by omega)
 refine ay (λe=>e=[.sh (.kl (ns.map .int)),.sh (.int at_),.sh (.int most),.ow (fdV f 0 (at_+1+k)),.sh (.int many),.sh (.int more),.sh (.int sty),.ow (.lst (acc.map .int)),.sh (.int k),s9]) ⟨_,by simp![ef,h3],rfl⟩ ?_
 rintro _ rfl
 refine ay (wtI ns at_ most many more sty k acc) ?_ ?_
 ·obtain⟨w,a,c,w1,w2,e⟩:=Cs (ns:=ns) (at_:=at_) (most:=most) (many:=many) (more:=more) (acc:=acc) h9 hk hs f 0 (at_+1+k)
  exact⟨_,e,w,a,c,_,w1,by omega,λ_=>w2,rfl⟩
 rintro _ ⟨w,a,c,q,w1,w2,w3,rfl⟩
 refine ay (wtI ns at_ most many more sty k acc) ?_ ?_
 ·by_cases h:sty=3
  ·subst h
   obtain⟨r1,a1,c1,e1,l1,u1⟩:=ax (a:=a) (b:=c) (k:=q) (m:=4) (by decide) (sm8 (by decide))
   obtain⟨r2,a2,c2,e2,l2,u2⟩:=ax (a:=a1) (b:=c1) (k:=q) (m:=100) (by decide) (sm8 (by decide))
   by_cases hr:r1=0
   ·subst hr
    exact⟨[.sh (.kl (ns.map .int)),.sh (.int at_),.sh (.int most),.ow (fdV a2 c2 q),.sh (.int many),.sh (.int more),.sh (.int 3),.ow (.lst (acc.map .int)),.sh (.int k),.sh (.int (100000000000000000000000000000+r2))],by simp![e1,e2,p29],_,_,_,_,by omega,by omega,λz=>absurd z (by decide),rfl⟩
   ·exact⟨[.sh (.kl (ns.map .int)),.sh (.int at_),.sh (.int most),.ow (fdV a1 c1 q),.sh (.int many),.sh (.int more),.sh (.int 3),.ow (.lst (acc.map .int)),.sh (.int k),.sh (.int w)],by simp![e1,o_.mpr hr],_,_,_,_,w1,w2,w3,rfl⟩
  ·exact⟨_,by simp![o_.mpr h],w,a,c,q,w1,w2,w3,rfl⟩
 rintro _ ⟨w,a,c,q,w1,w2,w3,rfl⟩
 refine ay (wtI ns at_ most many more sty k acc) ?_ ?_
 ·by_cases h:sty=4
  ·subst h
   obtain⟨r1,a1,c1,e1,l1,u1⟩:=fj (a:=a) (b:=c) (k:=q) (far:=999999999999999999999999999998) (by decide) (by decide)
   exact⟨[.sh (.kl (ns.map .int)),.sh (.int at_),.sh (.int most),.ow (fdV a1 c1 q),.sh (.int many),.sh (.int more),.sh (.int 4),.ow (.lst (acc.map .int)),.sh (.int k),.sh (.int (1+if r1<0 then -r1 else r1))],by simp![e1,p30],_,_,_,_,by split <;> omega,by split <;> omega,λz=>absurd z (by decide),rfl⟩
  ·exact⟨_,by simp![o_.mpr h],w,a,c,q,w1,w2,w3,rfl⟩
 rintro _ ⟨w,a,c,q,w1,w2,w3,rfl⟩
 have ll:(acc.map Val.int).length<16777216:=by rw[g_];omega
 refine⟨w,.ow (fdV a c q),w1,w2,w3,rfl,?_⟩
 rw[KO,C_,KL]
 simp![ll]
theorem sS{ns:List Int}{at_ most many more sty:Int}(ha:0<=at_)(hs:0<=sty/\sty<6):∀(ks:List Nat) (acc:List Int) (s3 s8 s9:Sl),s3.pl=true->s8.pl=true->s9.pl=true->(∀k∈ks,k<=40)->acc.length+ks.length<=1000->
 ∃(ws:List Int) (s3' s8' s9':Sl),ws.length=ks.length/\(∀w∈ws,1<=w/\w<=1000000000000000000000000000000/\(sty<3->w<=8388608))/\bJ (gtN 8).G dD.G (ks.map λk:Nat=>Val.int (k:Nat)) [.sh (.kl (ns.map .int)),.sh (.int at_),.sh (.int most),s3,.sh (.int many),.sh (.int more),.sh (.int sty),.ow (.lst (acc.map .int)),s8,s9]=.nx [.sh (.kl (ns.map .int)),.sh (.int at_),.sh (.int most),s3',.sh (.int many),.sh (.int more),.sh (.int sty),.ow (.lst ((acc++ws).map .int)),s8',s9']
 | [],acc,s3,s8,s9,_,_,_,_,_=>⟨[],s3,s8,s9,rfl,(λ_ h=>nomatch h),by rw[KL,m7,Lq]⟩
 |
  k::ks,acc,s3,s8,s9,h3,h8,h9,hk,hl=>by
  rw[Em] at hl
  obtain⟨w,t3,w1,w2,w3,p3,e⟩:=BB (ns:=ns) (at_:=at_) (most:=most) (many:=many) (more:=more) (sty:=sty) (k:=(k:Nat)) (acc:=acc) h3 h9 ha ⟨by omega,by have:=hk k (m_ ..);omega⟩ hs (by omega)
  obtain⟨ws,s3',s8',s9',q1,q2,q3⟩:=sS (ns:=ns) (most:=most) (many:=many) (more:=more) ha hs ks (acc++[w]) t3 (.sh (.int (k:Nat))) (.sh (.int w)) p3 rfl rfl (λj hj=>hk j (i_ _ hj)) (by rw[r_];show acc.length+1+_<=_;omega)
  refine⟨w::ws,s3',s8',s9',by rw[Em,Em,q1],λx hx=>?_,?_⟩
  ·rcases B_.mp hx with rfl |hx
   ·exact⟨w1,w2,w3⟩
   ·exact q2 x hx
  ·have g1:(gtN 8).G (.int (k:Nat)) [.sh (.kl (ns.map .int)),.sh (.int at_),.sh (.int most),s3,.sh (.int many),.sh (.int more),.sh (.int sty),.ow (.lst (acc.map .int)),s8,s9]=some [.sh (.kl (ns.map .int)),.sh (.int at_),.sh (.int most),s3,.sh (.int many),.sh (.int more),.sh (.int sty),.ow (.lst (acc.map .int)),.sh (.int (k:Nat)),s9]:=by
    simp![h8]
   rw[C_,d6,g1]
   dsimp only
   rw[e]
   show bJ _ _ _ _=_
   rw[q3,LO]
   rfl
def div8{x:Int}:iR.G (.int x) (.int 8)=.val (.int (x.fdiv 8)):=jQ (CDivB.of (by decide) (sm8 (by decide)))
def wsQ(M:Int)(r:SR3):Prop:=∃ws:List Int,1<=ws.length/\(ws.length:Int)<=M/\(∀w∈ws,1<=w/\w<=1000000000000000000000000000000)/\(9<ws.length->∀w∈ws,w<=8388608)/\kF [false,false,false] r=.ok (.new (liV ws)) []
def ws_a{x most M:Int}(h:x<=most)(h1:most<=M)(h7:7<=M):1<=(if x>1 then x else 1)/\(if x>1 then x else 1)<=M:=by split <;> omega
def ws_b{most:Int}(h1:1<=most)(h2:most<=40):0<(if (7:Int)<most then 7 else most)/\Sm 8000 (if (7:Int)<most then 7 else most):=by
 split
 ·exact⟨by decide,sm8 (by decide)⟩
 ·exact⟨by omega,sm8 (by omega)⟩
def ws_c{r most:Int}(h:r<if (7:Int)<most then 7 else most):1+r<=7:=by split at h <;> omega
def tX{ns:List Int}{at_ most:Int}(ha:0<=at_)(hm:1<=most/\most<=40):∃ws:List Int,1<=ws.length/\(ws.length:Int)<=max most 7/\(∀w∈ws,1<=w/\w<=1000000000000000000000000000000)/\(9<ws.length->∀w∈ws,w<=8388608)/\cV.G [.kl (ns.map .int),.int at_,.int most]=.ok (.new (liV ws)) []:=by
 have x1:most<=max most 7:=Int.le_max_left ..
 have x7:(7:Int)<=max most 7:=Int.le_max_right ..
 have x4:max most 7<=40:=Int.max_le.mpr ⟨hm.2,by decide⟩
 generalize max most 7=M at *
 unfold cV
 rw[lG rfl]
 show wsQ M (fI.G [.sh (.kl (ns.map .int)),.sh (.int at_),.sh (.int most),.no,.no,.no,.no,.no,.no,.no])
 unfold fI
 obtain⟨f,ef⟩:=mH (ns:=ns) (k:=at_) ha
 refine ay (λe=>e=[.sh (.kl (ns.map .int)),.sh (.int at_),.sh (.int most),.ow (fdV f 0 at_),.no,.no,.no,.no,.no,.no]) ⟨_,by simp![ef],rfl⟩ ?_
 rintro _ rfl
 obtain⟨r1,a1,c1,e1,l1,u1⟩:=ax (a:=f) (b:=0) (k:=at_) (m:=if (7:Int)<most then 7 else most) (ws_b hm.1 hm.2).1 (ws_b hm.1 hm.2).2
 refine ay (λe=>e=[.sh (.kl (ns.map .int)),.sh (.int at_),.sh (.int most),.ow (fdV a1 c1 at_),.sh (.int (1+r1)),.no,.no,.no,.no,.no]) ⟨_,by simp![e1],rfl⟩ ?_
 rintro _ rfl
 have b1:1+r1<=7:=ws_c u1
 obtain⟨r2,a2,c2,e2,l2,u2⟩:=ax (a:=a1) (b:=c1) (k:=at_) (m:=6) (by decide) (sm8 (by decide))
 refine ay (λe=>e=[.sh (.kl (ns.map .int)),.sh (.int at_),.sh (.int most),.ow (fdV a2 c2 at_),.sh (.int (1+r1)),.sh (.int r2),.no,.no,.no,.no]) ⟨_,by simp![e2],rfl⟩ ?_
 rintro _ rfl
 refine ay (λe=>∃many:Int,1<=many/\many<=M/\e=[.sh (.kl (ns.map .int)),.sh (.int at_),.sh (.int most),.ow (fdV a2 c2 at_),.sh (.int many),.sh (.int r2),.no,.no,.no,.no]) ?_ ?_
 ·have mm:=aK (i:=1+r1) (j:=most) (CMulA.of (sm8 (m:=1+r1) (by omega)) (sm8 (m:=most) (by omega)) (by decide) (by decide))
  by_cases h:r2<2
  ·have dl:((1+r1)*most).fdiv 8<=most:=by
    rw[Int.fdiv_eq_ediv_of_nonneg _ (by decide)]
    have:(1+r1)*most<=7*most:=Int.mul_le_mul_of_nonneg_right b1 (by omega)
    omega
   have hc:r2=0\/r2=1:=by omega
   rcases hc with rfl |rfl
   ·exact⟨_,by simp![mm,div8],most,hm.1,x1,rfl⟩
   ·exact⟨_,by simp![mm,div8],(if ((1+r1)*most).fdiv 8>1 then ((1+r1)*most).fdiv 8 else 1),(ws_a dl x1 x7).1,(ws_a dl x1 x7).2,rfl⟩
  ·exact⟨_,by simp![w_ h],1+r1,Int.le_add_of_nonneg_right l1,Int.le_trans b1 x7,rfl⟩
 rintro _ ⟨many,m1,m2,rfl⟩
 obtain⟨r3,a3,c3,e3,l3,u3⟩:=ax (a:=a2) (b:=c2) (k:=at_) (m:=6) (by decide) (sm8 (by decide))
 refine ay (λe=>e=[.sh (.kl (ns.map .int)),.sh (.int at_),.sh (.int most),.ow (fdV a3 c3 at_),.sh (.int many),.sh (.int r2),.sh (.int r3),.no,.no,.no]) ⟨_,by simp![e3],rfl⟩ ?_
 rintro _ rfl
 refine ay (λe=>∃sty:Int,0<=sty/\sty<6/\(9<many->sty<3)/\e=[.sh (.kl (ns.map .int)),.sh (.int at_),.sh (.int most),.ow (fdV a3 c3 at_),.sh (.int many),.sh (.int r2),.sh (.int sty),.no,.no,.no]) ?_ ?_
 ·have km:=eL (i:=r3) (j:=3) (by decide)
  have fm:=c9 (a:=r3) (m:=3) (by decide)
  by_cases h:9<many
  ·exact⟨_,by simp![F_ h,km],r3.fmod 3,fm.1,Int.lt_trans fm.2 (by decide),λ_=>fm.2,rfl⟩
  ·exact⟨_,by simp![w_ h],r3,l3,u3,λz=>absurd z h,rfl⟩
 rintro _ ⟨sty,t0,t1,t2,rfl⟩
 refine ay (λe=>e=[.sh (.kl (ns.map .int)),.sh (.int at_),.sh (.int most),.ow (fdV a3 c3 at_),.sh (.int many),.sh (.int r2),.sh (.int sty),.ow (.lst []),.no,.no]) ⟨_,by simp![LH],rfl⟩ ?_
 rintro _ rfl
 have rg:=mF (i:=many) (by omega) (by omega)
 obtain⟨ws,s3,s8,s9,q1,q2,q3⟩:=sS (ns:=ns) (at_:=at_) (most:=most) (many:=many) (more:=r2) (sty:=sty) ha ⟨t0,t1⟩ (List.range many.toNat) [] (.ow (fdV a3 c3 at_)) .no .no rfl rfl rfl (λk hk=>by have:=K3.mp hk;omega) (by rw[LH,Ld];omega)
 rw[Ld] at q1
 rw[KU,KL] at q3
 unfold rgV at rg
 refine⟨ws,by omega,by omega,λw hw=>⟨(q2 w hw).1,(q2 w hw).2.1⟩,λh w hw=>(q2 w hw).2.2 (t2 (by omega)),?_⟩
 unfold liV
 simp![rg,q3]
 rfl
def GW:cA (.str "down") (.str "across")=some false:=by rw[L3.eq_str (by decide) (by decide)];exact Lj some (by decide)
def E6:cA (.str "across") (.str "across")=some true:=by rw[L3.eq_str (by decide) (by decide)];exact Lj some (by decide)
def dC{p q:Rat}{n m:Nat}(hp:Sz n p)(hq:Sz m q)(h:n+m<=8000):bA.G [fV p,fV q]=.ok (.val (fV (p+q))) []:=by
 have c1:=aK (CMulA.of hp.top hq.bot (by omega) (by omega))
 have c2:=aK (CMulA.of hq.top hp.bot (by omega) (by omega))
 have c3:=aK (CMulA.of hp.bot hq.bot (by omega) (by omega))
 have dp:=p.den_pos
 have dq:=q.den_pos
 have lo:=cU (a:=p.num*q.den+q.num*p.den) (b:=p.den*q.den) (Int.ne_of_gt (Mj (by omega) (by omega))) ((hp.bot.mul hq.bot).mono h)
 rw[<- mZ] at lo
 unfold bA
 rw[aY]
 unfold nF
 rw[show fV p=.tup [.int p.num,.int p.den] from rfl,show fV q=.tup [.int q.num,.int q.den] from rfl]
 simp![c1,c2,c3,lo]
def sk(p:Rat)(a W:Int)(hW:0<W):((p.num*a:Int):Rat)/((p.den*W:Int):Rat)=p*((a:Rat)/(W:Rat)):=by
 have h1:p=(p.num:Rat)/(p.den:Rat):=by
  have z:=Rat.num_divInt_den p
  rw[Rat.divInt_eq_div] at z
  exact z.symm
 have h2:(p.den:Rat)≠0:=λz=>p.den_nz (by exact_mod_cast z)
 have h3:(W:Rat)≠0:=λz=>by
  have:W=0:=by exact_mod_cast z
  omega
 rw[Kv,Kv,Rat.intCast_natCast]
 generalize (p.num:Rat)=x at *
 generalize (p.den:Rat)=y at *
 generalize (W:Rat)=z at *
 generalize (a:Rat)=u at *
 subst h1
 grind
def eg{p:Rat}{n m:Nat}{a W:Int}(hp:Sz n p)(hW:0<W)(mW:Sm m W)(h:n+m<=8000):aC.G [.int (p.num*a),.int (p.den*W)]=.ok (.val (fV (p*((a:Rat)/(W:Rat))))) []:=by
 have dp:=p.den_pos
 rw[cU (Int.ne_of_gt (Mj (by omega) hW)) ((hp.bot.mul mW).mono h),sk p a W hW]
def eJ(p:Rat):(fV p).items=some [.int p.num,.int p.den]:=rfl
def prt(b:Bx)(way:Str)(W a:Int)(ws:List Int):List Bx:=if way="across" then (shL b.l b.w W a ws).map λp=>⟨p.1,b.t,p.2,b.h⟩ else (shL b.t b.h W a ws).map λp=>⟨b.l,p.1,b.w,p.2⟩
def II(b:Bx)(W a w:Int)(ws:List Int):prt b "across" W a (w::ws)=(⟨b.l+b.w*((a:Rat)/(W:Rat)),b.t,b.w*((w:Rat)/(W:Rat)),b.h⟩:Bx)::prt b "across" W (a+w) ws:=by
 unfold prt
 rw[if_pos rfl,if_pos rfl]
 rfl
def HQ(b:Bx)(W a w:Int)(ws:List Int):prt b "down" W a (w::ws)=(⟨b.l,b.t+b.h*((a:Rat)/(W:Rat)),b.w,b.h*((w:Rat)/(W:Rat))⟩:Bx)::prt b "down" W (a+w) ws:=by
 have hne:¬ (("down" : Str)="across"):=by decide
 unfold prt
 rw[if_neg hne,if_neg hne]
 rfl
def Cm(b:Bx)(way:Str)(W a:Int):prt b way W a []=[]:=by
 unfold prt
 split <;> rfl
theorem kr{b:Bx}{n m:Nat}{W:Int}{wv:Val}(hs:b.Sz n)(hW:0<W)(mW:Sm m W)(h:n+n+m<=8000){way:Str}(hway:way="across" \/ way="down"):∀(ws:List Int) (a:Int) (acc:List Bx) (s10 s11:Sl),s10.pl=true->s11.pl=true->0<=a->(∀w∈ws,1<=w)->a+ws.sum<=W->acc.length+ws.length<=1000->∃s9' s10' s11',bJ (gtN 10).G cF.G (ws.map .int) [.sh (bV b),.sh (.str way),.sh wv,.sh (fV b.l),.sh (fV b.t),.sh (fV b.w),.sh (fV b.h),.sh (.int W),.ow (.lst (acc.map bV)),.sh (.int a),s10,s11]=.nx [.sh (bV b),.sh (.str way),.sh wv,.sh (fV b.l),.sh (fV b.t),.sh (fV b.w),.sh (fV b.h),.sh (.int W),.ow (.lst ((acc++prt b way W a ws).map bV)),s9',s10',s11']
 | [],a,acc,s10,s11,d_,h11,ha,hw,hs',bi=>⟨.sh (.int a),s10,s11,by rw[KL,m7,Cm,Lq]⟩
 |
  w::ws,a,acc,s10,s11,d_,h11,ha,hw,hs',bi=>by
  have hw0:=hw w (m_ ..)
  have hws:0<=ws.sum:=by
   have:∀l:List Int,(∀w∈l,1<=w)->0<=l.sum:=by
    intro l
    induction l with
    |nil=>intro _;simp
    |cons x l ih=>intro hx;rw[Kq];have:=hx x (m_ ..);have:=ih λw hw=>hx w (i_ _ hw);omega
   exact this ws λx hx=>hw x (i_ _ hx)
  rw[Kq] at hs'
  rw[Em] at bi
  have sa:Sm m a:=mW.of_le (by omega)
  have sw:Sm m w:=mW.of_le (by omega)
  have z1:Sz m ((a:Rat)/(W:Rat)):=Sz.div (by omega) sa mW m (n_ _) (n_ _)
  have ll:(acc.map bV).length<16777216:=by rw[g_];omega
  have g1:(gtN 10).G (.int w) [.sh (bV b),.sh (.str way),.sh wv,.sh (fV b.l),.sh (fV b.t),.sh (fV b.w),.sh (fV b.h),.sh (.int W),.ow (.lst (acc.map bV)),.sh (.int a),s10,s11]=some [.sh (bV b),.sh (.str way),.sh wv,.sh (fV b.l),.sh (fV b.t),.sh (fV b.w),.sh (fV b.h),.sh (.int W),.ow (.lst (acc.map bV)),.sh (.int a),.sh (.int w),s11]:=by
   simp![d_]
  rcases hway with rfl |rfl
  ·have t1:=eg (a:=a) hs.w hW mW (by omega)
   have t2:=eg (a:=w) hs.w hW mW (by omega)
   have c1:=aK (CMulA.of hs.w.top sa (by omega) (by omega))
   have c2:=aK (CMulA.of hs.w.top sw (by omega) (by omega))
   have c3:=aK (CMulA.of hs.w.bot mW (by omega) (by omega))
   have ad:=dC hs.l (hs.w.mul z1) (by omega)
   obtain⟨t9,t10,t11,ih⟩:=kr (wv:=wv) hs hW mW h (.inl rfl) ws (a+w) (acc++[(⟨b.l+b.w*((a:Rat)/(W:Rat)),b.t,b.w*((w:Rat)/(W:Rat)),b.h⟩:Bx)]) (.sh (.int w)) (.sh (fV (b.l+b.w*((a:Rat)/(W:Rat))))) rfl rfl (by omega) (λx hx=>hw x (i_ _ hx)) (by omega) (by rw[r_];show acc.length+1+_<=_;omega)
   refine⟨t9,t10,t11,?_⟩
   have b1:cF.G [.sh (bV b),.sh (.str "across"),.sh wv,.sh (fV b.l),.sh (fV b.t),.sh (fV b.w),.sh (fV b.h),.sh (.int W),.ow (.lst (acc.map bV)),.sh (.int a),.sh (.int w),s11]=.nx [.sh (bV b),.sh (.str "across"),.sh wv,.sh (fV b.l),.sh (fV b.t),.sh (fV b.w),.sh (fV b.h),.sh (.int W),.ow (.lst ((acc++[(⟨b.l+b.w*((a:Rat)/(W:Rat)),b.t,b.w*((w:Rat)/(W:Rat)),b.h⟩:Bx)]).map bV)),.sh (.int (a+w)),.sh (.int w),.sh (fV (b.l+b.w*((a:Rat)/(W:Rat))))]:=by
    unfold cF
    rw[KO,show [(⟨b.l+b.w*((a:Rat)/(W:Rat)),b.t,b.w*((w:Rat)/(W:Rat)),b.h⟩:Bx)].map bV=[.tup [fV (b.l+b.w*((a:Rat)/(W:Rat))),fV b.t,fV (b.w*((w:Rat)/(W:Rat))),fV b.h]] from rfl]
    simp![h11,eJ,c1,c2,c3,t1,t2,ad,ll,E6]
   rw[C_,d6,g1]
   simp only[b1,jK]
   rw[ih,II,LO]
   rfl
  ·have t1:=eg (a:=a) hs.h hW mW (by omega)
   have t2:=eg (a:=w) hs.h hW mW (by omega)
   have c1:=aK (CMulA.of hs.h.top sa (by omega) (by omega))
   have c2:=aK (CMulA.of hs.h.top sw (by omega) (by omega))
   have c3:=aK (CMulA.of hs.h.bot mW (by omega) (by omega))
   have ad:=dC hs.t (hs.h.mul z1) (by omega)
   obtain⟨t9,t10,t11,ih⟩:=kr (wv:=wv) hs hW mW h (.inr rfl) ws (a+w) (acc++[(⟨b.l,b.t+b.h*((a:Rat)/(W:Rat)),b.w,b.h*((w:Rat)/(W:Rat))⟩:Bx)]) (.sh (.int w)) (.sh (fV (b.t+b.h*((a:Rat)/(W:Rat))))) rfl rfl (by omega) (λx hx=>hw x (i_ _ hx)) (by omega) (by rw[r_];show acc.length+1+_<=_;omega)
   refine⟨t9,t10,t11,?_⟩
   have b1:cF.G [.sh (bV b),.sh (.str "down"),.sh wv,.sh (fV b.l),.sh (fV b.t),.sh (fV b.w),.sh (fV b.h),.sh (.int W),.ow (.lst (acc.map bV)),.sh (.int a),.sh (.int w),s11]=.nx [.sh (bV b),.sh (.str "down"),.sh wv,.sh (fV b.l),.sh (fV b.t),.sh (fV b.w),.sh (fV b.h),.sh (.int W),.ow (.lst ((acc++[(⟨b.l,b.t+b.h*((a:Rat)/(W:Rat)),b.w,b.h*((w:Rat)/(W:Rat))⟩:Bx)]).map bV)),.sh (.int (a+w)),.sh (.int w),.sh (fV (b.t+b.h*((a:Rat)/(W:Rat))))]:=by
    unfold cF
    rw[KO,show [(⟨b.l,b.t+b.h*((a:Rat)/(W:Rat)),b.w,b.h*((w:Rat)/(W:Rat))⟩:Bx)].map bV=[.tup [fV b.l,fV (b.t+b.h*((a:Rat)/(W:Rat))),fV b.w,fV (b.h*((w:Rat)/(W:Rat)))]] from rfl]
    simp![h11,eJ,c1,c2,c3,t1,t2,ad,ll,GW]
   rw[C_,d6,g1]
   simp only[b1,jK]
   rw[ih,HQ,LO]
   rfl
def qp{b:Bx}{n m:Nat}{way:Str}{ws:List Int}(hs:b.Sz n)(hway:way="across" \/ way="down")(hw:∀w∈ws,1<=w)(h0:0<ws.sum)(mW:Sm m ws.sum)(h:n+n+m<=8000)(bi:ws.length<=1000):dP.G [bV b,.str way,.lst (ws.map .int)]=.ok (.new (.lst ((cT b way ws).map bV))) []:=by
 obtain⟨s9,s10,s11,lo⟩:=kr (wv:=.lst (ws.map .int)) hs h0 mW h hway ws 0 [] .no .no rfl rfl (by omega) hw (by omega) (by simpa using bi)
 have pe:prt b way ws.sum 0 ws=cT b way ws:=rfl
 rw[KU,pe,KL] at lo
 have e0:bV b=.tup [fV b.l,fV b.t,fV b.w,fV b.h]:=rfl
 rw[e0] at lo ⊢
 unfold dP
 rw[aY]
 unfold j8
 simp![lo]
noncomputable def om:Val->Bool
 |.bl _=>true
 |_=>false
def BI{v:Val}(hk:knV v=true):(a9 bN).G [v,.ty "int"]=.val (.bl (dH v || om v)):=by
 cases v <;> first |rfl |cases hk
def xC{v:Val}(hk:knV v=true):(a9 bN).G [v,.ty "bool"]=.val (.bl (om v)):=by
 cases v <;> first |rfl |cases hk
def smP(v:Val):Prop:=∀a b:Int,v=.tup [.int a,.int b]->Sm 8000 b
def JK{a b:Int}(hb:0<b):vq (fV ((a:Rat)/(b:Rat))) (.tup [.int a,.int b])=decide (Int.gcd a b=1):=by
 by_cases h:Int.gcd a b=1
 ·rw[<- Ac (by omega) h,F_ h]
  simp [vq,vqs]
 ·rw[w_ h]
  have hh:¬ (((a:Rat)/(b:Rat)).num=a/\((((a:Rat)/(b:Rat)).den:Nat):Int)=b):=by
   rintro⟨h1,h2⟩
   have:=mx ((a:Rat)/(b:Rat))
   rw[h1,h2] at this
   exact h this
  unfold fV
  simp only[vq,vqs,Bool.and_true]
  rw[Lp,o_,o_]
  by_cases h1:((a:Rat)/(b:Rat)).num=a
  ·exact .inr λh2=>hh ⟨h1,h2⟩
  ·exact .inl h1
def CV{v:Val}(hk:knV v=true):(dg (pFn (a9 bN) (aa (af 0) (aa (pTy "int") ag))) (iW (pFn (a9 bN) (aa (af 0) (aa (pTy "bool") ag))))).G [.sh v]=.ok (.val (.bl (dH v))) [.sh v]:=by
 have w1:=BI hk
 have w3:=xC hk
 rcases fk v with h |⟨i,rfl⟩
 ·rw[h] at w1 ⊢
  cases h3:om v <;> (rw[h3] at w1 w3;simp![w1,w3])
 ·simp![w1,w3,dH,om]
def lC{v:Val}(ha:bu 1 v=true)(hs:smP v):cq.G [v]=.ok (.val (.bl (aD v))) []:=by
 unfold cq
 rw[aY]
 unfold gE
 rcases iL v with ht |⟨xs,rfl⟩
 ·have it:=ek (ou ha ht)
  rw[ht] at it
  simp![it,zZ ht]
 have it:=ek (v:=.tup xs) rfl
 by_cases hl:xs.length=2
 ·match
   xs,hl,ha,hs with
  |
   [a,b],_,ha,hs=>
   have ha':(knV a&&(knV b&&true))=true:=by simpa [bu] using ha
   simp only[k_] at ha'
   have bl2:∀x y:Bool,eB [.bl x,.bl y]=some [x,y]:=λ_ _=>rfl
   obtain⟨e',⟨s',rfl,_⟩,lc⟩:=jA (g:=(gtN 0).G) (F:=(dg (pFn (a9 bN) (aa (af 0) (aa (pTy "int") ag))) (iW (pFn (a9 bN) (aa (af 0) (aa (pTy "bool") ag))))).G) (f:=λv=>.bl (dH v)) (λe=>∃s,e=[s]/\s.pl=true) [a,b] [] [.no] ⟨.no,rfl,rfl⟩ (by
    rintro v hv e ⟨s,rfl,hs⟩
    have hk:knV v=true:=by
     rcases B_.mp hv with rfl |hv
     ·exact ha'.1
     ·rw[Lo.mp hv];exact ha'.2.1
    refine⟨[.sh v],.val (.bl (dH v)),[.sh v],?_,CV hk,rfl,⟨_,rfl,rfl⟩⟩
    simp![hs]) (by simp)
   have cy:cY=qY.G:=rfl
   rw[cy,KU] at lc
   simp only[C_,KL] at lc
   generalize (dg (pFn (a9 bN) (aa (af 0) (aa (pTy "int") ag))) (iW (pFn (a9 bN) (aa (af 0) (aa (pTy "bool") ag)))))=FF at *
   rcases fk a with h1 |⟨i,rfl⟩
   ·rw[h1] at lc
    simp![it,cm,lc,ba,bl2,id,vx h1,Bool.false_and]
   rcases fk b with h2 |⟨j,rfl⟩
   ·rw[h2] at lc
    simp![it,cm,lc,ba,bl2,id,vh h2,Bool.and_false]
   rw[show dH (.int i)=true from rfl,show dH (.int j)=true from rfl] at lc
   have f:aD (.tup [.int i,.int j])=(decide (1<=j)&&decide (Int.gcd i j=1)):=rfl
   by_cases hj:0<j
   ·have lo:=cU (a:=i) (b:=j) (by omega) (hs i j rfl)
    have eq1:cA (fV ((i:Rat)/(j:Rat))) (.tup [.int i,.int j])=some (decide (Int.gcd i j=1)):=by
     rw[oC rfl rfl,JK hj]
    simp![it,cm,lc,ba,bl2,id,F_ hj,lo,eq1,f,F_ (show 1<=j by omega)]
   ·simp![it,cm,lc,ba,bl2,id,w_ hj,f,w_ (show ¬ 1<=j by omega)]
 ·have e:(((xs.length:Nat):Int)==2)=false:=by rw[o_];omega
  simp![it,cm,e,Ao hl]
def smB(v:Val):Prop:=∀xs,v=.tup xs->∀x∈xs,smP x
def vJ{v:Val}(ha:bu 2 v=true)(hs:smB v):bP.G [v]=.ok (.val (.bl (aR v))) []:=by
 unfold bP
 rw[aY]
 unfold jn
 rcases iL v with ht |⟨xs,rfl⟩
 ·have it:=ek (ou ha ht)
  rw[ht] at it
  simp![it,Ah ht]
 have it:=ek (v:=.tup xs) rfl
 by_cases hl:xs.length=4
 ·match
   xs,hl,ha,hs with
  |
   [a,b,c,d],_,ha,hs=>
   have ha':(bu 1 a&&(bu 1 b&&(bu 1 c&&(bu 1 d&&true))))=true:=by simpa [bu] using ha
   simp only[k_] at ha'
   have hs':=hs _ rfl
   have w1:=lC ha'.1 (hs' _ (by simp))
   have w2:=lC ha'.2.1 (hs' _ (by simp))
   have w3:=lC ha'.2.2.1 (hs' _ (by simp))
   have w4:=lC ha'.2.2.2.1 (hs' _ (by simp))
   have e1:aR (.tup [a,b,c,d])=(aD a&&(aD b&&(aD c&&(aD d&&(eH c&&eH d))))):=rfl
   have bl4:∀x y z w:Bool,eB [.bl x,.bl y,.bl z,.bl w]=some [x,y,z,w]:=λ_ _ _ _=>rfl
   cases hA:(aD a&&(aD b&&(aD c&&aD d))) with
   |
    true=>
    simp only[k_] at hA
    obtain⟨p,rfl⟩:=lY hA.2.2.1
    obtain⟨q,rfl⟩:=lY hA.2.2.2
    rw[hA.1,hA.2.1,hA.2.2.1,hA.2.2.2] at e1
    rw[hA.1] at w1;rw[hA.2.1] at w2;rw[hA.2.2.1] at w3;rw[hA.2.2.2] at w4
    have e2:aR (.tup [a,b,fV p,fV q])=(decide (0<p.num)&&decide (0<q.num)):=by rw[e1];rfl
    rw[e2]
    have i1:(fV p).items=some [.int p.num,.int p.den]:=rfl
    have i2:(fV q).items=some [.int q.num,.int q.den]:=rfl
    by_cases hp:0<p.num
    ·simp![it,cm,lcV,ba,w1,w2,w3,w4,bl4,id,i1,i2,F_ hp]
    ·simp![it,cm,lcV,ba,w1,w2,w3,w4,bl4,id,i1,i2,w_ hp]
   |
    false=>
    have e2:aR (.tup [a,b,c,d])=false:=by
     rw[e1]
     revert hA
     generalize aD a=a',aD b=b',aD c=c',aD d=d',(eH c&&eH d)=z
     revert a' b' c' d' z
     decide
    rw[e2]
    simp![it,cm,lcV,ba,w1,w2,w3,w4,bl4,id,hA]
 ·have e:(((xs.length:Nat):Int)==4)=false:=by rw[o_];omega
  simp![it,cm,e,zY hl]
def bX{p q:Rat}{n m:Nat}(hp:Sz n p)(hq:Sz m q)(h1:n<=100000)(h2:m<=100000):bc.G [fV p,fV q]=.ok (.val (.bl (decide (p<q)))) []:=by
 have c1:=aK (CMulA.of hp.top hq.bot h1 h2)
 have c2:=aK (CMulA.of hq.top hp.bot h2 h1)
 unfold bc
 rw[aY]
 unfold lB
 rw[show fV p=.tup [.int p.num,.int p.den] from rfl,show fV q=.tup [.int q.num,.int q.den] from rfl]
 have at1:∀x y:Val,atI [x,y] 1=some y:=λx y=>aS (by decide) rfl
 simp![uP,at1,c1,c2]
 rw[show decide (p.num*(q.den:Int)<q.num*(p.den:Int))=decide (p<q) from decide_eq_decide.mpr (wb p q).symm]
def enV(w:Wl):Val:=.tup [fV w.l,fV w.t,fV w.r,fV w.b]
def oq(w:Wl):(enV w).items=some [fV w.l,fV w.t,fV w.r,fV w.b]:=rfl
def z8(b:Bx):(bV b).items=some [fV b.l,fV b.t,fV b.w,fV b.h]:=rfl
def at4(a b c d:Val):atI [a,b,c,d] 0=some a/\atI [a,b,c,d] 1=some b/\atI [a,b,c,d] 2=some c/\atI [a,b,c,d] 3=some d:=⟨aS (by decide) rfl,aS (by decide) rfl,aS (by decide) rfl,aS (by decide) rfl⟩
def m6{b:Bx}{n:Nat}(hs:b.Sz n)(h:n+n<=8000):cu.G [bV b]=.ok (.val (enV (wlB b))) []:=by
 have a1:=dC hs.l hs.w h
 have a2:=dC hs.t hs.h h
 obtain⟨i0,i1,i2,i3⟩:=at4 (fV b.l) (fV b.t) (fV b.w) (fV b.h)
 unfold cu
 rw[aY]
 unfold lU
 have e:enV (wlB b)=.tup [fV b.l,fV b.t,fV (b.l+b.w),fV (b.t+b.h)]:=rfl
 rw[e]
 generalize hv:bV b=v
 have it:v.items=some [fV b.l,fV b.t,fV b.w,fV b.h]:=by rw[<- hv];rfl
 simp![it,i0,i1,i2,i3,a1,a2]
def qV{a b:Wl}{n m:Nat}(ha:a.Sz n)(hb:b.Sz m)(h1:n<=100000)(h2:m<=100000):eE.G [enV a,enV b]=.ok (.val (.bl (ovB a b))) []:=by
 have l1:=bX ha.l hb.r h1 h2
 have l2:=bX hb.l ha.r h2 h1
 have l3:=bX ha.t hb.b h1 h2
 have l4:=bX hb.t ha.b h2 h1
 obtain⟨i0,i1,i2,i3⟩:=at4 (fV a.l) (fV a.t) (fV a.r) (fV a.b)
 obtain⟨j0,j1,j2,j3⟩:=at4 (fV b.l) (fV b.t) (fV b.r) (fV b.b)
 unfold eE
 rw[aY]
 unfold lV ovB
 have ea:=oq a
 have eb:=oq b
 generalize enV a=va at *
 generalize enV b=vb at *
 generalize decide (a.l<b.r)=d1 at *
 generalize decide (b.l<a.r)=d2 at *
 generalize decide (a.t<b.b)=d3 at *
 generalize decide (b.t<a.b)=d4 at *
 cases d1 <;> cases d2 <;> cases d3 <;> simp![ea,eb,i0,i1,i2,i3,j0,j1,j2,j3,l1,l2,l3,l4]
def duE(r w b:Val)(s5 s7 s9:Sl)(e:E3):Prop:=∃s3 s4 s6 s8 s10:Sl,e=[.sh r,.sh w,.sh b,s3,s4,s5,s6,s7,s8,s9,s10]/\(s3.pl=true/\s4.pl=true/\s6.pl=true/\s8.pl=true/\s10.pl=true)
def vS{r w:Val}{bs:List Val}{s5 s7 s9:Sl}(ha:∀b∈bs,bu 2 b=true)(hm:∀b∈bs,smB b){e:E3}(he:duE r w (.lst bs) s5 s7 s9 e):∃e',duE r w (.lst bs) s5 s7 s9 e'/\bJ (gtX (gtT 2 (aF (gtN 3) (aF (gtN 4) bG)))).G iZ.G (d7 0 bs) e=fdS (λp=>.val (.tup [.str "box",.int (p.2:Nat)])) e' (bs.zipIdx.find? (λp=>!aR p.1)):=by
 rw[sg]
 refine bO (λp:Val×Nat=>.tup [.int (p.2:Nat),p.1]) _ (λp=>.val (.tup [.str "box",.int (p.2:Nat)])) (duE r w (.lst bs) s5 s7 s9) bs.zipIdx e he ?_
 rintro⟨v,i⟩ hvi e ⟨s3,s4,s6,s8,s10,rfl,h3,h4,h6,h8,d_⟩
 have hv:=Kt hvi
 have ib:=vJ (ha v hv) (hm v hv)
 refine⟨[.sh r,.sh w,.sh (.lst bs),.sh (.int (i:Nat)),.sh v,s5,s6,s7,s8,s9,s10],[.sh r,.sh w,.sh (.lst bs),.sh (.int (i:Nat)),.sh v,s5,s6,s7,s8,s9,s10],?_,⟨_,_,_,_,_,rfl,rfl,rfl,h6,h8,d_⟩,?_⟩
 ·simp![h3,h4]
 ·unfold iZ
  dsimp only
  cases hc:aR v with
  |true=>right;simp![ib,hc,KG,Lk,Me]
  |false=>left;simp![ib,hc,KG]
def FV{rm:Bx}{w:Val}{bs:List Bx}{n:Nat}{s5 s9:Sl}(hrs:rm.Sz n)(hbs:∀b∈bs,b.Sz n)(h:n+n<=8000){e:E3}(he:duE (bV rm) w (.lst (bs.map bV)) s5 (.sh (enV (wlB rm))) s9 e):∃e',duE (bV rm) w (.lst (bs.map bV)) s5 (.sh (enV (wlB rm))) s9 e'/\bJ (gtX (gtT 2 (aF (gtN 3) (aF (gtN 4) bG)))).G i9.G (d7 0 (bs.map bV)) e=fdS (λp=>.val (.tup [.str "out",.int (p.2:Nat)])) e' (bs.zipIdx.find? (iA rm)):=by
 rw[eT]
 refine bO (λp:Bx×Nat=>.tup [.int (p.2:Nat),bV p.1]) _ (λp=>.val (.tup [.str "out",.int (p.2:Nat)])) (duE (bV rm) w (.lst (bs.map bV)) s5 (.sh (enV (wlB rm))) s9) bs.zipIdx e he ?_
 rintro⟨b,i⟩ hvi e ⟨s3,s4,s6,s8,s10,rfl,h3,h4,h6,h8,d_⟩
 have hb:=hbs b (Kt hvi)
 have en:=m6 hb h
 have z1:=ig hrs
 have z2:=ig hb
 have pe:iA rm (b,i)=!inB (wlB rm) (wlB b):=rfl
 refine⟨[.sh (bV rm),.sh w,.sh (.lst (bs.map bV)),.sh (.int (i:Nat)),.sh (bV b),s5,s6,.sh (enV (wlB rm)),s8,s9,s10],[.sh (bV rm),.sh w,.sh (.lst (bs.map bV)),.sh (.int (i:Nat)),.sh (bV b),s5,s6,.sh (enV (wlB rm)),.sh (enV (wlB b)),s9,s10],?_,⟨_,_,_,_,_,rfl,rfl,rfl,h6,rfl,d_⟩,?_⟩
 ·generalize enV (wlB rm)=A
  simp![h3,h4]
 rw[pe]
 generalize wlB rm=A at *
 generalize wlB b=B at *
 have l1:=bX z2.l z1.l (by omega) (by omega)
 have l2:=bX z2.t z1.t (by omega) (by omega)
 have l3:=bX z1.r z2.r (by omega) (by omega)
 have l4:=bX z1.b z2.b (by omega) (by omega)
 obtain⟨i0,i1,i2,i3⟩:=at4 (fV A.l) (fV A.t) (fV A.r) (fV A.b)
 obtain⟨j0,j1,j2,j3⟩:=at4 (fV B.l) (fV B.t) (fV B.r) (fV B.b)
 have ea:=oq A
 have eb:=oq B
 unfold i9 inB
 generalize enV A=va at *
 generalize enV B=vb at *
 generalize bV b=bv at *
 generalize decide (B.l<A.l)=d1 at *
 generalize decide (B.t<A.t)=d2 at *
 generalize decide (A.r<B.r)=d3 at *
 generalize decide (A.b<B.b)=d4 at *
 cases d1 <;> cases d2 <;> cases d3 <;> cases d4 <;> first
  |(right;simp![en,h8,ea,eb,i0,i1,i2,i3,j0,j1,j2,j3,l1,l2,l3,l4,KG,Lk,Me];done)
  |(left;simp![en,h8,ea,eb,i0,i1,i2,i3,j0,j1,j2,j3,l1,l2,l3,l4,KG];done)
def F6{A B w W:Rat}(hB:B≠0)(hW:W≠0):A*w/(B*W)=A/B*(w/W):=by grind
def IS{p q:Rat}{w W:Int}(hW:W≠0):((p.num*q.num*w:Int):Rat)/(((p.den:Int)*(q.den:Int)*W:Int):Rat)=p*q*((w:Rat)/(W:Rat)):=by
 have dp:=p.den_pos
 have dq:=q.den_pos
 have hB:(((p.den:Int)*(q.den:Int):Int):Rat)≠0:=by
  intro z
  have:=Rat.intCast_eq_zero_iff.mp z
  rcases Int.mul_eq_zero.mp this with h |h <;> omega
 have hW':(W:Rat)≠0:=λz=>hW (Rat.intCast_eq_zero_iff.mp z)
 rw[jG p q,Kv (p.num*q.num),Kv ((p.den:Int)*(q.den:Int)),F6 hB hW']
def Cu{rm:Bx}{ws:List Int}{bs:List Bx}{n m:Nat}{s7 s9:Sl}(hrs:rm.Sz n)(hbs:∀b∈bs,b.Sz n)(hw:∀w∈ws,1<=w)(hws:∀w∈ws,Sm m w)(hS:Sm m ws.sum)(hl:bs.length=ws.length)(h:n+n+m<=8000){e:E3}(he:duE (bV rm) (.lst (ws.map .int)) (.lst (bs.map bV)) (.sh (.int ws.sum)) s7 s9 e):∃e',duE (bV rm) (.lst (ws.map .int)) (.lst (bs.map bV)) (.sh (.int ws.sum)) s7 s9 e'/\bJ (gtX (gtT 2 (aF (gtN 3) (aF (gtN 4) bG)))).G iz.G (d7 0 (bs.map bV)) e=fdS (λp=>.val (.tup [.str "area",.int (p.2:Nat)])) e' (bs.zipIdx.find? (arP rm ws)):=by
 rw[eT]
 refine bO (λp:Bx×Nat=>.tup [.int (p.2:Nat),bV p.1]) _ (λp=>.val (.tup [.str "area",.int (p.2:Nat)])) (duE (bV rm) (.lst (ws.map .int)) (.lst (bs.map bV)) (.sh (.int ws.sum)) s7 s9) bs.zipIdx e he ?_
 rintro⟨b,i⟩ hvi e ⟨s3,s4,s6,s8,s10,rfl,h3,h4,h6,h8,d_⟩
 have hm:=Kt hvi
 have hb:=hbs b hm
 have hi:i<ws.length:=by have:=Mv hvi;omega
 have ei:ws[i]?=some ws[i]:=l_ hi
 have at1:atI (ws.map Val.int) ((i:Nat):Int)=some (.int ws[i]):=aS (by omega) (by rw[G_,t_,ei];rfl)
 have s0:ws.sum≠0:=by
  have:=mj hw (by intro z;rw[z] at hi;simp at hi)
  omega
 have hwi:=hws ws[i] (Ks hi)
 have c1:=aK (CMulA.of hrs.w.top hrs.h.top (by omega) (by omega))
 have c2:=aK (CMulA.of (hrs.w.top.mul hrs.h.top) hwi (by omega) (by omega))
 have c3:=aK (CMulA.of hrs.w.bot hrs.h.bot (by omega) (by omega))
 have c4:=aK (CMulA.of (hrs.w.bot.mul hrs.h.bot) hS (by omega) (by omega))
 have c5:=aK (CMulA.of hb.w.top hb.h.top (by omega) (by omega))
 have c6:=aK (CMulA.of hb.w.bot hb.h.bot (by omega) (by omega))
 have d1:∀r:Rat,(r.den:Int)≠0:=λr=>by have:=r.den_pos;omega
 have lo1:=cU (a:=rm.w.num*rm.h.num*ws[i]) (b:=(rm.w.den:Int)*(rm.h.den:Int)*ws.sum) (Lc (Lc (d1 _) (d1 _)) s0) (((hrs.w.bot.mul hrs.h.bot).mul hS).mono h)
 have lo2:=cU (a:=b.w.num*b.h.num) (b:=(b.w.den:Int)*(b.h.den:Int)) (Lc (d1 _) (d1 _)) ((hb.w.bot.mul hb.h.bot).mono (by omega))
 rw[IS s0] at lo1
 rw[<- jG] at lo2
 have eq:=zO (b.w*b.h) (rm.w*rm.h*((ws[i]:Rat)/(ws.sum:Rat)))
 have pe:arP rm ws (b,i)=!decide (b.w*b.h=rm.w*rm.h*((ws[i]:Rat)/(ws.sum:Rat))):=by unfold arP;dsimp only;rw[ei]
 obtain⟨_,_,i2,i3⟩:=at4 (fV rm.l) (fV rm.t) (fV rm.w) (fV rm.h)
 obtain⟨_,_,j2,j3⟩:=at4 (fV b.l) (fV b.t) (fV b.w) (fV b.h)
 have f1:=eJ rm.w
 have f2:=eJ rm.h
 have f3:=eJ b.w
 have f4:=eJ b.h
 have ra:=z8 rm
 have rb:=z8 b
 have o1:∀x y:Val,atI [x,y] 1=some y:=λx y=>aS (by decide) rfl
 refine⟨[.sh (bV rm),.sh (.lst (ws.map .int)),.sh (.lst (bs.map bV)),.sh (.int (i:Nat)),.sh (bV b),.sh (.int ws.sum),s6,s7,s8,s9,s10],[.sh (bV rm),.sh (.lst (ws.map .int)),.sh (.lst (bs.map bV)),.sh (.int (i:Nat)),.sh (bV b),.sh (.int ws.sum),.sh (fV (rm.w*rm.h*((ws[i]:Rat)/(ws.sum:Rat)))),s7,s8,s9,s10],?_,⟨_,_,_,_,_,rfl,rfl,rfl,rfl,h8,d_⟩,?_⟩
 ·simp![h3,h4]
 rw[pe]
 unfold iz
 generalize fV (rm.w*rm.h*((ws[i]:Rat)/(ws.sum:Rat)))=v1 at *
 generalize fV (b.w*b.h)=v2 at *
 generalize fV rm.w=w1 at *
 generalize fV rm.h=w2 at *
 generalize fV b.w=w3 at *
 generalize fV b.h=w4 at *
 generalize bV rm=rv at *
 generalize bV b=bv at *
 generalize bs.map bV=bsv at *
 generalize ws.map Val.int=wsv at *
 cases hc:decide (b.w*b.h=rm.w*rm.h*((ws[i]:Rat)/(ws.sum:Rat))) with
 |
  true=>
  rw[hc] at eq
  right;simp![h6,ra,rb,i2,i3,j2,j3,f1,f2,f3,f4,uP,o1,at1,c1,c2,c3,c4,c5,c6,lo1,lo2,eq,KG,Lk,Me]
 |
  false=>
  rw[hc] at eq
  left;simp![h6,ra,rb,i2,i3,j2,j3,f1,f2,f3,f4,uP,o1,at1,c1,c2,c3,c4,c5,c6,lo1,lo2,eq,KG]
def EK{r w b:Val}{D:List Wl}{i:Nat}{m:Nat}{s4 s5 s6 s7 s8:Sl}(hW:∀w∈D,w.Sz m)(hi:i<D.length)(hm:m<=100000){s10:Sl}(d_:s10.pl=true):∃s10':Sl,s10'.pl=true/\bJ (gtN 10).G fX.G (rgV i) [.sh r,.sh w,.sh b,.sh (.int (i:Nat)),s4,s5,s6,s7,s8,.sh (.lst (D.map enV)),s10]=fdS (λj:Nat=>.val (.tup [.str "over",.int (j:Nat),.int (i:Nat)])) [.sh r,.sh w,.sh b,.sh (.int (i:Nat)),s4,s5,s6,s7,s8,.sh (.lst (D.map enV)),s10'] ((List.range i).find? (ovJ D D[i])):=by
 obtain⟨e2,⟨s',rfl,h'⟩,fr⟩:=bO (g:=(gtN 10).G) (B:=fX.G) (λj:Nat=>Val.int (j:Nat)) (ovJ D D[i]) (λj=>.val (.tup [.str "over",.int (j:Nat),.int (i:Nat)])) (λe=>∃s,e=[.sh r,.sh w,.sh b,.sh (.int (i:Nat)),s4,s5,s6,s7,s8,.sh (.lst (D.map enV)),s]/\s.pl=true) (List.range i) [.sh r,.sh w,.sh b,.sh (.int (i:Nat)),s4,s5,s6,s7,s8,.sh (.lst (D.map enV)),s10] ⟨_,rfl,d_⟩ (by
  rintro j hj e ⟨s,rfl,hs⟩
  have hj:=K3.mp hj
  have hjl:j<D.length:=by omega
  have ej:D[j]?=some D[j]:=l_ hjl
  have ei:D[i]?=some D[i]:=l_ hi
  have at1:atI (D.map enV) ((j:Nat):Int)=some (enV D[j]):=aS (by omega) (by rw[G_,t_,ej];rfl)
  have at2:atI (D.map enV) ((i:Nat):Int)=some (enV D[i]):=aS (by omega) (by rw[G_,t_,ei];rfl)
  have sh:=qV (hW D[j] (Ks hjl)) (hW D[i] (Ks hi)) hm hm
  have oe:ovJ D D[i] j=ovB D[j] D[i]:=by unfold ovJ;rw[ej]
  refine⟨[.sh r,.sh w,.sh b,.sh (.int (i:Nat)),s4,s5,s6,s7,s8,.sh (.lst (D.map enV)),.sh (.int (j:Nat))],[.sh r,.sh w,.sh b,.sh (.int (i:Nat)),s4,s5,s6,s7,s8,.sh (.lst (D.map enV)),.sh (.int (j:Nat))],?_,⟨_,rfl,rfl⟩,?_⟩
  ·simp![hs]
  ·rw[oe]
   unfold fX
   cases hc:ovB D[j] D[i] with
   |true=>left;simp![at1,at2,sh,hc,KG]
   |false=>right;simp![at1,at2,sh,hc,and_true,or_false,true_or])
 exact⟨s',h',fr⟩
def GH{α:Type}(D:List α):rgV D.length=D.zipIdx.map λp=>Val.int (p.2:Nat):=by
 unfold rgV
 rw[List.range_eq_range',<- List.zipIdx_map_snd 0 D,Ln]
 rfl
def Cr{r w b:Val}{D:List Wl}{m:Nat}{s3 s4 s5 s6 s7 s8 s10:Sl}(hW:∀w∈D,w.Sz m)(hm:m<=100000)(hl:D.length<=1000)(h3:s3.pl=true)(d_:s10.pl=true):∃t3 t10:Sl,bJ (gtN 3).G fZ.G (rgV D.length) [.sh r,.sh w,.sh b,s3,s4,s5,s6,s7,s8,.sh (.lst (D.map enV)),s10]=fdS (λp=>.val (ovR D p)) [.sh r,.sh w,.sh b,t3,s4,s5,s6,s7,s8,.sh (.lst (D.map enV)),t10] (D.zipIdx.find? (ovP D)):=by
 rw[GH]
 obtain⟨e2,⟨p3,p10,rfl,_,_⟩,fr⟩:=bO (g:=(gtN 3).G) (B:=fZ.G) (λp:Wl×Nat=>Val.int (p.2:Nat)) (ovP D) (λp=>.val (ovR D p)) (λe=>∃t3 t10,e=[.sh r,.sh w,.sh b,t3,s4,s5,s6,s7,s8,.sh (.lst (D.map enV)),t10]/\t3.pl=true/\t10.pl=true) D.zipIdx [.sh r,.sh w,.sh b,s3,s4,s5,s6,s7,s8,.sh (.lst (D.map enV)),s10] ⟨_,_,rfl,h3,d_⟩ (by
  rintro⟨u,i⟩ hwi e ⟨t3,t10,rfl,h3,d_⟩
  have hi:=Mv hwi
  have hil:i<D.length:=by omega
  have eu:D[i]=u:=by
   have:=hi.2.2
   simp only[Nat.sub_zero] at this
   exact this.symm
  obtain⟨s',h',fr⟩:=EK (r:=r) (w:=w) (b:=b) (s4:=s4) (s5:=s5) (s6:=s6) (s7:=s7) (s8:=s8) hW hil hm d_
  rw[eu] at fr
  have rg:=ip (k:=i) (by omega)
  refine⟨[.sh r,.sh w,.sh b,.sh (.int (i:Nat)),s4,s5,s6,s7,s8,.sh (.lst (D.map enV)),t10],[.sh r,.sh w,.sh b,.sh (.int (i:Nat)),s4,s5,s6,s7,s8,.sh (.lst (D.map enV)),s'],?_,⟨_,_,rfl,rfl,h'⟩,?_⟩
  ·simp![h3]
  ·have op:ovP D (u,i)=((List.range i).find? (ovJ D u)).isSome:=rfl
   have or:ovR D (u,i)=.tup [.str "over",.int (((List.range i).find? (ovJ D u)).getD 0:Nat),.int (i:Nat)]:=rfl
   unfold fZ
   rw[op,or]
   cases hf:(List.range i).find? (ovJ D u) with
   |
    some j=>
    rw[hf,cB] at fr
    left
    simp![rg,fr,Option.getD_some,KG]
   |
    none=>
    rw[hf,cz] at fr
    right
    simp![rg,fr,Option.isSome_none,and_true,or_false,true_or])
 exact⟨p3,p10,fr⟩
def wg{rm:Bx}{ws:List Int}{bs:List Val}(hl:bs.length≠ws.length):bB.G [bV rm,.lst (ws.map .int),.lst bs]=.ok (.val (.tup [.str "count"])) []:=by
 have e:(((bs.length:Nat):Int)==((ws.map Val.int).length:Nat))=false:=by rw[o_,g_];omega
 unfold bB
 rw[aY]
 unfold gC
 generalize bV rm=rv
 simp![e]
def wI{rm:Bx}{ws:List Int}{bs:List Val}(hl:bs.length=ws.length)(ha:∀b∈bs,bu 2 b=true)(hm:∀b∈bs,smB b){p:Val×Nat}(hf:bs.zipIdx.find? (λp=>!aR p.1)=some p):bB.G [bV rm,.lst (ws.map .int),.lst bs]=.ok (.val (.tup [.str "box",.int (p.2:Nat)])) []:=by
 have e:(((bs.length:Nat):Int)==((ws.map Val.int).length:Nat))=true:=by rw[Kx,g_];omega
 obtain⟨e',⟨s3,s4,s6,s8,s10,rfl,_⟩,fr⟩:=vS (r:=bV rm) (w:=.lst (ws.map .int)) (s5:=.no) (s7:=.no) (s9:=.no) ha hm ⟨.no,.no,.no,.no,.no,rfl,rfl,rfl,rfl,rfl,rfl⟩
 rw[hf,cB] at fr
 unfold bB
 rw[aY]
 unfold gC
 generalize bV rm=rv at *
 simp![e,fr]
def gK{q:Rat}{n:Nat}(hs:Sz n q)(h:n<=8000):smP (fV q):=λa b e=>by
 have e':Val.tup [.int q.num,.int q.den]=.tup [.int a,.int b]:=e
 injection e' with e'
 injection e' with _ e'
 injection e' with e' _
 injection e' with e'
 rw[<- e']
 exact hs.bot.mono h
def As{b:Bx}{n:Nat}(hs:b.Sz n)(h:n<=8000):smB (bV b):=λxs e x hx=>by
 have e':Val.tup [fV b.l,fV b.t,fV b.w,fV b.h]=.tup xs:=e
 injection e' with e'
 subst e'
 simp only[B_,Mn,Lk] at hx
 rcases hx with rfl |rfl |rfl |rfl
 ·exact gK hs.l h
 ·exact gK hs.t h
 ·exact gK hs.w h
 ·exact gK hs.h h
def C5{rm:Bx}{ws:List Int}{n m:Nat}{bs:List Bx}(hrs:rm.Sz n)(hw:Wts m ws)(hl:bs.length=ws.length)(hb:∀b∈bs,b.Ok)(hbs:∀b∈bs,b.Sz n)(h:n+n+m<=8000):bB.G [bV rm,.lst (ws.map .int),.lst (bs.map bV)]=.ok (.val (eK rm ws bs)) []:=by
 have e:((((bs.map bV).length:Nat):Int)==((ws.map Val.int).length:Nat))=true:=by rw[Kx,g_,g_];omega
 have h2:n+n<=8000:=by omega
 have h1:n<=8000:=by omega
 obtain⟨e1,he1,f1⟩:=vS (r:=bV rm) (w:=.lst (ws.map .int)) (bs:=bs.map bV) (s5:=.no) (s7:=.no) (s9:=.no) (by
  intro v hv
  obtain⟨b,_,rfl⟩:=Kr.mp hv
  exact lO b) (by
  intro v hv
  obtain⟨b,hb',rfl⟩:=Kr.mp hv
  exact As (hbs b hb') h1) ⟨.no,.no,.no,.no,.no,rfl,rfl,rfl,rfl,rfl,rfl⟩
 rw[show (bs.map bV).zipIdx.find? (λp=>!aR p.1)=none from by
  rw[KY]
  rintro⟨v,i⟩ hvi
  obtain⟨b,hb',rfl⟩:=Kr.mp (Kt hvi)
  dsimp only
  rw[kS (hb b hb')]
  decide] at f1
 rw[cz] at f1
 obtain⟨a3,a4,a6,a8,a10,rfl,k3,k4,k6,k8,k10⟩:=he1
 obtain⟨e2,he2,f2⟩:=Cu (rm:=rm) (ws:=ws) (bs:=bs) (s7:=.no) (s9:=.no) hrs hbs hw.pos hw.sz hw.sum hl h ⟨a3,a4,a6,a8,a10,rfl,k3,k4,k6,k8,k10⟩
 have en:=m6 hrs h2
 obtain⟨e',⟨s',rfl,hs'⟩,lc⟩:=eS (g:=(gtN 0).G) (F:=(ak cu (aa (af 0) ag)).G) bV (λb=>enV (wlB b)) (λe=>∃s,e=[s]/\s.pl=true) bs [] [.no] ⟨.no,rfl,rfl⟩ (by
  rintro b hb e ⟨s,rfl,hp⟩
  have:=m6 (hbs b hb) h2
  generalize bV b=bv at *
  generalize enV (wlB b)=ev at *
  refine⟨[.sh bv],.val ev,[.sh bv],?_,?_,rfl,⟨_,rfl,rfl⟩⟩
  ·simp![hp]
  ·simp![this]) (by have:=hw.le;simp;omega)
 rw[KU] at lc
 have hW:∀w∈bs.map wlB,w.Sz (n+n+1):=by
  intro w hw
  obtain⟨b,hb,rfl⟩:=Kr.mp hw
  exact ig (hbs b hb)
 have hm:bs.map (λb=>enV (wlB b))=(bs.map wlB).map enV:=by rw[Ln];rfl
 have bi:(bs.map λb=>enV (wlB b)).length<=16777216:=by have:=hw.le;rw[g_];omega
 rw[hm] at lc bi
 have l40:(bs.map wlB).length<=1000:=by have:=hw.le;rw[g_];omega
 have lD:(bs.map bV).length=(bs.map wlB).length:=by rw[g_,g_]
 have sm:=jf ws
 unfold eK
 unfold bB
 rw[aY]
 unfold gC
 cases q2:bs.zipIdx.find? (arP rm ws) with
 |
  some p=>
  rw[q2,cB] at f2
  obtain⟨b3,b4,b6,b8,b10,rfl,_⟩:=he2
  generalize bV rm=rv at *
  generalize bs.map bV=bsv at *
  generalize ws.map Val.int=wsv at *
  simp![e,f1,sm,f2]
 |
  none=>
  rw[q2,cz] at f2
  obtain⟨b3,b4,b6,b8,b10,rfl,g3,g4,g6,g8,g10⟩:=he2
  obtain⟨e3,he3,f3⟩:=FV (rm:=rm) (w:=.lst (ws.map .int)) (bs:=bs) (s5:=.sh (.int ws.sum)) (s9:=.no) hrs hbs h2 ⟨b3,b4,b6,b8,b10,rfl,g3,g4,g6,g8,g10⟩
  obtain⟨c3,c4,c6,c8,c10,rfl,y3,y4,y6,y8,y10⟩:=he3
  cases q3:bs.zipIdx.find? (iA rm) with
  |
   some p=>
   rw[q3,cB] at f3
   generalize enV (wlB rm)=er at *
   generalize bV rm=rv at *
   generalize bs.map bV=bsv at *
   generalize ws.map Val.int=wsv at *
   simp![e,f1,sm,f2,en,f3]
  |
   none=>
   rw[q3,cz] at f3
   obtain⟨t3,t10,f4⟩:=Cr (r:=bV rm) (w:=.lst (ws.map .int)) (b:=.lst (bs.map bV)) (s4:=c4) (s5:=.sh (.int ws.sum)) (s6:=c6) (s7:=.sh (enV (wlB rm))) (s8:=c8) hW (by omega) l40 y3 y10
   have rg:gu [.int ((bs.map wlB).length:Nat)]=some (rgV (bs.map wlB).length):=ip (by omega)
   dsimp only
   rw[lD] at e
   unfold jU
   generalize bs.map wlB=D at *
   generalize enV (wlB rm)=er at *
   generalize bV rm=rv at *
   generalize bs.map bV=bsv at *
   generalize ws.map Val.int=wsv at *
   cases hf:D.zipIdx.find? (ovP D) with
   |
    some p=>
    rw[hf,cB] at f4
    simp![e,f1,sm,f2,en,f3,ba,lc,bi,lD,rg,f4]
   |
    none=>
    rw[hf,cz] at f4
    simp![e,f1,sm,f2,en,f3,ba,lc,bi,lD,rg,f4]
theorem pR:∀(n:Nat) (l:List Nat),l.length=n->(∀i,i<n->i∈l)->l.Perm (List.range n)
 |0,l,h,_=>by rw[Lf.mp h];exact List.Perm.refl _
 |
  n+1,l,h,hm=>by
  have h1:=hm n (by omega)
  have p:=List.perm_cons_erase h1
  have q:=pR n (l.erase n) (by rw[List.length_erase_of_mem h1];omega) λi hi=>(List.mem_erase_of_ne (by omega)).mpr (hm i (by omega))
  rw[List.range_succ]
  exact p.trans ((q.cons n).trans (List.perm_append_singleton n _).symm)
def lI{q:Rat}{k D:Nat}(hs:Sz 101 q)(hD:D=q.den*k)(hk:0<k):∃z:Int,q=(z:Rat)/((D:Int):Rat)/\z.natAbs<=2^101*D/\(0<q->0<z/\z<=((2^101:Nat):Int)*(D:Int)):=by
 have dp:=q.den_pos
 have hn:q.num.natAbs<2^101:=hs.1
 have hz:(q.num*(k:Int)).natAbs<=2^101*D:=by
  rw[KR,Int.natAbs_natCast,hD]
  exact K4 (by omega) (Nat.le_mul_of_pos_left _ dp)
 refine⟨q.num*(k:Int),?_,hz,λh=>⟨Mj (sJ.mpr h) (by omega),?_⟩⟩
 ·have:=mi (y:=q.num) (W:=(k:Int)) dp (by omega)
  rw[G_,<- hD] at this
  rw[<- this]
  exact fh q
 ·rw[<- KN]
  generalize q.num*(k:Int)=z at *
  generalize 2^101*D=y at *
  omega
def Jg{b:Bx}(g:Good b):∃D,D<2^404/\Rp D (2^101) (2^101) b:=by
 have dl:=b.l.den_pos
 have dt:=b.t.den_pos
 have dw:=b.w.den_pos
 have dh:=b.h.den_pos
 have sz:∀q:Rat,Sz 101 q->q.den<=2^101:=λq h=>by have:(q.den:Int).natAbs<2^101:=h.2;omega
 have k1:=K_ (K_ dt dw) dh
 have k2:=K_ (K_ dl dw) dh
 have k3:=K_ (K_ dl dt) dh
 have k4:=K_ (K_ dl dt) dw
 refine⟨b.l.den*(b.t.den*b.w.den*b.h.den),?_,K_ dl k1,?_,?_,?_,?_⟩
 ·have a1:b.l.den<2^101:=by have:(b.l.den:Int).natAbs<2^101:=g.sz.l.2;omega
  have a2:=K4 (K4 (sz _ g.sz.t) (sz _ g.sz.w)) (sz _ g.sz.h)
  calc b.l.den*(b.t.den*b.w.den*b.h.den)<=b.l.den*(2^101*2^101*2^101):=Lh _ a2
   _<2^101*(2^101*2^101*2^101):=Nat.mul_lt_mul_of_pos_right a1 (by decide)
   _=2^404:=by rw[<- LK,<- LK,<- LK]
 ·obtain⟨z,h1,h2,_⟩:=lI (D:=b.l.den*(b.t.den*b.w.den*b.h.den)) g.sz.l rfl k1
  exact⟨z,h1,h2⟩
 ·obtain⟨z,h1,h2,_⟩:=lI (D:=b.l.den*(b.t.den*b.w.den*b.h.den)) (k:=b.l.den*b.w.den*b.h.den) g.sz.t (by ac_rfl) k2
  exact⟨z,h1,h2⟩
 ·obtain⟨z,h1,_,h2⟩:=lI (D:=b.l.den*(b.t.den*b.w.den*b.h.den)) (k:=b.l.den*b.t.den*b.h.den) g.sz.w (by ac_rfl) k3
  exact⟨z,h1,h2 g.ok.w⟩
 ·obtain⟨z,h1,_,h2⟩:=lI (D:=b.l.den*(b.t.den*b.w.den*b.h.den)) (k:=b.l.den*b.t.den*b.w.den) g.sz.h (by ac_rfl) k4
  exact⟨z,h1,h2 g.ok.h⟩
structure WOk(ws:List Int):Prop where
 pos:1<=ws.length
 len:ws.length<=40
 wt:∀w∈ws,1<=w/\w<=1000000000000000000000000000000
 few:10<ws.length->∀w∈ws,w<=8388608
theorem pI{ws:List Int}{M:Int}:∀{l:List Nat},(∀k∈l,ws.getD k 0<=M)->wtA ws l<=(l.length:Int)*M
 | [],_=>by simp [wtA]
 |
  k::l,h=>by
  have h1:=h k (m_ ..)
  have h2:=pI (l:=l) λj hj=>h j (i_ _ hj)
  unfold wtA at h2 ⊢
  rw[C_,Kq,Em,Int.natCast_add,Int.add_mul]
  omega
def HG(ws:List Int):cA (liV ws) (liV ws)=some true:=by
 have:wfV 60 (liV ws)=true:=by
  show dM 59 (ws.map .int)=true
  exact jW λv hv=>by obtain⟨w,_,rfl⟩:=Kr.mp hv;rfl
 rw[oC this this,jF 60 _ this]
def Bk{ws:List Int}{l:List Nat}(h:l.Perm (List.range ws.length)):wtA ws l=ws.sum:=by
 rw[zy h]
 unfold wtA
 congr 1
 refine List.ext_getElem? λi=>?_
 rw[t_]
 by_cases hi:i<ws.length
 ·rw[LA hi,l_ hi]
  show some (ws.getD i 0)=_
  rw[H_,l_ hi]
  rfl
 ·rw[KI (by rw[Ld];omega),KI (by omega)]
  rfl
structure TBx(ws:List Int)(t:AT)(b:Bx):Prop where
 ok:t.ok=true
 wt:∀k∈t.lvs,1<=ws.getD k 0
 bok:b.Ok
 mem:∀k,k∈t.lvs ↔ k<ws.length
 sum:wtT ws t=ws.sum
 sz:∀p∈AT.bx ws t b,p.2.Sz 2000
def TBx.pth{ws:List Int}{t:AT}{b:Bx}(T:TBx ws t b){k:Nat}(h:k<ws.length):∃p,t.pth k=some p/\AT.bxAt ws p t b=some (bxO (AT.bx ws t b) k)/\AT.at p t=some k:=by
 cases q:t.pth k with
 |some p=>exact⟨p,rfl,AA t p b q,AT.pth_at t p q⟩
 |none=>exact absurd ((T.mem k).mpr h) ((AT.pth_mem t).mp q)
def TBx.sep{ws:List Int}{t:AT}{b:Bx}(T:TBx ws t b){i j:Nat}(hi:i<ws.length)(hj:j<ws.length)(hij:i≠j):∃p q w s,t.pth i=some p/\t.pth j=some q/\p≠q/\AT.rel p q t=some (wd w s)/\AT.rel q p t=some (wd w (!s))/\fK w s (bxO (AT.bx ws t b) i) (bxO (AT.bx ws t b) j):=by
 obtain⟨p,p1,p2,p3⟩:=T.pth hi
 obtain⟨q,q1,q2,q3⟩:=T.pth hj
 obtain⟨u,hu⟩:=AT.rel_some hij p q t p3 q3
 obtain⟨w,s,rfl,r2,sp⟩:=pM T.ok T.wt T.bok p2 q2 hu
 refine⟨p,q,w,s,p1,q1,λz=>?_,hu,r2,sp⟩
 rw[z,q3] at p3
 exact hij (z_ p3).symm
def Be{c d:Bx}{w s:Bool}(h:fK w s c d):ovB (wlB c) (wlB d)=false:=by
 unfold fK at h
 unfold ovB wlB
 dsimp only
 rw[Lp,Lp,Lp]
 cases w <;> cases s <;> simp only[LV,Md,Lm] at h
 ·exact .inr (.inl (w_ λz=>by grind))
 ·exact .inr (.inr (w_ λz=>by grind))
 ·exact .inl (.inl (w_ λz=>by grind))
 ·exact .inl (.inr (w_ λz=>by grind))
def JR{c b:Bx}(h:Bx.In c b):inB (wlB b) (wlB c)=true:=by
 obtain⟨h1,h2,h3,h4⟩:=h
 unfold inB wlB
 dsimp only
 rw[w_ (by grind),w_ (by grind),w_ (by grind),w_ (by grind)]
 rfl
def TBx.ft{ws:List Int}{t:AT}{b:Bx}(T:TBx ws t b):eK b ws ((List.range ws.length).map λk=>bxO (AT.bx ws t b) k)=.non:=by
 have at_:∀{c:Bx}{i:Nat},(c,i)∈((List.range ws.length).map λk=>bxO (AT.bx ws t b) k).zipIdx->i<ws.length/\c=bxO (AT.bx ws t b) i:=λ{c i} h=>by
  have:=LS.mp h
  dsimp only at this
  rw[t_] at this
  by_cases hi:i<ws.length
  ·rw[LA hi] at this
   exact⟨hi,(z_ this).symm⟩
  ·rw[KI (by rw[Ld];omega)] at this
   cases this
 have f1:((List.range ws.length).map λk=>bxO (AT.bx ws t b) k).zipIdx.find? (arP b ws)=none:=by
  rw[KY]
  rintro⟨c,i⟩ h
  obtain⟨hi,rfl⟩:=at_ h
  obtain⟨p,p1,p2,p3⟩:=T.pth hi
  have ar:=nD T.ok T.wt T.bok p2 p3
  rw[T.sum] at ar
  unfold arP
  dsimp only
  rw[l_ hi]
  dsimp only
  rw[ar,H_,l_ hi,Option.getD_some,F_ rfl]
  decide
 have f2:((List.range ws.length).map λk=>bxO (AT.bx ws t b) k).zipIdx.find? (iA b)=none:=by
  rw[KY]
  rintro⟨c,i⟩ h
  obtain⟨hi,rfl⟩:=at_ h
  obtain⟨p,p1,p2,p3⟩:=T.pth hi
  unfold iA
  rw[JR (jP T.ok T.wt T.bok p2).2]
  decide
 unfold eK
 rw[f1,f2]
 dsimp only
 unfold jU
 have f3:(((List.range ws.length).map λk=>bxO (AT.bx ws t b) k).map wlB).zipIdx.find? (ovP (((List.range ws.length).map λk=>bxO (AT.bx ws t b) k).map wlB))=none:=by
  rw[KY]
  rintro⟨c,i⟩ h
  have q:=LS.mp h
  dsimp only at q
  rw[Ln,t_] at q
  have hi:i<ws.length:=by
   by_cases hi:i<ws.length
   ·exact hi
   ·rw[KI (by rw[Ld];omega)] at q
    cases q
  rw[LA hi] at q
  have q:=(z_ q).symm
  unfold ovP
  dsimp only
  rw[Bool.not_eq_true,Option.isSome_eq_false_iff,Option.isNone_iff_eq_none,KY]
  intro j hj
  rw[K3] at hj
  obtain⟨p,q',w,s,_,_,_,_,_,sp⟩:=T.sep (i:=j) (j:=i) (by omega) hi (by omega)
  unfold ovJ
  rw[Ln,t_,LA (by omega)]
  dsimp only [Option.map_some]
  rw[q]
  show ¬ ovB (wlB _) (wlB _)=true
  rw[Be sp]
  decide
 rw[f3]
def Rn(n:Nat)(b:Bx):Prop:=∃D A B,Rp D A B b/\A*D<2^n/\B*D<2^n/\D<2^n
def Rn.ok{n:Nat}{b:Bx}(h:Rn n b):b.Ok:=by
 obtain⟨D,A,B,r,_⟩:=h
 exact r.ok
def Rn.sz{n:Nat}{b:Bx}(h:Rn n b):b.Sz n:=by
 obtain⟨D,A,B,r,h1,h2,h3⟩:=h
 exact r.sz h1 h2 h3
def Rn.mono{n m:Nat}{b:Bx}(h:Rn n b)(hm:n<=m):Rn m b:=by
 obtain⟨D,A,B,r,h1,h2,h3⟩:=h
 have:=K5 (show 0<2 by decide) hm
 exact⟨D,A,B,r,by omega,by omega,by omega⟩
def Af{y a W:Int}{D B:Nat}(hD:0<D)(hy:0<y/\y<=B*D)(ha:1<=a/\a<=2*W):∃z:Int,((y:Rat)/((D:Int):Rat))*((a:Rat)/(W:Rat))=(z:Rat)/(((D*W.toNat:Nat):Int):Rat)/\0<z/\z<=((2*B:Nat):Int)*((D*W.toNat:Nat):Int):=by
 have eW:((W.toNat:Nat):Int)=W:=Int.toNat_of_nonneg (by omega)
 refine⟨y*a,?_,Mj hy.1 (by omega),?_⟩
 ·rw[Av _ _ _ _ (dW (by omega)) (dW (by omega)),KN,eW,Kv,Kv]
 ·rw[KN,KN,eW]
  have h1:=Int.mul_le_mul hy.2 ha.2 (by omega) (by omega)
  have e:((B:Nat):Int)*(D:Int)*(2*W)=((2:Nat):Int)*(B:Int)*((D:Int)*W):=by grind
  omega
def vA{x y a W:Int}{D A B:Nat}(hD:0<D)(hx:x.natAbs<=A*D)(hy:0<y/\y<=B*D)(ha:-W<=a/\a<=W)(hW:0<W):∃z:Int,(x:Rat)/((D:Int):Rat)+((y:Rat)/((D:Int):Rat))*((a:Rat)/(W:Rat))=(z:Rat)/(((D*W.toNat:Nat):Int):Rat)/\z.natAbs<=(A+B+B)*(D*W.toNat):=by
 by_cases h:0<=a
 ·obtain⟨z,h1,h2⟩:=oI hD hx hy ⟨h,ha.2⟩ hW
  exact⟨z,h1,x_ h2 (Lz _ (by omega))⟩
 ·have hx':(x-y).natAbs<=(A+B)*D:=by
   have h1:y<=((B*D:Nat):Int):=by rw[KN];exact hy.2
   rw[Mk]
   omega
  obtain⟨z,h1,h2⟩:=oI hD hx' hy (a:=W+a) ⟨by omega,by omega⟩ hW
  refine⟨z,?_,h2⟩
  rw[<- h1,Rat.intCast_sub,L9]
  have w0:=dW (z:=W) (by omega)
  have d0:=dW (z:=(D:Int)) (by omega)
  generalize (W:Rat)=w at *
  generalize ((D:Int):Rat)=d at *
  generalize (x:Rat)=x' at *
  generalize (y:Rat)=y' at *
  generalize (a:Rat)=a' at *
  grind
noncomputable def bnd(b:Bx)(W a c p q:Int):Bx:=⟨b.l+b.w*((a:Rat)/(W:Rat)),b.t+b.h*((c:Rat)/(W:Rat)),b.w*((p:Rat)/(W:Rat)),b.h*((q:Rat)/(W:Rat))⟩
def jL{n:Nat}{b:Bx}{W a c p q:Int}(h:Rn n b)(hW:1<=W/\W<=9)(ha:-W<=a/\a<=W)(hc:-W<=c/\c<=W)(hp:1<=p/\p<=2*W)(hq:1<=q/\q<=2*W):Rn (n+5) (bnd b W a c p q):=by
 obtain⟨D,A,B,⟨pos,⟨zl,el,bl⟩,⟨zt,et,bt⟩,⟨zw,ew,bw⟩,⟨zh,eh,bh⟩⟩,h1,h2,h3⟩:=h
 have key:∀X,X*D<3*2^n->X*(D*W.toNat)<2^(n+5):=λX hX=>by
  have e:(2:Nat)^(n+5)=32*2^n:=by rw[LK];omega
  have h9:X*D*W.toNat<=X*D*9:=Lh _ (by omega)
  rw[<- L5,e]
  omega
 refine⟨D*W.toNat,A+B+B,2*B,⟨K_ pos (by omega),?_,?_,?_,?_⟩,key _ ?_,key _ ?_,?_⟩
 ·show ∃z:Int,b.l+b.w*_=_/\_
  rw[el,ew]
  exact vA pos bl bw ha (by omega)
 ·show ∃z:Int,b.t+b.h*_=_/\_
  rw[et,eh]
  exact vA pos bt bh hc (by omega)
 ·show ∃z:Int,b.w*_=_/\_
  rw[ew]
  exact Af pos bw hp
 ·show ∃z:Int,b.h*_=_/\_
  rw[eh]
  exact Af pos bh hq
 ·rw[Mk,Mk]
  omega
 ·rw[L5]
  omega
 ·have:=key 1 (by omega)
  omega
def bndN{ws:List Int}{b:Bx}(g:Good b)(W:WOk ws):∃D m,m<=104/\Rp D (2^101) (2^101) b/\(2^101+ws.length*2^101)*(D*2^(m*ws.length))<2^2000/\∀l:List Nat,(∀k∈l,k<ws.length)->l.length<=ws.length->wtA ws l<2^m:=by
 obtain⟨D,hD,R⟩:=Jg g
 have hin:∀k,k<ws.length->ws.getD k 0∈ws:=λk hk=>by
  rw[H_,l_ hk]
  exact Ks _
 have wl:=W.len
 have key:∀m,m*ws.length<=1218->m<=104->(∀l:List Nat,(∀k∈l,k<ws.length)->l.length<=ws.length->wtA ws l<2^m)->∃m,m<=104/\Rp D (2^101) (2^101) b/\(2^101+ws.length*2^101)*(D*2^(m*ws.length))<2^2000/\∀l:List Nat,(∀k∈l,k<ws.length)->l.length<=ws.length->wtA ws l<2^m:=λm h1 h2 h3=>by
  refine⟨m,h2,R,?_,h3⟩
  have a1:2^101+ws.length*2^101<=2^107:=by
   have h1:=Lz (2^101) (show ws.length<=40 by omega)
   have h2:2^107=64*2^101:=by decide
   rw[h2]
   generalize 2^101=X at *
   omega
  have a2:2^(m*ws.length)<=2^1218:=K5 (by decide) h1
  have a3:=K4 a1 (K4 (Mx hD) a2)
  refine LJ a3 ?_
  rw[<- LK,<- LK]
  exact Nat.pow_lt_pow_right (by decide) (by decide)
 refine⟨D,?_⟩
 by_cases h9:10<ws.length
 ·refine key 29 (by omega) (by decide) λl hl hn=>?_
  have:=pI (M:=8388608) λk hk=>W.few h9 _ (hin k (hl k hk))
  have:(2:Int)^29=536870912:=by decide
  omega
 ·refine key 104 (by omega) (by decide) λl hl hn=>?_
  have:=pI (M:=1000000000000000000000000000000) λk hk=>(W.wt _ (hin k (hl k hk))).2
  have:(2:Int)^104=20282409603651670423947251286016:=by decide
  omega
def itm(p:Bx×List Nat):Val:=.tup [bV p.1,itV p.2]
def CuE(r:Val)(ws:List Int)(x3 x4:Sl)(f:Val)(bxs:List Val)(td:List (Bx×List Nat))(e:E3):Prop:=∃s7 s8 s9 s10 s11 s12:Sl,(s7.pl=true/\s8.pl=true/\s9.pl=true/\s10.pl=true/\s11.pl=true/\s12.pl=true)/\e=[.mu f,.sh r,.sh (liV ws),x3,x4,.ow (.lst bxs),.ow (.lst (td.map itm)),s7,s8,s9,s10,s11,s12]
def cuL:E3->SR3:=(xWh (qOf (pOp uF (af 6) (bD ag))) dU).G
def yr{r f:Val}{ws:List Int}{x3 x4:Sl}{bxs:List Val}{aV:List (Bx×List Nat)}{b:Bx}{k:Nat}{e:E3}(hk:k<bxs.length)(h:CuE r ws x3 x4 f bxs (aV++[(b,[k])]) e):∃e',CuE r ws x3 x4 f (bxs.set k (bV b)) aV e'/\cuL e=cuL e':=by
 obtain⟨s7,s8,s9,s10,s11,s12,⟨h7,h8,h9,d_,h11,h12⟩,rfl⟩:=h
 rw[KO,C_,KL]
 have ne:(aV.map itm++[itm (b,[k])]).isEmpty=false:=by cases aV <;> rfl
 have it:itm (b,[k])=.tup [bV b,.lst [.int (k:Nat)]]:=rfl
 have ix:ixN bxs.length (k:Nat)=some k:=mf (i:=(k:Nat)) (by omega) (by omega)
 have a0:atI [Val.int (k:Nat)] 0=some (.int (k:Nat)):=aS (by decide) rfl
 refine⟨[.mu f,.sh r,.sh (liV ws),x3,x4,.ow (.lst (bxs.set k (bV b))),.ow (.lst (aV.map itm)),.sh (bV b),.sh (.lst [.int (k:Nat)]),s9,s10,s11,s12],⟨_,_,_,_,_,_,⟨rfl,rfl,h9,d_,h11,h12⟩,rfl⟩,?_⟩
 unfold cuL
 rw[kT]
 unfold dU
 rw[it] at ne ⊢
 have po:=qM (aV.map itm) (.tup [bV b,.lst [.int (k:Nat)]])
 generalize aV.map itm=rs at *
 generalize bV b=bv at *
 generalize liV ws=wv at *
 simp![tI,ne,po,h7,h8,a0,ix]
def wo{ws:List Int}{l:List Nat}(hl:l.length<=1000)(hi:∀k∈l,k<ws.length):∃s,lcV (gtN 0).G qY.G (pOp bIx (af 1) (af 0)).G (l.map λk:Nat=>.int k) [] [.no,.sh (liV ws)]=.ok ((l.map λk=>ws.getD k 0).map .int) [s,.sh (liV ws)]:=by
 obtain⟨e',⟨s,rfl,_⟩,lc⟩:=eS (g:=(gtN 0).G) (F:=(pOp bIx (af 1) (af 0)).G) (λk:Nat=>Val.int k) (λk:Nat=>Val.int (ws.getD k 0)) (λe=>∃s:Sl,e=[s,.sh (liV ws)]/\s.pl=true) l [] [.no,.sh (liV ws)] ⟨.no,rfl,rfl⟩ (by
  rintro k hk _ ⟨s,rfl,hs⟩
  have h1:=hi k hk
  have a1:atI (ws.map Val.int) (k:Nat)=some (.int (ws.getD k 0)):=aS (by omega) (by
   rw[t_]
   show (ws[k]?).map _=_
   rw[H_,l_ h1]
   rfl)
  refine⟨[.sh (.int (k:Nat)),.sh (liV ws)],.val (.int (ws.getD k 0)),[.sh (.int (k:Nat)),.sh (liV ws)],?_,?_,rfl,_,rfl,rfl⟩
  ·simp![hs]
  ·unfold liV
   simp![a1]) (by rw[LH];omega)
 exact⟨s,by rw[Ln];exact lc⟩
def yC{r:Int}(h0:0<=r)(h1:r<2):∃w:Bool,atI [Val.str "across",.str "down"] r=some (.str (wy w)):=by
 have:r=0\/r=1:=by omega
 rcases this with rfl |rfl
 ·exact⟨true,aS (by decide) rfl⟩
 ·exact⟨false,aS (by decide) rfl⟩
def xw{r:Val}{ws:List Int}{x3 x4:Sl}{bxs:List Val}{aV:List (Bx×List Nat)}{b:Bx}{l:List Nat}{e:E3}{a c k:Int}{m:Nat}(h2:2<=l.length)(hl:l.length<=40)(hr:aV.length<=1000)(hi:∀k∈l,k<ws.length)(hp:∀k∈l,1<=ws.getD k 0)(hs:b.Sz 2000)(hm:m<=104)(hS:wtA ws l<2^m)(h:CuE r ws x3 x4 (fdV a c k) bxs (aV++[(b,l)]) e):
 ∃(i:Nat) (w:Bool) (c1 c2:Bx) (a' c':Int) (e':E3),1<=i/\i<l.length/\cT b (wy w) [wtA ws (l.take i),wtA ws (l.drop i)]=[c1,c2]/\CuE r ws x3 x4 (fdV a' c' k) bxs (aV++[(c1,l.take i),(c2,l.drop i)]) e'/\cuL e=cuL e':=by
 obtain⟨s7,s8,s9,s10,s11,s12,⟨h7,h8,h9,d_,h11,h12⟩,rfl⟩:=h
 obtain⟨r1,a1,d1,e1,r0,rl⟩:=ax (a:=a) (b:=c) (k:=k) (m:=(l.length:Nat)-1) (by omega) (sm8 (by omega))
 obtain⟨i,rfl⟩:∃i:Nat,r1=(i:Nat):=⟨r1.toNat,by omega⟩
 obtain⟨r2,a2,d2,e2,q0,ql⟩:=ax (a:=a1) (b:=d1) (k:=k) (m:=2) (by omega) (sm8 (by omega))
 obtain⟨w,pw⟩:=yC q0 ql
 have ht:∀j∈l.take (i+1),j∈l:=λj hj=>Ly hj
 have hd:∀j∈l.drop (i+1),j∈l:=λj hj=>LY hj
 have lt:(l.take (i+1)).length=i+1:=by rw[Kw];omega
 have ld:(l.drop (i+1)).length=l.length-(i+1):=KD ..
 obtain⟨t1,lc1⟩:=wo (ws:=ws) (l:=l.take (i+1)) (by omega) (λj hj=>hi j (ht j hj))
 obtain⟨t2,lc2⟩:=wo (ws:=ws) (l:=l.drop (i+1)) (by omega) (λj hj=>hi j (hd j hj))
 have p1:=gf (ws:=ws) (l:=l.take (i+1)) λj hj=>hp j (ht j hj)
 have p2:=gf (ws:=ws) (l:=l.drop (i+1)) λj hj=>hp j (hd j hj)
 have sp:wtA ws l=wtA ws (l.take (i+1))+wtA ws (l.drop (i+1)):=by
  unfold wtA
  rw[<- List.sum_append,<- KO,LU]
 have ss:[wtA ws (l.take (i+1)),wtA ws (l.drop (i+1))].sum=wtA ws l:=by simp [sp]
 have ew:wy w="across" \/ wy w="down":=by cases w;exact .inr rfl;exact .inl rfl
 have pe:=qp (way:=wy w) (ws:=[wtA ws (l.take (i+1)),wtA ws (l.drop (i+1))]) hs ew (by
  intro x hx
  rcases B_.mp hx with rfl |hx
  ·omega
  ·rcases B_.mp hx with rfl |hx
   ·omega
   ·exact nomatch hx) (by omega) (m:=m) (by
  rw[ss]
  show (wtA ws l).natAbs<2^m
  have h3:((2^m:Nat):Int)=(2:Int)^m:=by push_cast;rfl
  rw[<- h3] at hS
  omega) (by omega) (by show 2<=1000;decide)
 have pl:=nJ b (wy w) [wtA ws (l.take (i+1)),wtA ws (l.drop (i+1))]
 match hq:cT b (wy w) [wtA ws (l.take (i+1)),wtA ws (l.drop (i+1))],pl with
 |
  [c1,c2],_=>
  rw[hq] at pe
  simp only[C_,KL] at pe
  refine⟨i+1,w,c1,c2,a2,d2,_,by omega,by omega,hq,⟨.sh (bV b),.sh (itV l),.sh (.int ((i+1:Nat):Int)),.sh (.lst ([wtA ws (l.take (i+1)),wtA ws (l.drop (i+1))].map .int)),.sh (bV c1),.sh (bV c2),⟨rfl,rfl,rfl,rfl,rfl,rfl⟩,rfl⟩,?_⟩
  rw[KO,C_,KL,KO,C_,C_,KL]
  have ne:(aV.map itm++[itm (b,l)]).isEmpty=false:=by cases aV <;> rfl
  have rl':(aV.map itm).length<=1000:=by rw[g_];exact hr
  have it:itm (b,l)=.tup [bV b,itV l]:=rfl
  have it1:itm (c1,l.take (i+1))=.tup [bV c1,itV (l.take (i+1))]:=rfl
  have it2:itm (c2,l.drop (i+1))=.tup [bV c2,itV (l.drop (i+1))]:=rfl
  have cl:(((l.map λk:Nat=>Val.int k).length:Nat):Int)=(l.length:Nat):=by rw[g_]
  have ne1:(((l.length:Nat):Int)==1)=false:=by rw[o_];omega
  have ct:=lF (l.map λk:Nat=>Val.int k) (i+1)
  have cd:=kE (l.map λk:Nat=>Val.int k) (i+1)
  rw[<- List.map_take] at ct
  rw[<- List.map_drop] at cd
  have i1:(1:Int)+(i:Nat)=((i+1:Nat):Int):=by omega
  have po:=qM (aV.map itm) (.tup [bV b,itV l])
  have w1:((l.take (i+1)).map λk=>ws.getD k 0).sum=wtA ws (l.take (i+1)):=rfl
  have w2:((l.drop (i+1)).map λk=>ws.getD k 0).sum=wtA ws (l.drop (i+1)):=rfl
  have m1:(((l.take (i+1)).map λk=>ws.getD k 0).map Val.int).length<=16777216:=by rw[g_,g_];omega
  have m2:(((l.drop (i+1)).map λk=>ws.getD k 0).map Val.int).length<=16777216:=by rw[g_,g_];omega
  unfold cuL
  rw[kT]
  unfold dU
  rw[it] at ne ⊢
  rw[it1,it2]
  unfold itV at po ne ⊢
  generalize aV.map itm=rs at *
  generalize bV b=bv at *
  generalize bV c1=c1v at *
  generalize bV c2=c2v at *
  generalize liV ws=wv at *
  generalize wy w=ww at *
  generalize fdV a c k=f0 at *
  generalize fdV a1 d1 k=f1 at *
  generalize fdV a2 d2 k=f2 at *
  generalize (l.map λk:Nat=>Val.int k)=lv at *
  generalize ((l.take (i+1)).map λk:Nat=>Val.int k)=lv1 at *
  generalize ((l.drop (i+1)).map λk:Nat=>Val.int k)=lv2 at *
  have l3:rs.length+2<=16777216:=by omega
  simp![tI,ne,po,h7,h8,h9,d_,h11,h12,cl,ne1,e1,i1,mh,ct,cd,ba,inS,lc1,lc2,m1,m2,w1,w2,e2,pw,pe,l3]
  done
theorem kG{r:Val}{ws:List Int}{x3 x4:Sl}{m B:Nat}{k:Int}(hm:m<=104)(hS:∀l:List Nat,(∀k∈l,k<ws.length)->l.length<=ws.length->wtA ws l<2^m)(hw:∀w∈ws,1<=w)(hn:ws.length<=40):∀(N:Nat) (l:List Nat) (b:Bx) (D A:Nat) (aV:List (Bx×List Nat)) (bxs:List Val) (a c:Int) (e:E3),l.length<=N->1<=l.length->l.length<=ws.length->(∀k∈l,k<ws.length)->aV.length+l.length<=1000->bxs.length=ws.length->Rp D A B b->B<=A->1<=A->(A+l.length*B)*(D*2^(m*l.length))<2^2000->CuE r ws x3 x4 (fdV a c k) bxs (aV++[(b,l)]) e->
 ∃(t:AT) (a' c':Int) (bxs':List Val) (e':E3),t.ok=true/\t.lvs=l/\bxs'.length=ws.length/\(∀j,j<ws.length->bxs'[j]?=if j∈t.lvs then some (bV (bxO (AT.bx ws t b) j)) else bxs[j]?)/\(∀p∈AT.bx ws t b,Rn 2000 p.2)/\CuE r ws x3 x4 (fdV a' c' k) bxs' aV e'/\cuL e=cuL e'
 |0,l,b,D,A,aV,bxs,a,c,e,h0,h1,_,_,_,_,_,_,_,_,_=>by omega
 |
  N+1,l,b,D,A,aV,bxs,a,c,e,h0,h1,hl,hi,hr,hb,R,hBA,hA,hq,h=>by
  have hp:∀k∈l,1<=ws.getD k 0:=λj hj=>by
   rw[H_,l_ (hi j hj)]
   exact hw _ (Ks _)
  have hD1:1<=2^(m*l.length):=Nat.one_le_two_pow
  have z1:A*D<=(A+l.length*B)*(D*2^(m*l.length)):=K4 (by omega) (Nat.le_mul_of_pos_right _ hD1)
  have z2:D<=A*D:=Nat.le_mul_of_pos_left _ hA
  have z3:B*D<=A*D:=Lz _ hBA
  have RN:Rn 2000 b:=⟨D,A,B,R,by omega,by omega,by omega⟩
  match l,h1 with
  |
   [j],_=>
   have hj:=hi j (m_ ..)
   obtain⟨e',h',q⟩:=yr (by omega) h
   refine⟨.lf j,a,c,bxs.set j (bV b),e',rfl,rfl,by rw[A_,hb],λi hi'=>?_,λp hp'=>?_,h',q⟩
   ·rw[AT.lvs,AT.bx,LP]
    by_cases e:j=i
    ·subst e
     rw[if_pos rfl,if_pos (by omega),if_pos (m_ ..)]
     simp [bxO]
    ·rw[if_neg e,if_neg (by simpa using λz=>e z.symm)]
   ·rw[AT.bx] at hp'
    rw[Lo.mp hp']
    exact RN
  |
   j1::j2::l',_=>
   generalize hl':j1::j2::l'=l at *
   have h2:2<=l.length:=by rw[<- hl',Em,Em];omega
   obtain⟨i,w,c1,c2,a1,d1,e1,i1,i2,pq,E1,q1⟩:=xw h2 (by omega) (by omega) hi hp RN.sz hm (hS l hi hl) h
   have ht:∀j∈l.take i,j∈l:=λj hj=>Ly hj
   have hd:∀j∈l.drop i,j∈l:=λj hj=>LY hj
   have lt:(l.take i).length=i:=by rw[Kw];omega
   have ld:(l.drop i).length=l.length-i:=KD ..
   have sp:wtA ws l=wtA ws (l.take i)+wtA ws (l.drop i):=by
    unfold wtA
    rw[<- List.sum_append,<- KO,LU]
   have ss:[wtA ws (l.take i),wtA ws (l.drop i)].sum=wtA ws l:=by simp [sp]
   have p1:=gf (ws:=ws) (l:=l.take i) λj hj=>hp j (ht j hj)
   have p2:=gf (ws:=ws) (l:=l.drop i) λj hj=>hp j (hd j hj)
   have rp:∀x∈[c1,c2],Rp (D*(wtA ws l).toNat) (A+B) B x:=λx hx=>by
    rw[<- ss]
    refine R.parts (way:=wy w) (λy hy=>?_) (by rw[pq];exact hx)
    rcases B_.mp hy with rfl |hy
    ·omega
    ·rcases B_.mp hy with rfl |hy
     ·omega
     ·exact nomatch hy
   have hT:(wtA ws l).toNat<=2^m:=by
    have h3:=hS l hi hl
    have h4:((2^m:Nat):Int)=(2:Int)^m:=by push_cast;rfl
    rw[<- h4] at h3
    omega
   have bd:∀n,n<l.length->(A+B+n*B)*(D*(wtA ws l).toNat*2^(m*n))<2^2000:=λn hn=>by
    refine LJ (K4 ?_ ?_) hq
    ·have:(n+1)*B<=l.length*B:=Lz _ hn
     rw[Mk,Nat.one_mul] at this
     omega
    ·rw[L5]
     refine Lh _ ?_
     have e:2^m*2^(m*n)=2^(m*(n+1)):=by rw[<- LK];congr 1;rw[Nat.mul_add,Nat.mul_one,Nat.add_comm]
     exact x_ (Lz _ hT) (by rw[e];exact K5 (by decide) (Lh _ hn))
   obtain⟨t2,a2,d2,bxs2,e2,k2,v2,n2,b2,g2,E2,q2⟩:=kG hm hS hw hn N (l.drop i) c2 _ (A+B) (aV++[(c1,l.take i)]) bxs a1 d1 e1 (by omega) (by omega) (by omega) (λj hj=>hi j (hd j hj)) (by rw[r_,La];omega) hb (rp c2 (by simp)) (by omega) (by omega) (bd _ (by omega)) (by rw[LO];exact E1)
   obtain⟨t1,a3,d3,bxs3,e3,k3,v3,n3,b3,g3,E3,q3⟩:=kG hm hS hw hn N (l.take i) c1 _ (A+B) aV bxs2 a2 d2 e2 (by omega) (by omega) (by omega) (λj hj=>hi j (ht j hj)) (by omega) n2 (rp c1 (by simp)) (by omega) (by omega) (bd _ (by omega)) E2
   have bx:AT.bx ws (.nd w [t1,t2]) b=AT.bx ws t1 c1++AT.bx ws t2 c2:=by
    rw[AT.bx,C_,C_,KL,show wtT ws t1=wtA ws (l.take i) from by unfold wtT;rw[v3],show wtT ws t2=wtA ws (l.drop i) from by unfold wtT;rw[v2],pq,AT.bxL,AT.bxL,BQ,Lq]
   have lv:AT.lvs (.nd w [t1,t2])=t1.lvs++t2.lvs:=by rw[AT.lvs,AT.lvsL,AT.lvsL,AT.lvsL,Lq]
   refine⟨.nd w [t1,t2],a3,d3,bxs3,e3,?_,?_,n3,λj hj=>?_,λp hp'=>?_,E3,by rw[q1,q2,q3]⟩
   ·simp [AT.ok,AT.okL,k2,k3]
   ·rw[lv,v2,v3,LU]
   ·rw[b3 j hj,b2 j hj,lv,bx,nu,AT.bx_keys]
    by_cases u1:j∈t1.lvs
    ·rw[if_pos u1,if_pos (Mu _ u1),if_pos u1]
    ·rw[if_neg u1,if_neg u1]
     by_cases u2:j∈t2.lvs
     ·rw[if_pos u2,if_pos (Ko _ u2)]
     ·rw[if_neg u2,if_neg λz=>(KC.mp z).elim u1 u2]
   ·rw[bx] at hp'
    rcases KC.mp hp' with hp' |hp'
    ·exact g3 p hp'
    ·exact g2 p hp'
def AM{r:Val}{ws:List Int}{a c k:Int}(hn:ws.length<=40):∃(o:List Nat) (a' c':Int) (s4:Sl),o.length=ws.length/\(∀i,i∈o ↔ i<ws.length)/\s4.pl=true/\bJ (gtN 4).G cR.G (rgV ws.length) [.mu (fdV a c k),.sh r,.sh (liV ws),.ow (itV []),.no,.no,.no,.no,.no,.no,.no,.no,.no]=.nx [.mu (fdV a' c' k),.sh r,.sh (liV ws),.ow (itV o),s4,.no,.no,.no,.no,.no,.no,.no,.no]:=by
 obtain⟨e',⟨a',c',o,s4,h1,h2,h4,rfl⟩,lo⟩:=yR (g:=(gtN 4).G) (B:=cR.G) (λi e=>∃(a c:Int) (o:List Nat) (s4:Sl),o.length=i/\(∀j,j∈o ↔ j<i)/\s4.pl=true/\e=[.mu (fdV a c k),.sh r,.sh (liV ws),.ow (itV o),s4,.no,.no,.no,.no,.no,.no,.no,.no]) ws.length (e:=[.mu (fdV a c k),.sh r,.sh (liV ws),.ow (itV []),.no,.no,.no,.no,.no,.no,.no,.no,.no]) ⟨a,c,[],.no,rfl,by simp,rfl,rfl⟩ (by
  rintro i hi _ ⟨a,b,o,s4,h1,h2,h3,rfl⟩
  obtain⟨q,a1,b1,e1,r0,r1⟩:=ax (a:=a) (b:=b) (k:=k) (m:=(o.length:Nat)+1) (by omega) (sm8 (by omega))
  refine⟨[.mu (fdV a b k),.sh r,.sh (liV ws),.ow (itV o),.sh (.int (i:Nat)),.no,.no,.no,.no,.no,.no,.no,.no],[.mu (fdV a1 b1 k),.sh r,.sh (liV ws),.ow (itV (o.take q.toNat++i::o.drop q.toNat)),.sh (.int (i:Nat)),.no,.no,.no,.no,.no,.no,.no,.no],?_,.inl ?_,a1,b1,_,_,?_,?_,rfl,rfl⟩
  ·generalize liV ws=wv
   simp![h3]
  ·have ln:(o.map λk:Nat=>Val.int k).length=o.length:=g_ ..
   have ins:(0<=q/\q<=(o.length:Nat)/\o.length<16777216):=⟨r0,by omega,by omega⟩
   unfold cR itV
   generalize hf:fdV a b k=f0 at *
   generalize hf1:fdV a1 b1 k=f1 at *
   generalize liV ws=wv
   simp![ln,e1,xM,ins,true_and,KG,and_self]
   simp [List.map_take,List.map_drop]
  ·simp only[r_,Em,Kw,KD]
   omega
  ·intro j
   rw[KC,B_]
   have:j∈o ↔ j∈o.take q.toNat\/j∈o.drop q.toNat:=by rw[<- KC,LU]
   rw[show (j<i+1 ↔ j<i\/j=i) from by omega,<- h2 j,this]
   constructor
   ·rintro (h |h |h)
    ·exact .inl (.inl h)
    ·exact .inr h
    ·exact .inl (.inr h)
   ·rintro ((h |h) |h)
    ·exact .inl h
    ·exact .inr (.inr h)
    ·exact .inr (.inl h))
 exact⟨o,a',c',s4,h1,h2,h4,lo⟩
def Bu(v:Val)(n:Nat)(h:n<=1000):uk.G (.lst [v]) (.int (n:Nat))=.new (.lst (List.replicate n v)):=by
 have e:uk.G=o5:=rfl
 rw[e]
 have fl:(List.replicate n [v]).flatten=List.replicate n v:=by
  induction n with
  |zero=>rfl
  |succ n ih=>rw[Ky,KS,ih (by omega),Ky];rfl
 unfold o5
 dsimp only
 rw[G_,fl,if_pos ⟨by omega,by omega,by show 1*n<=_;omega⟩]
def D4{op:PO2}{f1 bv:Val}{n:Nat}{wv:List Val}{x3 s4 s6 s7 s8 s9 s10 s11 s12:Sl}{u:Val}(hw:wv.length=n)(h:op.G (.lst [.non]) (.int (n:Nat))=.new u):(aE true 5 (pOp op (bD (aa fg ag)) (pFn bj (aa (af 2) ag)))).G [.mu f1,.sh bv,.sh (.lst wv),x3,s4,.no,s6,s7,s8,s9,s10,s11,s12]=.nx [.mu f1,.sh bv,.sh (.lst wv),x3,s4,.ow u,s6,s7,s8,s9,s10,s11,s12]:=by
 have ll:((wv.length:Nat):Int)=n:=by omega
 simp![ll,h]
def cuQ(v f:Val)(r:SR3):Prop:=kF [true,false,false] r=.ok (.new v) [f]
def Dq{f0 f1 f2 bv:Val}{n:Nat}{wv ov bxs:List Val}{s4 s7 s8 s9 s10 s11 s12:Sl}(hn:n<=40)(hw:wv.length=n)
 (lo:bJ (gtN 4).G cR.G (rgV n) [.mu f0,.sh bv,.sh (.lst wv),.ow (.lst []),.no,.no,.no,.no,.no,.no,.no,.no,.no]=.nx [.mu f1,.sh bv,.sh (.lst wv),.ow (.lst ov),s4,.no,.no,.no,.no,.no,.no,.no,.no])
 (q:cuL [.mu f1,.sh bv,.sh (.lst wv),.sh (.lst ov),s4,.ow (.lst (List.replicate n .non)),.ow (.lst [.tup [bv,.lst ov]]),.no,.no,.no,.no,.no,.no]=.nx [.mu f2,.sh bv,.sh (.lst wv),.sh (.lst ov),s4,.ow (.lst bxs),.ow (.lst []),s7,s8,s9,s10,s11,s12]):
 b9.G [f0,bv,.lst wv]=.ok (.new (.lst bxs)) [f2]:=by
 have ll:((wv.length:Nat):Int)=n:=by omega
 have rg:gu [.int (n:Nat)]=some (rgV n):=ip (by omega)
 unfold cuL at q
 unfold b9
 rw[lG rfl]
 show cuQ (.lst bxs) f2 (gw.G [.mu f0,.sh bv,.sh (.lst wv),.no,.no,.no,.no,.no,.no,.no,.no,.no,.no])
 unfold gw
 refine ay (λe=>e=[.mu f0,.sh bv,.sh (.lst wv),.ow (.lst []),.no,.no,.no,.no,.no,.no,.no,.no,.no]) ⟨_,by simp![bR],rfl⟩ ?_
 rintro _ rfl
 refine ay (λe=>e=[.mu f1,.sh bv,.sh (.lst wv),.ow (.lst ov),s4,.no,.no,.no,.no,.no,.no,.no,.no]) ⟨_,by simp![ll,rg,lo],rfl⟩ ?_
 rintro _ rfl
 refine ay (λe=>e=[.mu f1,.sh bv,.sh (.lst wv),.ow (.lst ov),s4,.ow (.lst (List.replicate n .non)),.no,.no,.no,.no,.no,.no,.no]) ⟨_,D4 hw (Bu _ _ (by omega)),rfl⟩ ?_
 rintro _ rfl
 refine ay (λe=>e=[.mu f1,.sh bv,.sh (.lst wv),.sh (.lst ov),s4,.ow (.lst (List.replicate n .non)),.ow (.lst [.tup [bv,.lst ov]]),.no,.no,.no,.no,.no,.no]) ⟨_,by simp![bR],rfl⟩ ?_
 rintro _ rfl
 unfold cuQ
 simp![q,jR]
def A8{ws:List Int}{b:Bx}{a c k:Int}{D m B:Nat}(gk:b.Ok)(W:WOk ws)(hm:m<=104)(R:Rp D B B b)(hB:1<=B)(hq:(B+ws.length*B)*(D*2^(m*ws.length))<2^2000)(hS:∀l:List Nat,(∀k∈l,k<ws.length)->l.length<=ws.length->wtA ws l<2^m):∃(t:AT) (a' c':Int),TBx ws t b/\(∀j,j<ws.length->Rn 2000 (bxO (AT.bx ws t b) j))/\b9.G [fdV a c k,bV b,liV ws]=.ok (.new (.lst (((List.range ws.length).map λj=>bxO (AT.bx ws t b) j).map bV))) [fdV a' c' k]:=by
 have wl:=W.len
 have wp:=W.pos
 obtain⟨o,a1,c1,s4,o1,o2,o4,lo⟩:=AM (r:=bV b) (ws:=ws) (a:=a) (c:=c) (k:=k) wl
 obtain⟨t,a2,c2,bxs,e',t1,t2,n1,n2,n3,⟨s7,s8,s9,s10,s11,s12,_,rfl⟩,q⟩:=kG (r:=bV b) (ws:=ws) (x3:=.sh (itV o)) (x4:=s4) (k:=k) hm hS (λw hw=>(W.wt w hw).1) wl ws.length o b D B [] (List.replicate ws.length .non) a1 c1 [.mu (fdV a1 c1 k),.sh (bV b),.sh (liV ws),.sh (itV o),s4,.ow (.lst (List.replicate ws.length .non)),.ow (.lst [.tup [bV b,itV o]]),.no,.no,.no,.no,.no,.no] (by omega) (by omega) (by omega) (λj hj=>(o2 j).mp hj) (by rw[LH];omega) (KJ ..) R (n_ _) hB (by rw[o1];exact hq) ⟨.no,.no,.no,.no,.no,.no,⟨rfl,rfl,rfl,rfl,rfl,rfl⟩,rfl⟩
 have mem:∀k,k∈t.lvs ↔ k<ws.length:=λk=>by rw[t2];exact o2 k
 have T:TBx ws t b:=⟨t1,λk hk=>by
  rw[H_,l_ ((mem k).mp hk)]
  exact (W.wt _ (Ks _)).1,gk,mem,Bk (pR ws.length t.lvs (by rw[t2,o1]) λi hi=>(mem i).mpr hi),λp hp=>(n3 p hp).sz⟩
 refine⟨t,a2,c2,T,λj hj=>?_,?_⟩
 ·obtain⟨p,hp,e⟩:=rY (l:=AT.bx ws t b) (k:=j) (by rw[AT.bx_keys];exact (mem j).mpr hj)
  rw[e]
  exact n3 p hp
 have eb:bxs=((List.range ws.length).map λj=>bxO (AT.bx ws t b) j).map bV:=by
  refine List.ext_getElem? λj=>?_
  by_cases hj:j<ws.length
  ·rw[n2 j hj,if_pos ((mem j).mpr hj),t_,t_,LA hj]
   rfl
  ·rw[KI (by omega),KI (by rw[g_,g_,Ld];omega)]
 rw[<- eb]
 have q':cuL [.mu (fdV a2 c2 k),.sh (bV b),.sh (liV ws),.sh (itV o),s4,.ow (.lst bxs),.ow (.lst ([].map itm)),s7,s8,s9,s10,s11,s12]=.nx [.mu (fdV a2 c2 k),.sh (bV b),.sh (liV ws),.sh (itV o),s4,.ow (.lst bxs),.ow (.lst []),s7,s8,s9,s10,s11,s12]:=by
  unfold cuL
  rw[kT,KL]
  generalize bV b=bv at *
  generalize liV ws=wv at *
  generalize itV o=ov at *
  simp![tI]
 rw[q'] at q
 exact Dq wl (g_ ..) lo q
def wF{ws:List Int}{b:Bx}{a c k:Int}(g:Good b)(W:WOk ws):∃(t:AT) (a' c':Int),TBx ws t b/\(∀j,j<ws.length->Rn 2000 (bxO (AT.bx ws t b) j))/\b9.G [fdV a c k,bV b,liV ws]=.ok (.new (.lst (((List.range ws.length).map λj=>bxO (AT.bx ws t b) j).map bV))) [fdV a' c' k]:=by
 obtain⟨D,m,hm,R,hq,hS⟩:=bndN g W
 exact A8 g.ok W hm R (by decide) hq hS
noncomputable def kBx:List Val->Bool
 |.tup [_,_,_,_]::_=>false
 |_=>true
structure Od(v:Val):Prop where
 ap:apV kBx v=true
 ask:bu 2 v=true
 sm:smB v
 no:aR v=false
 wf:wfV 4 v=true
def Th(n:Nat)(v:Val):Prop:=(∃b,v=bV b/\Rn n b)\/Od v
structure BL(n:Nat)(m:Nat)(vs:List Val):Prop where
 len:vs.length<=m
 th:∀v∈vs,Th n v
def fA{n:Nat}{bs:List Bx}(h:∀b∈bs,Rn n b):∀v∈bs.map bV,Th (n+5) v:=λv hv=>by
 obtain⟨b,hb,rfl⟩:=Kr.mp hv
 exact .inl ⟨b,rfl,(h b hb).mono (by omega)⟩
def jh{n:Nat}{bs:List Bx}{i:Nat}{v:Val}(h:∀b∈bs,Rn n b)(hv:Th (n+5) v):BL (n+5) (bs.length+1) ((bs.map bV).set i v):=⟨by rw[A_,g_];omega,λu hu=>by
 rcases Lb hu with hu |rfl
 ·exact fA h u hu
 ·exact hv⟩
def rq1(x:Rat):x*(((4:Int):Rat)/((4:Int):Rat))=x:=by rw[show ((4:Int):Rat)=4 from rfl];grind
def rq0(x y:Rat)(W:Int):x+y*(((0:Int):Rat)/(W:Rat))=x:=by rw[show ((0:Int):Rat)=0 from rfl,MF];grind
def rq9(x:Rat):x*(((9:Int):Rat)/((9:Int):Rat))=x:=by rw[show ((9:Int):Rat)=9 from rfl];grind
def zS(b:Bx)(a:Int):bV (bnd b 4 a 0 4 4)=.tup [fV (b.l+b.w*((a:Rat)/((4:Int):Rat))),fV b.t,fV b.w,fV b.h]:=by
 unfold bnd bV
 dsimp only
 rw[rq1,rq1,rq0]
def JV(b:Bx)(a:Int):bV (bnd b 4 0 a 4 4)=.tup [fV b.l,fV (b.t+b.h*((a:Rat)/((4:Int):Rat))),fV b.w,fV b.h]:=by
 unfold bnd bV
 dsimp only
 rw[rq1,rq1,rq0]
def IK(b:Bx):bV (bnd b 2 0 0 4 1)=.tup [fV b.l,fV b.t,fV (((b.w.num*2:Int):Rat)/((b.w.den:Int):Rat)),fV (b.h*(((1:Int):Rat)/((2:Int):Rat)))]:=by
 unfold bnd bV
 dsimp only
 rw[rq0,rq0]
 have e:((b.w.num*2:Int):Rat)/((b.w.den:Int):Rat)=b.w*(((4:Int):Rat)/((2:Int):Rat)):=by
  have h:=sk b.w 2 1 (by decide)
  rw[Int.mul_one] at h
  rw[h,show ((4:Int):Rat)=4 from rfl,show ((2:Int):Rat)=2 from rfl,show ((1:Int):Rat)=1 from rfl]
  grind
 rw[e]
def JG(b:Bx):bV (bnd b 9 0 0 9 10)=.tup [fV b.l,fV b.t,fV b.w,fV (b.h*(((10:Int):Rat)/((9:Int):Rat)))]:=by
 unfold bnd bV
 dsimp only
 rw[rq0,rq0,rq9]
def Gh(q:Rat):Val.tup [.int (0-q.num),.int (q.den:Nat)]=fV (-q):=by
 show _=Val.tup [.int (-q.num),.int (q.den:Nat)]
 rw[Int.zero_sub]
def BtE(k:Int)(bs:List Bx)(i j:Nat)(r:Int)(b:Bx)(P:List Val->Prop)(e:E3):Prop:=∃(a c:Int) (vs:List Val) (s10 s11:Sl),P vs/\s10.pl=true/\s11.pl=true/\e=[.mu (fdV a c k),.sh (.lst (bs.map bV)),.sh (.int (i:Nat)),.sh (.int (j:Nat)),.sh (.int r),.sh (fV b.l),.sh (fV b.t),.sh (fV b.w),.sh (fV b.h),.ow (.lst vs),s10,s11]
def BtP(n:Nat)(bs:List Bx)(r w:Int)(vs:List Val):Prop:=(r<w->BL (n+5) (bs.length+1) vs)/\(w<=r->vs=bs.map bV)
def rN{r a:Int}{q:Rat}(h0:0<=r)(h1:r<2):∃s:Int,(s=a\/s=-a)/\∀p:Rat,p=q*((a:Rat)/((4:Int):Rat))->atI [fV p,.tup [.int (0-p.num),.int (p.den:Nat)]] r=some (fV (q*((s:Rat)/((4:Int):Rat)))):=by
 have:r=0\/r=1:=by omega
 rcases this with rfl |rfl
 ·exact⟨a,.inl rfl,λp hp=>by rw[hp];exact aS (by decide) rfl⟩
 ·refine⟨-a,.inr rfl,λp hp=>?_⟩
  rw[Gh,hp,show -(q*((a:Rat)/((4:Int):Rat)))=q*(((-a:Int):Rat)/((4:Int):Rat)) from by rw[Rat.intCast_neg,MF,MF];grind]
  exact aS (by decide) rfl
def gv{bs:List Bx}{i:Nat}(hi:i<bs.length)(vs:List Val)(h:vs.length=bs.length):ixN vs.length (i:Nat)=some i:=mf (i:=(i:Nat)) (by omega) (by rw[h];exact hi)
def bt2{n:Nat}{k r:Int}{bs:List Bx}{i j:Nat}{b:Bx}{e:E3}(hb:∀b∈bs,Rn n b)(hi:i<bs.length)(hj:j<bs.length)(h:BtE k bs i j r b (BtP n bs r 2) e):∃e',(xIf (qOf (pOp bEq (af 4) (ah 2))) (um 9 2 3) xNx).G e=.nx e'/\BtE k bs i j r b (BtP n bs r 3) e':=by
 obtain⟨a,c,vs,s10,s11,⟨p1,p2⟩,d_,h11,rfl⟩:=h
 by_cases hr:r=2
 ·subst hr
  have ev:=p2 (Mi _)
  subst ev
  have ai:∀i,(hi:i<bs.length)->atI (bs.map bV) (i:Nat)=some (bV bs[i]):=λi hi=>aS (by omega) (by rw[G_,t_,l_ hi];rfl)
  have a1:=ai i hi
  have a2:=ai j hj
  have x1:=gv hi (bs.map bV) (g_ ..)
  have x2:=gv hj (bs.map bV) (g_ ..)
  refine⟨_,?_,a,c,((bs.map bV).set i (bV bs[j])).set j (bV bs[i]),s10,s11,⟨λ_=>⟨by rw[A_,A_,g_];omega,λu hu=>?_⟩,λh=>by omega⟩,d_,h11,rfl⟩
  ·rw[g_] at x1 x2
   have ll:(bs.map bV).length=bs.length:=g_ ..
   generalize bV bs[i]=v1 at *
   generalize bV bs[j]=v2 at *
   generalize bs.map bV=bv at *
   simp![a1,a2,ll,x1,x2]
  ·rcases Lb hu with hu |rfl
   ·rcases Lb hu with hu |rfl
    ·exact fA hb u hu
    ·exact fA hb _ (L7 (Ks ..))
   ·exact fA hb _ (L7 (Ks ..))
 ·have e1:(r==2)=false:=by rw[o_];exact hr
  exact⟨_,by simp![e1],a,c,vs,s10,s11,⟨λh=>p1 (by omega),λh=>p2 (by omega)⟩,d_,h11,rfl⟩
def bt4{n:Nat}{k r:Int}{bs:List Bx}{i j:Nat}{b:Bx}{e:E3}(hb:∀b∈bs,Rn n b)(hi:i<bs.length)(hR:Rn n b)(hn:n<=2100)(h:BtE k bs i j r b (BtP n bs r 4) e):∃e',(xIf (qOf (pOp bEq (af 4) (ah 4))) (dZ 9 seL (af 2) (aG (aa (af 5) (aa (af 6) (aa (ak aC (aa (pOp aA (pOp bIx (af 7) (ah 0)) (ah 2)) (aa (pOp bIx (af 7) (ah 1)) ag))) (aa (ak aC (aa (pOp bIx (af 8) (ah 0)) (aa (pOp aA (pOp bIx (af 8) (ah 1)) (ah 2)) ag))) ag)))))) xNx).G e=.nx e'/\BtE k bs i j r b (BtP n bs r 5) e':=by
 obtain⟨a,c,vs,s10,s11,⟨p1,p2⟩,d_,h11,rfl⟩:=h
 by_cases hr:r=4
 ·subst hr
  have ev:=p2 (Mi _)
  subst ev
  have x1:=gv hi (bs.map bV) (g_ ..)
  have hs:=hR.sz
  have c1:aA.G (.int b.w.num) (.int 2)=.val (.int (b.w.num*2)):=aK (CMulA.right (by decide) (by decide))
  have c2:aA.G (.int (b.h.den:Nat)) (.int 2)=.val (.int ((b.h.den:Nat)*2)):=aK (CMulA.right (by decide) (by decide))
  have dw:=b.w.den_pos
  have l1:=cU (a:=b.w.num*2) (b:=(b.w.den:Nat)) (by omega) (hs.w.bot.mono (by omega))
  have l2:=eg (p:=b.h) (a:=1) (W:=2) (m:=2) hs.h (by decide) (by show 2<4;decide) (by omega)
  rw[Int.mul_one] at l2
  refine⟨_,?_,a,c,(bs.map bV).set i (bV (bnd b 2 0 0 4 1)),s10,s11,⟨λ_=>jh hb (.inl ⟨_,rfl,jL hR (by decide) (by decide) (by decide) (by decide) (by decide)⟩),λh=>by omega⟩,d_,h11,rfl⟩
  rw[IK]
  generalize bs.map bV=bv at *
  simp![eJ,c1,c2,l1,l2,x1]
 ·have e1:(r==4)=false:=by rw[o_];exact hr
  exact⟨_,by simp![e1],a,c,vs,s10,s11,⟨λh=>p1 (by omega),λh=>p2 (by omega)⟩,d_,h11,rfl⟩
def bt5{n:Nat}{k r:Int}{bs:List Bx}{i j:Nat}{b:Bx}{e:E3}(hb:∀b∈bs,Rn n b)(hi:i<bs.length)(hR:Rn n b)(hn:n<=2100)(h:BtE k bs i j r b (BtP n bs r 5) e):∃e',(xIf (qOf (pOp bEq (af 4) (ah 5))) (dZ 9 seL (af 2) (aG (aa (af 5) (aa (af 6) (aa (af 7) (aa (ak aC (aa (pOp aA (pOp bIx (af 8) (ah 0)) (ah 10)) (aa (pOp aA (pOp bIx (af 8) (ah 1)) (ah 9)) ag))) ag)))))) xNx).G e=.nx e'/\BtE k bs i j r b (BtP n bs r 6) e':=by
 obtain⟨a,c,vs,s10,s11,⟨p1,p2⟩,d_,h11,rfl⟩:=h
 by_cases hr:r=5
 ·subst hr
  have ev:=p2 (Mi _)
  subst ev
  have x1:=gv hi (bs.map bV) (g_ ..)
  have hs:=hR.sz
  have c1:aA.G (.int b.h.num) (.int 10)=.val (.int (b.h.num*10)):=aK (CMulA.right (by decide) (by decide))
  have c2:aA.G (.int (b.h.den:Nat)) (.int 9)=.val (.int ((b.h.den:Nat)*9)):=aK (CMulA.right (by decide) (by decide))
  have l2:=eg (p:=b.h) (a:=10) (W:=9) (m:=4) hs.h (by decide) (by show 9<16;decide) (by omega)
  refine⟨_,?_,a,c,(bs.map bV).set i (bV (bnd b 9 0 0 9 10)),s10,s11,⟨λ_=>jh hb (.inl ⟨_,rfl,jL hR (by decide) (by decide) (by decide) (by decide) (by decide)⟩),λh=>by omega⟩,d_,h11,rfl⟩
  rw[JG]
  generalize bs.map bV=bv at *
  simp![eJ,c1,c2,l2,x1]
 ·have e1:(r==5)=false:=by rw[o_];exact hr
  exact⟨_,by simp![e1],a,c,vs,s10,s11,⟨λh=>p1 (by omega),λh=>p2 (by omega)⟩,d_,h11,rfl⟩
def vV{s q:Int}(h0:0<=q)(h1:q<3)(h:s=1+q\/s=-(1+q)):-4<=s/\s<=4:=by omega
def sm_3{q:Int}(h0:0<=q)(h1:q<3):Sm 3 (1+q):=by
 show (1+q).natAbs<8
 omega
def zX{s:Int}(h:-4<=s/\s<=4):Sm 3 s:=by
 show s.natAbs<8
 omega
def bt3{n:Nat}{k r:Int}{bs:List Bx}{i j:Nat}{b:Bx}{e:E3}(hb:∀b∈bs,Rn n b)(hi:i<bs.length)(hR:Rn n b)(hn:n<=2100)(h:BtE k bs i j r b (BtP n bs r 3) e):∃e',(xIf (qOf (pOp bEq (af 4) (ah 3))) (ao (aE false 10 (ak aC (aa (pOp aA (pOp bIx (af 7) (ah 0)) (pOp aM (ah 1) (ak aq (aa (af 0) (aa (ah 3) ag))))) (aa (pOp aA (pOp bIx (af 7) (ah 1)) (ah 4)) ag))))
 (ao (dZ 9 seL (af 2) (aG (aa (ak bA (aa (af 5) (aa (pOp bIx (bD (aa (af 10) (aa (aG (aa (pOp df (ah 0) (pOp bIx (af 10) (ah 0))) (aa (pOp bIx (af 10) (ah 1)) ag))) ag))) (ak aq (aa (af 0) (aa (ah 2) ag)))) ag))) (aa (af 6) (aa (af 7) (aa (af 8) ag))))))
 (xIf (qOf (pOp bEq (ak aq (aa (af 0) (aa (ah 2) ag))) (ah 0))) (ao (aE false 10 (ak aC (aa (pOp aA (pOp bIx (af 8) (ah 0)) (pOp aM (ah 1) (ak aq (aa (af 0) (aa (ah 3) ag))))) (aa (pOp aA (pOp bIx (af 8) (ah 1)) (ah 4)) ag))))
 (dZ 9 seL (af 2) (aG (aa (af 5) (aa (ak bA (aa (af 6) (aa (pOp bIx (bD (aa (af 10) (aa (aG (aa (pOp df (ah 0) (pOp bIx (af 10) (ah 0))) (aa (pOp bIx (af 10) (ah 1)) ag))) ag))) (ak aq (aa (af 0) (aa (ah 2) ag)))) ag))) (aa (af 7) (aa (af 8) ag))))))) xNx))) xNx).G e=.nx e'/\BtE k bs i j r b (BtP n bs r 4) e':=by
 obtain⟨a,c,vs,s10,s11,⟨p1,p2⟩,d_,h11,rfl⟩:=h
 by_cases hr:r=3
 ·subst hr
  have ev:=p2 (Mi _)
  subst ev
  have x1:=gv hi (bs.map bV) (g_ ..)
  have hs:=hR.sz
  obtain⟨q1,a1,d1,e1,r0,r1⟩:=ax (a:=a) (b:=c) (k:=k) (m:=3) (by decide) (sm8 (by decide))
  obtain⟨q2,a2,d2,e2,t0,t1⟩:=ax (a:=a1) (b:=d1) (k:=k) (m:=2) (by decide) (sm8 (by decide))
  obtain⟨q3,a3,d3,e3,u0,u1⟩:=ax (a:=a2) (b:=d2) (k:=k) (m:=2) (by decide) (sm8 (by decide))
  obtain⟨q4,a4,d4,e4,v0,v1⟩:=ax (a:=a3) (b:=d3) (k:=k) (m:=3) (by decide) (sm8 (by decide))
  obtain⟨q5,a5,d5,e5,w0,w1⟩:=ax (a:=a4) (b:=d4) (k:=k) (m:=2) (by decide) (sm8 (by decide))
  obtain⟨s,hsg,pk⟩:=rN (a:=1+q1) (q:=b.w) t0 t1
  obtain⟨s',hsg',pk'⟩:=rN (a:=1+q4) (q:=b.h) w0 w1
  have sr:=vV r0 r1 hsg
  have sr':=vV v0 v1 hsg'
  have f4:Sm 3 (4:Int):=by show 4<8;decide
  have c1:aA.G (.int b.w.num) (.int (1+q1))=.val (.int (b.w.num*(1+q1))):=aK (CMulA.of hs.w.top (sm_3 r0 r1) (by omega) (by decide))
  have c2:aA.G (.int (b.w.den:Nat)) (.int 4)=.val (.int ((b.w.den:Nat)*4)):=aK (CMulA.right (by decide) (by decide))
  have c3:aA.G (.int b.h.num) (.int (1+q4))=.val (.int (b.h.num*(1+q4))):=aK (CMulA.of hs.h.top (sm_3 v0 v1) (by omega) (by decide))
  have c4:aA.G (.int (b.h.den:Nat)) (.int 4)=.val (.int ((b.h.den:Nat)*4)):=aK (CMulA.right (by decide) (by decide))
  have l1:=eg (p:=b.w) (a:=1+q1) (W:=4) hs.w (by decide) f4 (by omega)
  have l2:=eg (p:=b.h) (a:=1+q4) (W:=4) hs.h (by decide) f4 (by omega)
  have ad:=dC hs.l (hs.w.mul (Sz.div (by decide) (zX sr) f4 3 (n_ _) (n_ _))) (by omega)
  have ad':=dC hs.t (hs.h.mul (Sz.div (by decide) (zX sr') f4 3 (n_ _) (n_ _))) (by omega)
  have pk:=pk _ rfl
  have pk':=pk' _ rfl
  generalize b.w*(((1+q1:Int):Rat)/((4:Int):Rat))=z1 at *
  generalize b.h*(((1+q4:Int):Rat)/((4:Int):Rat))=z2 at *
  have y1:=gv hi ((bs.map bV).set i (bV (bnd b 4 s 0 4 4))) (by rw[A_];exact g_ ..)
  by_cases hz:q3=0
  ·have ez:(q3==0)=true:=by rw[hz];rfl
   refine⟨_,?_,a5,d5,(bs.map bV).set i (bV (bnd b 4 0 s' 4 4)),.sh (fV z2),s11,⟨λ_=>jh hb (.inl ⟨_,rfl,jL hR (by decide) (by omega) (by omega) (by decide) (by decide)⟩),λh=>by omega⟩,rfl,h11,rfl⟩
   rw[JV]
   rw[zS] at y1
   have sst:∀u v:Val,((bs.map bV).set i u).set i v=(bs.map bV).set i v:=λu v=>List.set_set ..
   generalize bs.map bV=bv at *
   generalize fdV a c k=f0 at *
   generalize fdV a1 d1 k=f1 at *
   generalize fdV a2 d2 k=f2 at *
   generalize fdV a3 d3 k=f3 at *
   generalize fdV a4 d4 k=f4 at *
   generalize fdV a5 d5 k=f5 at *
   simp![eJ,e1,e2,e3,e4,e5,ez,c1,c2,c3,c4,l1,l2,d_,pk,pk',ad,ad',x1,y1,sst]
  ·have ez:(q3==0)=false:=by rw[o_];exact hz
   refine⟨_,?_,a3,d3,(bs.map bV).set i (bV (bnd b 4 s 0 4 4)),.sh (fV z1),s11,⟨λ_=>jh hb (.inl ⟨_,rfl,jL hR (by decide) (by omega) (by omega) (by decide) (by decide)⟩),λh=>by omega⟩,rfl,h11,rfl⟩
   rw[zS]
   generalize bs.map bV=bv at *
   generalize fdV a c k=f0 at *
   generalize fdV a1 d1 k=f1 at *
   generalize fdV a2 d2 k=f2 at *
   generalize fdV a3 d3 k=f3 at *
   simp![eJ,e1,e2,e3,ez,c1,c2,l1,d_,pk,ad,x1]
 ·have e1:(r==3)=false:=by rw[o_];exact hr
  exact⟨_,by simp![e1],a,c,vs,s10,s11,⟨λh=>p1 (by omega),λh=>p2 (by omega)⟩,d_,h11,rfl⟩
def tQ(k:Nat)(q:Rat):wfV (k+1) (fV q)=true:=rfl
def ke(b:Bx):List Val:=[.lst [fV b.l,fV b.t,fV b.w,fV b.h],.tup [fV b.l,fV b.t,fV b.w],.non,.str "box",.tup [fV b.l,fV b.t,.tup [.int 0,.int 1],fV b.h],.tup [.bl true,fV b.t,fV b.w,fV b.h],.tup [fV b.l,fV b.t,.tup [.int (2*b.w.num),.int (2*(b.w.den:Nat))],fV b.h],.int 7]
def D7{v:Val}(h:∀xs,v ≠ .tup xs):smP v:=λa b e=>absurd e (h _)
def kZ{v:Val}(h:∀xs,v ≠ .tup xs):smB v:=λxs e=>absurd e (h _)
def vt{vs:List Val}(h:∀v∈vs,smP v):smB (.tup vs):=λxs e=>by
 injection e with e
 subst e
 exact h
noncomputable def wK{a b:Int}(h:Sm 8000 b):smP (.tup [.int a,.int b]):=λx y e=>by
 injection e with e
 injection e with _ e
 injection e with e _
 injection e with e
 subst e
 exact h
def Ew(q:Rat):aD (.tup [.int (2*q.num),.int (2*(q.den:Nat))])=false:=by
 show (decide (1<=2*((q.den:Nat):Int))&&decide (Int.gcd (2*q.num) (2*((q.den:Nat):Int))=1))=false
 rw[Lp]
 refine .inr (w_ λh=>?_)
 rw[Int.gcd_mul_left] at h
 have h2:2*Int.gcd q.num (q.den:Nat)=1:=h
 omega
def fR(q:Rat):apV kBx (fV q)=true:=by simp [fV,apV,bU]
def Kl(b:Bx):apV kBx (bV b)=true:=by simp [bV,apV,bU,fR]
def GL{n:Nat}{b:Bx}(hs:b.Sz n)(hn:n<=2100):∀v∈ke b,Od v:=by
 have sl:=gK hs.l (by omega)
 have st:=gK hs.t (by omega)
 have sw:=gK hs.w (by omega)
 have sh:=gK hs.h (by omega)
 have all4:∀{a b c d:Val},smP a->smP b->smP c->smP d->smB (.tup [a,b,c,d]):=λh1 h2 h3 h4=>vt λv hv=>by
  simp only[B_,Mn,Lk] at hv
  rcases hv with rfl |rfl |rfl |rfl <;> assumption
 intro v hv
 unfold ke at hv
 simp only[B_,Mn,Lk] at hv
 rcases hv with rfl |rfl |rfl |rfl |rfl |rfl |rfl |rfl
 ·exact⟨by simp [apV,bU,fR,kBx,fV],rfl,kZ (by intro _ h;cases h),rfl,rfl⟩
 ·refine⟨by simp [apV,bU,fR],by simp [fV,bu,knV,tyC],vt λv hv=>?_,rfl,rfl⟩
  simp only[B_,Mn,Lk] at hv
  rcases hv with rfl |rfl |rfl <;> assumption
 ·exact⟨by simp [apV,bU,fR,kBx,fV],rfl,kZ (by intro _ h;cases h),rfl,rfl⟩
 ·exact⟨by simp [apV,bU,fR,kBx,fV],rfl,kZ (by intro _ h;cases h),rfl,by decide⟩
 ·refine⟨by simp [apV,bU,fR],by simp [fV,bu,knV,tyC],all4 sl st (wK (by show 1<2^8000;exact Nat.one_lt_two_pow (by decide))) sh,?_,rfl⟩
  show (aD (fV b.l)&&(aD (fV b.t)&&(true&&(aD (fV b.h)&&(false&&eH (fV b.h))))))=false
  rw[cM,cM,cM]
  rfl
 ·exact⟨by simp [apV,bU,fR],by simp [fV,bu,knV,tyC],all4 (D7 (by intro _ h;cases h)) st sw sh,rfl,rfl⟩
 ·refine⟨by simp [apV,bU,fR],by simp [fV,bu,knV,tyC],all4 sl st (wK ?_) sh,?_,rfl⟩
  ·have h:=hs.w.bot
   show (2*((b.w.den:Nat):Int)).natAbs<2^8000
   have h2:((b.w.den:Nat):Int).natAbs<2^n:=h
   have h3:2^(n+1)<=2^8000:=K5 (by decide) (by omega)
   rw[Nat.pow_succ] at h3
   generalize 2^8000=X at *
   omega
  ·show (aD (fV b.l)&&(aD (fV b.t)&&(aD (.tup [.int (2*b.w.num),.int (2*(b.w.den:Nat))])&&_)))=false
   rw[Ew,cM,cM]
   rfl
 ·exact⟨by simp [apV,bU,fR,kBx,fV],rfl,kZ (by intro _ h;cases h),rfl,rfl⟩
def bt6{n:Nat}{k r:Int}{bs:List Bx}{i j:Nat}{b:Bx}{e:E3}(hb:∀b∈bs,Rn n b)(hi:i<bs.length)(hR:Rn n b)(hbi:bs[i]?=some b)(hn:n<=2100)(h:BtE k bs i j r b (BtP n bs r 6) e):∃e',(xIf (qOf (pOp bEq (af 4) (ah 6))) (ao (aE false 11 (bD (aa (pFn fH (aa (pOp bIx (af 1) (af 2)) ag)) (aa (aG (aa (af 5) (aa (af 6) (aa (af 7) ag)))) (aa fg (aa (bT "box") (aa (aG (aa (af 5) (aa (af 6) (aa (aG (aa (ah 0) (aa (ah 1) ag))) (aa (af 8) ag))))) (aa (aG (aa (pBl true) (aa (af 6) (aa (af 7) (aa (af 8) ag))))) ag))))))))
 (dZ 9 seL (af 2) (pOp bIx (pOp aM (af 11) (bD (aa (aG (aa (af 5) (aa (af 6) (aa (aG (aa (pOp aA (ah 2) (pOp bIx (af 7) (ah 0))) (aa (pOp aA (ah 2) (pOp bIx (af 7) (ah 1))) ag))) (aa (af 8) ag))))) (aa (ah 7) ag)))) (ak aq (aa (af 0) (aa (ah 8) ag)))))) xNx).G e=.nx e'/\BtE k bs i j r b (BtP n bs r 7) e':=by
 obtain⟨a,c,vs,s10,s11,⟨p1,p2⟩,d_,h11,rfl⟩:=h
 by_cases hr:r=6
 ·subst hr
  have ev:=p2 (Mi _)
  subst ev
  have x1:=gv hi (bs.map bV) (g_ ..)
  have hs:=hR.sz
  obtain⟨q1,a1,d1,e1,r0,r1⟩:=ax (a:=a) (b:=c) (k:=k) (m:=8) (by decide) (sm8 (by decide))
  have ai:atI (bs.map bV) (i:Nat)=some (.tup [fV b.l,fV b.t,fV b.w,fV b.h]):=aS (by omega) (by rw[G_,t_,hbi];rfl)
  have c1:aA.G (.int 2) (.int b.w.num)=.val (.int (2*b.w.num)):=aK (CMulA.left (by decide) (by decide))
  have c2:aA.G (.int 2) (.int (b.w.den:Nat))=.val (.int (2*(b.w.den:Nat))):=aK (CMulA.left (by decide) (by decide))
  have lq:q1.toNat<(ke b).length:=by show q1.toNat<8;omega
  have pk:atI (ke b) q1=some ((ke b)[q1.toNat]):=aS r0 (l_ lq)
  have ov:=GL hs hn _ (Ks lq)
  generalize (ke b)[q1.toNat]=v at *
  refine⟨_,?_,a1,d1,(bs.map bV).set i v,s10,.sh (.lst [.lst [fV b.l,fV b.t,fV b.w,fV b.h],.tup [fV b.l,fV b.t,fV b.w],.non,.str "box",.tup [fV b.l,fV b.t,.tup [.int 0,.int 1],fV b.h],.tup [.bl true,fV b.t,fV b.w,fV b.h]]),⟨λ_=>jh hb (.inr ov),λh=>by omega⟩,d_,rfl,rfl⟩
  unfold ke at pk
  generalize bs.map bV=bv at *
  generalize fdV a c k=f0 at *
  generalize fdV a1 d1 k=f1 at *
  simp![eJ,e1,h11,ai,c1,c2,pk,x1]
 ·have e1:(r==6)=false:=by rw[o_];exact hr
  exact⟨_,by simp![e1],a,c,vs,s10,s11,⟨λh=>p1 (by omega),λh=>p2 (by omega)⟩,d_,h11,rfl⟩
def btQ(k:Int)(n m:Nat)(r:SR3):Prop:=∃(a c:Int) (vs:List Val),BL n m vs/\kF [true,false] r=.ok (.new (.lst vs)) [fdV a c k]
def lZ{Q:SR3->Prop}{I:E3->Prop}{a b:PSt}{e:E3}(h1:∃e1,a.G e=.nx e1/\I e1)(h2:∀e1,I e1->Q (b.G e1)):Q ((ao a b).G e):=ay I h1 h2
def sq{n:Nat}{bs:List Bx}{a c k:Int}(hb:∀b∈bs,Rn n b)(hn:n<=2100)(h0:bs≠[])(hl:bs.length<=41):∃(a' c':Int) (vs:List Val),BL (n+5) (bs.length+1) vs/\bf.G [fdV a c k,.lst (bs.map bV)]=.ok (.new (.lst vs)) [fdV a' c' k]:=by
 have lp:0<bs.length:=List.length_pos_iff.mpr h0
 have ll:(bs.map bV).length=bs.length:=g_ ..
 obtain⟨q1,a1,d1,e1,r0,r1⟩:=ax (a:=a) (b:=c) (k:=k) (m:=(bs.length:Nat)) (by omega) (sm8 (by omega))
 obtain⟨q2,a2,d2,e2,t0,t1⟩:=ax (a:=a1) (b:=d1) (k:=k) (m:=(bs.length:Nat)) (by omega) (sm8 (by omega))
 obtain⟨r,a3,d3,e3,w0,w1⟩:=ax (a:=a2) (b:=d2) (k:=k) (m:=8) (by decide) (sm8 (by decide))
 obtain⟨i,rfl⟩:∃i:Nat,q1=(i:Nat):=⟨q1.toNat,by omega⟩
 obtain⟨j,rfl⟩:∃j:Nat,q2=(j:Nat):=⟨q2.toNat,by omega⟩
 have hi:i<bs.length:=by omega
 have hj:j<bs.length:=by omega
 have hbi:bs[i]?=some bs[i]:=l_ hi
 have hbj:bs[j]?=some bs[j]:=l_ hj
 have hR:=hb bs[i] (Ks hi)
 generalize hbe:bs[i]=b at *
 have ai:atI (bs.map bV) (i:Nat)=some (.tup [fV b.l,fV b.t,fV b.w,fV b.h]):=aS (by omega) (by rw[G_,t_,hbi];rfl)
 have aj:atI (bs.map bV) (j:Nat)=some (bV bs[j]):=aS (by omega) (by rw[G_,t_,hbj];rfl)
 unfold bf
 rw[lG rfl]
 show btQ k (n+5) (bs.length+1) (iI.G [.mu (fdV a c k),.sh (.lst (bs.map bV)),.no,.no,.no,.no,.no,.no,.no,.no,.no,.no])
 unfold iI
 refine ay (λe=>e=[.mu (fdV a2 d2 k),.sh (.lst (bs.map bV)),.sh (.int (i:Nat)),.sh (.int (j:Nat)),.no,.no,.no,.no,.no,.no,.no,.no]) ⟨_,by
  generalize fdV a c k=f0 at *
  generalize fdV a1 d1 k=f1 at *
  generalize fdV a2 d2 k=f2 at *
  generalize bs.map bV=bv at *
  simp![ll,e1,e2],rfl⟩ ?_
 rintro _ rfl
 refine ay (λe=>e=[.mu (fdV a3 d3 k),.sh (.lst (bs.map bV)),.sh (.int (i:Nat)),.sh (.int (j:Nat)),.sh (.int r),.no,.no,.no,.no,.no,.no,.no]) ⟨_,by
  generalize fdV a2 d2 k=f2 at *
  generalize fdV a3 d3 k=f3 at *
  generalize bs.map bV=bv at *
  simp![e3],rfl⟩ ?_
 rintro _ rfl
 refine ay (λe=>e=[.mu (fdV a3 d3 k),.sh (.lst (bs.map bV)),.sh (.int (i:Nat)),.sh (.int (j:Nat)),.sh (.int r),.sh (fV b.l),.sh (fV b.t),.sh (fV b.w),.sh (fV b.h),.no,.no,.no]) ⟨_,by
  generalize fdV a3 d3 k=f3 at *
  generalize bs.map bV=bv at *
  simp![ai],rfl⟩ ?_
 rintro _ rfl
 refine ay (λe=>e=[.mu (fdV a3 d3 k),.sh (.lst (bs.map bV)),.sh (.int (i:Nat)),.sh (.int (j:Nat)),.sh (.int r),.sh (fV b.l),.sh (fV b.t),.sh (fV b.w),.sh (fV b.h),.ow (.lst (bs.map bV)),.no,.no]) ⟨_,by
  generalize fdV a3 d3 k=f3 at *
  generalize bs.map bV=bv at *
  simp![bR],rfl⟩ ?_
 rintro _ rfl
 by_cases c0:r=0
 ·subst c0
  refine⟨a3,d3,(bs.map bV).take i++(bs.map bV).drop (i+1),⟨by rw[r_,Kw,KD,ll];omega,λv hv=>?_⟩,?_⟩
  ·rcases KC.mp hv with hv |hv
   ·exact fA hb v (Ly hv)
   ·exact fA hb v (LY hv)
  ·have c1:=lF (bs.map bV) i
   have c2:=kE (bs.map bV) (i+1)
   have ic:((i:Nat):Int)+1=((i+1:Nat):Int):=by omega
   have l1:((bs.map bV).take i).length+((bs.map bV).drop (i+1)).length<=16777216:=by rw[Kw,KD,ll];omega
   generalize fdV a3 d3 k=f3 at *
   generalize bs.map bV=bv at *
   simp![mh,c1,ic,c2,l1,jR]
 have n0:(r==0)=false:=by rw[o_];exact c0
 refine ay (λe=>e=[.mu (fdV a3 d3 k),.sh (.lst (bs.map bV)),.sh (.int (i:Nat)),.sh (.int (j:Nat)),.sh (.int r),.sh (fV b.l),.sh (fV b.t),.sh (fV b.w),.sh (fV b.h),.ow (.lst (bs.map bV)),.no,.no]) ⟨_,by
  generalize fdV a3 d3 k=f3 at *
  generalize bs.map bV=bv at *
  simp![n0],rfl⟩ ?_
 rintro _ rfl
 by_cases c0:r=1
 ·subst
   c0
  refine⟨a3,d3,((bs.map bV).take i++[bV bs[j]])++(bs.map bV).drop i,⟨by rw[r_,r_,Kw,KD,ll,La];omega,λv hv=>?_⟩,?_⟩
  ·rcases KC.mp hv with hv |hv
   ·rcases KC.mp hv with hv |hv
    ·exact fA hb v (Ly hv)
    ·rw[Lo.mp hv]
     exact fA hb _ (L7 (Ks ..))
   ·exact fA hb v (LY hv)
  ·have c1:=lF (bs.map bV) i
   have c2:=kE (bs.map bV) i
   have l0:((bs.map bV).take i).length+1<=16777216:=by rw[Kw];omega
   have l1:((bs.map bV).take i++[bV bs[j]]).length+((bs.map bV).drop i).length<=16777216:=by rw[r_,Kw,KD,ll,La];omega
   generalize fdV a3 d3 k=f3 at *
   generalize bV bs[j]=vj at *
   generalize bs.map bV=bv at *
   simp![mh,c1,c2,aj,l0,l1,jR]
 have n1:(r==1)=false:=by rw[o_];exact c0
 refine ay (λe=>e=[.mu (fdV a3 d3 k),.sh (.lst (bs.map bV)),.sh (.int (i:Nat)),.sh (.int (j:Nat)),.sh (.int r),.sh (fV b.l),.sh (fV b.t),.sh (fV b.w),.sh (fV b.h),.ow (.lst (bs.map bV)),.no,.no]) ⟨_,by
  generalize fdV a3 d3 k=f3 at *
  generalize bs.map bV=bv at *
  simp![n1],rfl⟩ ?_
 rintro _ rfl
 have h2:BtE k bs i j r b (BtP n bs r 2) [.mu (fdV a3 d3 k),.sh (.lst (bs.map bV)),.sh (.int (i:Nat)),.sh (.int (j:Nat)),.sh (.int r),.sh (fV b.l),.sh (fV b.t),.sh (fV b.w),.sh (fV b.h),.ow (.lst (bs.map bV)),.no,.no]:=⟨a3,d3,_,.no,.no,⟨λh=>by omega,λ_=>rfl⟩,rfl,rfl,rfl⟩
 refine lZ (bt2 hb hi hj h2) λe h3=>?_
 refine lZ (bt3 hb hi hR hn h3) λe h4=>?_
 refine lZ (bt4 hb hi hR hn h4) λe h5=>?_
 refine lZ (bt5 hb hi hR hn h5) λe h6=>?_
 refine lZ (bt6 hb hi hR hbi hn h6) λe h7=>?_
 obtain⟨a4,d4,vs,s10,s11,⟨p1,p2⟩,d_,h11,rfl⟩:=h7
 refine⟨a4,d4,vs,?_,by
  generalize fdV a4 d4 k=f3 at *
  generalize bs.map bV=bv at *
  simp![jR]⟩
 by_cases h:r<7
 ·exact p1 h
 ·rw[p2 (by omega)]
  exact⟨by rw[ll];omega,fA hb⟩
def FlV(u:Val):Prop:=u=.non\/∃(s:Str) (xs:List Int),PyData.strOk s=true/\xs.length<=2/\u=.tup (.str s::xs.map .int)
def gy{s:Str}(xs:List Int)(h:PyData.strOk s=true)(hx:xs.length<=2):FlV (.tup (.str s::xs.map .int)):=.inr ⟨s,xs,h,hx,rfl⟩
def yS(rm:Bx)(ws:List Int)(bs:List Bx):FlV (eK rm ws bs):=by
 unfold eK
 split
 ·rename_i p _
  exact gy [(p.2:Nat)] (by decide) (by simp)
 ·split
  ·rename_i p _
   exact gy [(p.2:Nat)] (by decide) (by simp)
  ·unfold jU
   split
   ·unfold ovR
    exact gy [_,_] (by decide) (by simp)
   ·exact .inl rfl
def mX{u:Val}(h:FlV u):L3.flatV u=true:=by
 rcases h with rfl |⟨s,xs,_,_,rfl⟩
 ·exact nK
 ·rw[nM,fC,xk,iP _ je]
  rfl
def sZ{u:Val}(h:FlV u):cA u u=some true:=by
 have hw:wfV 60 u=true:=by
  rcases h with rfl |⟨s,xs,h1,_,rfl⟩
  ·rfl
  ·show (PyData.strOk s&&dM 59 (xs.map .int))=true
   rw[h1,jW λv hv=>by obtain⟨w,_,rfl⟩:=Kr.mp hv;rfl]
   rfl
 rw[oC hw hw,jF 60 _ hw]
def vo{n:Nat}{v:Val}(h:Th n v):bu 2 v=true:=by
 rcases h with ⟨b,rfl,_⟩ |o
 ·exact lO b
 ·exact o.ask
def Ae{n:Nat}{v:Val}(h:Th n v)(hn:n<=8000):smB v:=by
 rcases h with ⟨b,rfl,r⟩ |o
 ·exact As r.sz hn
 ·exact o.sm
def GX{n:Nat}{v:Val}(h:Th n v)(hb:aR v=true):∃b,bV b=v/\Rn n b:=by
 rcases h with ⟨b,rfl,r⟩ |o
 ·exact⟨b,rfl,r⟩
 ·rw[o.no] at hb
  cases hb
def Ig{n:Nat}{v:Val}(h:Th n v):wfV 4 v=true:=by
 rcases h with ⟨b,rfl,r⟩ |o
 ·rfl
 ·exact o.wf
def z0{n:Nat}{v:Val}(h:Th n v):apV kBx v=true:=by
 rcases h with ⟨b,rfl,r⟩ |o
 ·exact Kl b
 ·exact o.ap
theorem qw{n:Nat}:∀{vs:List Val},(∀v∈vs,Th n v)->(∀v∈vs,aR v=true)->∃bs:List Bx,vs=bs.map bV/\∀b∈bs,Rn n b
 | [],_,_=>⟨[],rfl,λ_ h=>nomatch h⟩
 |
  v::vs,h,k=>by
  obtain⟨b,e,r⟩:=GX (h v (m_ ..)) (k v (m_ ..))
  obtain⟨bs,rfl,rs⟩:=qw (λu hu=>h u (i_ _ hu)) λu hu=>k u (i_ _ hu)
  exact⟨b::bs,by rw[C_,e],λc hc=>by
   rcases B_.mp hc with rfl |hc
   ·exact r
   ·exact rs c hc⟩
def rH{rm:Bx}{ws:List Int}{n m:Nat}{vs:List Val}(hr:rm.Ok)(hrs:rm.Sz n)(hw:Wts m ws)(hv:∀v∈vs,Th n v)(h:n+n+m<=8000):∃u,FlV u/\bp.G [bV rm,liV ws,.lst vs]=.ok (.val u) []/\bB.G [bV rm,liV ws,.lst vs]=.ok (.val u) []:=by
 unfold liV
 by_cases hl:vs.length=ws.length
 ·have ha:∀v∈vs,bu 2 v=true:=λv h=>vo (hv v h)
  have hm:∀v∈vs,smB v:=λv h=>Ae (hv v h) (by omega)
  cases q:vs.zipIdx.find? (λp=>!aR p.1) with
  |some p=>exact⟨_,gy [(p.2:Nat)] (by decide) (by simp),rE hr hw hl ha q,wI hl ha hm q⟩
  |
   none=>
   rw[KY] at q
   obtain⟨bs,rfl,rs⟩:=qw hv λv h=>by
    obtain⟨i,hi⟩:=Mr h
    have:=q (v,i) (LS.mpr hi)
    simpa using this
   rw[g_] at hl
   exact⟨_,yS rm ws bs,ku hr hrs hw hl (λb hb=>(rs b hb).ok) (λb hb=>(rs b hb).sz) h,C5 hrs hw hl (λb hb=>(rs b hb).ok) (λb hb=>(rs b hb).sz) h⟩
 ·exact⟨_,gy [] (by decide) (by decide),j9 hr hw hl,wg hl⟩
def CL{n:Nat}{vs:List Val}(hn:n<=8000)(hl:vs.length<=1000)(hv:∀v∈vs,Th n v):∃s,lcV (gtN 0).G qY.G (ak bP (aa (af 0) ag)).G vs [] [.no]=.ok ((vs.map aR).map .bl) [s]:=by
 obtain⟨e',⟨s,rfl,_⟩,lc⟩:=eS (g:=(gtN 0).G) (F:=(ak bP (aa (af 0) ag)).G) id (λv=>Val.bl (aR v)) (λe=>∃s:Sl,e=[s]/\s.pl=true) vs [] [.no] ⟨.no,rfl,rfl⟩ (by
  rintro v h _ ⟨s,rfl,hs⟩
  have:=vJ (vo (hv v h)) (Ae (hv v h) hn)
  refine⟨[.sh v],.val (.bl (aR v)),[.sh v],?_,?_,rfl,_,rfl,rfl⟩
  ·simp![hs,id]
  ·simp![this]) (by rw[LH];omega)
 rw[List.map_id,KU] at lc
 exact⟨s,by rw[Ln];exact lc⟩
def AQ{s:Str}{xs:List Int}(hx:xs.length<=2):∃s',lcV (gtN 0).G qY.G (pFn (a9 bN) (aa (af 0) (aa (pTy "bool") ag))).G (.str s::xs.map .int) [] [.no]=.ok ((false::xs.map λ_=>false).map .bl) [s']:=by
 obtain⟨e',⟨s',rfl,_⟩,lc⟩:=eS (g:=(gtN 0).G) (F:=(pFn (a9 bN) (aa (af 0) (aa (pTy "bool") ag))).G) id (λv=>Val.bl false) (λe=>∃s:Sl,e=[s]/\s.pl=true) (.str s::xs.map .int) [] [.no] ⟨.no,rfl,rfl⟩ (by
  rintro v h _ ⟨s',rfl,hs⟩
  have:(a9 bN).G [v,.ty "bool"]=.val (.bl false):=by
   rcases B_.mp h with rfl |h
   ·rfl
   ·obtain⟨x,_,rfl⟩:=Kr.mp h
    rfl
  refine⟨[.sh v],.val (.bl false),[.sh v],?_,?_,rfl,_,rfl,rfl⟩
  ·simp![hs,id]
  ·simp![this]) (by rw[LH,Em,g_];omega)
 rw[List.map_id,KU] at lc
 refine⟨s',lc.trans ?_⟩
 rw[C_,C_,Ln,Ln]
 rfl
def LwE(sc:Val)(rm:Bx)(ws:List Int)(bs:List Bx)(x6:Sl)(e:E3):Prop:=∃(a c:Int) (s7 s8 s9:Sl),s7.pl=true/\s8.pl=true/\s9.pl=true/\e=[.sh sc,.ow (fdV a c 55),.sh (bV rm),.ow (liV ws),.ow (.lst (bs.map bV)),.sh (liV ws),x6,s7,s8,s9]
def bdQ(sc:Val)(rm:Bx)(ws:List Int)(bs:List Bx)(x6:Sl)(r:SR3):Prop:=∃e,r=.nx e/\LwE sc rm ws bs x6 e
def Kc{n:Nat}{vs:List Val}(hv:∀v∈vs,Th n v):cA (.lst vs) (.lst vs)=some true:=by
 have hw:wfV 5 (.lst vs)=true:=jW λv h=>Ig (hv v h)
 rw[xa (by decide) hw hw,jF 5 _ hw]
def tf(a c k:Int):[fdV a c k].all L3.flatC=true:=by simp [fdV,nT,fC,iM,je]
def CQ{n:Nat}{sc:Val}{f0 rv wv:Val}{x5 x6 s7 s8 s9:Sl}{bs:List Bx}{vs:List Val}{a c:Int}(h0:bs≠[])(V:∀v∈vs,Th n v)(e1:bf.G [f0,.lst (bs.map bV)]=.ok (.new (.lst vs)) [fdV a c 55]):(ir bf (aa (af 1) (aa (af 4) ag))).G [.sh sc,.ow f0,.sh rv,.ow wv,.ow (.lst (bs.map bV)),x5,x6,s7,s8,s9]=.ok (.new (.lst vs)) [.sh sc,.ow (fdV a c 55),.sh rv,.ow wv,.ow (.lst (bs.map bV)),x5,x6,s7,s8,s9]:=by
 have kb:kBx (bs.map bV)=false:=by
  cases bs with
  |nil=>exact absurd rfl h0
  |cons b bs=>rfl
 have ff:=tf a c 55
 have ap:bU kBx vs=true:=kB λv hv=>z0 (V v hv)
 generalize fdV a c 55=f1 at *
 generalize bs.map bV=bv at *
 have ln:aO [.sh sc,.ow f0,.sh rv,.ow wv,.ow (.lst bv),x5,x6,s7,s8,s9] bf.ms [.bor 1,.bor 4]=[4]:=by simp![bR]
 refine (sy (ts:=[.bor 1,.bor 4]) (e1:=[.sh sc,.ow f0,.sh rv,.ow wv,.ow (.lst bv),x5,x6,s7,s8,s9]) (vs:=[f0,.lst bv]) (r:=.new (.lst vs)) (mv:=[f1]) _ _ (by simp![bR]) (by simp![bR]) (by simp![Nat.reduceBEq]) e1 (by
  rw[ln]
  exact⟨kBx,vs,rfl,λi hi=>by rw[Lo.mp hi];exact⟨bv,rfl,kb⟩,ap,ff⟩)).trans ?_
 simp![bR]
def DP{n:Nat}{sc:Val}{f0 rv wv:Val}{x4 x5 x6 s8 s9:Sl}{bv:List Val}{vs:List Val}{a c:Int}(V:∀v∈vs,Th n v)(e1:bf.G [f0,.lst bv]=.ok (.new (.lst vs)) [fdV a c 55]):(ir bf (aa (af 1) (aa (af 7) ag))).G [.sh sc,.ow f0,.sh rv,.ow wv,x4,x5,x6,.sh (.lst bv),s8,s9]=.ok (.new (.lst vs)) [.sh sc,.ow (fdV a c 55),.sh rv,.ow wv,x4,x5,x6,.sh (.lst bv),s8,s9]:=by
 have ff:=tf a c 55
 have ap:bU kBx vs=true:=kB λv hv=>z0 (V v hv)
 generalize fdV a c 55=f1 at *
 have ln:aO [.sh sc,.ow f0,.sh rv,.ow wv,x4,x5,x6,.sh (.lst bv),s8,s9] bf.ms [.bor 1,.val (.lst bv)]=[]:=by simp![bR]
 refine (sy (ts:=[.bor 1,.val (.lst bv)]) (e1:=[.sh sc,.ow f0,.sh rv,.ow wv,x4,x5,x6,.sh (.lst bv),s8,s9]) (vs:=[f0,.lst bv]) (r:=.new (.lst vs)) (mv:=[f1]) _ _ (by simp![bR]) (by simp![bR]) (by simp![bR]) e1 (by
  rw[ln]
  exact⟨kBx,vs,rfl,(λ_ hi=>nomatch hi),ap,ff⟩)).trans ?_
 simp![bR]
def AK{sc:Val}{rm:Bx}{ws:List Int}{bs:List Bx}{x6:Sl}{m:Nat}{e:E3}(hr:rm.Ok)(hrs:rm.Sz 2010)(hw:Wts m ws)(hm:m<=200)(hb:∀b∈bs,Rn 2000 b)(hl:bs.length=ws.length)(h:LwE sc rm ws bs x6 e):bdQ sc rm ws bs x6 (lL.G e):=by
 obtain⟨a,c,s7,s8,s9,h7,h8,h9,rfl⟩:=h
 have h40:=hw.le
 have hne:bs≠[]:=λz=>hw.ne (Lf.mp (by rw[<- hl,z];rfl))
 obtain⟨a1,c1,vs,V,e1⟩:=sq (a:=a) (c:=c) (k:=55) hb (by omega) hne (by omega)
 obtain⟨q,a2,c2,e2,q0,ql⟩:=ax (a:=a1) (b:=c1) (k:=55) (m:=2) (by decide) (sm8 (by decide))
 unfold lL
 refine ay (λe=>e=[.sh sc,.ow (fdV a1 c1 55),.sh (bV rm),.ow (liV ws),.ow (.lst (bs.map bV)),.sh (liV ws),x6,.sh (.lst vs),s8,s9]) ⟨_,by
  have e1':=CQ (sc:=sc) (rv:=bV rm) (wv:=liV ws) (x5:=.sh (liV ws)) (x6:=x6) (s7:=s7) (s8:=s8) (s9:=s9) hne V.th e1
  generalize fdV a c 55=f0 at *
  generalize fdV a1 c1 55=f1 at *
  generalize bs.map bV=bv at *
  generalize bV rm=rv at *
  generalize liV ws=wv at *
  simp![e1',h7],rfl⟩ ?_
 rintro _ rfl
 refine ay (λe=>∃(a3 c3:Int) (us:List Val),(∀v∈us,Th 2010 v)/\us.length<=1000/\e=[.sh sc,.ow (fdV a3 c3 55),.sh (bV rm),.ow (liV ws),.ow (.lst (bs.map bV)),.sh (liV ws),x6,.sh (.lst us),s8,s9]) ?_ ?_
 ·have up
   : ∀v∈vs,Th 2010 v:=λv hv=>by
   rcases V.th v hv with ⟨b,e,r⟩ |o
   ·exact .inl ⟨b,e,r.mono (by omega)⟩
   ·exact .inr o
  have vl:=V.len
  have ll:((ws.map Val.int).length:Nat)=ws.length:=g_ ..
  obtain⟨s,lc⟩:=CL (by omega) (by omega) V.th
  have lm:((vs.map aR).map Val.bl).length<=16777216:=by rw[g_,g_];omega
  unfold liV
  by_cases hq:q=0
  ·have eq
    : (q==0)=true:=by rw[hq];rfl
   by_cases h0:0<vs.length
   ·have d0:decide ((0:Int)<(vs.length:Nat))=true:=F_ (by omega)
    by_cases h1:vs.length<=ws.length
    ·have d1:decide (((vs.length:Nat):Int)<=(ws.length:Nat))=true:=F_ (by omega)
     cases hA:(vs.map aR).all id with
     |
      true=>
      obtain⟨bs',rfl,rs⟩:=qw V.th λv hv=>by
       have:=I_.mp hA (aR v) (L7 hv)
       exact this
      have lb:(bs'.map bV).length=bs'.length:=g_ ..
      obtain⟨a3,c3,us,U,e3⟩:=sq (a:=a2) (c:=c2) (k:=55) rs (by omega) (λz=>by rw[z] at h0;exact absurd h0 (by decide)) (by omega)
      refine⟨_,?_,a3,c3,us,U.th,by have:=U.len;omega,rfl⟩
      have e3':=DP (sc:=sc) (rv:=bV rm) (wv:=.lst (ws.map .int)) (x4:=.ow (.lst (bs.map bV))) (x5:=.sh (.lst (ws.map .int))) (x6:=x6) (s8:=s8) (s9:=s9) U.th e3
      generalize fdV a1 c1 55=f1 at *
      generalize fdV a2 c2 55=f2 at *
      generalize fdV a3 c3 55=f3 at *
      generalize bs'.map bV=bv' at *
      generalize bs.map bV=bv at *
      generalize bV rm=rv at *
      generalize ws.map Val.int=wv at *
      simp![e2,eq,d0,ll,d1,ba,lc,lm,hA,e3']
     |
      false=>
      refine⟨_,?_,a2,c2,vs,up,by omega,rfl⟩
      generalize fdV a1 c1 55=f1 at *
      generalize fdV a2 c2 55=f2 at *
      generalize bs.map bV=bv at *
      generalize bV rm=rv at *
      generalize ws.map Val.int=wv at *
      simp![e2,eq,d0,ll,d1,ba,lc,lm,hA]
    ·have d1:decide (((vs.length:Nat):Int)<=(ws.length:Nat))=false:=w_ (by omega)
     refine⟨_,?_,a2,c2,vs,up,by omega,rfl⟩
     generalize fdV a1 c1 55=f1 at *
     generalize fdV a2 c2 55=f2 at *
     generalize bs.map bV=bv at *
     generalize bV rm=rv at *
     generalize ws.map Val.int=wv at *
     simp![e2,eq,d0,ll,d1]
   ·have d0:decide ((0:Int)<(vs.length:Nat))=false:=w_ (by omega)
    refine⟨_,?_,a2,c2,vs,up,by omega,rfl⟩
    generalize fdV a1 c1 55=f1 at *
    generalize fdV a2 c2 55=f2 at *
    generalize bs.map bV=bv at *
    generalize bV rm=rv at *
    generalize ws.map Val.int=wv at *
    simp![e2,eq,d0]
  ·have eq:(q==0)=false:=by rw[o_];exact hq
   refine⟨_,?_,a2,c2,vs,up,by omega,rfl⟩
   generalize fdV a1 c1 55=f1 at *
   generalize fdV a2 c2 55=f2 at *
   generalize bs.map bV=bv at *
   generalize bV rm=rv at *
   generalize ws.map Val.int=wv at *
   simp![e2,eq]
 rintro _ ⟨a3,c3,us,U,ul,rfl⟩
 obtain⟨u,fu,f1,f2⟩:=rH hr hrs hw U (by omega)
 have eu:=sZ fu
 have ef:=mX fu
 have es:=Kc U
 have ew:=HG ws
 refine ay (λe=>e=[.sh sc,.ow (fdV a3 c3 55),.sh (bV rm),.ow (liV ws),.ow (.lst (bs.map bV)),.sh (liV ws),x6,.sh (.lst us),.sh (.lst us),s9]) ⟨_,by
  generalize fdV a3 c3 55=f3 at *
  generalize bs.map bV=bv at *
  generalize bV rm=rv at *
  generalize liV ws=wv at *
  simp![h8],rfl⟩ ?_
 rintro _ rfl
 refine ay (λe=>e=[.sh sc,.ow (fdV a3 c3 55),.sh (bV rm),.ow (liV ws),.ow (.lst (bs.map bV)),.sh (liV ws),x6,.sh (.lst us),.sh (.lst us),.sh u]) ⟨_,by
  generalize fdV a3 c3 55=f3 at *
  generalize bs.map bV=bv at *
  generalize bV rm=rv at *
  generalize liV ws=wv at *
  simp![h9,f1,ef],rfl⟩ ?_
 rintro _ rfl
 refine ay (λe=>e=[.sh sc,.ow (fdV a3 c3 55),.sh (bV rm),.ow (liV ws),.ow (.lst (bs.map bV)),.sh (liV ws),x6,.sh (.lst us),.sh (.lst us),.sh u]) ⟨_,by
  generalize fdV a3 c3 55=f3 at *
  generalize bs.map bV=bv at *
  generalize bV rm=rv at *
  generalize liV ws=wv at *
  simp![f2,ef,eu,es,ew],rfl⟩ ?_
 rintro _ rfl
 rcases fu with rfl |⟨s,xs,hs,hx,rfl⟩
 ·refine⟨_,?_,a3,c3,.sh (.lst us),.sh (.lst us),.sh .non,rfl,rfl,rfl,rfl⟩
  generalize fdV a3 c3 55=f3 at *
  generalize bs.map bV=bv at *
  generalize bV rm=rv at *
  generalize liV ws=wv at *
  simp![bR]
 ·refine⟨_,?_,a3,c3,.sh (.lst us),.sh (.lst us),.sh (.tup (.str s::xs.map .int)),rfl,rfl,rfl,rfl⟩
  obtain⟨s',lc⟩:=AQ (s:=s) hx
  have lm:((false::xs.map λ_=>false).map Val.bl).length<=16777216:=by rw[g_,Em,g_];omega
  have an:(false::xs.map λ_=>false).any id=false:=by simp
  have bm:=kD (false::xs.map λ_=>false)
  have it:=A1 (.str s::xs.map .int)
  generalize (false::xs.map λ_=>false)=fl at *
  generalize fdV a3 c3 55=f3 at *
  generalize bs.map bV=bv at *
  generalize bV rm=rv at *
  generalize liV ws=wv at *
  generalize (Val.str s::xs.map .int)=tv at *
  simp![it,ba,lc,lm,bm,an]
theorem uT{M:Int}:∀{ws:List Int},(∀w∈ws,1<=w/\w<=M)->0<=ws.sum/\ws.sum<=(ws.length:Int)*M
 | [],_=>by simp
 |
  w::ws,h=>by
  have h1:=h w (m_ ..)
  have h2:=uT (ws:=ws) λx hx=>h x (i_ _ hx)
  rw[Kq,Em,Int.natCast_add,Int.add_mul]
  omega
def pW{ws:List Int}(h0:ws≠[])(hl:ws.length<=40)(h:∀w∈ws,1<=w/\w<=1000000000000000000000000000000):Wts 110 ws:=by
 have e:(2:Nat)^110=1298074214633706907132624082305024:=by decide
 refine⟨h0,λw hw=>(h w hw).1,hl,λw hw=>?_,?_⟩
 ·have:=h w hw
  show w.natAbs<2^110
  omega
 ·have:=uT h
  show ws.sum.natAbs<2^110
  omega
def xH(r:SR3):Prop:=kF [false] r=.ok (.val (.bl true)) []
def Dy{r:Int}:∃m:Int,1<=m/\m<=40/\atI [Val.int 9,.int 40] (if (r==0)=true then 1 else 0)=some (.int m):=by
 by_cases h:r=0
 ·exact⟨40,by decide,by decide,by rw[h];exact aS (by decide) rfl⟩
 ·have e:(r==0)=false:=by rw[o_];exact h
  exact⟨9,by decide,by decide,by rw[e];exact aS (by decide) rfl⟩
def AV{sc:Val}{rm:Bx}{ws:List Int}{bs:List Bx}{e:E3}{x6:Sl}(hr:rm.Ok)(hrs:rm.Sz 2010)(hwl:ws.length<=40)(h0:ws≠[])(hp:∀w∈ws,1<=w/\w<=1000000000000000000000000000000)(hb:∀b∈bs,Rn 2000 b)(hl:bs.length=ws.length)(ft:eK rm ws bs=.non)(h:LwE sc rm ws bs x6 e):
 xH ((ao (xIf (qOf (pOp kK (ak bp (aa (af 2) (aa (af 3) (aa (af 4) ag)))) fg)) (aB (pBl false)) xNx)
 (ao (cH (gX 4 cL (aa (pOp bIx (af 4) (ah 0)) ag)))
 (ao (xIf (qOf (pOp bNe (ak bp (aa (af 2) (aa (af 3) (aa (af 4) ag)))) (aG (aa (bT "count") ag)))) (aB (pBl false)) xNx)
 (ao (cH (gX 3 cL (aa (ah 1) ag)))
 (ao (cH (lQ 4 l6))
 (aB (pOp bEq (ak bp (aa (af 2) (aa (pSl (af 3) oN (oS (ah 40))) (aa (af 4) ag)))) (ak bB (aa (af 2) (aa (pSl (af 3) oN (oS (ah 40))) (aa (af 4) ag))))))))))).G e):=by
 obtain⟨a,c,s7,s8,s9,h7,h8,h9,rfl⟩:=h
 have W:=pW h0 hwl hp
 have f1:=ku hr hrs W hl (λb h=>(hb b h).ok) (λb h=>((hb b h).mono (show 2000<=2010 by decide)).sz) (by decide)
 rw[ft] at f1
 have ll:(bs.map bV).length=bs.length:=g_ ..
 have lw:(ws.map Val.int).length=ws.length:=g_ ..
 refine ay (λe=>e=[.sh sc,.ow (fdV a c 55),.sh (bV rm),.ow (liV ws),.ow (.lst (bs.map bV)),.sh (liV ws),x6,s7,s8,s9]) ⟨_,by
  unfold liV
  generalize fdV a c 55=f3 at *
  generalize bs.map bV=bv at *
  generalize bV rm=rv at *
  generalize ws.map Val.int=wv at *
  simp![f1],rfl⟩ ?_
 rintro _ rfl
 obtain⟨b0,a0⟩:∃v,atI (bs.map bV) 0=some v:=by
  cases bs with
  |nil=>exact absurd (Lf.mp hl.symm) h0
  |cons b bs=>exact⟨bV b,aS (by decide) rfl⟩
 have c1:=j9 (bs:=bs.map bV++[b0]) hr W (by rw[r_,ll,La];omega)
 have qc:cA (.tup [.str "count"]) (.tup [.str "count"])=some true:=sZ (gy [] (by decide) (by simp))
 have fc:L3.flatV (.tup [.str "count"])=true:=mX (gy [] (by decide) (by simp))
 refine ay (λe=>e=[.sh sc,.ow (fdV a c 55),.sh (bV rm),.ow (liV ws),.ow (.lst (bs.map bV++[b0])),.sh (liV ws),x6,s7,s8,s9]) ⟨_,by
  have l1:(bs.map bV).length<16777216:=by omega
  unfold liV
  generalize fdV a c 55=f3 at *
  generalize bs.map bV=bv at *
  generalize bV rm=rv at *
  generalize ws.map Val.int=wv at *
  simp![a0,l1],rfl⟩ ?_
 rintro _ rfl
 refine ay (λe=>e=[.sh sc,.ow (fdV a c 55),.sh (bV rm),.ow (liV ws),.ow (.lst (bs.map bV++[b0])),.sh (liV ws),x6,s7,s8,s9]) ⟨_,by
  unfold liV
  generalize fdV a c 55=f3 at *
  generalize bs.map bV++[b0]=bv at *
  generalize bV rm=rv at *
  generalize ws.map Val.int=wv at *
  simp![c1,qc,fc],rfl⟩ ?_
 rintro _ rfl
 refine ay (λe=>e=[.sh sc,.ow (fdV a c 55),.sh (bV rm),.ow (liV (ws++[1])),.ow (.lst (bs.map bV++[b0])),.sh (liV ws),x6,s7,s8,s9]) ⟨_,by
  have l1:(ws.map Val.int).length<16777216:=by omega
  unfold liV
  rw[KO]
  generalize fdV a c 55=f3 at *
  generalize bs.map bV++[b0]=bv at *
  generalize bV rm=rv at *
  generalize ws.map Val.int=wv at *
  simp![l1],rfl⟩ ?_
 rintro _ rfl
 refine ay (λe=>e=[.sh sc,.ow (fdV a c 55),.sh (bV rm),.ow (liV (ws++[1])),.ow (.lst (bs.map bV)),.sh (liV ws),x6,s7,s8,s9]) ⟨_,by
  have po:=qM (bs.map bV) b0
  generalize liV (ws++[1])=w1 at *
  generalize liV ws=w2 at *
  generalize fdV a c 55=f3 at *
  generalize bs.map bV=bv at *
  generalize bV rm=rv at *
  simp![po],rfl⟩ ?_
 rintro _ rfl
 have W2:Wts 110 ((ws++[1]).take 40):=pW (λz=>by
  have z2:=Lj List.length z
  rw[Kw,r_] at z2
  have:([1]:List Int).length=1:=rfl
  have:([]:List Int).length=0:=rfl
  omega) (by rw[Kw];omega) λw hw=>by
  rcases KC.mp (Ly hw) with hw |hw
  ·exact hp w hw
  ·rw[Lo.mp hw];decide
 obtain⟨u,fu,g1,g2⟩:=rH (vs:=bs.map bV) hr hrs W2 (λv hv=>by
  obtain⟨b,h,rfl⟩:=Kr.mp hv
  exact .inl ⟨b,rfl,(hb b h).mono (by decide)⟩) (by decide)
 have ct:fL ((ws++[1]).map Val.int) none (some 40)=((ws++[1]).take 40).map .int:=by rw[show (some 40:Option Int)=some ((40:Nat):Int) from rfl,lF,List.map_take]
 have eu:=sZ fu
 have ef:=mX fu
 unfold xH
 unfold liV at g1 g2 ⊢
 generalize fdV a c 55=f3 at *
 generalize bs.map bV=bv at *
 generalize bV rm=rv at *
 generalize ((ws++[1]).take 40).map Val.int=w4 at *
 generalize (ws++[1]).map Val.int=w5 at *
 generalize ws.map Val.int=w6 at *
 simp![mh,ct,g1,g2,eu,ef,jR]
def EC(ns:List Int)(hl:ns.length<=63):ox.G [.kl (ns.map .int)]=.ok (.val (.bl true)) []:=by
 unfold ox
 rw[lG rfl]
 show xH (uO.G [.sh (.kl (ns.map .int)),.no,.no,.no,.no,.no,.no,.no,.no,.no])
 unfold uO
 obtain⟨a,e0⟩:=mH (ns:=ns) (k:=55) (by omega)
 refine ay (λe=>e=[.sh (.kl (ns.map .int)),.ow (fdV a 0 55),.no,.no,.no,.no,.no,.no,.no,.no]) ⟨_,by simp![e0],rfl⟩ ?_
 rintro _ rfl
 obtain⟨b,a1,c1,g,e1⟩:=B8 a 0 55
 refine ay (λe=>e=[.sh (.kl (ns.map .int)),.ow (fdV a1 c1 55),.sh (bV b),.no,.no,.no,.no,.no,.no,.no]) ⟨_,by simp![e1],rfl⟩ ?_
 rintro _ rfl
 obtain⟨r,a2,c2,e2,_,_⟩:=ax (a:=a1) (b:=c1) (k:=55) (m:=6) (by decide) (sm8 (by decide))
 obtain⟨m,m1,m2,pm⟩:=Dy (r:=r)
 obtain⟨ws,p1,p2,p3,p4,p5⟩:=tX (ns:=ns) (at_:=0) (most:=m) (by decide) ⟨m1,m2⟩
 have W:WOk ws:=⟨p1,by omega,p3,λh=>p4 (by omega)⟩
 have h0:ws≠[]:=λz=>by rw[z] at p1;exact absurd p1 (by decide)
 refine ay (λe=>e=[.sh (.kl (ns.map .int)),.ow (fdV a2 c2 55),.sh (bV b),.ow (liV ws),.no,.no,.no,.no,.no,.no]) ⟨_,by
  generalize liV ws=wv at *
  generalize bV b=bv at *
  generalize fdV a1 c1 55=f1 at *
  generalize fdV a2 c2 55=f2 at *
  simp![e2,pm,p5],rfl⟩ ?_
 rintro _ rfl
 obtain⟨t,a3,c3,T,R,e3⟩:=wF (a:=a2) (c:=c2) (k:=55) g W
 have ft:=T.ft
 have hb:∀x∈(List.range ws.length).map (λj=>bxO (AT.bx ws t b) j),Rn 2000 x:=λx hx=>by
  obtain⟨j,hj,rfl⟩:=Kr.mp hx
  exact R j (K3.mp hj)
 have lb:((List.range ws.length).map λj=>bxO (AT.bx ws t b) j).length=ws.length:=by rw[g_,Ld]
 generalize (List.range ws.length).map (λj=>bxO (AT.bx ws t b) j)=bs at *
 have fb:L3.flatVs (bs.map bV)=true:=iP _ Ic bs
 have ff:=tf a3 c3 55
 have wt:=pW h0 W.len p3
 have gs:b.Sz 2010:=g.sz.mono (by decide)
 refine ay (λe=>e=[.sh (.kl (ns.map .int)),.ow (fdV a3 c3 55),.sh (bV b),.ow (liV ws),.ow (.lst (bs.map bV)),.no,.no,.no,.no,.no]) ⟨_,by
  generalize liV ws=wv at *
  generalize bV b=bv at *
  generalize bs.map bV=bl at *
  generalize fdV a2 c2 55=f2 at *
  generalize fdV a3 c3 55=f3 at *
  simp![e3,fb,ff,Nat.reduceBEq],rfl⟩ ?_
 rintro _ rfl
 refine ay (λe=>e=[.sh (.kl (ns.map .int)),.ow (fdV a3 c3 55),.sh (bV b),.ow (liV ws),.ow (.lst (bs.map bV)),.sh (liV ws),.no,.no,.no,.no]) ⟨_,by
  unfold liV
  generalize ws.map Val.int=wv at *
  generalize bV b=bv at *
  generalize bs.map bV=bl at *
  generalize fdV a3 c3 55=f3 at *
  simp![bR],rfl⟩ ?_
 rintro _ rfl
 have f1:=ku g.ok gs wt lb (λb h=>(hb b h).ok) (λb h=>((hb b h).mono (show 2000<=2010 by decide)).sz) (by decide)
 rw[ft] at f1
 refine ay (λe=>e=[.sh (.kl (ns.map .int)),.ow (fdV a3 c3 55),.sh (bV b),.ow (liV ws),.ow (.lst (bs.map bV)),.sh (liV ws),.no,.no,.no,.no]) ⟨_,by
  unfold liV
  generalize ws.map Val.int=wv at *
  generalize bV b=bv at *
  generalize bs.map bV=bl at *
  generalize fdV a3 c3 55=f3 at *
  simp![f1],rfl⟩ ?_
 rintro _ rfl
 have rg:gu [.int 4]=some [.int 0,.int 1,.int 2,.int 3]:=mF (i:=4) (by decide) (by decide)
 obtain⟨e',⟨x6,_,LW⟩,lo⟩:=pA (g:=(gtN 6).G) (B:=lL.G) (λe=>∃x6:Sl,x6.pl=true/\LwE (.kl (ns.map .int)) b ws bs x6 e) [.int 0,.int 1,.int 2,.int 3] [.sh (.kl (ns.map .int)),.ow (fdV a3 c3 55),.sh (bV b),.ow (liV ws),.ow (.lst (bs.map bV)),.sh (liV ws),.no,.no,.no,.no] ⟨.no,rfl,a3,c3,.no,.no,.no,rfl,rfl,rfl,rfl⟩ (by
  rintro v hv _ ⟨x6,h6,a4,c4,s7,s8,s9,h7,h8,h9,rfl⟩
  obtain⟨e2,q1,q2⟩:=AK (x6:=.sh v) g.ok gs wt (by decide) hb lb ⟨a4,c4,s7,s8,s9,h7,h8,h9,rfl⟩
  refine⟨_,e2,?_,.inl q1,.sh v,rfl,q2⟩
  generalize liV ws=wv at *
  generalize bV b=bv at *
  generalize bs.map bV=bl at *
  generalize fdV a4 c4 55=f3 at *
  simp![h6])
 refine ay (λe=>e=e') ⟨_,by
  generalize liV ws=wv at *
  generalize bV b=bv at *
  generalize bs.map bV=bl at *
  generalize fdV a3 c3 55=f3 at *
  simp![rg,lo],rfl⟩ ?_
 rintro _ rfl
 exact AV g.ok gs W.len h0 p3 hb lb ft LW
end KK
namespace PySem.W.Fast
noncomputable def tw1009630182114661793:=trivial
noncomputable def tw101415416255065671:=trivial
noncomputable def tw10170731596836307268:=trivial
noncomputable def tw10204741496847111486:=trivial
noncomputable def tw10237205797987193763:=trivial
noncomputable def tw10250193725671571210:=trivial
noncomputable def tw1027046030125558255:=trivial
noncomputable def tw10553992329241587112:=trivial
noncomputable def tw10593733484503971187:=trivial
noncomputable def tw10615817554806233405:=trivial
noncomputable def tw10623036159930472029:=trivial
noncomputable def tw10700249405578807197:=trivial
noncomputable def tw11085826885102850989:=trivial
noncomputable def tw11291752425791699271:=trivial
noncomputable def tw11335413816656223718:=trivial
noncomputable def tw11363470577577373902:=trivial
noncomputable def tw1146348630198409161:=trivial
noncomputable def tw11469131061279792858:=trivial
noncomputable def tw1154024113808195089:=trivial
noncomputable def tw11587343132312293365:=trivial
noncomputable def tw11591328165126495536:=trivial
noncomputable def tw116423644590881604:=trivial
noncomputable def tw11759409566174793709:=trivial
noncomputable def tw11812034931179464926:=trivial
noncomputable def tw1185877305255433946:=trivial
noncomputable def tw11909215224201251910:=trivial
noncomputable def tw12027279814103627466:=trivial
noncomputable def tw12090200797589583166:=trivial
noncomputable def tw12090533745302881241:=trivial
noncomputable def tw12096411478700961014:=trivial
noncomputable def tw12146443789431020330:=trivial
noncomputable def tw12163163364749717783:=trivial
noncomputable def tw12251351467535956592:=trivial
noncomputable def tw12432493035561874935:=trivial
noncomputable def tw12470909961647136516:=trivial
noncomputable def tw12538471144770020738:=trivial
noncomputable def tw12540997380627614858:=trivial
noncomputable def tw12649430635758492907:=trivial
noncomputable def tw12695181436124966181:=trivial
noncomputable def tw12726598013205114118:=trivial
noncomputable def tw12745801066370543840:=trivial
noncomputable def tw12756220728792820579:=trivial
noncomputable def tw12822013385304333750:=trivial
noncomputable def tw12845526504409479318:=trivial
noncomputable def tw12898911644513528639:=trivial
noncomputable def tw12923005700745197299:=trivial
noncomputable def tw12943251112386736720:=trivial
noncomputable def tw13105057279499782315:=trivial
noncomputable def tw13119233358853298483:=trivial
noncomputable def tw13121781664923989587:=trivial
noncomputable def tw13152608345863777673:=trivial
noncomputable def tw13159197214445616107:=trivial
noncomputable def tw13334063246071916267:=trivial
noncomputable def tw13352444460036337060:=trivial
noncomputable def tw13355854123184629143:=trivial
noncomputable def tw13407851531412397848:=trivial
noncomputable def tw13467290902819739101:=trivial
noncomputable def tw13479747826268558309:=trivial
noncomputable def tw13496656074042586092:=trivial
noncomputable def tw13498276571310415719:=trivial
noncomputable def tw13600910216563199251:=trivial
noncomputable def tw13691843466907312215:=trivial
noncomputable def tw13730286592389661171:=trivial
noncomputable def tw13809487002795331959:=trivial
noncomputable def tw13903914078098391152:=trivial
noncomputable def tw14048557296276059617:=trivial
noncomputable def tw14081104694142892513:=trivial
noncomputable def tw1408609835692534746:=trivial
noncomputable def tw14148687135202550754:=trivial
noncomputable def tw14210139815252221717:=trivial
noncomputable def tw14211166130203372295:=trivial
noncomputable def tw14372868549495540794:=trivial
noncomputable def tw14438497898309061195:=trivial
noncomputable def tw14479646894777527254:=trivial
noncomputable def tw14613466716853805546:=trivial
noncomputable def tw14640199208573446860:=trivial
noncomputable def tw14662426619820615348:=trivial
noncomputable def tw14749430295342750676:=trivial
noncomputable def tw14771300618310506568:=trivial
noncomputable def tw14798937205005976714:=trivial
noncomputable def tw14863654731605230552:=trivial
noncomputable def tw14871476633357010671:=trivial
noncomputable def tw14927160379875240650:=trivial
noncomputable def tw14941036142837861374:=trivial
noncomputable def tw14973210909026512734:=trivial
noncomputable def tw14976999209449826966:=trivial
noncomputable def tw15085531803058263766:=trivial
noncomputable def tw15169892912931646767:=trivial
noncomputable def tw15192997401263898230:=trivial
noncomputable def tw15228605028898740368:=trivial
noncomputable def tw15261056874464611518:=trivial
noncomputable def tw15292991765112599388:=trivial
noncomputable def tw15322637115017344476:=trivial
noncomputable def tw15334915342556711242:=trivial
noncomputable def tw1542281439732151274:=trivial
noncomputable def tw15504144715835858951:=trivial
noncomputable def tw15550524852548435685:=trivial
noncomputable def tw15583997466133037528:=trivial
noncomputable def tw15662404226503234866:=trivial
noncomputable def tw15743495731393771452:=trivial
noncomputable def tw15745486762445352140:=trivial
noncomputable def tw15748151274319330245:=trivial
noncomputable def tw15883612074940649514:=trivial
noncomputable def tw16113564467754516489:=trivial
noncomputable def tw1612913962188567201:=trivial
noncomputable def tw16145008615440498595:=trivial
noncomputable def tw16217537270226584999:=trivial
noncomputable def tw16305819467958770931:=trivial
noncomputable def tw16414872783484659035:=trivial
noncomputable def tw16450601315380257828:=trivial
noncomputable def tw16592847618781134651:=trivial
noncomputable def tw166647879193037283:=trivial
noncomputable def tw16684160017862740183:=trivial
noncomputable def tw16712800840863729767:=trivial
noncomputable def tw16820100984638972771:=trivial
noncomputable def tw16846682193734761991:=trivial
noncomputable def tw16919076390385257802:=trivial
noncomputable def tw16976112940160510664:=trivial
noncomputable def tw17052026595309368444:=trivial
noncomputable def tw17209217903343686654:=trivial
noncomputable def tw17218513798348127411:=trivial
noncomputable def tw17319492383567261117:=trivial
noncomputable def tw17413353121916606274:=trivial
noncomputable def tw17431183869807235349:=trivial
noncomputable def tw17539532809159341455:=trivial
noncomputable def tw17542471192567122867:=trivial
noncomputable def tw17549811171180739384:=trivial
noncomputable def tw17554389968379174969:=trivial
noncomputable def tw17615267599763704352:=trivial
noncomputable def tw17785460241947555197:=trivial
noncomputable def tw17850296785024388732:=trivial
noncomputable def tw1791336323084351580:=trivial
noncomputable def tw17939898601422404318:=trivial
noncomputable def tw17981948809573036356:=trivial
noncomputable def tw18053926387642213543:=trivial
noncomputable def tw18116025985310935455:=trivial
noncomputable def tw18116756877646275142:=trivial
noncomputable def tw18119547576426779104:=trivial
noncomputable def tw18125199983438198328:=trivial
noncomputable def tw18156688208360862254:=trivial
noncomputable def tw18198555686296568297:=trivial
noncomputable def tw18255947723154185489:=trivial
noncomputable def tw18287305196424815747:=trivial
noncomputable def tw18305093584196563406:=trivial
noncomputable def tw18311004057009819380:=trivial
noncomputable def tw1838808262675494577:=trivial
noncomputable def tw18445680291821154061:=trivial
noncomputable def tw1868777956683669456:=trivial
noncomputable def tw189417766614393889:=trivial
noncomputable def tw1931493746802814128:=trivial
noncomputable def tw1955307454072447432:=trivial
noncomputable def tw2001862596161887175:=trivial
noncomputable def tw2010961937422148497:=trivial
noncomputable def tw2031865545412792969:=trivial
noncomputable def tw2060971849590887976:=trivial
noncomputable def tw2133954357343898370:=trivial
noncomputable def tw2146074652852864552:=trivial
noncomputable def tw2444071643953269438:=trivial
noncomputable def tw2484119428010529220:=trivial
noncomputable def tw2532383777991218755:=trivial
noncomputable def tw2576036313127813936:=trivial
noncomputable def tw2610050282884233410:=trivial
noncomputable def tw275200391486035575:=trivial
noncomputable def tw286586915591393279:=trivial
noncomputable def tw2900959456235077967:=trivial
noncomputable def tw2921911579981913642:=trivial
noncomputable def tw3158988512411769772:=trivial
noncomputable def tw3167709501929275992:=trivial
noncomputable def tw3204406166740649423:=trivial
noncomputable def tw3236135963163841406:=trivial
noncomputable def tw333172142294421153:=trivial
noncomputable def tw3386259264886055989:=trivial
noncomputable def tw3410918362545335180:=trivial
noncomputable def tw3546116195184335710:=trivial
noncomputable def tw3601154484942594979:=trivial
noncomputable def tw3636183486599969532:=trivial
noncomputable def tw3664164940477864185:=trivial
noncomputable def tw3758425162551263178:=trivial
noncomputable def tw3767697394437013081:=trivial
noncomputable def tw3814491741116329605:=trivial
noncomputable def tw3861638336039001975:=trivial
noncomputable def tw3909117697591341012:=trivial
noncomputable def tw3945955844234684253:=trivial
noncomputable def tw3975712955484079541:=trivial
noncomputable def tw4026049235988525343:=trivial
noncomputable def tw404009965401129975:=trivial
noncomputable def tw4065559820893168392:=trivial
noncomputable def tw4097130065045259683:=trivial
noncomputable def tw4128993446069673712:=trivial
noncomputable def tw4225490298888106292:=trivial
noncomputable def tw4271009361679618196:=trivial
noncomputable def tw4355080657039238374:=trivial
noncomputable def tw4360406323164456844:=trivial
noncomputable def tw4375736503309301419:=trivial
noncomputable def tw4420307969694509825:=trivial
noncomputable def tw4455931973423352255:=trivial
noncomputable def tw4583172953063685488:=trivial
noncomputable def tw4586286148227648467:=trivial
noncomputable def tw4613077254395078438:=trivial
noncomputable def tw473096223015202601:=trivial
noncomputable def tw4804948073614014493:=trivial
noncomputable def tw4830285041828574703:=trivial
noncomputable def tw484688901349469983:=trivial
noncomputable def tw4867737300338531195:=trivial
noncomputable def tw4879527168125337030:=trivial
noncomputable def tw4896086184211017909:=trivial
noncomputable def tw500596827509496622:=trivial
noncomputable def tw5062965253239860042:=trivial
noncomputable def tw5063048285115819336:=trivial
noncomputable def tw5149452720445668211:=trivial
noncomputable def tw5173357624546929639:=trivial
noncomputable def tw5236250162699120618:=trivial
noncomputable def tw5292949763099017842:=trivial
noncomputable def tw5353669345502079363:=trivial
noncomputable def tw5378252941342861990:=trivial
noncomputable def tw5410834194401225539:=trivial
noncomputable def tw5564032395747082965:=trivial
noncomputable def tw5595815277904701103:=trivial
noncomputable def tw5596735842678150383:=trivial
noncomputable def tw5675045996018445813:=trivial
noncomputable def tw5681896071762457692:=trivial
noncomputable def tw5789858721743009984:=trivial
noncomputable def tw580540113547038656:=trivial
noncomputable def tw5817911941223863851:=trivial
noncomputable def tw5957019003225527626:=trivial
noncomputable def tw6021531932947165687:=trivial
noncomputable def tw6078745012702664966:=trivial
noncomputable def tw6094575131221729790:=trivial
noncomputable def tw6126126732861505710:=trivial
noncomputable def tw6369780914539781173:=trivial
noncomputable def tw6407678029954748850:=trivial
noncomputable def tw6533593358697421040:=trivial
noncomputable def tw6538553993129889866:=trivial
noncomputable def tw655536825969270235:=trivial
noncomputable def tw6628024584393392972:=trivial
noncomputable def tw6706342578649418325:=trivial
noncomputable def tw6833697592650362688:=trivial
noncomputable def tw6873871778882753433:=trivial
noncomputable def tw6899767377243992974:=trivial
noncomputable def tw6971397977811282470:=trivial
noncomputable def tw7040170616059713669:=trivial
noncomputable def tw7127410475606158590:=trivial
noncomputable def tw7184552856402068045:=trivial
noncomputable def tw7190245122673865697:=trivial
noncomputable def tw7217404550669577415:=trivial
noncomputable def tw7253951684704085757:=trivial
noncomputable def tw7335542306713576432:=trivial
noncomputable def tw7338850824373279921:=trivial
noncomputable def tw7471289178698180431:=trivial
noncomputable def tw7507028088195214749:=trivial
noncomputable def tw7531584176003565180:=trivial
noncomputable def tw7539155837470344752:=trivial
noncomputable def tw77583197723736955:=trivial
noncomputable def tw7817737867442453495:=trivial
noncomputable def tw7941257441633800792:=trivial
noncomputable def tw7988747170929870627:=trivial
noncomputable def tw8059294529388035382:=trivial
noncomputable def tw8078398702504643865:=trivial
noncomputable def tw814926255879405676:=trivial
noncomputable def tw8153695896618081968:=trivial
noncomputable def tw8166373224556261262:=trivial
noncomputable def tw8184003037287121983:=trivial
noncomputable def tw8228863609820692446:=trivial
noncomputable def tw8244932029337716944:=trivial
noncomputable def tw8387406752811702837:=trivial
noncomputable def tw8494164397789683896:=trivial
noncomputable def tw8541468112719116086:=trivial
noncomputable def tw8980138428885930655:=trivial
noncomputable def tw9060108452855744193:=trivial
noncomputable def tw9073148178356721599:=trivial
noncomputable def tw9153463071019651263:=trivial
noncomputable def tw9223332457801188021:=trivial
noncomputable def tw9235134796170979326:=trivial
noncomputable def tw928842917959982976:=trivial
noncomputable def tw9318728957525641118:=trivial
noncomputable def tw9386004442469250165:=trivial
noncomputable def tw9422297912606237907:=trivial
noncomputable def tw9511481723693027350:=trivial
noncomputable def tw9605217578855924824:=trivial
noncomputable def tw9750033059026517622:=trivial
noncomputable def tw9830663819220606430:=trivial
noncomputable def tw9845465059534678677:=trivial
noncomputable def tw9870225239848973083:=trivial
end PySem.W.Fast
open PySem PySem.W PyProof.Rows L2 L3 KK
set_option maxRecDepth 100000 in
set_option maxHeartbeats 0 in
theorem PySem.Challenge.cw_weightrooms_k08_looked_at_holds : PySem.Challenge.rw_weightrooms_k08_looked_at.Holds := by
 w_on;o_law;k_head;(case hw=>w_witness2)
 k_fill
 refine L2.walk_lawD (l:=PySem.Challenge.rw_weightrooms_k08_looked_at) (x:="_law_script") (k:=7) rfl rfl ⟨rfl,by decide,by decide⟩ (λw h Y=>W.kIn_of Y) ?F ?D
 case F=>
  intro w mg h KX G base kb nb
  refine zm (CF ⟨JC KX G (by kernel_rfl),?_⟩) (law3 ox rfl EC)
  repeat first
   |exact trivial
   |refine⟨by refine' wx KX G ?a ?l ?c ?k;(case a=>k_is);(case l=>k_is);(case c=>k_is);(case k=>k_is),?_⟩
 case D=>
  intro w mg h KX G
  refine⟨top 44,?_,(λ_ _ _ _ _ _=>ar1 λ_=>rfl)⟩
  refine' wx KX G ?a ?l ?c ?k;case a|l|c|k=>k_is
