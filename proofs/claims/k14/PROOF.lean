import PyProof.Rows.All
import Wide.All
import OpenK.AllK
import Wide.FinOn
import Lean
import PyProof.EqAt
import PyProof.EqKinds
import PyProof.TupleCall
import PyProof.Rows.SumAny
import PyProof.EnumMake
import PyProof.Draws
import PyProof.ZipIter
import KE.KUnpack
import KE.KxIndex
import PyProof.SetRoads
import PyProof.SetNew
import PyProof.AutoSeq1
import KE.KRevSl
import PyProof.SeqI3
import PySem.Challenge.RW_weightrooms_k14_plain_forms
local macro_rules|`(tactic|trivial)=>`(tactic|first|exact Or.inl rfl|exact Or.inr rfl)
local macro_rules|`(tactic|decide)=>`(tactic|decide +kernel)
set_option genSizeOf false
set_option genInjectivity false
set_option bootstrap.genMatcherCode false
noncomputable section
set_option Elab.async false
set_option linter.all false
def N_:=@List.length_map
def Oa:=@PySem.wpAny_bind
def Od:=@List.mem_cons_of_mem
def Oe:=@List.getElem?_eq_some_iff
def Of:=@List.mem_cons_self
def Og:=@Nat.le_refl
def Oh:=@List.length_append
def Oi:=@List.map_cons
def Oj:=@Bool.and_eq_true
def Ol:=@Bool.false_ne_true
def Om:=@List.size_toArray
def Oo:=@PySem.Heap.get?_push_of_some
def Oq:=@List.length_cons
def Ot:=@PySem.Heap.lt_size
def Ou:=@PySem.wpAny_pure
def Ov:=@List.getElem?_eq_getElem
def Ow:=@Nat.le_trans
def Ox:=@Nat.lt_of_lt_of_le
def Oy:=@List.mem_cons
def Oz:=@List.length_set
def OA:=@decide_eq_false
def OB:=@beq_eq_false_iff_ne
def OC:=@List.getElem?_append_right
def OD:=@PySem.Heap.get?_push_size
def OE:=@Option.some.inj
def OF:=@List.getElem?_append_left
def OG:=@List.length_nil
def OH:=@List.getElem?_map
def OI:=@decide_eq_true
def OJ:=@Option.map_eq_some_iff
def OK:=@List.mem_append_right
def OL:=@List.map_nil
def OM:=@Nat.ne_of_lt
def ON:=@Option.isSome_iff_exists
def OO:=@Nat.zero_le
def OP:=@Option.bind_eq_some_iff
def OQ:=@List.map_append
def OR:=@List.nil_append
def OS:=@List.mem_map
def OT:=@List.append_nil
def OU:=@List.sum_cons
def OV:=@List.all_eq_true
def OW:=@List.getD_eq_getElem?_getD
def OX:=@PySem.wpAny_mono
def OY:=@Int.toNat_natCast
def OZ:=@List.find?_cons
def O0:=@List.mem_append
def O1:=@PySem.W.mg_none_of
def O2:=@PySem.wpAny_field
def O3:=@List.getElem?_replicate
def O4:=@List.mem_of_getElem?
def O5:=@Int.natAbs_mul
def O6:=@Nat.mul_le_mul
def O7:=@List.append_assoc
def O8:=@List.mem_map_of_mem
def O9:=@List.length_replicate
def O_:=@List.cons_append
def Pa:=@List.mem_singleton
def Pb:=@congrArg
def Pc:=@Int.mul_assoc
def Pd:=@List.any_cons
def Pe:=@Nat.lt_irrefl
def Pf:=@of_decide_eq_true
def Pg:=@PySem.wpAny_newObj_type
def Ph:=@Rat.intCast_mul
def Pj:=@PySem.mem_of_lookup
def Pk:=@List.length_take
def Pl:=@if_true
def Pm:=@List.getElem?_eq_none_iff
def Pn:=@List.mem_or_eq_of_mem_set
def Pp:=@Nat.mul_pos
def Pq:=@PySem.F.slot_list_append
def Pr:=@PySem.F.type_list_append
def Pt:=@List.reverse_cons
def Pu:=@PySem.wpAny_callSpecial?_slot
def Pw:=@List.filterMap_cons
def Px:=@List.mem_range
def Py:=@PySem.wpAny_seqItems
def Pz:=@List.take_of_length_le
def PC:=@Bool.false_eq_true
def PD:=@Nat.sub_self
def PF:=@PySem.wpAny_setField_rec
def PH:=@Int.natCast_mul
def PJ:=@List.getElem?_zipWith
def PK:=@PySem.wpAny_passesOwn
def PL:=@PySem.F.slot_tuple_iterator_next
def PM:=@PySem.wpAny_truthy_bool
def PN:=@List.lookup_cons
def PQ:=@List.map_map
def PR:=@PySem.F.slot_list_extend
def PU:=@beq_self_eq_true
def PX:=@List.length_zipWith
def PY:=@Nat.mul_le_mul_left
def PZ:=@List.all_cons
def P0:=@List.take_nil
def P1:=@List.nodup_cons
def P2:=@Nat.lt_of_le_of_lt
def P4:=@Nat.not_lt_zero
def P5:=@Int.mul_left_comm
def P6:=@List.dropLast_eq_take
def P7:=@List.mapM_cons
def P8:=@List.take_append_drop
def P9:=@List.sublist_flatten_of_mem
def P_:=@PyProof.Rows.callWith_type1
def Qa:=@List.getElem?_set_ne
def Qb:=@List.length_drop
def Qc:=@List.mem_append_left
def Qd:=@Nat.pow_le_pow_right
def Qe:=@PySem.wpAny_call_entry
def Qf:=@Int.eq_of_mul_eq_mul_right
def Qg:=@Int.fmod_eq_emod_of_nonneg
def Qh:=@List.drop_nil
def Qi:=@PySem.wpAny_holding
def Qj:=@Nat.pow_add
def Qk:=@Classical.byContradiction
def Ql:=@Int.mul_comm
def Qm:=@Int.mul_right_comm
def Qn:=@Nat.ne_of_gt
def Qo:=@PySem.F.args_tuple_add_2
def Qp:=@PySem.F.type_list_extend
def Qq:=@if_false
def Qr:=@PySem.wpAny_Call_Name_kw
def Qs:=@PySem.Heap.size_push
def Qt:=@beq_iff_eq
def Qu:=@List.length_eq_zero_iff
def Qv:=@PySem.F.entry_tuple_add
def Qw:=@List.flatten_cons
def Qx:=@List.getElem?_nil
def Qy:=@List.getElem?_set
def Qz:=@List.length_range
def QA:=@decide_eq_true_eq
def QB:=@PySem.Heap.get?_update_other
def QC:=@List.Sublist.length_le
def QD:=@PySem.F.slot_tuple_add
def QE:=@Nat.le_add_right
def QF:=@PySem.W.mg_of
def QG:=@PySem.F.slot_zip_next
def QH:=@PySem.Heap.get?_none_of_le
def QI:=@Int.mul_ne_zero
def QJ:=@List.getElem?_append
def QK:=@List.getElem?_of_mem
def QL:=@Nat.le_of_lt
def QM:=@Nat.lt_trans
def QN:=@Nat.min_eq_left
def QO:=@Nat.mul_le_mul_right
def QP:=@Rat.intCast_add
def QQ:=@PySem.wpAny_execs_nil
def QR:=@PySem.wpAny_updateSeq_pair
def QS:=@Array.length_toList
def QT:=@List.length_pos_iff
def QU:=@Nat.mul_assoc
def QW:=@PySem.Paired.length
def QX:=@PySem.wpAny_attempt
def QY:=@PySem.wpAny_onRaise
def QZ:=@PySem.wpAny_standAt
set_option maxRecDepth 100000
namespace L2
open PySem PySem.Spec PyProof.Rows
abbrev Key:=Sum Int Str
def ml:Key->Value->Bool
 |.inl k,v=>Value.isInt k v
 |.inr x,v=>Value.isStrOf x v
def keyH(w:World):Key->Int
 |.inl k=>hashInt k
 |.inr x=>hashStr w x
theorem ck:∀{k:Key}{v:Value},ml k v=true->(∃i t,k=Sum.inl i/\v=Value.int i t)\/(∃x t,k=Sum.inr x/\v=Value.str x t)
 |
  .inl i,v,h=>by
  obtain⟨t,e⟩:=Value.isInt_shape (k:=i) (v:=v) h
  exact .inl ⟨i,t,rfl,e⟩
 |
  .inr x,v,h=>by
  obtain⟨t,e⟩:=Value.isStrOf_shape (x:=x) (v:=v) h
  exact .inr ⟨x,t,rfl,e⟩
def zk(i:Int)(t:Tok):ml (.inl i) (.int i t)=true:=by simp [ml,Value.isInt]
def zd(x:Str)(t:Tok):ml (.inr x) (.str x t)=true:=by simp [ml,Value.isStrOf]
def FY(a b:Int):decide ((Sum.inl a:Key)=Sum.inl b)=(a==b):=by
 by_cases e:a=b
 ·subst e;simp
 ·have h:¬ (Sum.inl a:Key)=Sum.inl b:=λq=>e (Sum.inl.inj q)
  rw[OA h]
  exact (OB.mpr e).symm
def Hx(a b:Str):decide ((Sum.inr a:Key)=Sum.inr b)=decide (a=b):=by
 by_cases e:a=b
 ·subst e;simp
 ·have h:¬ (Sum.inr a:Key)=Sum.inr b:=λq=>e (Sum.inr.inj q)
  rw[OA h,OA e]
def GR(a:Int)(b:Str):decide ((Sum.inl a:Key)=Sum.inr b)=false:=OA (λq=>nomatch q)
def G9(a:Str)(b:Int):decide ((Sum.inr a:Key)=Sum.inl b)=false:=OA (λq=>nomatch q)
def cE(prog:Program)(w:World):PySem.KeyKind prog w Key where
 is:=ml
 hash:=keyH w
 inj
  := λv a b ha hb=>by
  rcases ck ha with ⟨i,t,rfl,rfl⟩ |⟨x,t,rfl,rfl⟩
  ·rcases ck hb with ⟨j,u,rfl,e⟩ |⟨y,u,rfl,e⟩
   ·injection e with e1 _;rw[e1]
   ·exact nomatch e
  ·rcases ck hb with ⟨j,u,rfl,e⟩ |⟨y,u,rfl,e⟩
   ·exact nomatch e
   ·injection e with e1 _;rw[e1]
 byValue:=λk v h=>by
  rcases ck h with ⟨i,t,rfl,rfl⟩ |⟨x,t,rfl,rfl⟩ <;> rfl
 pyHash:=λhv h=>by
  rcases ck hv with ⟨i,t,rfl,rfl⟩ |⟨x,t,rfl,rfl⟩
  ·exact wpAny_pyHash_int h
  ·exact wpAny_pyHash_str h
 eqBool:=λhu hv h=>by
  rcases ck hu with ⟨i,t,rfl,rfl⟩ |⟨x,t,rfl,rfl⟩
  ·rcases ck hv with ⟨j,u,rfl,rfl⟩ |⟨y,u,rfl,rfl⟩
   ·rw[FY] at h;exact wpAny_eqBool_int h
   ·rw[GR] at h;exact SeqAt.EqAt.int_str i t y u _ _ _ _ h
  ·rcases ck hv with ⟨j,u,rfl,rfl⟩ |⟨y,u,rfl,rfl⟩
   ·rw[G9] at h;exact SeqAt.EqAt.str_int x t j u _ _ _ _ h
   ·rw[Hx] at h;exact wpAny_eqBool_str h
 «strs»:=λk x t v h=>by
  rcases ck h with ⟨i,u,rfl,e⟩ |⟨y,u,rfl,e⟩
  ·exact nomatch e
  ·injection e with e1 _
   subst e1
   cases v <;> rfl
def uJ(prog:Program)(w:World)(i:Int)(t:Tok):(cE prog w).is (.inl i) (.int i t)=true:=zk i t
def uN(prog:Program)(w:World)(x:Str)(t:Tok):(cE prog w).is (.inr x) (.str x t)=true:=zd x t
end L2
namespace L2
open PySem PySem.Spec PyProof.Rows
inductive V where
 |non |bl (b:Bool) |int (i:Int) |str (x:Str) |byt (b:Array UInt8) |flt (b:UInt64) |ref (a:Addr) |ty (n:String)
 deriving DecidableEq
def RelV:V->Value->Prop
 |.non,u=>u=Value.none
 |.bl b,u=>u=Value.bool b
 |.int i,u=>∃t,u=Value.int i t
 |.str x,u=>∃t,u=Value.str x t
 |.byt b,u=>∃t,u=Value.bytes b t
 |.flt b,u=>∃t,u=Value.float b t
 |.ref a,u=>u=Value.ref a
 |.ty n,u=>u=Value.type n
abbrev Vals:List V->List Value->Prop:=Paired RelV
def Vals.length(r:Vals xs us):xs.length=us.length:=QW r
def Vals.get{xs:List V}{us:List Value}{i:Nat}{x:V}(r:Vals xs us)(e:xs[i]?=some x):∃u,us[i]?=some u/\RelV x u:=by
 induction r generalizing i with
 |nil=>rw[Qx] at e;cases e
 |
  cons r t ih=>
  cases i with
  |zero=>cases e;exact⟨_,rfl,r⟩
  |succ i=>exact ih (i:=i) e
def Vals.set(r:RelV x u)(i:Nat)(q:Vals xs us):Vals (xs.set i x) (us.set i u):=by
 induction q generalizing i with
 |nil=>exact .nil
 |
  cons q t ih=>
  cases i with
  |zero=>exact .cons r t
  |succ i=>exact .cons q (ih i)
def Vals.append(r:Vals xs us)(s:Vals ys ws):Vals (xs++ys) (us++ws):=by
 induction r with
 |nil=>exact s
 |cons r t ih=>exact .cons r ih
def Vals.take(n:Nat)(r:Vals xs us):Vals (xs.take n) (us.take n):=by
 induction r generalizing n with
 |nil=>rw[P0,P0];exact .nil
 |
  cons r t ih=>
  cases n with
  |zero=>exact .nil
  |succ n=>exact .cons r (ih n)
def Vals.drop(n:Nat)(r:Vals xs us):Vals (xs.drop n) (us.drop n):=by
 induction r generalizing n with
 |nil=>rw[Qh,Qh];exact .nil
 |
  cons r t ih=>
  cases n with
  |zero=>exact .cons r t
  |succ n=>exact ih n
def RelO:Option V->Option Value->Prop
 |some v,some u=>RelV v u
 |none,none=>True
 |_,_=>False
def KV{κ:Type}:List (κ×V)->List (κ×Value)->Prop:=Paired λ(p:κ×V) (q:κ×Value)=>p.1=q.1/\RelV p.2 q.2
def kV:Key->V
 |.inl i=>.int i
 |.inr x=>.str x
inductive HO where
 |lst (xs:List V)
 |tup (xs:List V)
 |dK (kvs:List (Key×V)) |dT (kvs:List (List Key×V))
 |set (S:Int->Bool) (n:Nat)
 |ins (C dx:Addr) (fs:List (Str×V))
 |own (x:Addr)
 |xd (fs:List (Str×V))
 |met (f x:Addr)
 |rng (lo hi:Int)
 |frz (o:Obj) (u:HO)
 |tbl (ps:Array Value)
 |ext (φ:Heap->Prop)
abbrev Hp:=Addr->Option HO
def upd(H:Hp)(a:Addr)(o:HO):Hp:=λb=>if b=a then some o else H b
def b0:upd H a o a=some o:=by unfold upd;rw[if_pos rfl]
def aQ(h:b≠a):upd H a o b=H b:=by unfold upd;rw[if_neg h]
def K6{H:Hp}{a b:Addr}{o u:HO}(h:H a=some o)(h':H b=some u)(d:o≠u):a≠b:=by
 intro e;subst e;rw[h] at h';exact d (OE h')
def cq{H:Hp}{a b:Addr}{o:HO}(h:H a=some o)(h':H b=none):a≠b:=by
 intro e;subst e;rw[h] at h';cases h'
section
variable(P:Program)(w:World)
def ObjOk(H:Hp)(h:Heap)(a:Addr):HO->Prop
 |.lst xs=>xs.length<=sizeLine/\∃(its:List Value) (n:Nat),Vals xs its/\h.get? a=some { cls:=.type "list",data:=.seq its.toArray n }
 |.tup xs=>xs.length<=sizeLine/\∃its:List Value,Vals xs its/\IsTup h a its.toArray
 |.dK kvs=>kvs.length<=sizeLine/\(a==sysModules)=false/\∃vs,KV kvs vs/\h.DictOf (cE P w) a vs
 |.dT kvs=>kvs.length<=sizeLine/\(a==sysModules)=false/\∃xs:List (List Key×Addr×Value),
  Paired (λ(p:List Key×V) (q:List Key×Addr×Value)=>p.1=q.1/\H q.2.1=some (.tup (p.1.map kV))/\RelV p.2 q.2.2) kvs xs/\
  ∃o es ep,h.get? a=some o/\o.ExactDict/\o.data=.dict es ep/\es.toList=xs.map (entryOfKey (tupleKind (cE P w)))/\(xs.map (·.1)).Nodup
 |.set S n=>h.SetOf (intKind P w) a S n
 |.ins C dx fs=>H dx=some (.own a)/\fs.length<=1000/\dx≠a/\h.get? a=some (W.instObj C dx)/\
  ∃mA,h.Ns1 dx mA/\(∀f,RelO (fs.lookup f) (mA f))/\PySem.Within mA (fs.map (·.1))
 |.own _=>∃o,h.get? a=some o
 |.xd fs=>∃mA,h.Ns1 a mA/\∀f,RelO (fs.lookup f) (mA f)
 |.rng lo hi=>∃t u v,h.get? a=some { cls:=.type "range",data:=.fields #[.int lo t,.int hi u,.int 1 v] }
 |.frz o u=>h.get? a=some o/\ObjOk H h a u
 |.tbl ps=>h.get? a=some { cls:=.none,data:=.fields ps }
 |.met f x=>h.get? a=some (W.methodObj (.ref f) (.ref x))
 |.ext φ=>φ h/\(∃o,h.get? a=some o)/\∀h1 h2:Heap,φ h1->(∀o,h1.get? a=some o->h2.get? a=some o)->φ h2
def HOk(H:Hp)(h:Heap):Prop:=∀a o,H a=some o->ObjOk P w H h a o
end
section
variable{P:Program}{w:World}{H H':Hp}{h h':Heap}{a:Addr}{o:HO}
def ObjOk.lt(x:ObjOk P w H h a o):a<h.objs.size:=by
 cases o with
 |lst xs=>obtain⟨_,_,_,_,e⟩:=x;exact Ot e
 |tup xs=>obtain⟨_,_,_,p⟩:=x;exact p.lt
 |dK kvs=>obtain⟨_,_,_,_,o,_,_,e,_⟩:=x;exact Ot e
 |dT kvs=>obtain⟨_,_,_,_,o,_,_,e,_⟩:=x;exact Ot e
 |set S n=>obtain⟨o,_,_,_,e,_⟩:=x;exact Ot e
 |ins C dx fs=>obtain⟨_,_,_,e,_⟩:=x;exact Ot e
 |own y=>obtain⟨_,e⟩:=x;exact Ot e
 |xd fs=>obtain⟨_,⟨_,_,_,e,_⟩,_⟩:=x;exact Ot e
 |rng lo hi=>obtain⟨_,_,_,e⟩:=x;exact Ot e
 |frz ob u=>obtain⟨e,_⟩:=x;exact Ot e
 |tbl ps=>exact Ot (show h.get? a=some _ from x)
 |met f y=>exact Ot (show h.get? a=some _ from x)
 |ext φ=>obtain⟨_,⟨_,e⟩,_⟩:=x;exact Ot e
def Paired.mapP(r:Paired F l₁ l₂)(f:∀a b,F a b->G a b):Paired G l₁ l₂:=by
 induction r with
 |nil=>exact .nil
 |cons r t ih=>exact .cons (f _ _ r) ih
def ObjOk.stay(x:ObjOk P w H h a o)(k:∀b u,(b=a\/H b=some (.own a))->h.get? b=some u->h'.get? b=some u)
 (ho:∀b,H b=some (.own a)->H' b=some (.own a)) (ht:∀b xs,H b=some (.tup xs)->H' b=some (.tup xs)):ObjOk P w H' h' a o:=by
 induction o with
 |lst xs=>obtain⟨z,its,n,r,e⟩:=x;exact⟨z,its,n,r,k _ _ (.inl rfl) e⟩
 |tup xs=>obtain⟨z,its,r,ob,e,c⟩:=x;exact⟨z,its,r,ob,k _ _ (.inl rfl) e,c⟩
 |dK kvs=>obtain⟨z,y,vs,r,ob,es,ep,e,c⟩:=x;exact⟨z,y,vs,r,ob,es,ep,k _ _ (.inl rfl) e,c⟩
 |
  dT kvs=>
  obtain⟨z,y,xs,r,ob,es,ep,e,c⟩:=x
  exact⟨z,y,xs,Paired.mapP r λp q z=>⟨z.1,ht _ _ z.2.1,z.2.2⟩,ob,es,ep,k _ _ (.inl rfl) e,c⟩
 |set S n=>obtain⟨ob,es,ep,t,e,c⟩:=x;exact⟨ob,es,ep,t,k _ _ (.inl rfl) e,c⟩
 |
  ins C dx fs=>
  obtain⟨d,z,ne,e,mA,⟨od,es,ep,e2,c⟩,r⟩:=x
  exact⟨ho _ d,z,ne,k _ _ (.inl rfl) e,mA,⟨od,es,ep,k _ _ (.inr d) e2,c⟩,r⟩
 |own y=>obtain⟨ob,e⟩:=x;exact⟨ob,k _ _ (.inl rfl) e⟩
 |xd fs=>obtain⟨mA,⟨od,es,ep,e,c⟩,r⟩:=x;exact⟨mA,⟨od,es,ep,k _ _ (.inl rfl) e,c⟩,r⟩
 |rng lo hi=>obtain⟨t,u,v,e⟩:=x;exact⟨t,u,v,k _ _ (.inl rfl) e⟩
 |frz ob u ih=>obtain⟨e,q⟩:=x;exact⟨k _ _ (.inl rfl) e,ih q⟩
 |
  tbl ps=>
  have e:h.get? a=some { cls:=.none,data:=.fields ps }:=x
  show h'.get? a=some { cls:=.none,data:=.fields ps }
  exact k a _ (.inl rfl) e
 |
  met f y=>
  have e:h.get? a=some (W.methodObj (.ref f) (.ref y)):=x
  show h'.get? a=some (W.methodObj (.ref f) (.ref y))
  exact k a _ (.inl rfl) e
 |ext φ=>obtain⟨p,⟨o,e⟩,st⟩:=x;exact⟨st _ _ p λo q=>k _ _ (.inl rfl) q,⟨o,k _ _ (.inl rfl) e⟩,st⟩
def HOk.lt(x:HOk P w H h)(e:H a=some o):a<h.objs.size:=(x a o e).lt
def HOk.fresh(x:HOk P w H h)(e:h.objs.size<=a):H a=none:=by
 cases q:H a with
 |none=>rfl
 |some u=>exact absurd (Ox (x.lt q) e) (Pe _)
def HOk.kept(x:HOk P w H h)(k:∀b u,h.get? b=some u->h'.get? b=some u):HOk P w H h':=λa o e=>
 (x a o e).stay (λb u _ q=>k b u q) (λ_ q=>q) λ_ _ q=>q
def HOk.laid(x:HOk P w H h)(k:∀b u,h.get? b=some u->h'.get? b=some u)(hp:h.objs.size<=a)(new:ObjOk P w (upd H a o) h' a o):HOk P w (upd H a o) h':=λb u e=>by
 have hn:=x.fresh hp
 by_cases hb:b=a
 ·subst hb;rw[b0] at e;cases e;exact new
 ·rw[aQ hb] at e
  exact (x b u e).stay (λc v _ q=>k c v q) (λc q=>by rw[aQ (cq q hn)];exact q) λc xs q=>by rw[aQ (cq q hn)];exact q
end
def Rd(H:Hp)(a:Addr)(u:HO):Prop:=H a=some u\/∃o,H a=some (.frz o u)
def Rd.ok(r:Rd H a u)(x:HOk P w H h):ObjOk P w H h a u:=by
 rcases r with r |⟨o,r⟩
 ·exact x a u r
 ·obtain⟨_,q⟩:=x a _ r
  exact q
def Mut:Option HO->Prop
 |some (.lst _)=>True
 |some (.dK _)=>True
 |some (.dT _)=>True
 |some (.set _ _)=>True
 |some (.ins _ _ _)=>True
 |some (.ext _)=>True
 |_=>False
section
variable{P:Program}{w:World}{H:Hp}{h h':Heap}{x e:Addr}{o':HO}
def HOk.write(ok:HOk P w H h)(mu:Mut (H x))(he:e=x\/H e=some (.own x))(k:∀b u,b≠e->h.get? b=some u->h'.get? b=some u)(heo:∃u,h'.get? e=some u)
 (new:ObjOk P w (upd H x o') h' x o'):HOk P w (upd H x o') h':=λb u q=>by
 have nown:∀c y,H c=some (.own y)->c≠x:=λc y r z=>by subst z;rw[r] at mu;exact mu
 have ntup:∀c xs,H c=some (.tup xs)->c≠x:=λc xs r z=>by subst z;rw[r] at mu;exact mu
 by_cases hb:b=x
 ·subst hb;rw[b0] at q;cases q;exact new
 ·rw[aQ hb] at q
  by_cases hbe:b=e
  ·have q':H b=some (.own x):=by
    rcases he with z |z
    ·exact absurd (hbe.trans z) hb
    ·rw[hbe];exact z
   rw[q] at q';cases q'
   obtain⟨v,hv⟩:=heo
   exact⟨v,by rw[hbe];exact hv⟩
  ·refine (ok b u q).stay (λc v hc r=>k c v ?_ r) (λc r=>by rw[aQ (nown c b r)];exact r) λc xs r=>by rw[aQ (ntup c xs r)];exact r
   rcases hc with rfl |hc
   ·exact hbe
   ·rintro rfl
    rcases he with z |z
    ·exact nown c b hc z
    ·rw[hc] at z;cases z;exact hb rfl
end
structure Un(fs ex:List Addr)(H H':Hp)(h h':Heap):Prop where
 keep:∀b o,h.get? b=some o->H b=none->b∉fs->b∉ex->h'.get? b=some o
 slot:∀b o,h.get? b=some o->H b=none->b∈fs->b∉ex->∃sl,h'.get? b=some { o with slots:=sl }
 free:∀b o,h.get? b=some o->H b=none->b∉ex->H' b=none
 there:∀b o,h.get? b=some o->b∉ex->∃o',h'.get? b=some o'
 tups:∀b xs,H b=some (.tup xs)->H' b=some (.tup xs)
 frzs:∀b o u,H b=some (.frz o u)->H' b=some (.frz o u)
 tbls:∀b ps,H b=some (.tbl ps)->∃more,H' b=some (.tbl (ps++more))
section
variable{fs fs' ex ex':List Addr}{H H1 H2:Hp}{h h1 h2 h':Heap}{a x e:Addr}{o:HO}
def Un.any(u:Un fs ex H H1 h h1)(q:h.get? b=some ob)(n:H b=none)(hx:b∉ex):∃sl,h1.get? b=some { ob with slots:=sl }:=by
 by_cases hb:b∈fs
 ·exact u.slot b ob q n hb hx
 ·exact⟨ob.slots,u.keep b ob q n hb hx⟩
def Un.kept(k:∀b u,h.get? b=some u->h'.get? b=some u):Un fs ex H H h h':=
 ⟨λb ob q _ _ _=>k b ob q,λb ob q _ _ _=>⟨ob.slots,k b ob q⟩,λ_ _ _ n _=>n,λb ob q _=>⟨ob,k b ob q⟩,λ_ _ q=>q,λ_ _ _ q=>q,λ_ ps q=>⟨#[],by rw[q];simp⟩⟩
def Un.refl:Un fs ex H H h h:=Un.kept λ_ _ q=>q
def Un.laid(k:∀b u,h.get? b=some u->h'.get? b=some u)(hp:h.objs.size<=a)(hn:H a=none):Un fs ex H (upd H a o) h h' where
 keep:=λb u q _ _ _=>k b u q
 slot:=λb u q _ _ _=>⟨u.slots,k b u q⟩
 free:=λb u q n _=>by rw[aQ (OM (Ox (Ot q) hp))];exact n
 there:=λb u q _=>⟨u,k b u q⟩
 tups:=λb xs q=>by rw[aQ (cq q hn)];exact q
 frzs:=λb u xs q=>by rw[aQ (cq q hn)];exact q
 tbls:=λb ps q=>⟨#[],by rw[aQ (cq q hn),q];simp⟩
def Un.write(mu:Mut (H x))(he:e=x\/H e=some (.own x))(k:∀b u,b≠e->h.get? b=some u->h'.get? b=some u)(heo:∃u,h'.get? e=some u):Un fs ex H (upd H x o) h h':=by
 have hx:∀b,H b=none->b≠x:=λb n z=>by subst z;rw[n] at mu;exact mu
 have hb:∀b,H b=none->b≠e:=λb n z=>by
  subst z
  rcases he with r |r
  ·exact hx b n r
  ·rw[n] at r;cases r
 have hm:∀b u,H b=some u->¬ Mut (some u)->b≠x:=λb u q nm z=>by subst z;rw[q] at mu;exact nm mu
 refine⟨λb u q n _ _=>k b u (hb b n) q,λb u q n _ _=>⟨u.slots,k b u (hb b n) q⟩,λb u q n _=>by rw[aQ (hx b n)];exact n,λb u q _=>?_,
  λb xs q=>by rw[aQ (hm b _ q λz=>z)];exact q,λb u xs q=>by rw[aQ (hm b _ q λz=>z)];exact q,λb ps q=>⟨#[],by rw[aQ (hm b _ q λz=>z),q];simp⟩⟩
 by_cases hbe:b=e
 ·subst hbe;exact heo
 ·exact⟨u,k b u hbe q⟩
end
def trk(h:Heap)(H:Hp):List Addr:=(List.range h.objs.size).filter λa=>(H a).isSome
def kR(h:Heap)(H:Hp):Heap:=W.hideAll h (trk h H)
def zb(h:Heap)(H:Hp):(kR h H).objs.size=h.objs.size:=W.hideAll_size _ _
def Bg(e:h.get? b=some o)(n:H b=none):(kR h H).get? b=some o:=
 W.hideAll_get _ e λhm=>by
  have q:(H b).isSome=true:=(List.mem_filter.mp hm).2
  rw[n] at q;simp at q
def Fd(e:(kR h H).get? b=some o):h.get? b=some o/\H b=none:=by
 have e':h.get? b=some o:=W.of_hideAll (trk h H) e
 refine⟨e',?_⟩
 cases q:H b with
 |none=>rfl
 |
  some x=>
  have hm:b∈trk h H:=List.mem_filter.mpr ⟨Px.mpr (Ot e'),by simp [q]⟩
  have z:(kR h H).get? b=none:=W.hideAll_none (trk h H) hm
  rw[z] at e;cases e
def DQ(g h:Heap)(L:Addr):List (Addr×Obj):=(List.range h.objs.size).filterMap λa=>if a=L\/(g.get? a).isSome=true then none else (h.get? a).map λo=>(a,o)
def dR(g h:Heap)(L d:Addr):List (Addr×Obj):=(DQ g h L).filter λp=>decide (p.1≠d)
end L2
namespace L2
open PySem PySem.Spec PyProof.Rows
structure Mod(K:W.Frag)(mg:Str->Option Value)(base:Heap):Prop where
 kin:K.In base
 glob:base.Ns mainGlobals mg
 blt:∃mb,base.Ns builtinsNs mb/\∀x:Str,x ≠ "__name__"->mb x=bootBuiltins x
 nolimit:base.NoLimit
structure Cx where
 prog:Program
 w:World
 K:W.Frag
 mg:Str->Option Value
 base:Heap
 A:Around
 N:List Str
 s₀:Shared
 H₀:Hp
 env:Env
 outer:List Env
 stack:List Env
 ex:List Addr
 fn:Str->Bool
 calm:Bool
 pn:List (Addr×Obj)
 xe:Value->Shared->Prop
def frs(l:List Env):List Addr:=l.filterMap (·.frame)
abbrev Cx.fs(X:Cx):List Addr:=frs X.outer
def Vis(sc:Scope)(x:Str):Prop:=sc.names.lookup x=some .local\/sc.names.lookup x=some .cell\/sc.names.lookup x=some .free
def Loc(sc:Scope)(x:Str):Prop:=sc.names.lookup x=some .local\/sc.names.lookup x=some .cell
def Look(env:Env)(h:Heap)(m:Str->Option Value)(x:Str)(u:Value):Prop:=
 (env.kindOf x=some .local/\m x=some u)\/((env.kindOf x=some .cell\/env.kindOf x=some .free)/\∃c,env.cells.lookup x=some c/\h.IsCell c (some u))
structure Cx.Ok(X:Cx):Prop where
 mod:Mod X.K X.mg X.base
 kind:X.env.scope.kind=.function
 glob:X.env.globals=mainGlobals
 blt:X.env.builtins=builtinsNs
 above:X.s₀.heap.objs.size<=X.env.locals
 inj:∀x y c,X.env.cells.lookup x=some c->X.env.cells.lookup y=some c->x=y
 has:∀x,(X.env.kindOf x=some .cell\/X.env.kindOf x=some .free)->∃c,X.env.cells.lookup x=some c
 cab:∀x c,X.fn x=true->X.env.cells.lookup x=some c->X.s₀.heap.objs.size<=c
 hd:X.calm=true->X.A.handled=none
 frames:X.A.frames=some X.stack
 stk:X.stack=X.outer\/(X.stack=X.env::X.outer/\X.env.frame=some X.env.locals)
 exf:∀b∈X.ex,b≠X.env.locals/\∀x c,X.env.cells.lookup x=some c->c≠b
 bs:∀b o,X.base.get? b=some o->X.s₀.heap.get? b=some o/\X.H₀ b=none
 bsz:X.base.objs.size<=X.s₀.heap.objs.size
 noex:∀b o,X.base.get? b=some o->b∉X.ex
 exfs:∀b∈X.ex,b∉X.fs
 funs:X.s₀.heap.FunFrames X.base X.outer
 frf:∀b∈X.fs,X.H₀ b=none
structure Inv(X:Cx)(pins:List (Addr×Obj))(σ:List (Option V))(H:Hp)(s:Shared):Prop where
 ok:X.Ok
 os:s.os=X.s₀.os
 bare:AllBare s.gens
 base:Un X.fs X.ex X.H₀ H X.s₀.heap s.heap
 loc:∃m,s.heap.Ns X.env.locals m/\∀(i:Nat) (x:Str) (v:V),X.N[i]?=some x->σ[i]?=some (some v)->Vis X.env.scope x->∃u,RelV v u/\Look X.env s.heap m x u
 cell:∀x c,X.env.cells.lookup x=some c->∃v,s.heap.IsCell c v
 free:H X.env.locals=none
 freeC:∀x c,X.env.cells.lookup x=some c->H c=none
 pin:∀p∈X.pn++pins,s.heap.get? p.1=some p.2/\H p.1=none/\p.1≠X.env.locals/\p.1∉X.fs/\∀v,p.2.data ≠ .cell v
 hok:HOk X.prog X.w H s.heap
 len:σ.length=X.N.length
section
variable{X:Cx}{pins:List (Addr×Obj)}{σ:List (Option V)}{H H':Hp}{s:Shared}{h':Heap}
def Cx.Ok.nofr(ok:X.Ok)(e:X.base.get? b=some o):b∉X.fs:=λhb=>by
 have:=(ok.funs.mem hb).1
 rw[e] at this;cases this
def Inv.bs(I:Inv X pins σ H s):∀b o,X.base.get? b=some o->s.heap.get? b=some o/\H b=none:=λb o e=>
 ⟨I.base.keep b o (I.ok.bs b o e).1 (I.ok.bs b o e).2 (I.ok.nofr e) (I.ok.noex b o e),I.base.free b o (I.ok.bs b o e).1 (I.ok.bs b o e).2 (I.ok.noex b o e)⟩
def Inv.bk(I:Inv X pins σ H s):∀b o,X.base.get? b=some o->s.heap.get? b=some o:=λb o e=>(I.bs b o e).1
def Inv.mod(I:Inv X pins σ H s):Mod X.K X.mg X.base:=I.ok.mod
def Inv.kIn(I:Inv X pins σ H s):X.K.In s.heap:=I.ok.mod.kin.keeps I.bk
def Inv.lt(I:Inv X pins σ H s):X.env.locals<s.heap.objs.size:=let ⟨_,hn,_⟩:=I.loc;hn.lt
def Inv.sz(I:Inv X pins σ H s):X.s₀.heap.objs.size<=s.heap.objs.size:=Ow I.ok.above (QL I.lt)
def Inv.nofs(I:Inv X pins σ H s)(h:s.heap.objs.size<=a):a∉X.fs:=λhb=>by
 obtain⟨_,o,ho,_⟩:=I.ok.funs.mem hb
 exact absurd (Ox (Ot ho) (Ow I.sz h)) (Pe _)
def Inv.cne(I:Inv X pins σ H s):∀x c,X.env.cells.lookup x=some c->c≠X.env.locals:=λx c e z=>by
 obtain⟨v,o,ho,hd⟩:=I.cell x c e
 obtain⟨m,⟨o',es,ep,ho',hd',_⟩,_⟩:=I.loc
 rw[z,ho'] at ho;cases ho;rw[hd'] at hd;cases hd
def Inv.funs(I:Inv X pins σ H s):s.heap.FunFrames X.base X.outer:=by
 have all:∀(l:List Env),(∀b∈frs l,b∈X.fs)->X.s₀.heap.FunFrames X.base l->s.heap.FunFrames X.base l:=by
  intro l
  induction l with
  |nil=>intro _ _;trivial
  |
   cons env r ih=>
   intro hs hl
   obtain⟨hk,⟨L,o,hf,hn,ho,hd⟩,hr⟩:=hl
   have hL:L∈X.fs:=hs L (by unfold frs;rw[Pw,hf];exact Of)
   obtain⟨sl,e⟩:=I.base.slot L o ho (I.ok.frf L hL) hL λz=>I.ok.exfs L z hL
   exact⟨hk,⟨L,_,hf,hn,e,hd⟩,ih (λb hb=>hs b (by unfold frs;rw[Pw,hf];exact Od _ hb)) hr⟩
 exact all X.outer (λ_ hb=>hb) I.ok.funs
def Inv.stack(I:Inv X pins σ H s):s.heap.FunFrames X.base X.stack:=by
 rcases I.ok.stk with e |⟨e,hf⟩
 ·rw[e];exact I.funs
 ·rw[e]
  obtain⟨m,hn,_⟩:=I.loc
  refine .cons (by rw[I.ok.kind];decide) hf hn ?_ I.funs
  exact QH (Ow I.ok.bsz I.ok.above)
def Inv.stkSub(I:Inv X pins σ H s):∀b∈frs X.stack,b∈X.env.locals::X.fs:=λb hb=>by
 rcases I.ok.stk with e |⟨e,hf⟩
 ·rw[e] at hb;exact Od _ hb
 ·rw[e] at hb
  unfold frs at hb
  rw[Pw,hf] at hb
  exact hb
def Inv.stkFree(I:Inv X pins σ H s):∀b∈frs X.stack,H b=none:=λb hb=>by
 rcases Oy.mp (I.stkSub b hb) with e |hb
 ·rw[e];exact I.free
 ·obtain⟨_,o,ho,_⟩:=I.ok.funs.mem hb
  exact I.base.free b o ho (I.ok.frf b hb) λz=>I.ok.exfs b z hb
def Inv.step{g':Array GenState}{t':Nat}{d':Drawn}{ch:List Addr}(I:Inv X pins σ H s)
 (hch:∀b∈ch,(b∈X.ex\/X.s₀.heap.objs.size<=b)/\b≠X.env.locals/\(∀x c,X.env.cells.lookup x=some c->c≠b)/\∀p∈X.pn++pins,p.1≠b)
 (keep:∀b o,b≠X.env.locals->b∉X.fs->b∉ch->s.heap.get? b=some o->H b=none->h'.get? b=some o)
 (slot:∀b o,b≠X.env.locals->b∈X.fs->b∉ch->s.heap.get? b=some o->H b=none->∃sl,h'.get? b=some { o with slots:=sl }) (free:∀b o,b∉ch->s.heap.get? b=some o->H b=none->H' b=none)
 (there:∀b o,b∉ch->s.heap.get? b=some o->∃o',h'.get? b=some o')
 (tups:∀b xs,H b=some (.tup xs)->H' b=some (.tup xs)) (frzs:∀b o u,H b=some (.frz o u)->H' b=some (.frz o u)) (tbls:∀b ps,H b=some (.tbl ps)->∃more,H' b=some (.tbl (ps++more)))
 (ns:∀m,s.heap.Ns X.env.locals m->h'.Ns X.env.locals m) (hok:HOk X.prog X.w H' h') (hg:AllBare g'):
 Inv X pins σ H' { s with heap:=h',gens:=g',drawn:=d',toks:=t' }:=by
 have neL:∀b o,X.s₀.heap.get? b=some o->b≠X.env.locals:=λb o e=>OM (Ox (Ot e) I.ok.above)
 have neC:∀b o,X.s₀.heap.get? b=some o->b∉X.ex->b∉ch:=λb o e hx hb=>by
  rcases (hch b hb).1 with z |z
  ·exact hx z
  ·exact absurd (Ox (Ot e) z) (Pe _)
 have cellK:∀x c,X.env.cells.lookup x=some c->∀v,s.heap.IsCell c v->h'.IsCell c v:=λx c e v ⟨o,ho,hd⟩=>by
  have nch:c∉ch:=λz=>(hch c z).2.2.1 x c e rfl
  by_cases hc:c∈X.fs
  ·obtain⟨sl,q⟩:=slot c o (I.cne x c e) hc nch ho (I.freeC x c e)
   exact⟨_,q,hd⟩
  ·exact⟨o,keep c o (I.cne x c e) hc nch ho (I.freeC x c e),hd⟩
 refine⟨I.ok,I.os,hg,⟨λb o e n hb hx=>?_,λb o e n hb hx=>?_,λb o e n hx=>?_,λb o e hx=>?_,λb xs e=>tups b xs (I.base.tups b xs e),λb o xs e=>frzs b o xs (I.base.frzs b o xs e),λb ps e=>?_⟩,?_,λx c e=>?_,?_,λx c e=>?_,λp hp=>?_,hok,I.len⟩
 ·exact keep b o (neL b o e) hb (neC b o e hx) (I.base.keep b o e n hb hx) (I.base.free b o e n hx)
 ·obtain⟨sl,e1⟩:=I.base.slot b o e n hb hx
  obtain⟨sl',e2⟩:=slot b _ (neL b o e) hb (neC b o e hx) e1 (I.base.free b o e n hx)
  exact⟨sl',e2⟩
 ·obtain⟨o',e1⟩:=I.base.there b o e hx
  exact free b o' (neC b o e hx) e1 (I.base.free b o e n hx)
 ·obtain⟨o',e1⟩:=I.base.there b o e hx
  exact there b o' (neC b o e hx) e1
 ·obtain⟨m1,e1⟩:=I.base.tbls b ps e
  obtain⟨m2,e2⟩:=tbls b _ e1
  exact⟨m1++m2,by rw[e2,Array.append_assoc]⟩
 ·obtain⟨m,hn,hl⟩:=I.loc
  refine⟨m,ns m hn,λi x v e1 e2 e3=>?_⟩
  obtain⟨u,r,l⟩:=hl i x v e1 e2 e3
  refine⟨u,r,?_⟩
  rcases l with l |⟨k,c,e,z⟩
  ·exact .inl l
  ·exact .inr ⟨k,c,e,cellK x c e _ z⟩
 ·obtain⟨v,z⟩:=I.cell x c e
  exact⟨v,cellK x c e v z⟩
 ·obtain⟨m,⟨o,_,_,ho,_⟩,_⟩:=I.loc
  exact free _ o (λz=>(hch _ z).2.1 rfl) ho I.free
 ·obtain⟨v,o,ho,hd⟩:=I.cell x c e
  exact free c o (λz=>(hch c z).2.2.1 x c e rfl) ho (I.freeC x c e)
 ·obtain⟨e,n,ne,nf,d⟩:=I.pin p hp
  have nch:p.1∉ch:=λz=>(hch p.1 z).2.2.2 p hp rfl
  exact⟨keep p.1 p.2 ne nf nch e n,free p.1 p.2 nch e n,ne,nf,d⟩
def Inv.un{t':Nat}(I:Inv X pins σ H s)(u:Un X.fs [] H H' s.heap h')(hok:HOk X.prog X.w H' h'):Inv X pins σ H' { s with heap:=h',toks:=t' }:=by
 obtain⟨m,⟨o,es,ep,ho,r⟩,_⟩:=id I.loc
 obtain⟨sl,hL⟩:=u.any ho I.free (by simp)
 exact I.step (g':=s.gens) (d':=s.drawn) (ch:=[]) (λ_ z=>nomatch z) (λb o _ hb _ e n=>u.keep b o e n hb (by simp)) (λb o _ hb _ e n=>u.slot b o e n hb (by simp)) (λb o _ e n=>u.free b o e n (by simp)) (λb o _ e=>u.there b o e (by simp)) u.tups u.frzs u.tbls (λm' hm=>by
  obtain⟨o',es',ep',ho',r'⟩:=hm
  rw[ho] at ho';cases ho'
  exact⟨_,es',ep',hL,r'⟩) hok I.bare
def Inv.call{g':Array GenState}{t':Nat}{d':Drawn}{ch:List Addr}(I:Inv X pins σ H s)(u:Un (frs X.stack) ch H H' s.heap h')(hok:HOk X.prog X.w H' h')(hg:AllBare g')
 (hch:∀b∈ch,(b∈X.ex\/X.s₀.heap.objs.size<=b)/\b≠X.env.locals/\(∀x c,X.env.cells.lookup x=some c->c≠b)/\∀p∈X.pn++pins,p.1≠b):
 Inv X pins σ H' { s with heap:=h',gens:=g',drawn:=d',toks:=t' }:=by
 obtain⟨m,⟨o,es,ep,ho,r⟩,_⟩:=id I.loc
 obtain⟨sl,hL⟩:=u.any ho I.free λz=>(hch _ z).2.1 rfl
 exact I.step (ch:=ch) hch (λb o hL hb hc e n=>u.keep b o e n (λz=>(Oy.mp (I.stkSub b z)).elim hL hb) hc) (λb o _ _ hc e n=>u.any e n hc) (λb o hc e n=>u.free b o e n hc) (λb o hc e=>u.there b o e hc) u.tups u.frzs u.tbls (λm' hm=>by
  obtain⟨o',es',ep',ho',r'⟩:=hm
  rw[ho] at ho';cases ho'
  exact⟨_,es',ep',hL,r'⟩) hok hg
def Inv.turned{t':Nat}{it:Addr}(I:Inv X pins σ H s)(k:∀b o,b≠it->s.heap.get? b=some o->h'.get? b=some o)(hn:H it=none)(hL:it≠X.env.locals)
 (h1:it∈X.ex\/X.s₀.heap.objs.size<=it) (h2:∀x c,X.env.cells.lookup x=some c->c≠it) (h3:∀p∈X.pn++pins,p.1≠it):Inv X pins σ H { s with heap:=h',toks:=t' }:=by
 have nit:∀b u,H b=some u->b≠it:=λb u e z=>by rw[z,hn] at e;cases e
 refine I.step (g':=s.gens) (d':=s.drawn) (ch:=[it]) (λb hb=>?_) (λb o _ _ hc e _=>k b o (λz=>hc (by simp [z])) e) (λb o _ _ hc e _=>⟨o.slots,k b o (λz=>hc (by simp [z])) e⟩) (λ_ _ _ _ n=>n)
  (λb o hc e=>⟨o,k b o (λz=>hc (by simp [z])) e⟩) (λ_ _ e=>e) (λ_ _ _ e=>e) (λb ps e=>⟨#[],by rw[e];simp⟩) (λm hm=>?_) (λb u e=>?_) I.bare
 ·have e:b=it:=by simpa using hb
  subst e
  exact⟨h1,hL,h2,h3⟩
 ·obtain⟨o,es,ep,ho,r⟩:=hm
  exact⟨o,es,ep,k _ o (Ne.symm hL) ho,r⟩
 ·refine (I.hok b u e).stay (λc v hc q=>k c v ?_ q) (λ_ q=>q) λ_ _ q=>q
  rcases hc with z |z
  ·rw[z];exact nit b u e
  ·exact nit c _ z
def Inv.tok(I:Inv X pins σ H s)(t:Nat):Inv X pins σ H { s with toks:=t }:=I.un (h':=s.heap) (t':=t) Un.refl I.hok
def Inv.kept(I:Inv X pins σ H s)(k:∀b u,s.heap.get? b=some u->h'.get? b=some u):Inv X pins σ H { s with heap:=h',toks:=t' }:=I.un (Un.kept k) (I.hok.kept k)
def Inv.laid(I:Inv X pins σ H s)(k:∀b u,s.heap.get? b=some u->h'.get? b=some u)(hp:s.heap.objs.size<=a)(new:ObjOk X.prog X.w (upd H a o) h' a o):
 Inv X pins σ (upd H a o) { s with heap:=h',toks:=t' }:=I.un (Un.laid k hp (I.hok.fresh hp)) (I.hok.laid k hp new)
def Inv.write(I:Inv X pins σ H s)(mu:Mut (H x))(he:e=x\/H e=some (.own x))(k:∀b u,b≠e->s.heap.get? b=some u->h'.get? b=some u)(heo:∃u,h'.get? e=some u)
 (new:ObjOk X.prog X.w (upd H x o) h' x o):Inv X pins σ (upd H x o) { s with heap:=h',toks:=t' }:=I.un (Un.write mu he k heo) (I.hok.write mu he k heo new)
def Inv.pins_of(I:Inv X pins σ H s)(h:∀p∈pins',s.heap.get? p.1=some p.2/\H p.1=none/\p.1≠X.env.locals/\p.1∉X.fs/\∀v,p.2.data ≠ .cell v):Inv X pins' σ H s:=
 ⟨I.ok,I.os,I.bare,I.base,I.loc,I.cell,I.free,I.freeC,λp hp=>(O0.mp hp).elim (λz=>I.pin p (Qc _ z)) (h p),I.hok,I.len⟩
def rK{N:List Str}(hN:N.Nodup){i j:Nat}{x:Str}(a:N[i]?=some x)(b:N[j]?=some x):i=j:=by
 obtain⟨h1,e1⟩:=Oe.mp a
 obtain⟨h2,e2⟩:=Oe.mp b
 exact (List.getElem_inj hN).mp (e1.trans e2.symm)
def p9(I:Inv X pins σ H s)(hN:X.N.Nodup)(hi:X.N[i]?=some x)(hx:Loc X.env.scope x)(r:RelV v u)
 (h:∀s',Inv X pins (σ.set i (some v)) H s'->(∃a,Heap.SameBut a s.heap s'.heap/\(a=X.env.locals\/X.env.cells.lookup x=some a))->Q () s') (hf:X.fn x=true\/X.env.scope.names.lookup x=some .local:=by first |exact .inl rfl |exact .inr rfl |assumption):wpAny M A (storeName X.env x u) Q E s:=by
 obtain⟨m,hn,hl⟩:=id I.loc
 have hcls:(X.env.scope.kind == .class || (X.env.scope.kind == .module&&X.env.locals != X.env.globals))=false:=by rw[I.ok.kind];rfl
 have hiσ:i<σ.length:=by rw[I.len];exact (Oe.mp hi).1
 have cne:=I.cne
 have tracked:∀{a:Addr}{h':Heap},(∃o,s.heap.get? a=some o/\H a=none)->Heap.SameBut a s.heap h'->HOk X.prog X.w H h':=λ{a h'} ha hs b ob e=>by
  obtain⟨_,_,hfree⟩:=ha
  refine (I.hok b ob e).stay (λc w' hc q=>(hs.2 c ?_).trans q) (λ_ q=>q) λ_ _ q=>q
  rintro rfl
  rcases hc with rfl |hc
  ·rw[hfree] at e;cases e
  ·rw[hfree] at hc;cases hc
 rcases hx with hk |hk
 ·refine wpAny_storeName_local hk hn (λh' hn' hs=>?_) hcls
  obtain⟨oL,_,_,hoL,_⟩:=id hn
  refine h _ ⟨I.ok,I.os,I.bare,⟨λb o e n hb hx=>?_,λb o e n hb hx=>?_,I.base.free,λb o e hx=>?_,I.base.tups,I.base.frzs,I.base.tbls⟩,⟨_,hn',λj y v' e1 e2 e3=>?_⟩,λy c e=>?_,I.free,I.freeC,λp hp=>?_,tracked ⟨oL,hoL,I.free⟩ hs,by simpa using I.len⟩ ⟨_,hs,.inl rfl⟩
  ·exact (hs.2 b (OM (Ox (Ot e) I.ok.above))).trans (I.base.keep b o e n hb hx)
  ·obtain⟨sl,e1⟩:=I.base.slot b o e n hb hx
   exact⟨sl,(hs.2 b (OM (Ox (Ot e) I.ok.above))).trans e1⟩
  ·obtain⟨o',e1⟩:=I.base.there b o e hx
   exact⟨o',(hs.2 b (OM (Ox (Ot e) I.ok.above))).trans e1⟩
  ·by_cases hj:j=i
   ·subst hj
    rw[hi] at e1;cases e1
    rw[List.getElem?_set_self hiσ] at e2
    cases e2
    exact⟨u,r,.inl ⟨hk,by simp⟩⟩
   ·rw[Qa (Ne.symm hj)] at e2
    obtain⟨u',r',q⟩:=hl j y v' e1 e2 e3
    refine⟨u',r',?_⟩
    rcases q with ⟨k,e⟩ |⟨k,c,e,z⟩
    ·refine .inl ⟨k,?_⟩
     have:y≠x:=λe=>hj (rK hN e1 (e ▸ hi))
     simp [this,e]
    ·exact .inr ⟨k,c,e,z.sameBut hs (cne y c e)⟩
  ·obtain⟨w',z⟩:=I.cell y c e
   exact⟨w',z.sameBut hs (cne y c e)⟩
  ·obtain⟨e,n,ne,nf,d⟩:=I.pin p hp
   exact⟨(hs.2 p.1 ne).trans e,n,ne,nf,d⟩
 ·have hfn:X.fn x=true:=by
   rcases hf with z |z
   ·exact z
   ·rw[z] at hk;cases hk
  obtain⟨c,hc⟩:=I.ok.has x (.inl hk)
  obtain⟨w',z⟩:=I.cell x c hc
  refine wpAny_storeName_cell I.ok.kind hk hc z (λh' hc' hs=>?_)
  obtain⟨oc,hoc,hocd⟩:=id z
  refine h { s with heap:=h' } ⟨I.ok,I.os,I.bare,⟨λb o e n hb hx=>?_,λb o e n hb hx=>?_,I.base.free,λb o e hx=>?_,I.base.tups,I.base.frzs,I.base.tbls⟩,⟨m,hn.sameBut hs (Ne.symm (cne x c hc)),λj y v' e1 e2 e3=>?_⟩,λy c' e=>?_,I.free,I.freeC,λp hp=>?_,tracked ⟨oc,hoc,I.freeC x c hc⟩ hs,by simpa using I.len⟩ ⟨c,hs,.inr hc⟩
  ·exact (hs.2 b (OM (Ox (Ot e) (I.ok.cab x c hfn hc)))).trans (I.base.keep b o e n hb hx)
  ·obtain⟨sl,e1⟩:=I.base.slot b o e n hb hx
   exact⟨sl,(hs.2 b (OM (Ox (Ot e) (I.ok.cab x c hfn hc)))).trans e1⟩
  ·obtain⟨o',e1⟩:=I.base.there b o e hx
   exact⟨o',(hs.2 b (OM (Ox (Ot e) (I.ok.cab x c hfn hc)))).trans e1⟩
  ·by_cases hj:j=i
   ·subst hj
    rw[hi] at e1;cases e1
    rw[List.getElem?_set_self hiσ] at e2
    cases e2
    exact⟨u,r,.inr ⟨.inl hk,c,hc,hc'⟩⟩
   ·rw[Qa (Ne.symm hj)] at e2
    obtain⟨u',r',q⟩:=hl j y v' e1 e2 e3
    refine⟨u',r',?_⟩
    rcases q with q |⟨k,c',e,z'⟩
    ·exact .inl q
    ·refine .inr ⟨k,c',e,z'.sameBut hs ?_⟩
     rintro rfl
     exact hj (rK hN e1 (I.ok.inj _ _ _ e hc ▸ hi))
  ·by_cases hcc:c'=c
   ·subst hcc;exact⟨_,hc'⟩
   ·obtain⟨w2,z2⟩:=I.cell y c' e
    exact⟨w2,z2.sameBut hs hcc⟩
  ·obtain⟨e,n,ne,nf,d⟩:=I.pin p hp
   refine⟨(hs.2 p.1 ?_).trans e,n,ne,nf,d⟩
   intro q
   rw[q,hoc] at e
   have q':oc=p.2:=OE e
   exact d w' (by rw[<- q'];exact hocd)
def iX(I:Inv X pins σ H s)(hN:X.N.Nodup)(hi:X.N[i]?=some x)(hx:Loc X.env.scope x)(r:RelV v u)
 (h:∀s',Inv X pins (σ.set i (some v)) H s'->Q () s') (hf:X.fn x=true\/X.env.scope.names.lookup x=some .local:=by first |exact .inl rfl |exact .inr rfl |assumption):wpAny M A (storeName X.env x u) Q E s:=
 p9 I hN hi hx r (λs' I' _=>h s' I') hf
def Inv.call'(I:Inv X pins σ H s)(ho:s'.os=s.os)(u:Un (frs X.stack) ch H H' s.heap s'.heap)(hok:HOk X.prog X.w H' s'.heap)(hg:AllBare s'.gens)
 (hch:∀b∈ch,(b∈X.ex\/X.s₀.heap.objs.size<=b)/\b≠X.env.locals/\(∀x c,X.env.cells.lookup x=some c->c≠b)/\∀p∈X.pn++pins,p.1≠b):Inv X pins σ H' s':=by
 obtain⟨h',g',d',t',o'⟩:=s'
 have e:o'=s.os:=ho
 subst e
 exact I.call (g':=g') (t':=t') (d':=d') u hok hg hch
end
abbrev XK:=Value->Option Addr->Hp->Prop
abbrev St:=List (Option V)
abbrev VK:=V->Hp->Prop
abbrev TE:=St->Hp->VK->Prop
abbrev TT:=St->Hp->(Bool->Hp->Prop)->Prop
abbrev TA:=St->Hp->(List V->Hp->Prop)->Prop
structure Ends where
 nx:St->Hp->Prop
 rt:VK
 bk:St->Hp->Prop:=λ_ _=>False
 ct:St->Hp->Prop:=λ_ _=>False
abbrev TS:=Ends->St->Hp->Prop
def EP(X:Cx)(pins:List (Addr×Obj))(σ:St)(Q:VK)(u:Value)(s':Shared):Prop:=∃v H',Inv X pins σ H' s'/\RelV v u/\Q v H'
def TP(X:Cx)(pins:List (Addr×Obj))(σ:St)(Q:Bool->Hp->Prop)(b:Bool)(s':Shared):Prop:=∃H',Inv X pins σ H' s'/\Q b H'
def AP(X:Cx)(pins:List (Addr×Obj))(σ:St)(Q:List V->Hp->Prop)(us:List Value)(s':Shared):Prop:=∃vs H',Inv X pins σ H' s'/\Vals vs us/\Q vs H'
def SP(X:Cx)(pins:List (Addr×Obj))(D:Ends)(f:Flow)(s':Shared):Prop:=
 match f with
 |.next=>∃σ' H',Inv X pins σ' H' s'/\D.nx σ' H'
 |.brk=>∃σ' H',Inv X pins σ' H' s'/\D.bk σ' H'
 |.cont=>∃σ' H',Inv X pins σ' H' s'/\D.ct σ' H'
 |.ret u=>∃v σ' H',Inv X pins σ' H' s'/\RelV v u/\D.rt v H'
def PE(X:Cx)(e:Expr)(t:TE):Prop:=
 ∀(pins:List (Addr×Obj)) (s:Shared) (σ:St) (H:Hp) (Q:VK),Inv X pins σ H s->t σ H Q->wpAny (model X.prog X.w) X.A (eval e X.env) (EP X pins σ Q) X.xe s
def PT(X:Cx)(e:Expr)(t:TT):Prop:=
 ∀(pins:List (Addr×Obj)) (s:Shared) (σ:St) (H:Hp) (Q:Bool->Hp->Prop),Inv X pins σ H s->t σ H Q->wpAny (model X.prog X.w) X.A (isTrue e X.env (eval e X.env)) (TP X pins σ Q) X.xe s
def PW(X:Cx)(e:Expr)(t:TT):Prop:=
 ∀(db:Sem Value) (pins:List (Addr×Obj)) (s:Shared) (σ:St) (H:Hp) (Q:Bool->Hp->Prop),Inv X pins σ H s->t σ H Q->wpAny (model X.prog X.w) X.A (isTrue e X.env db) (TP X pins σ Q) X.xe s
def PW.pt(h:PW X e t):PT X e t:=h _
def PA(X:Cx)(es:List Expr)(t:TA):Prop:=
 ∀(pos:Pos) (pins:List (Addr×Obj)) (s:Shared) (σ:St) (H:Hp) (Q:List V->Hp->Prop),Inv X pins σ H s->t σ H Q->wpAny (model X.prog X.w) X.A (spliced (backTo pos (starEach es X.env))) (AP X pins σ Q) X.xe s
def PS(X:Cx)(st:Stmt)(t:TS):Prop:=
 ∀(pins:List (Addr×Obj)) (s:Shared) (σ:St) (H:Hp) (D:Ends),Inv X pins σ H s->t D σ H->wpAny (model X.prog X.w) X.A (exec st X.env) (SP X pins D) X.xe s
def PSs(X:Cx)(st:List Stmt)(t:TS):Prop:=
 ∀(pins:List (Addr×Obj)) (s:Shared) (σ:St) (H:Hp) (D:Ends),Inv X pins σ H s->t D σ H->wpAny (model X.prog X.w) X.A (execs st X.env) (SP X pins D) X.xe s
def thn(h:wpAny M A t Q E s)(hQ:∀a s,Q a s->Q' a s):wpAny M A t Q' E s:=OX h hQ λ_ _ x=>x
end L2
namespace L2
open PySem PySem.Spec PyProof.Rows
section
variable{X:Cx}
def tVar(i:Nat):TE:=λσ H Q=>∃v,σ[i]?=some (some v)/\Q v H
def tC(v:V):TE:=λ_ H Q=>Q v H
def zB(hN:X.N[i]?=some x)(hv:Vis X.env.scope x)(hd:(x==("__debug__" : Str))=false:=by decide)(hcd:(x==("__classdict__" : Str))=false:=by decide):PE X (.Name x pos) (tVar i):=by
 intro pins s σ H Q I h
 obtain⟨v,e,h⟩:=h
 obtain⟨m,hn,hl⟩:=I.loc
 obtain⟨u,r,l⟩:=hl i x v hN e hv
 have ii:EP X pins σ Q u s:=⟨v,H,I,r,h⟩
 rcases l with ⟨hk,hm⟩ |⟨hk,c,hc,hcell⟩
 ·exact wpAny_Name (wpAny_loadName_local I.ok.kind hk hn hm ii) hd
 ·rcases hk with hk |hk
  ·exact wpAny_Name (wpAny_loadName_cell I.ok.kind hk hc hcell ii) hd
  ·exact wpAny_Name (wpAny_loadName_free I.ok.kind hk hc hcell ii hcd) hd
def Hj{i j pos}:PE X (.Constant (.int i) j pos) (tC (.int i)):=λ_ _ _ H _ I h=>wpAny_Constant_int ⟨.int i,H,I.tok _,⟨_,rfl⟩,h⟩
def LK{b j pos}:PE X (.Constant (.bool b) j pos) (tC (.bl b)):=λ_ _ _ H _ I h=>Constant_bool ⟨.bl b,H,I,rfl,h⟩
def GO{x j pos}:PE X (.Constant (.str x) j pos) (tC (.str x)):=λ_ _ _ H _ I h=>Calls.Constant_str ⟨.str x,H,I.tok _,⟨_,rfl⟩,h⟩
def Gl(X:Cx)(x:Str):Prop:=X.env.kindOf x=some .globalImplicit
def o8(I:Inv X pins σ H s)(hg:Gl X x)(hm:X.mg x=some u)(h:Q u s)
 (hd:(x==("__debug__" : Str))=false:=by decide):wpAny (model X.prog X.w) X.A (eval (.Name x pos) X.env) Q E s:=
 Calls.Name_function_global I.ok.kind hg (Calls.loadGlobal_global (by rw[I.ok.glob];exact I.mod.glob.keeps I.bk) hm h) hd
def j8(I:Inv X pins σ H s)(hg:Gl X x)(hm:X.mg x=none)(hv:bootBuiltins x=some u)(h:Q u s)
 (hn:x ≠ "__name__":=by decide) (hd:(x==("__debug__" : Str))=false:=by decide):wpAny (model X.prog X.w) X.A (eval (.Name x pos) X.env) Q E s:=by
 obtain⟨mb,h1,h2⟩:=I.mod.blt
 exact Calls.Name_function_global I.ok.kind hg (Calls.loadGlobal_builtin (by rw[I.ok.glob];exact I.mod.glob.keeps I.bk) hm (by rw[I.ok.blt];exact h1.keeps I.bk) ((h2 x hn).trans hv) h) hd
def DD(hg:Gl X x)(hm:X.mg x=some u)(r:RelV v u)(hd:(x==("__debug__" : Str))=false:=by decide):PE X (.Name x pos) (tC v):=
 λ_ _ _ H _ I h=>o8 I hg hm ⟨v,H,I,r,h⟩ hd
def Eh(hg:Gl X x)(hm:X.mg x=none)(hv:bootBuiltins x=some u)(r:RelV v u)(hn:x ≠ "__name__":=by decide)(hd:(x==("__debug__" : Str))=false:=by decide):PE X (.Name x pos) (tC v):=
 λ_ _ _ H _ I h=>j8 I hg hm hv ⟨v,H,I,r,h⟩ hn hd
variable{a b:Expr}{ta tb:TE}{pos:Pos}
def tB(t:TE):TT:=λσ H Q=>t σ H λx H1=>∃c,x=.bl c/\Q c H1
def Jp(h:PE X e t)(he:∀db,isTrue e X.env db=(do let v <- db;standAt e.pos;holding [v] (truthy v)):=by intro _;rfl):PT X e (tB t):=by
 intro pins s σ H Q I hw
 refine isTrue_plain (thn (h pins s σ H _ I hw) λv s1 ⟨x,H1,I1,r1,q1⟩=>?_) (he _)
 obtain⟨d,rfl,q⟩:=q1
 cases r1
 exact PM ⟨H1,I1,q⟩
variable{tA tB':TT}{dR:List Expr}
def tAnd(t u:TT):TT:=λσ H Q=>t σ H λc H1=>if c=true then u σ H1 Q else Q false H1
def tOr(t u:TT):TT:=λσ H Q=>t σ H λc H1=>if c=true then Q true H1 else u σ H1 Q
def tNot(t:TT):TT:=λσ H Q=>t σ H λc H1=>Q (!c) H1
def E8(ha:PT X a tA):PW X (.BoolOp .And [a] pos) tA:=by
 intro wh pins s σ H Q I h
 refine isTrue_and (thn (ha pins s σ H Q I h) λc s1 e=>?_)
 cases c with
 |true=>exact isTrue_and_nil e
 |false=>exact e
def HP(ha:PT X a tA):PW X (.BoolOp .Or [a] pos) tA:=by
 intro wh pins s σ H Q I h
 refine isTrue_or (thn (ha pins s σ H Q I h) λc s1 e=>?_)
 cases c with
 |false=>exact isTrue_or_nil e
 |true=>exact e
def FV(ha:PT X a tA)(hb:PW X (.BoolOp .And (b::dR) pos) tB'):PW X (.BoolOp .And (a::b::dR) pos) (tAnd tA tB'):=by
 intro wh pins s σ H Q I h
 refine isTrue_and (thn (ha pins s σ H _ I h) λc s1 ⟨H1,I1,q1⟩=>?_)
 cases c with
 |true=>exact hb wh pins s1 σ H1 Q I1 q1
 |false=>exact⟨H1,I1,q1⟩
def Kd(ha:PT X a tA)(hb:PW X (.BoolOp .Or (b::dR) pos) tB'):PW X (.BoolOp .Or (a::b::dR) pos) (tOr tA tB'):=by
 intro wh pins s σ H Q I h
 refine isTrue_or (thn (ha pins s σ H _ I h) λc s1 ⟨H1,I1,q1⟩=>?_)
 cases c with
 |true=>exact⟨H1,I1,q1⟩
 |false=>exact hb wh pins s1 σ H1 Q I1 q1
def HV(ha:PT X a tA):PT X (.UnaryOp .Not a pos) (tNot tA):=by
 intro pins s σ H Q I h
 exact isTrue_not (ha pins s σ H (λc H1=>Q (!c) H1) I h)
def JW(ta tb:TE):TE:=λσ H Q=>ta σ H λx H1=>∃c,x=.bl c/\if c=true then tb σ H1 Q else Q (.bl false) H1
def J8(ta:TE):TE:=λσ H Q=>ta σ H λx H1=>∃c,x=.bl c/\Q (.bl (!c)) H1
def Jz{op}(h:PE X a t):PE X (.BoolOp op [a] pos) t:=λpins s σ H Q I hw=>BoolOp_one (h pins s σ H Q I hw)
def HU(ha:PE X a ta)(hb:PE X (.BoolOp .And (b::dR) pos) tb):PE X (.BoolOp .And (a::b::dR) pos) (JW ta tb):=by
 intro pins s σ H Q I h
 refine BoolOp_and (thn (ha pins s σ H _ I h) λv s1 ⟨x,H1,I1,r1,q1⟩=>?_)
 obtain⟨c,rfl,q1⟩:=q1
 cases r1
 refine PM ?_
 cases c with
 |true=>exact hb pins s1 σ H1 Q I1 q1
 |false=>exact⟨.bl false,H1,I1,rfl,q1⟩
def Gy(ha:PE X a ta):PE X (.UnaryOp .Not a pos) (J8 ta):=by
 intro pins s σ H Q I h
 refine UnaryOp_ (thn (ha pins s σ H _ I h) λv s1 ⟨x,H1,I1,r1,q1⟩=>?_)
 obtain⟨c,rfl,q1⟩:=q1
 cases r1
 exact not_of (PM ⟨.bl (!c),H1,I1,rfl,q1⟩)
def tIf(t:TT)(ta tb:TE):TE:=λσ H Q=>t σ H λc H1=>if c=true then ta σ H1 Q else tb σ H1 Q
def Ay(hc:PT X c tA)(ha:PE X a ta)(hb:PE X b tb):PE X (.IfExp c a b pos) (tIf tA ta tb):=by
 intro pins s σ H Q I h
 refine wpAny_IfExp (thn (hc pins s σ H _ I h) λd s1 ⟨H1,I1,q1⟩=>?_)
 cases d with
 |true=>exact ha pins s1 σ H1 Q I1 q1
 |false=>exact hb pins s1 σ H1 Q I1 q1
end
end L2
namespace L2
open PySem PySem.Spec PyProof.Rows
def SqL(K:W.Frag)(H:Hp)(a:Addr)(xs:List V):Prop:=
 Rd H a (.lst xs)\/
  ∃(o:Obj) (its:Array Value) (n:Nat),K.lookup a=some o/\o.cls=.type "list" /\ o.dict=none/\o.data=.seq its n/\its.size<=sizeLine/\Vals xs its.toList
def SqT(K:W.Frag)(H:Hp)(a:Addr)(xs:List V):Prop:=
 Rd H a (.tup xs)\/
  ∃(o:Obj) (its:Array Value) (n:Nat),K.lookup a=some o/\o.cls=.type "tuple" /\ o.data=.seq its n/\its.size<=sizeLine/\Vals xs its.toList
def absV:Value->Option V
 |.none=>some .non
 |.bool b=>some (.bl b)
 |.int i _=>some (.int i)
 |.str x _=>some (.str x)
 |.bytes b _=>some (.byt b)
 |.float b _=>some (.flt b)
 |.ref a=>some (.ref a)
 |.type n=>some (.ty n)
 |_=>none
def RelV.abs(r:RelV x u):absV u=some x:=by
 cases x with
 |non=>cases r;rfl
 |bl _=>cases r;rfl
 |int _=>obtain⟨t,rfl⟩:=r;rfl
 |str _=>obtain⟨t,rfl⟩:=r;rfl
 |byt _=>obtain⟨t,rfl⟩:=r;rfl
 |flt _=>obtain⟨t,rfl⟩:=r;rfl
 |ref _=>cases r;rfl
 |ty _=>cases r;rfl
def RelV.inj(r:RelV x u)(q:RelV y u):x=y:=OE (r.abs.symm.trans q.abs)
def Vals.inj(r:Vals xs us)(q:Vals ys us):xs=ys:=by
 induction r generalizing ys with
 |nil=>cases q;rfl
 |
  cons r t ih=>
  cases q with
  |cons q t'=>rw[r.inj q,ih t']
section
variable{X:Cx}{pins:List (Addr×Obj)}{σ:St}{H:Hp}{s:Shared}{a:Addr}{xs ys:List V}
def SqL.of{K:W.Frag}(h:H a=some (.lst xs)):SqL K H a xs:=.inl (.inl h)
def SqT.of{K:W.Frag}(h:H a=some (.tup xs)):SqT K H a xs:=.inl (.inl h)
def Inv.list(I:Inv X pins σ H s)(h:SqL X.K H a xs):∃its:List Value,Vals xs its/\PlainL s.heap a its.toArray/\xs.length<=sizeLine:=by
 rcases h with h |⟨o,its,n,hk,hc,hd,hs,hz,r⟩
 ·obtain⟨z,its,n,r,e⟩:=h.ok I.hok
  exact⟨its,r,⟨_,n,e,rfl,rfl,rfl⟩,z⟩
 ·refine⟨its.toList,r,⟨o,n,I.kIn a o hk,hc,hd,by simpa using hs⟩,?_⟩
  have e:=r.length
  simp only[QS] at e
  omega
def Inv.tuple(I:Inv X pins σ H s)(h:SqT X.K H a xs):∃its:List Value,Vals xs its/\IsTup s.heap a its.toArray/\xs.length<=sizeLine:=by
 rcases h with h |⟨o,its,n,hk,hc,hs,hz,r⟩
 ·obtain⟨z,its,r,p⟩:=h.ok I.hok
  exact⟨its,r,p,z⟩
 ·refine⟨its.toList,r,⟨o,I.kIn a o hk,hc,n,by simpa using hs⟩,?_⟩
  have e:=r.length
  simp only[QS] at e
  omega
def Inv.list_inj(I:Inv X pins σ H s)(h:SqL X.K H a xs)(h':SqL X.K H a ys):xs=ys:=by
 obtain⟨its,r,⟨o,n,e,_,_,d⟩,_⟩:=I.list h
 obtain⟨its',r',⟨o',n',e',_,_,d'⟩,_⟩:=I.list h'
 rw[e] at e';cases e'
 rw[d] at d'
 injection d' with d1 _
 have:its=its':=by simpa using Pb Array.toList d1
 subst this
 exact r.inj r'
def Inv.tuple_inj(I:Inv X pins σ H s)(h:SqT X.K H a xs)(h':SqT X.K H a ys):xs=ys:=by
 obtain⟨its,r,⟨o,e,_,n,d⟩,_⟩:=I.tuple h
 obtain⟨its',r',⟨o',e',_,n',d'⟩,_⟩:=I.tuple h'
 rw[e] at e';cases e'
 rw[d] at d'
 injection d' with d1 _
 have:its=its':=by simpa using Pb Array.toList d1
 subst this
 exact r.inj r'
end
section
variable{X:Cx}{pins:List (Addr×Obj)}{σ:St}{H:Hp}{s:Shared}{E:Value->Shared->Prop}
end
section
variable{X:Cx}{st:Stmt}{dR:List Stmt}{t u:TS}{e:Expr}{te:TE}{pos:Pos}
def LH:TS:=λD σ H=>D.nx σ H
def tSeq(t u:TS):TS:=λD σ H=>t { D with nx:=u D } σ H
def Dt:PSs X [] LH:=λ_ _ σ H _ I h=>QQ ⟨σ,H,I,h⟩
def BR(h1:PS X st t)(h2:PSs X dR u):PSs X (st::dR) (tSeq t u):=by
 intro pins s σ H D I h
 refine wpAny_execs_cons (thn (h1 pins s σ H { D with nx:=u D } I h) λf s1 q=>?_)
 cases f with
 |
  next=>
  obtain⟨σ',H',I',q⟩:=q
  exact h2 pins s1 σ' H' D I' q
 |ret v=>exact q
 |brk=>exact q
 |cont=>exact q
def Ed(h1:PS X st t):PSs X [st] t:=by
 intro pins s σ H D I h
 refine wpAny_execs_cons (thn (h1 pins s σ H D I h) λf s1 q=>?_)
 cases f with
 |next=>exact QQ q
 |ret v=>exact q
 |brk=>exact q
 |cont=>exact q
def Inv.quiet(I:Inv X pins σ H s):interactive X.env=false:=by simp [interactive,I.ok.kind]
def Lu(te:TE):TS:=λD σ H=>te σ H λ_ H1=>D.nx σ H1
def EF(he:PE X e te)(hs:swapsWith e none pos.line X.env=pure false:=by rfl):PS X (.Expr e pos) (Lu te):=by
 intro pins s σ H D I h
 exact wpAny_Expr_any (thn (he pins s σ H _ I h) λv s1 ⟨x,H1,I1,r1,q1⟩=>⟨σ,H1,I1,q1⟩) I.quiet hs
def tRet(te:TE):TS:=λD σ H=>te σ H D.rt
def Il(he:PE X e te):PS X (.Return (some e) pos) (tRet te):=by
 intro pins s σ H D I h
 exact wpAny_Return_some (thn (he pins s σ H _ I h) λv s1 ⟨x,H1,I1,r1,q1⟩=>⟨x,σ,H1,I1,r1,q1⟩)
def Mh:TS:=λD _ H=>D.rt .non H
def EW:PS X (.Return none pos) Mh:=λ_ _ σ H _ I h=>wpAny_Return_none ⟨.non,σ,H,I,rfl,h⟩
def tIfS(c:TT)(t u:TS):TS:=λD σ H=>c σ H λb H1=>if b=true then t D σ H1 else u D σ H1
def Kg(hc:PT X c tc)(ha:PSs X a t)(hb:PSs X b u):PS X (.If c a b pos) (tIfS tc t u):=by
 intro pins s σ H D I h
 refine wpAny_If (thn (hc pins s σ H _ I h) λd s1 ⟨H1,I1,q1⟩=>?_)
 cases d with
 |true=>exact ha pins s1 σ H1 D I1 q1
 |false=>exact hb pins s1 σ H1 D I1 q1
end
abbrev TG:=V->St->Hp->(St->Hp->Prop)->Prop
abbrev TGs:=List V->St->Hp->(St->Hp->Prop)->Prop
def PG(X:Cx)(target:Expr)(t:TG):Prop:=
 ∀
  (pins:List (Addr×Obj)) (s:Shared) (σ:St) (H:Hp) (v:V) (u:Value) (Q:St->Hp->Prop),Inv X pins σ H s->RelV v u->t v σ H Q->
  wpAny (model X.prog X.w) X.A (assign target X.env u) (λ_ s'=>∃σ' H',Inv X pins σ' H' s'/\Q σ' H') X.xe s
def PGs(X:Cx)(ts:List Expr)(t:TGs):Prop:=
 ∀
  (pins:List (Addr×Obj)) (s:Shared) (σ:St) (H:Hp) (vs:List V) (us:List Value) (Q:St->Hp->Prop),Inv X pins σ H s->Vals vs us->t vs σ H Q->
  wpAny (model X.prog X.w) X.A (assignInOrder ((assignEach ts X.env).map (·.2)) us) (λ_ s'=>∃σ' H',Inv X pins σ' H' s'/\Q σ' H') X.xe s
abbrev wc:=V->V->V->Hp->(Hp->Prop)->Prop
def sF(X:Cx)(t:wc):Prop:=
 ∀
  (pins:List (Addr×Obj)) (s:Shared) (σ:St) (H:Hp) (o i v:V) (ov iv u:Value) (Q:Hp->Prop),Inv X pins σ H s->RelV o ov->RelV i iv->RelV v u->t o i v H Q->
  wpAny (model X.prog X.w) X.A (setItem ov iv u) (λ_ s'=>∃H',Inv X pins σ H' s'/\Q H') X.xe s
abbrev TIp:=V->V->Hp->VK->Prop
def PIp(X:Cx)(op:Operator)(t:TIp):Prop:=
 ∀
  (pins:List (Addr×Obj)) (s:Shared) (σ:St) (H:Hp) (x y:V) (v u:Value) (Q:VK),Inv X pins σ H s->RelV x v->RelV y u->t x y H Q->
  wpAny (model X.prog X.w) X.A (inplaceOp op v u) (EP X pins σ Q) X.xe s
section
variable{X:Cx}{pos:Pos}
def oo(i:Nat):TG:=λv σ H Q=>Q (σ.set i (some v)) H
def DH(hN:X.N.Nodup)(hi:X.N[i]?=some x)(hx:Loc X.env.scope x)(hf:X.fn x=true\/X.env.scope.names.lookup x=some .local:=by first |exact .inl rfl |exact .inr rfl |assumption):PG X (.Name x pos) (oo i):=by
 intro pins s σ H v u Q I r h
 exact wpAny_assign_Name (iX I hN hi hx r (λs' I'=>⟨_,H,I',h⟩) hf)
def gNil:TGs:=λvs σ H Q=>vs=[]/\Q σ H
def KP(t:TG)(u:TGs):TGs:=λvs σ H Q=>∃v r,vs=v::r/\t v σ H λσ' H'=>u r σ' H' Q
def Fi:PGs X [] gNil:=by
 intro pins s σ H vs us Q I r h
 obtain⟨e,h⟩:=h
 subst e
 cases r
 exact assignInOrder_nil ⟨σ,H,I,h⟩
def A9(h1:PG X e t)(h2:PGs X es u)
 (hs:(assignEach (e::es) X.env).map (·.2)=assign e X.env::(assignEach es X.env).map (·.2):=by rfl):PGs X (e::es) (KP t u):=by
 intro pins s σ H vs us Q I r h
 obtain⟨v,vr,e1,h⟩:=h
 subst e1
 cases r with
 |
  cons r rr=>
  rw[hs]
  refine assignInOrder_cons (thn (h1 pins s σ H _ _ _ I r h) λ_ s1 ⟨σ1,H1,I1,q1⟩=>?_)
  exact h2 pins s1 σ1 H1 _ _ Q I1 rr q1
def gTup(K:W.Frag)(n:Nat)(t:TGs):TG:=λv σ H Q=>∃a xs,v=.ref a/\SqT K H a xs/\xs.length=n/\t xs σ H Q
def Gu(hc:X.calm=true)(h:PGs X es t)
 (hn:(assignEach es X.env).length=n:=by rfl) (hst:(assignEach es X.env).findIdx? (·.1)=none:=by rfl):PG X (.Tuple es k pos) (gTup X.K n t):=by
 intro pins s σ H v u Q I r hw
 obtain⟨a,xs,e1,hq,hl,hw⟩:=hw
 subst e1
 cases r
 obtain⟨its,rv,ht,hz⟩:=I.tuple hq
 refine assign_Tuple_tuple (I.ok.hd hc) ht (by simp [hn,<- hl,rv.length]) hst λh' hx=>?_
 have I1:Inv X pins σ H { s with heap:=h' }:=I.kept (t':=s.toks) λb o e=>hx b o (OM (Ot e)) e
 exact h pins _ σ H xs _ Q I1 (by simpa using rv) hw
def gSub(to ti:TE)(t:wc):TG:=λv σ H Q=>to σ H λo H1=>ti σ H1 λi H2=>t o i v H2 λH3=>Q σ H3
def GI(ho:PE X o to)(hi:PE X i ti)(hs:sF X t)
 (ha:∀v,assign (.Subscript o i pos) X.env v=(do
  let ov <- holding [v] (eval o X.env)
  let iv <- holding [v,ov] (eval i X.env)
  standAt pos
  holding [v,ov,iv] (setItem ov iv v)
  release [v,ov,iv] []):=by intro _;rfl):PG X (.Subscript o i pos) (gSub to ti t):=by
 intro pins s σ H v u Q I r h
 rw[ha]
 refine Oa (Qi (thn (ho pins s σ H _ I h) λov s1 ⟨x,H1,I1,r1,q1⟩=>?_))
 refine Oa (Qi (thn (hi pins s1 σ H1 _ I1 q1) λiv s2 ⟨y,H2,I2,r2,q2⟩=>?_))
 refine Oa (QZ (Oa (Qi (thn (hs pins s2 σ H2 x y v ov iv u _ I2 r1 r2 r q2) λ_ s3 ⟨H3,I3,q3⟩=>?_))))
 exact wpAny_release ⟨σ,H3,I3,q3⟩
def tP(te:TE)(g:TG):TS:=λD σ H=>te σ H λx H1=>g x σ H1 D.nx
def IF(he:PE X e te)(hg:PG X tg g)(hs:swapsWithSole [tg] e pos.line X.env=pure false:=by rfl)(hw:swappedStores [tg] e X.env=pure none:=by rfl)
 (h1:(assignEach [tg] X.env).map (·.2)=[assign tg X.env]:=by rfl):PS X (.Assign [tg] e pos) (tP te g):=by
 intro pins s σ H D I h
 refine wpAny_Assign_stores (thn (he pins s σ H _ I h) λv s1 ⟨x,H1,I1,r1,q1⟩=>?_) hs hw
 rw[h1]
 exact thn (hg pins s1 σ H1 x v _ I1 r1 q1) λ_ s2 q=>q
def GS(hN:X.N.Nodup)(hi:X.N[i]?=some x)(hx:Loc X.env.scope x)(he:PE X e te)(hs:swapsWith e (some (.Name x pos')) pos.line X.env=pure false:=by rfl)(hf:X.fn x=true\/X.env.scope.names.lookup x=some .local:=by first |exact .inl rfl |exact .inr rfl |assumption):
 PS X (.Assign [.Name x pos'] e pos) (tP te (oo i)):=by
 intro pins s σ H D I h
 refine wpAny_Assign_Name (thn (he pins s σ H _ I h) λv s1 ⟨y,H1,I1,r1,q1⟩=>?_) hs
 exact iX I1 hN hi hx r1 (λs2 I2=>⟨_,H1,I2,q1⟩) hf
def tPar(i j:Nat)(ta:TA):TS:=λD σ H=>ta σ H λvs H1=>∃v w,vs=[v,w]/\D.nx ((σ.set i (some v)).set j (some w)) H1
def IS{kt k2 pt2}(hc:X.calm=true)(hN:X.N.Nodup)(hi:X.N[i]?=some x)(hj:X.N[j]?=some y)(hij:i≠j)
 (hx:X.env.scope.names.lookup x=some .local) (hy:X.env.scope.names.lookup y=some .local) (ha:PA X [a,b] ta)
 (hw:swappedStores [.Tuple [.Name x px,.Name y py] kt pt] (.Tuple [a,b] k2 pt2) X.env=pure (some [x,y]))
 (hs:swapsWithSole [.Tuple [.Name x px,.Name y py] kt pt] (.Tuple [a,b] k2 pt2) pos.line X.env=pure false:=by rfl):
 PS X (.Assign [.Tuple [.Name x px,.Name y py] kt pt] (.Tuple [a,b] k2 pt2) pos) (tPar i j ta):=by
 intro pins s σ H D I h
 rw[exec_Assign_arm]
 refine Oa (QZ ?_)
 rw[hs]
 refine Oa (Ou ?_)
 rw[if_neg (by decide)]
 refine Oa (Tuple_ (thn (ha _ pins s σ H _ I h) λus s1 ⟨vs,H1,I1,r1,q1⟩=>?_))
 obtain⟨v,w,e1,q1⟩:=q1
 subst e1
 obtain⟨u1,u2,rfl,rv,rw'⟩:∃u1 u2,us=[u1,u2]/\RelV v u1/\RelV w u2:=by
  cases r1 with
  |
   cons p q=>
   cases q with
   |
    cons p' q'=>
    cases q'
    exact⟨_,_,rfl,p,p'⟩
 refine Pg ?_ (by show 2<=sizeLine;decide)
 have I2:Inv X pins σ H1 { s1 with heap:=s1.heap.push { cls:=.type "tuple",data:=.seq [u1,u2].toArray } }:=I1.kept (t':=s1.toks) λb o e=>Oo _ e
 rw[hw]
 refine Oa (Ou ?_)
 show wpAny (model X.prog X.w) X.A (do rule "assign.swapped-stores";let items <- unpackItems (.ref s1.heap.objs.size) 2 none;assignInOrder [λv=>bindName X.env y v,λv=>bindName X.env x v] items.reverse;pure Flow.next) _ _ _
 refine Oa (wpAny_rule (Oa (unpackItems_tuple (items:=#[u1,u2]) (I.ok.hd hc) (IsTup.new s1.heap _) λh' hx'=>?_)))
 have I3:=I2.kept (h':=h') (t':=s1.toks) λb o e=>hx' b o (OM (Ot e)) e
 show wpAny _ _ (assignInOrder [λv=>bindName X.env y v,λv=>bindName X.env x v] [u2,u1] >>= λ_=>pure Flow.next) _ _ _
 refine Oa (assignInOrder_cons (wpAny_bindName (iX I3 hN hj (.inl hy) rw' (λs2 I4=>?_) (.inr hy))))
 refine assignInOrder_cons (wpAny_bindName (iX I4 hN hi (.inl hx) rv (λs3 I5=>assignInOrder_nil (Ou ?_)) (.inr hx)))
 rw[List.set_comm _ _ (Ne.symm hij)] at I5
 exact⟨_,H1,I5,q1⟩
def tAug(i:Nat)(te:TE)(ti:TIp):TS:=λD σ H=>∃x,σ[i]?=some (some x)/\te σ H λy H1=>ti x y H1 λz H2=>D.nx (σ.set i (some z)) H2
def FW(hN:X.N.Nodup)(hi:X.N[i]?=some x)(hx:Loc X.env.scope x)(he:PE X e te)(ho:PIp X op ti)(hf:X.fn x=true\/X.env.scope.names.lookup x=some .local:=by first |exact .inl rfl |exact .inr rfl |assumption):
 PS X (.AugAssign (.Name x pos') op e pos) (tAug i te ti):=by
 intro pins s σ H D I h
 obtain⟨v,e1,h⟩:=h
 obtain⟨m,hn,hl⟩:=I.loc
 have vis:Vis X.env.scope x:=by rcases hx with k |k;exact .inl k;exact .inr (.inl k)
 obtain⟨u,r,l⟩:=hl i x v hi e1 vis
 refine wpAny_AugAssign_Name ?_
 have go:wpAny (model X.prog X.w) X.A (eval e X.env) (λw s₂=>wpAny (model X.prog X.w) X.A (inplaceOp op u w) (λr s₃=>wpAny (model X.prog X.w) X.A (storeName X.env x r) (λ_=>SP X pins D .next) X.xe s₃) X.xe s₂) X.xe s:=by
  refine thn (he pins s σ H _ I h) λw s1 ⟨y,H1,I1,r1,q1⟩=>?_
  refine thn (ho pins s1 σ H1 v y u w _ I1 r r1 q1) λz s2 ⟨zv,H2,I2,r2,q2⟩=>?_
  exact iX I2 hN hi hx r2 (λs3 I3=>⟨_,H2,I3,q2⟩) hf
 rcases l with ⟨hk,hm⟩ |⟨hk,c,hc,hcell⟩
 ·exact wpAny_loadName_local I.ok.kind hk hn hm go
 ·rcases hk with hk |hk
  ·exact wpAny_loadName_cell I.ok.kind hk hc hcell go
  ·rcases hx with k |k
   ·have:X.env.scope.names.lookup x=some .free:=hk
    rw[k] at this;cases this
   ·have:X.env.scope.names.lookup x=some .free:=hk
    rw[k] at this;cases this
def ipI(f:Int->Int->Int):TIp:=λx y H Q=>∃i j,x=.int i/\y=.int j/\Q (.int (f i j)) H
def FI:PIp X .Add (ipI λi j=>i+j):=by
 intro pins s σ H x y v u Q I r1 r2 h
 obtain⟨i,j,e1,e2,q⟩:=h
 subst e1;subst e2
 obtain⟨t,rfl⟩:=r1
 obtain⟨t',rfl⟩:=r2
 exact iadd_int ⟨.int _,H,I.tok _,⟨_,rfl⟩,q⟩
end
section
variable{X:Cx}{pos:Pos}
def Hf(c:TT)(tb:TS):TS:=λD σ H=>∃W:Nat->St->Hp->Prop,(∃m,W m σ H)/\∀m σ H,W m σ H->
 c σ H λb H1=>if b=true then ∃N:St->Hp->Prop,(∀σ' H',N σ' H'->∃m',m'<m/\W m' σ' H')/\tb { D with nx:=N,ct:=N,bk:=D.nx } σ H1 else D.nx σ H1
def B4(hp:PassesOwn (model X.prog X.w) X.A X.env X.xe)(hc:PT X c tc)(hb:PSs X body tb):PS X (.While c body [] pos) (Hf tc tb):=by
 intro pins s σ H D I h
 obtain⟨W,⟨m0,w0⟩,turn⟩:=h
 refine wpAny_While (codeAny_whileLoop (λn s'=>∃σ' H',Inv X pins σ' H' s'/\W n σ' H') ?_ m0 ⟨σ,H,I,w0⟩)
 rintro n s1 ⟨σ1,H1,I1,w1⟩
 refine PK hp (thn (hc pins s1 σ1 H1 _ I1 (turn n σ1 H1 w1)) λb s2 ⟨H2,I2,q2⟩=>?_)
 cases b with
 |
  true=>
  obtain⟨N,hN,q2⟩:=q2
  rw[if_pos rfl]
  refine PK hp (thn (hb pins s2 σ1 H2 _ I2 q2) λf s3 q3=>?_)
  cases f with
  |
   next=>
   obtain⟨σ3,H3,I3,n3⟩:=q3
   obtain⟨m',hm,w3⟩:=hN σ3 H3 n3
   exact⟨m',hm,σ3,H3,I3,w3⟩
  |
   cont=>
   obtain⟨σ3,H3,I3,n3⟩:=q3
   obtain⟨m',hm,w3⟩:=hN σ3 H3 n3
   exact⟨m',hm,σ3,H3,I3,w3⟩
  |brk=>exact q3
  |ret v=>exact q3
 |
  false=>
  rw[if_neg Ol]
  exact QQ ⟨σ1,H2,I2,q2⟩
end
structure It where
 go:Nat->Hp->Prop
 yld:Nat->Hp->V->Hp->Prop
 stop:Nat->Hp->Prop
def FpOk(X:Cx)(pins:List (Addr×Obj))(H:Hp)(b:Addr):Prop:=
 H b=none/\b≠X.env.locals/\b∉X.fs/\(b∈X.ex\/X.s₀.heap.objs.size<=b)/\(∀x c,X.env.cells.lookup x=some c->c≠b)/\∀p∈X.pn++pins,p.1≠b
def Inv.fpOk(I:Inv X pins σ H s)(hb:s.heap.objs.size<=b)(hn:H' b=none):FpOk X pins H' b:=by
 refine⟨hn,Qn (Ox I.lt hb),I.nofs hb,.inr (Ow I.sz hb),λx c e z=>?_,λp hp z=>?_⟩
 ·obtain⟨v,q⟩:=I.cell x c e
  exact absurd (Ox q.lt (by rw[z];exact hb)) (Pe _)
 ·exact absurd (Ox (Ot (I.pin p hp).1) (by rw[z];exact hb)) (Pe _)
structure Turn(P:Program)(w:World)(K:W.Frag)(tg:Expr)(J:It)(fp:List Addr)(it:Addr)(tn:Nat->Heap->Prop):Prop where
 mem:it∈fp
 obj:∀i h,tn i h->∀b∈fp,∃o,h.get? b=some o/\∀v,o.data ≠ .cell v
 keep:∀i h h',tn i h->(∀b∈fp,∀o,h.get? b=some o->h'.get? b=some o)->tn i h'
 item:∀(X:Cx),X.prog=P->X.w=w->X.K=K->X.calm=true->∀(i:Nat) (pins:List (Addr×Obj)) (s:Shared) (σ:St) (H:Hp) (E:Value->Shared->Prop),Inv X pins σ H s->(∀b∈fp,FpOk X pins H b)->tn i s.heap->J.go i H->
  wpAny (model P w) X.A (pyNext (.ref it)) (λr s1=>∃u,r=some u/\
   wpAny (model P w) X.A (letOwnedTupleGo tg (.ref it) u) (λ_ s2=>∃x H',Inv X pins σ H' s2/\RelV x u/\J.yld i H x H'/\tn (i+1) s2.heap/\∀b∈fp,H' b=none) E s1) E s
 done:∀(X:Cx),X.prog=P->X.w=w->X.K=K->X.calm=true->∀(i:Nat) (pins:List (Addr×Obj)) (s:Shared) (σ:St) (H:Hp) (E:Value->Shared->Prop),Inv X pins σ H s->(∀b∈fp,FpOk X pins H b)->tn i s.heap->J.stop i H->
  wpAny (model P w) X.A (pyNext (.ref it)) (λr s1=>r=none/\Inv X pins σ H s1) E s
 self:∀(A:Around) (i:Nat) (s:Shared) (Q:Value->Shared->Prop) (E:Value->Shared->Prop),tn i s.heap->Q (.ref it) s->wpAny (model P w) A (pyIter (.ref it)) Q E s
abbrev TI:=St->Hp->(It->Hp->Prop)->Prop
def PIE(X:Cx)(pins:List (Addr×Obj))(σ:St)(tg:Expr)(R:It->Hp->Prop)(itv:Value)(s2:Shared):Prop:=
 ∃(it:Addr) (fp:List Addr) (tn:Nat->Heap->Prop) (J:It) (H':Hp),itv=.ref it/\Inv X pins σ H' s2/\Turn X.prog X.w X.K tg J fp it tn/\tn 0 s2.heap/\(∀b∈fp,FpOk X pins H' b)/\R J H'
def PI(X:Cx)(tg am:Expr)(wi:TI):Prop:=
 ∀
  (pins:List (Addr×Obj)) (s:Shared) (σ:St) (H:Hp) (R:It->Hp->Prop),Inv X pins σ H s->wi σ H R->
  wpAny (model X.prog X.w) X.A (eval am X.env) (λv s1=>wpAny (model X.prog X.w) X.A (pyIter v) (PIE X pins σ tg R) X.xe s1) X.xe s
def wD(ho:s.heap.get? it=some o)(hc:o.cls=.type n)(hd:o.data=.fields vs)
 (hn:["enumerate", "zip", "dict_itemiterator", "dict_reverseitemiterator", "odict_iterator", "itertools.zip_longest", "itertools.pairwise"].contains n=false) (hQ:Q () s):wpAny M A (letOwnedTupleGo tg (.ref it) u) Q E s:=by
 unfold letOwnedTupleGo
 cases tg
  <;> first
  |exact Ou hQ
  |(cases u <;> first
   |exact Ou hQ
   |(
    refine Oa (wpAny_load ho ?_)
    rw[hc,hd]
    show wpAny M A (if (["enumerate", "zip", "dict_itemiterator", "dict_reverseitemiterator", "odict_iterator", "itertools.zip_longest", "itertools.pairwise"].contains n&&vs[0]?==some (rawInt _))=true then _ else _) Q E s
    rw[if_neg (by intro h;rw[hn,Bool.false_and] at h;cases h)]
    exact Ou hQ))
def Itl(K:W.Frag)(a:Addr):It:=
 ⟨λi H=>∃xs x,SqL K H a xs/\xs[i]?=some x,λi H x H'=>H'=H/\∀xs,SqL K H a xs->xs[i]?=some x,λi H=>∃xs,SqL K H a xs/\xs.length<=i⟩
def Itt(K:W.Frag)(a:Addr):It:=
 ⟨λi H=>∃xs x,SqT K H a xs/\xs[i]?=some x,λi H x H'=>H'=H/\∀xs,SqT K H a xs->xs[i]?=some x,λi H=>∃xs,SqT K H a xs/\xs.length<=i⟩
def Itr(lo:Int)(n:Nat):It:=⟨λi _=>i<n,λi H x H'=>H'=H/\x=.int (lo+i),λi _=>n<=i⟩
def yt{P:Program}{w:World}{K:W.Frag}{tg:Expr}(a it:Addr):Turn P w K tg (Itl K a) [it] it (λi h=>h.IsListIter it a i) where
 mem:=by simp
 obj:=λi h st b hb=>by
  have e:b=it:=by simpa using hb
  subst e
  obtain⟨o,e,c,d⟩:=st
  exact⟨o,e,λv z=>by rw[d] at z;cases z⟩
 keep:=λi h h' st k=>st.at λo e=>k it (by simp) o e
 item:=by
  intro X hP hw hK hc i pins s σ H E I hf st hg
  subst hP hw hK
  obtain⟨xs,x,hq,hx⟩:=hg
  obtain⟨its,rv,p,hz⟩:=I.list hq
  obtain⟨u,hu,ru⟩:=rv.get hx
  obtain⟨f0,f1,f2,f3,f4,f5⟩:=hf it (by simp)
  refine wpAny_pyNext_list_item st p.isList (x:=u) (by simpa using hu) λh' st' sb=>?_
  have I1:Inv X pins σ H { s with heap:=h' }:=I.turned (t':=s.toks) (λb o hb e=>(sb.2 b hb).trans e) f0 f1 f3 f4 f5
  obtain⟨o,e,c,d⟩:=id st'
  exact⟨u,rfl,wD (s:={ s with heap:=h' }) e c d (by decide) ⟨x,H,I1,ru,⟨rfl,λys hy=>by rw[I.list_inj hy hq];exact hx⟩,st',λb hb=>(hf b hb).1⟩⟩
 done:=by
  intro X hP hw hK hc i pins s σ H E I hf st hg
  subst hP hw hK
  obtain⟨xs,hq,hx⟩:=hg
  obtain⟨its,rv,p,hz⟩:=I.list hq
  obtain⟨f0,f1,f2,f3,f4,f5⟩:=hf it (by simp)
  have hl:=rv.length
  exact wpAny_pyNext_list_end (I.ok.hd hc) st p.isList (by simp;omega) λh' eb=>⟨rfl,I.turned (t':=s.toks) (λb o hb e=>eb b o hb e) f0 f1 f3 f4 f5⟩
 self:=λ_ _ _ _ _ st h=>wpAny_pyIter_listiter st h
def wz{P:Program}{w:World}{K:W.Frag}{tg:Expr}(a it:Addr):Turn P w K tg (Itt K a) [it] it (λi h=>h.IsTupleIter it a i) where
 mem:=by simp
 obj:=λi h st b hb=>by
  have e:b=it:=by simpa using hb
  subst e
  obtain⟨o,e,c,d⟩:=st
  exact⟨o,e,λv z=>by rw[d] at z;cases z⟩
 keep:=λi h h' st k=>st.at λo e=>k it (by simp) o e
 item:=by
  intro X hP hw hK hc i pins s σ H E I hf st hg
  subst hP hw hK
  obtain⟨xs,x,hq,hx⟩:=hg
  obtain⟨its,rv,p,hz⟩:=I.tuple hq
  obtain⟨u,hu,ru⟩:=rv.get hx
  obtain⟨f0,f1,f2,f3,f4,f5⟩:=hf it (by simp)
  refine wpAny_pyNext_tuple_item st (show s.heap.IsTuple a its.toArray from p) (x:=u) (by simpa using hu) λh' st' sb=>?_
  have I1:Inv X pins σ H { s with heap:=h' }:=I.turned (t':=s.toks) (λb o hb e=>(sb.2 b hb).trans e) f0 f1 f3 f4 f5
  obtain⟨o,e,c,d⟩:=id st'
  exact⟨u,rfl,wD (s:={ s with heap:=h' }) e c d (by decide) ⟨x,H,I1,ru,⟨rfl,λys hy=>by rw[I.tuple_inj hy hq];exact hx⟩,st',λb hb=>(hf b hb).1⟩⟩
 done:=by
  intro X hP hw hK hc i pins s σ H E I hf st hg
  subst hP hw hK
  obtain⟨xs,hq,hx⟩:=hg
  obtain⟨its,rv,p,hz⟩:=I.tuple hq
  obtain⟨f0,f1,f2,f3,f4,f5⟩:=hf it (by simp)
  have hl:=rv.length
  exact wpAny_pyNext_tuple_end (I.ok.hd hc) st (show s.heap.IsTuple a its.toArray from p) (by simp;omega) λh' eb=>⟨rfl,I.turned (t':=s.toks) (λb o hb e=>eb b o hb e) f0 f1 f3 f4 f5⟩
 self:=λ_ _ _ _ _ st h=>wpAny_pyIter_tupleiter st h
def xA{P:Program}{w:World}{K:W.Frag}{tg:Expr}(it:Addr)(lo:Int)(n:Nat):Turn P w K tg (Itr lo n) [it] it (λi h=>IsRangeIter h it (lo+(i:Nat)*1) ((n:Int)-(i:Nat)) 1) where
 mem:=by simp
 obj
  := λi h st b hb=>by
  have e:b=it:=by simpa using hb
  subst e
  exact⟨_,st,λv z=>by
   have z':Data.fields _=Data.cell v:=z
   cases z'⟩
 keep:=λi h h' st k=>k it (by simp) _ st
 item:=by
  intro X hP hw hK hc i pins s σ H E I hf st hg
  subst hP hw hK
  obtain⟨f0,f1,f2,f3,f4,f5⟩:=hf it (by simp)
  have W:=Walks.range (prog:=X.prog) (w:=X.w) (I.ok.hd hc) it lo 1 n
  refine W.item i s _ _ hg st λv h' tk hv st' kk=>?_
  obtain⟨t,rfl⟩:=hv
  have I1:Inv X pins σ H { s with heap:=h',toks:=tk }:=I.turned (λb o hb e=>kk b o (by simpa using hb) e) f0 f1 f3 f4 f5
  refine⟨_,rfl,wD (s:={ s with heap:=h',toks:=tk }) (n:="range_iterator") st' rfl rfl (by decide) ⟨.int (lo+i),H,I1,⟨t,?_⟩,⟨rfl,rfl⟩,st',λb hb=>(hf b hb).1⟩⟩
  rw[Int.mul_one]
 done:=by
  intro X hP hw hK hc i pins s σ H E I hf st hg
  subst hP hw hK
  obtain⟨f0,f1,f2,f3,f4,f5⟩:=hf it (by simp)
  exact wpAny_pyNext_range_end (I.ok.hd hc) st (by have:n<=i:=hg;omega) λh' eb=>⟨rfl,I.turned (t':=s.toks) (λb o hb e=>eb b o hb e) f0 f1 f3 f4 f5⟩
 self:=λ_ _ _ _ _ st h=>wpAny_pyIter_rangeiter st h
end L2
namespace L2
open PySem PySem.Spec PyProof.Rows
section
variable{X:Cx}{tg:Expr}
def Ad{pins:List (Addr×Obj)}{σ:St}{H:Hp}{s:Shared}{R:It->Hp->Prop}{E:Value->Shared->Prop}{lo hi:Int}{t u v:Tok}{tk:Nat}(I:Inv X pins σ H s)(h1:-(2^62)<=lo)(h2:lo<2^62)(h3:-(2^62)<=hi)(h4:hi<2^62)
 (q:R (Itr lo (hi-lo).toNat) H):wpAny (model X.prog X.w) X.A (pyIter (.ref s.heap.objs.size)) (PIE X pins σ tg R) E { s with heap:=s.heap.push { cls:=.type "range",data:=.fields #[.int lo t,.int hi u,.int 1 v] },toks:=tk }:=by
 refine wpAny_pyIter_range (IsRange.new ..) (small_one h1 h2 h3 h4) ?_
 have I1:Inv X pins σ H { s with heap:=s.heap.push { cls:=.type "range",data:=.fields #[.int lo t,.int hi u,.int 1 v] },toks:=tk }:=I.kept λb o e=>Oo _ e
 refine⟨(s.heap.push { cls:=.type "range",data:=.fields #[.int lo t,.int hi u,.int 1 v] }).objs.size,[(s.heap.push { cls:=.type "range",data:=.fields #[.int lo t,.int hi u,.int 1 v] }).objs.size],_,_,H,rfl,
  I1.kept (t':=tk) λb o e=>Oo _ e,xA _ lo (hi-lo).toNat,?_,λb hb=>?_,q⟩
 ·have e1:lo+((0:Nat):Int)*1=lo:=by simp
  have e2:(((hi-lo).toNat:Nat):Int)-((0:Nat):Int)=Builtin.Range.rangeSize lo hi 1:=by rw[rangeSize_one];split <;> omega
  show IsRangeIter _ _ (lo+((0:Nat):Int)*1) ((((hi-lo).toNat:Nat):Int)-((0:Nat):Int)) 1
  rw[e1,e2]
  exact OD _ rfl
 ·have e:b=(s.heap.push { cls:=.type "range",data:=.fields #[.int lo t,.int hi u,.int 1 v] }).objs.size:=by simpa using hb
  subst e
  exact I1.fpOk (Og _) (I1.hok.fresh (Og _))
def Kv(ta:TA):TI:=λσ H R=>ta σ H λvs H1=>∃j:Int,vs=[.int j]/\-(2^62)<=j/\j<2^62/\R (Itr 0 j.toNat) H1
def yp(hg:Gl X "range")(hm:X.mg "range"=none)(ha:PA X [a] ta)(hs:starEach [a] X.env=[(false,eval a X.env)]:=by rfl):PI X tg (.Call (.Name "range" p) [a] [] pos) (Kv ta):=by
 intro pins s σ H R I h
 refine Call_ (j8 I hg hm boot_range (P_ (thn (ha pos pins s σ H _ I h) λus s1 ⟨vs,H1,I1,r1,q1⟩=>?_) hs rfl))
 obtain⟨j,e,q1,q2,q⟩:=q1
 subst e
 cases r1 with
 |
  cons r rr=>
  cases rr
  obtain⟨t,rfl⟩:=r
  exact call_range_1 (Ad I1 (by omega) (by omega) q1 q2 (by simpa using q))
def tFor(wi:TI)(g:TG)(tb:TS):TS:=λD σ H=>wi σ H λJ H1=>∃W:Nat->Nat->St->Hp->Prop,(∃m,W 0 m σ H1)/\∀i m σ H,W i m σ H->
 (J.stop i H/\D.nx σ H)\/(J.go i H/\∃N:St->Hp->Prop,(∀σ' H',N σ' H'->∃m',m'<m/\W (i+1) m' σ' H')/\∀x H',J.yld i H x H'->g x σ H' λσ2 H2=>tb { D with nx:=N,ct:=N,bk:=D.nx } σ2 H2)
def lF(fp:List Addr)(h:Heap):List (Addr×Obj):=fp.filterMap λb=>(h.get? b).map λo=>(b,o)
def iN(hb:b∈fp)(e:h.get? b=some o):(b,o)∈lF fp h:=List.mem_filterMap.mpr ⟨b,hb,by rw[e];rfl⟩
def yj(hp:p∈lF fp h):p.1∈fp/\h.get? p.1=some p.2:=by
 obtain⟨b,hb,e⟩:=List.mem_filterMap.mp hp
 cases q:h.get? b with
 |none=>rw[q] at e;cases e
 |
  some o=>
  rw[q] at e
  have e':(b,o)=p:=OE e
  subst e'
  exact⟨hb,q⟩
def Inv.pinned(I:Inv X pins σ H s)(hf:∀b∈fp,FpOk X pins H b)(ho:∀b∈fp,∃o,s.heap.get? b=some o/\∀v,o.data ≠ .cell v):Inv X (pins++lF fp s.heap) σ H s:=
 I.pins_of λp hp=>(O0.mp hp).elim (λz=>I.pin p (OK _ z)) λz=>by
  obtain⟨hb,e⟩:=yj z
  obtain⟨f0,f1,f2,_⟩:=hf p.1 hb
  obtain⟨o,e',d⟩:=ho p.1 hb
  rw[e] at e';cases e'
  exact⟨e,f0,f1,f2,d⟩
def Inv.unpinned(I:Inv X (pins++pl) σ H s):Inv X pins σ H s:=I.pins_of λp hp=>I.pin p (OK _ (Qc _ hp))
def HN(hp:PassesOwn (model X.prog X.w) X.A X.env X.xe)(hc:X.calm=true)(hi:PI X tg am wi)(hg:PG X tg g)(hb:PSs X body tb)
 (hs:∀x,foldedSetIterable am X.env x=pure x:=by intro _;rfl):PS X (.For tg am body [] pos) (tFor wi g tb):=by
 intro pins s σ H D I h
 refine wpAny_For (thn (hi pins s σ H _ I h) λv s1 h1=>thn h1 λitv s2 h2=>?_) hs
 obtain⟨it,fp,tn,J,H2,e,I2,T,st2,f2,W,⟨m0,w0⟩,turn⟩:=h2
 subst e
 have stat:∀{H':Hp},(∀b∈fp,H' b=none)->∀b∈fp,FpOk X pins H' b:=λhn b hb=>⟨hn b hb,(f2 b hb).2⟩
 refine codeAny_forLoop_any (λn s'=>∃i σ' H',Inv X pins σ' H' s'/\tn i s'.heap/\(∀b∈fp,H' b=none)/\W i n σ' H') ?_ m0 ⟨0,σ,H2,I2,st2,λb hb=>(f2 b hb).1,w0⟩
 rintro n s3 ⟨i,σ3,H3,I3,st3,fr3,w3⟩
 rcases turn i n σ3 H3 w3 with ⟨stop,qn⟩ |⟨go,N,hN,step⟩
 ·refine PK hp (thn (T.done X rfl rfl rfl hc i pins s3 σ3 H3 X.xe I3 (stat fr3) st3 stop) λr s4 ⟨hr,I4⟩=>?_)
  subst hr
  exact QQ ⟨σ3,H3,I4,qn⟩
 ·refine PK hp (thn (T.item X rfl rfl rfl hc i pins s3 σ3 H3 X.xe I3 (stat fr3) st3 go) λr s4 ⟨u,hr,h4⟩=>?_)
  subst hr
  refine PK hp (thn h4 λ_ s5 ⟨x,H5,I5,r5,y5,st5,fr5⟩=>?_)
  have I5':=I5.pinned (stat fr5) (T.obj _ _ st5)
  refine PK hp (thn (hg _ s5 σ3 H5 x u _ I5' r5 (step x H5 y5)) λ_ s6 ⟨σ6,H6,I6,q6⟩=>?_)
  refine PK hp (thn (hb _ s6 σ6 H6 _ I6 q6) λf s7 q7=>?_)
  have again:∀{σ7:St}{H7:Hp},Inv X (pins++lF fp s5.heap) σ7 H7 s7->N σ7 H7->∃m,m<n/\∃i σ' H',Inv X pins σ' H' s7/\tn i s7.heap/\(∀b∈fp,H' b=none)/\W i m σ' H':=λ{σ7 H7} I7 n7=>by
   obtain⟨m',hm,w7⟩:=hN σ7 H7 n7
   refine⟨m',hm,i+1,σ7,H7,I7.unpinned,T.keep _ _ _ st5 λb hb o e=>(I7.pin (b,o) (OK _ (OK _ (iN hb e)))).1,λb hb=>?_,w7⟩
   obtain⟨o,e,d⟩:=T.obj _ _ st5 b hb
   exact (I7.pin (b,o) (OK _ (OK _ (iN hb e)))).2.1
  cases f with
  |next=>obtain⟨σ7,H7,I7,n7⟩:=q7;exact again I7 n7
  |cont=>obtain⟨σ7,H7,I7,n7⟩:=q7;exact again I7 n7
  |brk=>obtain⟨σ7,H7,I7,q7⟩:=q7;exact⟨σ7,H7,I7.unpinned,q7⟩
  |ret v=>obtain⟨x7,σ7,H7,I7,r7,q7⟩:=q7;exact⟨x7,σ7,H7,I7.unpinned,r7,q7⟩
end
end L2
namespace L2
open PySem PySem.Spec PyProof.Rows
abbrev R2:=V->V->Hp->VK->Prop
def OpR(X:Cx)(f:Value->Value->Sem Value)(r:R2):Prop:=
 ∀
  (pins:List (Addr×Obj)) (s:Shared) (σ:St) (H:Hp) (x y:V) (v u:Value) (Q:VK),Inv X pins σ H s->RelV x v->RelV y u->r x y H Q->
  wpAny (model X.prog X.w) X.A (f v u) (EP X pins σ Q) X.xe s
def UnR(X:Cx)(f:Value->Sem Value)(r:V->Hp->VK->Prop):Prop:=
 ∀
  (pins:List (Addr×Obj)) (s:Shared) (σ:St) (H:Hp) (x:V) (v:Value) (Q:VK),Inv X pins σ H s->RelV x v->r x H Q->
  wpAny (model X.prog X.w) X.A (f v) (EP X pins σ Q) X.xe s
def CallR(X:Cx)(f:Value)(r:List V->Hp->VK->Prop):Prop:=
 ∀
  (pins:List (Addr×Obj)) (s:Shared) (σ:St) (H:Hp) (xs:List V) (us:List Value) (Q:VK),Inv X pins σ H s->Vals xs us->r xs H Q->
  wpAny (model X.prog X.w) X.A (call f us) (EP X pins σ Q) X.xe s
def TruR(X:Cx)(r:V->Hp->(Bool->Hp->Prop)->Prop):Prop:=
 ∀
  (pins:List (Addr×Obj)) (s:Shared) (σ:St) (H:Hp) (x:V) (v:Value) (Q:Bool->Hp->Prop),Inv X pins σ H s->RelV x v->r x H Q->
  wpAny (model X.prog X.w) X.A (truthy v) (TP X pins σ Q) X.xe s
def tOp(r:R2)(ta tb:TE):TE:=λσ H Q=>ta σ H λx H1=>tb σ H1 λy H2=>r x y H2 Q
def tUn(r:V->Hp->VK->Prop)(ta:TE):TE:=λσ H Q=>ta σ H λx H1=>r x H1 Q
def rI(C:Int->Int->Prop)(g:Int->Int->V):R2:=λx y H Q=>∃i j,x=.int i/\y=.int j/\C i j/\Q (g i j) H
def rI0(g:Int->Int->V):R2:=λx y H Q=>∃i j,x=.int i/\y=.int j/\Q (g i j) H
def rU(g:Int->V):V->Hp->VK->Prop:=λx H Q=>∃i,x=.int i/\Q (g i) H
section
variable{X:Cx}{a b c:Expr}{ta tb tc:TE}{pos:Pos}
def A6(ha:PE X a ta)(hb:PE X b tb){pins:List (Addr×Obj)}{s:Shared}{σ:St}{H:Hp}{R:V->V->Hp->Prop}(I:Inv X pins σ H s)
 (h:ta σ H λx H1=>tb σ H1 λy H2=>R x y H2) {Q:Value->Shared->Prop}{f:Value->Value->Sem Value}
 (hf:∀v u s2 x y H2,Inv X pins σ H2 s2->RelV x v->RelV y u->R x y H2->wpAny (model X.prog X.w) X.A (f v u) Q X.xe s2):
 wpAny (model X.prog X.w) X.A (eval a X.env) (λv s₁=>wpAny (model X.prog X.w) X.A (eval b X.env) (λu s₂=>wpAny (model X.prog X.w) X.A (f v u) Q X.xe s₂) X.xe s₁) X.xe s:=by
 refine thn (ha pins s σ H _ I h) λv s1 ⟨x,H1,I1,r1,q1⟩=>?_
 refine thn (hb pins s1 σ H1 _ I1 q1) λu s2 ⟨y,H2,I2,r2,q2⟩=>?_
 exact hf v u s2 x y H2 I2 r1 r2 q2
def Kq(ho:OpR X (binaryOp op) r)(ha:PE X a ta)(hb:PE X b tb):PE X (.BinOp a op b pos) (tOp r ta tb):=by
 intro pins s σ H Q I h
 exact wpAny_BinOp (A6 ha hb I h λv u s2 x y H2 I2 rx ry q=>ho pins s2 σ H2 x y v u Q I2 rx ry q)
def JV(ho:UnR X (unaryOp op) r)(ha:PE X a ta):PE X (.UnaryOp op a pos) (tUn r ta):=by
 intro pins s σ H Q I h
 exact UnaryOp_ (thn (ha pins s σ H _ I h) λv s1 ⟨x,H1,I1,r1,q1⟩=>ho pins s1 σ H1 x v Q I1 r1 q1)
def opI{f:Value->Value->Sem Value}{C:Int->Int->Prop}{g:Int->Int->Int}
 (rule:∀(i j:Int) (t u:Tok) (s:Shared) (Q:Value->Shared->Prop) (E:Value->Shared->Prop),C i j->Q (.int (g i j) s.toks) { s with toks:=s.toks+1 }->wpAny (model X.prog X.w) X.A (f (.int i t) (.int j u)) Q E s):
 OpR X f (rI C λi j=>.int (g i j)):=by
 intro pins s σ H x y v u Q I rx ry h
 obtain⟨i,j,rfl,rfl,hc,q⟩:=h
 obtain⟨t,rfl⟩:=rx
 obtain⟨t',rfl⟩:=ry
 exact rule i j t t' s _ _ hc ⟨.int (g i j),H,I.tok _,⟨_,rfl⟩,q⟩
def opI0{f:Value->Value->Sem Value}{g:Int->Int->Int}
 (rule:∀(i j:Int) (t u:Tok) (s:Shared) (Q:Value->Shared->Prop) (E:Value->Shared->Prop),Q (.int (g i j) s.toks) { s with toks:=s.toks+1 }->wpAny (model X.prog X.w) X.A (f (.int i t) (.int j u)) Q E s):
 OpR X f (rI0 λi j=>.int (g i j)):=by
 intro pins s σ H x y v u Q I rx ry h
 obtain⟨i,j,rfl,rfl,q⟩:=h
 obtain⟨t,rfl⟩:=rx
 obtain⟨t',rfl⟩:=ry
 exact rule i j t t' s _ _ ⟨.int (g i j),H,I.tok _,⟨_,rfl⟩,q⟩
def A7{f:Value->Value->Sem Value}{g:Int->Int->Bool}
 (rule:∀(i j:Int) (t u:Tok) (s:Shared) (Q:Value->Shared->Prop) (E:Value->Shared->Prop),Q (.bool (g i j)) s->wpAny (model X.prog X.w) X.A (f (.int i t) (.int j u)) Q E s):
 OpR X f (rI0 λi j=>.bl (g i j)):=by
 intro pins s σ H x y v u Q I rx ry h
 obtain⟨i,j,rfl,rfl,q⟩:=h
 obtain⟨t,rfl⟩:=rx
 obtain⟨t',rfl⟩:=ry
 exact rule i j t t' s _ _ ⟨.bl (g i j),H,I,rfl,q⟩
def pI(i j:Int):Prop:=0<=j/\j<=1000000/\i.natAbs<2^64
def CMul(i j:Int):Prop:=(-(2^64)<i/\i<2^64)\/(-(2^64)<j/\j<2^64)
def CMul.ok(h:CMul i j):IntMulOk i j:=by
 rcases h with ⟨h1,h2⟩ |⟨h1,h2⟩
 ·exact .of_left (intBits_le_64 h1 h2)
 ·exact .of_right (intBits_le_64 h1 h2)
def Hq:OpR X (binaryOp .Add) (rI0 λi j=>.int (i+j)):=opI0 λ_ _ _ _ _ _ _ q=>add_int q
def ft:OpR X (binaryOp .Sub) (rI0 λi j=>.int (i-j)):=opI0 λ_ _ _ _ _ _ _ q=>sub_int q
def H0:OpR X (binaryOp .Mult) (rI CMul λi j=>.int (i*j)):=opI λ_ _ _ _ _ _ _ hc q=>mul_int q hc.ok
def dX:OpR X (binaryOp .Mod) (rI (λ_ j=>j≠0) λi j=>.int (i.fmod j)):=opI λ_ _ _ _ _ _ _ hc q=>mod_int' hc q
def l6:OpR X (binaryOp .Pow) (rI pI λi j=>.int (i^j.toNat)):=opI λ_ _ _ _ _ _ _ hc q=>pow_int_small hc.1 hc.2.1 hc.2.2 q
def unI{f:Value->Sem Value}{g:Int->Int}
 (rule:∀(i:Int) (t:Tok) (s:Shared) (Q:Value->Shared->Prop) (E:Value->Shared->Prop),Q (.int (g i) s.toks) { s with toks:=s.toks+1 }->wpAny (model X.prog X.w) X.A (f (.int i t)) Q E s):
 UnR X f (rU λi=>.int (g i)):=by
 intro pins s σ H x v Q I rx h
 obtain⟨i,rfl,q⟩:=h
 obtain⟨t,rfl⟩:=rx
 exact rule i t s _ _ ⟨.int (g i),H,I.tok _,⟨_,rfl⟩,q⟩
def yS:UnR X (unaryOp .USub) (rU λi=>.int (-i)):=unI λ_ _ _ _ _ q=>neg_int q
end
section
variable{X:Cx}{a b c:Expr}{ta tb tc:TE}{pos:Pos}
def zM(I:Inv X pins σ H s)(q:Q (.bl k) H)(e:k=k'):EP X pins σ Q (.bool k') s:=by
 subst e
 exact⟨.bl k,H,I,rfl,q⟩
def xi:OpR X (compareOp .Lt) (rI0 λi j=>.bl (decide (i<j))):=A7 λ_ _ _ _ _ _ _ q=>lt_int q
def nH:OpR X (compareOp .Gt) (rI0 λi j=>.bl (decide (j<i))):=A7 λ_ _ _ _ _ _ _ q=>gt_int q
def nO:OpR X (compareOp .GtE) (rI0 λi j=>.bl (decide (j<=i))):=A7 λ_ _ _ _ _ _ _ q=>ge_int q
def OpR.or(h:OpR X f r)(h':OpR X f r'):OpR X f (λx y H Q=>r x y H Q\/r' x y H Q):=by
 intro pins s σ H x y v u Q I rx ry q
 rcases q with q |q
 ·exact h pins s σ H x y v u Q I rx ry q
 ·exact h' pins s σ H x y v u Q I rx ry q
def aN(b:Expr)(h:op ≠ .In:=by decide)(h2:op ≠ .NotIn:=by decide):behindInMarks op b=false:=by
 have e1:(op==CmpOp.In)=false:=by cases op <;> first |rfl |exact absurd rfl h
 have e2:(op==CmpOp.NotIn)=false:=by cases op <;> first |rfl |exact absurd rfl h2
 cases b <;> simp [behindInMarks,e1,e2]
def Di(ho:OpR X (compareOp op) r)(ha:PE X a ta)(hb:PE X b tb)(hm:behindInMarks op b=false):PE X (.Compare a [op] [b] pos) (tOp r ta tb):=by
 intro pins s σ H Q I h
 exact wpAny_Compare1 (A6 ha hb I h λv u s2 x y H2 I2 rx ry q=>ho pins s2 σ H2 x y v u Q I2 rx ry q) hm
def Kh(t:TE):TT:=λσ H Q=>t σ H λx H'=>∃k,x=.bl k/\Q k H'
def DZ(ho:OpR X (compareOp op) r)(ha:PE X a ta)(hb:PE X b tb)(hm:behindInMarks op b=false):PT X (.Compare a [op] [b] pos) (Kh (tOp r ta tb)):=by
 intro pins s σ H Q I h
 refine wpAny_isTrue_Compare1 (thn (ha pins s σ H _ I h) λv s1 ⟨x,H1,I1,r1,q1⟩=>thn (hb pins s1 σ H1 _ I1 q1) λu s2 ⟨y,H2,I2,r2,q2⟩=>
  thn (ho pins s2 σ H2 x y v u _ I2 r1 r2 q2) λc s3 ⟨z,H3,I3,r3,k,e,q3⟩=>?_) hm
 subst e
 cases r3
 exact PM ⟨H3,I3,q3⟩
def AK(K:W.Frag)(x:V)(H:Hp)(k:Bool):Prop:=
 match x with
 |.non=>k=false
 |.bl b=>k=b
 |.int i=>k=(i != 0)
 |.str y=>y.length<=sizeLine/\k=((y.length:Int) != 0)
 |.byt y=>y.size<=sizeLine/\k=((y.size:Int) != 0)
 |.ref p=>(∃xs,SqL K H p xs/\k=!xs.isEmpty)\/(∃xs,SqT K H p xs/\k=!xs.isEmpty)\/∃kvs,H p=some (.dK kvs)/\k=!kvs.isEmpty
 |_=>False
def w6(r:KV kvs vs):(!vs.isEmpty)=!kvs.isEmpty:=by
 cases r <;> rfl
def nV(r:Vals xs its):(!its.toArray.isEmpty)=!xs.isEmpty:=by
 cases r <;> simp
def jk:(sizeLine:Nat)<2^63:=by rw[sizeLine_eq];decide
def GH:TruR X (λx H Q=>∃k,AK X.K x H k/\Q k H):=by
 intro pins s σ H x v Q I rx h
 obtain⟨k,e,q⟩:=h
 have hl:=jk
 have hs:sizeLine=16777216:=sizeLine_eq
 cases x with
 |
  non=>
  cases rx
  have e':k=false:=e
  subst e'
  exact truthy_none ⟨H,I,q⟩
 |
  bl b=>
  cases rx
  have e':k=b:=e
  subst e'
  exact PM ⟨H,I,q⟩
 |
  int i=>
  obtain⟨t,rfl⟩:=rx
  have e':k=(i != 0):=e
  subst e'
  exact PySem.P.truthy_int ⟨H,I,q⟩
 |
  str y=>
  obtain⟨t,rfl⟩:=rx
  obtain⟨hy,e'⟩:y.length<=sizeLine/\k=((y.length:Int) != 0):=e
  subst e'
  exact PySem.P.truthy_str (by omega) ⟨H,I.tok _,q⟩
 |
  byt y=>
  obtain⟨t,rfl⟩:=rx
  obtain⟨hy,e'⟩:y.size<=sizeLine/\k=((y.size:Int) != 0):=e
  subst e'
  exact W.truthy_bytes (by omega) ⟨H,I.tok _,q⟩
 |
  ref p=>
  cases rx
  have e':(∃xs,SqL X.K H p xs/\k=!xs.isEmpty)\/(∃xs,SqT X.K H p xs/\k=!xs.isEmpty)\/∃kvs,H p=some (.dK kvs)/\k=!kvs.isEmpty:=e
  rcases e' with ⟨xs,hx,e'⟩ |⟨xs,hx,e'⟩ |⟨kvs,hx,e'⟩
  ·subst e'
   obtain⟨its,r,pl,hz⟩:=I.list hx
   have bi:=r.length
   exact wpAny_truthy_list pl.isList (by simp only[Om];omega) ⟨H,I.tok _,by rw[nV r];exact q⟩
  ·subst e'
   obtain⟨its,r,pl,hz⟩:=I.tuple hx
   have bi:=r.length
   exact truthy_tuple pl (by simp only[Om];omega) ⟨H,I.tok _,by rw[nV r];exact q⟩
  ·subst e'
   obtain⟨hz,hS,vs,r,m⟩:kvs.length<=sizeLine/\(p==sysModules)=false/\∃vs,KV kvs vs/\s.heap.DictOf (cE X.prog X.w) p vs:=I.hok p _ hx
   have bi:kvs.length=vs.length:=QW r
   exact wpAny_truthy_dict hS m (by omega) ⟨H,I.tok _,by rw[w6 r];exact q⟩
 |_=>exact (show False from e).elim
def Bl(ha:PE X a ta)(he:∀db,isTrue a X.env db=(do let v <- db;standAt a.pos;holding [v] (truthy v))):
 PT X a (λσ H Q=>ta σ H λx H'=>∃k,AK X.K x H' k/\Q k H'):=by
 intro pins s σ H Q I h
 exact isTrue_plain (thn (ha pins s σ H _ I h) λv s1 ⟨x,H1,I1,r1,q1⟩=>GH pins s1 σ H1 x v Q I1 r1 q1) (he _)
def g0(r:Vals [x] us):∃u,us=[u]/\RelV x u:=by
 cases r with
 |cons r1 r2=>cases r2;exact⟨_,rfl,r1⟩
def og(r:Vals [x,y] us):∃u w',us=[u,w']/\RelV x u/\RelV y w':=by
 cases r with
 |
  cons r1 r2=>
  cases r2 with
  |cons r3 r4=>cases r4;exact⟨_,_,rfl,r1,r3⟩
def fJ:CallR X (.builtin "abs") (λxs H Q=>∃i,xs=[.int i]/\Q (.int (if i<0 then -i else i)) H):=by
 intro pins s σ H xs us Q I r h
 obtain⟨i,rfl,q⟩:=h
 obtain⟨u,rfl,t,rfl⟩:=g0 r
 exact call_abs_int λu tk=>⟨.int (if i<0 then -i else i),H,I.tok _,⟨_,rfl⟩,q⟩
def yy(hc:X.calm=true):CallR X (.builtin "max") (λxs H Q=>∃i j,xs=[.int i,.int j]/\Q (.int (if j>i then j else i)) H):=by
 intro pins s σ H xs us Q I r h
 obtain⟨i,j,rfl,q⟩:=h
 obtain⟨u,w',rfl,⟨t,rfl⟩,⟨t',rfl⟩⟩:=og r
 refine max_two_ints (I.ok.hd hc) λh' tk k=>⟨_,H,I.kept k,?_,q⟩
 by_cases hj:j>i
 ·rw[if_pos hj,if_pos hj];exact⟨_,rfl⟩
 ·rw[if_neg hj,if_neg hj];exact⟨_,rfl⟩
def p7(hc:X.calm=true):CallR X (.builtin "min") (λxs H Q=>∃i j,xs=[.int i,.int j]/\Q (.int (if j<i then j else i)) H):=by
 intro pins s σ H xs us Q I r h
 obtain⟨i,j,rfl,q⟩:=h
 obtain⟨u,w',rfl,⟨t,rfl⟩,⟨t',rfl⟩⟩:=og r
 refine min_two_ints (I.ok.hd hc) λh' tk k=>⟨_,H,I.kept k,?_,q⟩
 by_cases hj:j<i
 ·rw[if_pos hj,if_pos hj];exact⟨_,rfl⟩
 ·rw[if_neg hj,if_neg hj];exact⟨_,rfl⟩
def yc:CallR X (.type "int") (λxs H Q=>(∃i,xs=[.int i]/\Q (.int i) H)\/∃k,xs=[.bl k]/\Q (.int (if k then 1 else 0)) H):=by
 intro pins s σ H xs us Q I r h
 rcases h with ⟨i,rfl,q⟩ |⟨k,rfl,q⟩
 ·obtain⟨u,rfl,t,rfl⟩:=g0 r
  exact call_int_int ⟨.int i,H,I,⟨_,rfl⟩,q⟩
 ·obtain⟨u,rfl,r1⟩:=g0 r
  cases r1
  exact call_int_bool ⟨.int (if k then 1 else 0),H,I.tok _,⟨_,rfl⟩,q⟩
end
end L2
namespace L2
open PySem PySem.Spec PyProof.Rows
structure ObjM(h:Heap)(x dx C:Addr)(mA:Str->Option Value):Prop where
 obj:h.get? x=some (W.instObj C dx)
 ns:h.Ns1 dx mA
 ne:dx≠x
def x5{h:Heap}{dx:Addr}{mA:Str->Option Value}(n:h.Ns1 dx mA):∃od,h.get? dx=some od/\∀name,W.lookIn name od=some (mA name):=by
 obtain⟨o,es,ep,ho,hd,hk,_,hm⟩:=n
 refine⟨o,ho,λname=>?_⟩
 have e:=hm name
 unfold nsFind findBy at e
 rw[<- Array.find?_toList] at e
 unfold W.lookIn
 rw[hd]
 dsimp only
 split
 ·rename_i y q
  rw[q] at e
  exact Pb some e
 ·rename_i q
  rw[q] at e
  have a:es.toList.any (·.refKey)=false:=by
   rw[List.any_eq_false]
   intro y hy
   obtain⟨z,t,hkey⟩:=hk y (Array.mem_toList_iff.mp hy)
   simp [DictEntry.refKey,hkey]
  have a':¬ es.toList.any (·.refKey)=true:=by rw[a];exact Ol
  rw[if_neg a']
  exact Pb some e
def ObjM.look(I:ObjM h x dx C mA):∃od,W.InstAt h x (W.instObj C dx) C (some od)/\∀name,W.lookIn name od=some (mA name):=
 let ⟨od,ho,hl⟩:=x5 I.ns
 ⟨od,⟨I.obj,rfl,rfl,ho⟩,hl⟩
section
variable{prog:Program}{w:World}{A:Around}{E:Value->Shared->Prop}{s:Shared}{K:W.Frag}{x dx C f:Addr}{mA:Str->Option Value}{name:Str}{v:Value}
end
def RelO.some_of(r:RelO (some v) o):∃u,o=some u/\RelV v u:=by
 cases o with
 |none=>exact (show False from r).elim
 |some u=>exact⟨u,rfl,r⟩
section
variable{P:Program}{w:World}{H H':Hp}{h h':Heap}{a C dx:Addr}{fs fs':List (Str×V)}
def Dy(hok:HOk P w H h)(e:H a=some (.ins C dx fs)):∃mA,ObjM h a dx C mA/\(∀f,RelO (fs.lookup f) (mA f))/\PySem.Within mA (fs.map (·.1))/\fs.length<=1000/\H dx=some (.own a):=by
 obtain⟨d,z,ne,ob,mA,n,r,q⟩:=(show ObjOk P w H h a (.ins C dx fs) from hok a _ e)
 exact⟨mA,⟨ob,n,ne⟩,r,q,z,d⟩
end
structure Cls(K:W.Frag)(C:Addr):Prop where
 pg:W.plainGet K C Str.empty=true
 hd:W.hasDictIn K C=true
 po:W.plainOver K C=true
 sa:W.findIn K (.ref C) "__setattr__"=some (some (.builtin "object.__setattr__"))
def Cls.get{K:W.Frag}{C:Addr}(c:Cls K C)(f:Str):W.plainGet K C f=true:=c.pg
structure Con(K:W.Frag)(C:Addr)(f:Str)(v:V)(u:Value):Prop where
 at_:W.findIn K (.ref C) f=some (some u)
 rel:RelV v u
 get:W.specialIn K u "__get__"=some none
 cp:W.copiedNames.contains f=false
structure Meth(K:W.Frag)(C:Addr)(m:Str)(f:Addr):Prop where
 at_:W.findIn K (.ref C) m=some (some (.ref f))
 fn:W.isFn K (.ref f)=true
 kp:W.keepIn K (.ref f)=true
section
variable{X:Cx}{pins:List (Addr×Obj)}{σ:St}{H:Hp}{s:Shared}{a C dx:Addr}{fs:List (Str×V)}{f:Str}{v:V}{A:Around}{E:Value->Shared->Prop}
end
section
variable{X:Cx}{o e value:Expr}{f:Str}{pos pos' tpos:Pos}{ta tv:TE}
end
section
variable{X:Cx}{pins:List (Addr×Obj)}{σ:St}{H:Hp}{s:Shared}{A:Around}{E:Value->Shared->Prop}{Q:Value->Shared->Prop}{c:Value}{b:Bool}
inductive TyOf(K:W.Frag)(H:Hp):V->Value->Prop where
 |non:TyOf K H .non (.type "NoneType")
 |bl (x:Bool):TyOf K H (.bl x) (.type "bool")
 |int (i:Int):TyOf K H (.int i) (.type "int")
 |str (x:Str):TyOf K H (.str x) (.type "str")
 |flt (x:UInt64):TyOf K H (.flt x) (.type "float")
 |lst {a:Addr}{xs:List V} (e:H a=some (.lst xs)):TyOf K H (.ref a) (.type "list")
 |frz {a:Addr}{o:Obj}{xs:List V} (e:H a=some (.frz o (.lst xs))):TyOf K H (.ref a) (.type "list")
 |tup {a:Addr}{xs:List V} (e:H a=some (.tup xs)):TyOf K H (.ref a) (.type "tuple")
 |dK {a:Addr}{kvs:List (Key×V)} (e:H a=some (.dK kvs)):TyOf K H (.ref a) (.type "dict")
 |dT {a:Addr}{kvs:List (List Key×V)} (e:H a=some (.dT kvs)):TyOf K H (.ref a) (.type "dict")
 |ins {a C dx:Addr}{fs:List (Str×V)} (e:H a=some (.ins C dx fs)) (cl:Cls K C) (ha:W.findIn K (.ref C) "__class__"=some (some (.builtin "object.__class__")))
  (hn:W.specialIn K (.builtin "object.__class__") "__get__"=some (some (.builtin "getset_descriptor.__get__"))) (htk:W.takesIn K (.builtin "object.__class__")=some true)
  (hm:W.mroIn K C (.type "object")=some true):TyOf K H (.ref a) (.ref C)
end
end L2
namespace L2
open PySem PySem.Spec PyProof.Rows
structure Room(k:Nat)(A:Around):Prop where
 hd:A.handled=none
 dp:A.depth+3*k+5<recursionLimit
 un:A.units+16*k+200<cLine
def Room.mono(r:Room k A)(h:j<=k):Room j A:=⟨r.hd,by have:=r.dp;omega,by have:=r.un;omega⟩
def Room.deeper(r:Room (k+1) A)(env:Env):Room k (A.deeper env):=
 ⟨r.hd,by have:=r.dp;show A.depth+1+3*k+5<_;omega,by have:=r.un;show A.units+3+16*k+200<_;omega⟩
def Room.depth(r:Room k A):A.depth<recursionLimit:=by have:=r.dp;omega
def Room.units(r:Room k A):A.units+64<cLine:=by have:=r.un;omega
def tNil:TA:=λ_ H Q=>Q [] H
def Kb(ta:TE)(tr:TA):TA:=λσ H Q=>ta σ H λx H1=>tr σ H1 λxs H2=>Q (x::xs) H2
section
variable{X:Cx}{e:Expr}{es:List Expr}{te:TE}{t:TA}{pos:Pos}
def Hk:PA X [] tNil:=λ_ _ _ _ H Q I h=>Calls.spliced_nil ⟨[],H,I,.nil,h⟩
def Ei(ha:PE X e te)(hr:PA X es t)(hs:starEach (e::es) X.env=(false,eval e X.env)::starEach es X.env:=by rfl):PA X (e::es) (Kb te t):=by
 intro pos pins s σ H Q I h
 rw[hs]
 show wpAny _ _ (spliced ((false,eval e X.env)::backTo pos (starEach es X.env))) _ _ s
 refine Calls.spliced_cons (thn (ha pins s σ H _ I h) λu s1 ⟨x,H1,I1,r1,q1⟩=>?_)
 exact thn (hr pos pins s1 σ H1 _ I1 q1) λus s2 ⟨xs,H2,I2,r2,q2⟩=>⟨x::xs,H2,I2,.cons r1 r2,q2⟩
def tTup(t:TA):TE:=λσ H Q=>t σ H λxs H1=>xs.length<=sizeLine/\∀p,H1 p=none->Q (.ref p) (upd H1 p (.tup xs))
def tLst(t:TA):TE:=λσ H Q=>t σ H λxs H1=>xs.length<=sizeLine/\∀p,H1 p=none->Q (.ref p) (upd H1 p (.lst xs))
def HE{x1}(h:PA X es t):PE X (.Tuple es x1 pos) (tTup t):=by
 intro pins s σ H Q I hq
 refine wpAny_Tuple_spliced (thn (h pos pins s σ H _ I hq) λus s1 ⟨xs,H1,I1,r,z,q⟩=>⟨by rw[<- r.length];exact z,?_⟩)
 have hf:H1 s1.heap.objs.size=none:=I1.hok.fresh (Og _)
 refine⟨.ref s1.heap.objs.size,upd H1 s1.heap.objs.size (.tup xs),I1.laid (t':=s1.toks) (λb u e=>Oo _ e) (Og _) ?_,rfl,q _ hf⟩
 exact⟨z,us,r,⟨_,OD _ rfl,rfl,_,rfl⟩⟩
def HW(h:PA X es t):PE X (.List es pos) (tLst t):=by
 intro pins s σ H Q I hq
 refine wpAny_List_spliced (thn (h pos pins s σ H _ I hq) λus s1 ⟨xs,H1,I1,r,z,q⟩=>⟨by rw[<- r.length];exact z,?_⟩)
 have hf:H1 s1.heap.objs.size=none:=I1.hok.fresh (Og _)
 refine⟨.ref s1.heap.objs.size,upd H1 s1.heap.objs.size (.lst xs),I1.laid (t':=s1.toks) (λb u e=>Oo _ e) (Og _) ?_,rfl,q _ hf⟩
 exact⟨z,us,0,r,OD _ rfl⟩
end
abbrev Sp:=List V->Hp->VK->XK->Prop
abbrev CXT:=List Env->Hp->Shared->XK->Value->Shared->Prop
structure Env0(P:Program)(w:World)(K:W.Frag)(mg:Str->Option Value)(base:Heap)(A:Around)(outer:List Env)(s:Shared)(H:Hp):Prop where
 frames:A.frames=some outer
 mod:Mod K mg base
 bs:∀b o,base.get? b=some o->s.heap.get? b=some o/\H b=none
 bsz:base.objs.size<=s.heap.objs.size
 funs:s.heap.FunFrames base outer
 frf:∀b∈frs outer,H b=none
 hok:HOk P w H s.heap
 bare:AllBare s.gens
def CE(outer:List Env)(P:Program)(w:World)(H:Hp)(s:Shared)(Q:VK)(u:Value)(s':Shared):Prop:=
 ∃v H',s'.os=s.os/\AllBare s'.gens/\Un (frs outer) [] H H' s.heap s'.heap/\HOk P w H' s'.heap/\RelV v u/\Q v H'
def CR(CX:CXT)(outer:List Env)(P:Program)(w:World)(H:Hp)(s:Shared)(Q:VK)(E:XK)(r:Result)(s':Shared):Prop:=
 match r with
 |.ok (.ret u)=>CE outer P w H s Q u s'
 |.ok _=>False
 |.error e=>CX outer H s E e s'
structure FnOk(P:Program)(w:World)(K:W.Frag)(mg:Str->Option Value)(base:Heap)(CX:CXT)(k:Nat)(f:Addr)(fd:FuncData)(ps:List Str)(sp:Sp):Prop where
 len:∀vs H Q E,sp vs H Q E->vs.length=ps.length
 run:∀(A:Around) (outer:List Env) (s:Shared) (H:Hp) (args:Args) (us:List Value) (vs:List V) (Q:VK) (E:XK),Room k A->Env0 P w K mg base A outer s H->BindsTo s fd args (ps.zip us)->Vals vs us->sp vs H Q E->
  codeAny (model P w) A (.call (.ref f) args) (CR CX outer P w H s Q E) s
def FnOk.imp{P:Program}{w:World}{K:W.Frag}{mg:Str->Option Value}{base:Heap}{CX:CXT}{k:Nat}{f:Addr}{fd:FuncData}{ps:List Str}{sp sp':Sp}(F:FnOk P w K mg base CX k f fd ps sp)
 (h:∀vs H Q E,sp' vs H Q E->sp vs H Q E):FnOk P w K mg base CX k f fd ps sp':=
 ⟨λvs H Q E q=>F.len vs H Q E (h _ _ _ _ q),λA outer s H args us vs Q E hr he hb hv hs=>F.run A outer s H args us vs Q E hr he hb hv (h _ _ _ _ hs)⟩
section
variable{X:Cx}{pins:List (Addr×Obj)}{σ:St}{H:Hp}{s s':Shared}
def Inv.env0(I:Inv X pins σ H s):Env0 X.prog X.w X.K X.mg X.base X.A X.stack s H:=
 ⟨I.ok.frames,I.ok.mod,I.bs,Ow I.ok.bsz I.sz,I.stack,I.stkFree,I.hok,I.bare⟩
def Inv.after(I:Inv X pins σ H s)(h:CE X.stack X.prog X.w H s Q u s'):EP X pins σ Q u s':=by
 obtain⟨v,H',os,bare,un,hok,r,q⟩:=h
 obtain⟨hh,g,d,t,os'⟩:=s'
 obtain rfl:os'=s.os:=os
 exact⟨v,H',I.call (h':=hh) (g':=g) (d':=d) (t':=t) (ch:=[]) un hok bare (λb z=>absurd z (by simp)),r,q⟩
end
def Binds(K:W.Frag)(fd:FuncData)(ps:List Str)(ds:List Value):Prop:=
 ∀(s:Shared) (us:List Value),K.In s.heap->(us++ds).length=ps.length->BindsTo s fd ⟨us,[]⟩ (ps.zip (us++ds))
def Binds.all{K:W.Frag}{fd:FuncData}{ps:List Str}(h:∀us:List Value,us.length=ps.length->bindArgs fd ⟨us,[]⟩=pure (ps.zip us)):Binds K fd ps []:=λs us _ hl=>by
 rw[OT] at hl ⊢
 exact .of_eq (h us hl)
def rJ(CX:CXT)(X:Cx)(E:XK):Prop:=∀(pins:List (Addr×Obj)) (σ:St) (H:Hp) (s:Shared) (e:Value) (s':Shared),Inv X pins σ H s->CX X.stack H s E e s'->X.xe e s'
section
variable{X:Cx}{CX:CXT}{k:Nat}{f C:Addr}{fd:FuncData}{ps:List Str}{sp:Sp}{dvs:List V}{ds:List Value}{E:XK}{x m:Str}{p pos apos:Pos}{e o:Expr}{es:List Expr}{ta:TE}{t:TA}
structure Mk(K:W.Frag)(C f:Addr):Prop where
 makes:W.makesIn K C=true
 init:W.findIn K (.ref C) "__init__"=some (some (.ref f))
 fn:W.isFn K (.ref f)=true
 kp:W.keepIn K (.ref C)=true
end
section
variable{X:Cx}{CX:CXT}{k:Nat}{f C:Addr}{fd:FuncData}{ps ks:List Str}{sp:Sp}{E:XK}{x m:Str}{p pos apos kpos:Pos}{e o:Expr}{es:List Expr}{kws:List Keyword}{te ta:TE}{t tk:TA}{nm:Option Str}
structure KBinds(K:W.Frag)(fd:FuncData)(ps ks:List Str)(g:List Value->List Value->List Value)(gV:List V->List V->List V):Prop where
 to:∀(s:Shared) (us ws:List Value),K.In s.heap->(g us ws).length=ps.length->BindsTo s fd ⟨us,ks.zip ws⟩ (ps.zip (g us ws))
 rel:∀{vs:List V}{us:List Value}{zs:List V}{ws:List Value},Vals vs us->Vals zs ws->Vals (gV vs zs) (g us ws)
variable{g:List Value->List Value->List Value}{gV:List V->List V->List V}
end
structure FnScope(N P:List Str)(sc:Scope):Prop where
 kind:sc.kind=.function
 co:sc.isCoroutine=false
 gen:sc.isGenerator=false
 nd:N.Nodup
 pre:N.take P.length=P
 par:∀x∈P,sc.names.lookup x=some .local\/sc.names.lookup x=some .cell
 nofree:∀y∈sc.names,y.2 ≠ .free
theorem qa{kindOf:Str->Option NameKind}{x:Str}:∀{binds:List (Str×Value)}{m:Str->Option Value},(∀v,(x,v)∉binds)->bindL kindOf binds m x=m x
 | [],_,_=>rfl
 |
  (n,v)::r,m,h=>by
  unfold bindL
  rw[qa λw hw=>h w (Od _ hw)]
  split
  ·have:x≠n:=by rintro rfl;exact h v Of
   simp [this]
  ·rfl
theorem qp{kindOf:Str->Option NameKind}{x:Str}:∀{binds:List (Str×Value)}{m:Str->Option Value},(∀v,(x,v)∉binds)->bindC kindOf binds m x=m x
 | [],_,_=>rfl
 |
  (n,v)::r,m,h=>by
  unfold bindC
  rw[qp λw hw=>h w (Od _ hw)]
  split
  ·rfl
  ·have:x≠n:=by rintro rfl;exact h v Of
   simp [this]
theorem qz{kindOf:Str->Option NameKind}{x:Str}{v:Value}:∀{P:List Str}{vs:List Value}{i:Nat}{m:Str->Option Value},P.Nodup->P[i]?=some x->vs[i]?=some v->kindOf x=some .local->
 bindL kindOf (P.zip vs) m x=some v
 | [],_,_,_,_,h,_,_=>by simp at h
 |_::_,[],_,_,_,_,h,_=>by simp at h
 |
  p::P,w::vs,0,m,nd,h1,h2,hk=>by
  simp at h1 h2;subst h1;subst h2
  show bindL kindOf ((p,w)::P.zip vs) m p=_
  unfold bindL
  rw[qa λv hv=>(P1.mp nd).1 (List.of_mem_zip hv).1,if_pos hk]
  simp
 |
  p::P,w::vs,i+1,m,nd,h1,h2,hk=>by
  show bindL kindOf ((p,w)::P.zip vs) m x=_
  unfold bindL
  exact qz (i:=i) (P1.mp nd).2 (by simpa using h1) (by simpa using h2) hk
theorem qc{kindOf:Str->Option NameKind}{x:Str}{v:Value}:∀{P:List Str}{vs:List Value}{i:Nat}{m:Str->Option Value},P.Nodup->P[i]?=some x->vs[i]?=some v->kindOf x≠some .local->
 bindC kindOf (P.zip vs) m x=some v
 | [],_,_,_,_,h,_,_=>by simp at h
 |_::_,[],_,_,_,_,h,_=>by simp at h
 |
  p::P,w::vs,0,m,nd,h1,h2,hk=>by
  simp at h1 h2;subst h1;subst h2
  show bindC kindOf ((p,w)::P.zip vs) m p=_
  unfold bindC
  rw[qp λv hv=>(P1.mp nd).1 (List.of_mem_zip hv).1,if_neg hk]
  simp
 |
  p::P,w::vs,i+1,m,nd,h1,h2,hk=>by
  show bindC kindOf ((p,w)::P.zip vs) m x=_
  unfold bindC
  exact qc (i:=i) (P1.mp nd).2 (by simpa using h1) (by simpa using h2) hk
def gf(N:List Str)(vs:List V):St:=vs.map some++List.replicate (N.length-vs.length) none
def eX(CX:CXT)(P:Program)(w:World)(K:W.Frag)(mg:Str->Option Value)(base:Heap)(N:List Str)(qual:Str)(scope:Scope)(f:Addr)(cd:Value)(A:Around)(outer:List Env)(s:Shared)(H:Hp)(E:XK):Cx where
 prog:=P
 w:=w
 K:=K
 mg:=mg
 base:=base
 A:=A.deeper (envOfC qual scope s.heap.objs.size f cd)
 N:=N
 s₀:=s
 H₀:=H
 env:=envOfC qual scope s.heap.objs.size f cd
 outer:=outer
 stack:=envOfC qual scope s.heap.objs.size f cd::outer
 ex:=[]
 calm:=true
 fn:=λ_=>true
 pn:=[]
 xe:=λe s'=>wpAny (model P w) (A.deeper (envOfC qual scope s.heap.objs.size f cd)) (leaving (envOfC qual scope s.heap.objs.size f cd) e) (λ_ s''=>CX outer H s E e s'') (λe' s''=>CX outer H s E e' s'') s'
def tI{sc:Scope}{n:Nat}{x:Str}(h:sc.names.lookup x=some .cell):∃c,(cellsFrom n sc.names []).lookup x=some c:=by
 have q:=W.cellsFrom_some sc.names n [] (.inl h)
 exact ON.mp q
def ym{CX:CXT}{P:Program}{w:World}{K:W.Frag}{mg:Str->Option Value}{base:Heap}{N ps:List Str}{qual:Str}{scope:Scope}{f:Addr}{cd:Value}{A:Around}{outer:List Env}{s s1:Shared}{H:Hp}{E:XK}{us:List Value}{vs:List V}
 (S:FnScope N ps scope) (hd:A.handled=none) (e0:Env0 P w K mg base A outer s H) (hl:vs.length=ps.length) (r:Vals vs us)
 (x:InCallC s s.heap.objs.size (bindL (envOfC qual scope s.heap.objs.size f cd).kindOf (ps.zip us) λ_=>none) (cellsFrom (s.heap.objs.size+1) scope.names []) (bindC (envOfC qual scope s.heap.objs.size f cd).kindOf (ps.zip us) λ_=>none) s1):
 Inv (eX CX P w K mg base N qual scope f cd A outer s H E) [] (gf N vs) H s1:=by
 have hpl:ps.length<=N.length:=by have:=Pb List.length S.pre;rw[Pk] at this;omega
 obtain⟨h1,tk,rfl,hk⟩:=x.done
 have noA:∀b:Addr,b∉(eX CX P w K mg base N qual scope f cd A outer s H E).ex:=λb z=>absurd (show b∈([]:List Addr) from z) (by simp)
 refine⟨⟨e0.mod,S.kind,rfl,rfl,Og _,λy z c h1 h2=>?_,λy hy=>?_,λy c _ h=>?_,λ_=>hd,Around.frames_deeper e0.frames,.inr ⟨rfl,rfl⟩,λb z=>absurd z (noA b),e0.bs,e0.bsz,λb _ _=>noA b,λb z=>absurd z (noA b),e0.funs,e0.frf⟩,
  rfl,e0.bare,Un.kept hk,⟨_,x.toInCall.ns,λi y v h1 h2 h3=>?_⟩,λy c h=>⟨_,x.cell y c h⟩,e0.hok.fresh (Og _),λy c h=>?_,λp hp=>absurd (show p∈([]:List (Addr×Obj)) from hp) (by simp),e0.hok.kept hk,?_⟩
 ·exact name_of_addr x.apart (Pj h1) (Pj h2)
 ·have hy:scope.names.lookup y=some .cell\/scope.names.lookup y=some .free:=hy
  rcases hy with hy |hy
  ·exact tI hy
  ·exact absurd rfl (S.nofree _ (Pj hy))
 ·exact QL (x.above y c (Pj h))
 ·have hi:i<vs.length:=by
   unfold gf at h2
   by_cases hi:i<vs.length
   ·exact hi
   ·rw[OC (by simpa using hi)] at h2
    rw[O3] at h2
    split at h2 <;> cases h2
  have ha:vs[i]?=some v:=by
   unfold gf at h2
   rw[OF (by simpa using hi),OH] at h2
   cases e:vs[i]? with
   |none=>rw[e] at h2;cases h2
   |some a=>rw[e] at h2;cases h2;rfl
  obtain⟨u,hu,rv⟩:=r.get ha
  have hp:ps[i]?=some y:=by
   rw[<- S.pre,List.getElem?_take_of_lt (by omega)];exact h1
  have ndP:ps.Nodup:=by rw[<- S.pre];exact S.nd.sublist (List.take_sublist _ _)
  refine⟨u,rv,?_⟩
  rcases S.par y (O4 hp) with k |k
  ·exact .inl ⟨k,qz ndP hp hu k⟩
  ·obtain⟨c,e⟩:=tI (n:=s.heap.objs.size+1) k
   refine .inr ⟨.inl k,c,e,?_⟩
   have q:=x.cell y c e
   rw[qc ndP hp hu (by show scope.names.lookup y≠_;rw[k];decide)] at q
   exact q
 ·exact e0.hok.fresh (QL (x.above y c (Pj h)))
 ·unfold gf
  show _=N.length
  rw[Oh,N_,O9]
  omega
def La{CX:CXT}{P:Program}{w:World}{K:W.Frag}{mg:Str->Option Value}{base:Heap}{k:Nat}{f:Addr}{name qual:Str}{params:Arguments}{body:List Stmt}{scope:Scope}{dV kV doc pm cdv ct oc:Value}{an od:Option Addr}
 {osl:Array (Option Value)}{N ps:List Str}{sp:Sp} (lk:K.lookup f=some ⟨oc,od,.func (W.fnOf name qual params body scope dV kV doc pm an cdv ct),osl⟩) (hcd:W.codeIn K cdv qual=true) (S:FnScope N ps scope)
 (len:∀vs H Q E,sp vs H Q E->vs.length=ps.length)
 (jp:∀(A:Around) (outer:List Env) (s:Shared) (H:Hp) (vs:List V) (Q:VK) (E:XK),Room k (A.deeper (envOfC qual scope s.heap.objs.size f cdv))->sp vs H Q E->
  ∃t,PSs (eX CX P w K mg base N qual scope f cdv A outer s H E) body t/\t { nx:=λ_ H'=>Q .non H',rt:=Q } (gf N vs) H):
 FnOk P w K mg base CX (k+1) f (W.fnOf name qual params body scope dV kV doc pm an cdv ct) ps sp:=by
 refine⟨len,λA outer s H args us vs Q E hr e0 hb r hsp=>?_⟩
 have hl:=len _ _ _ _ hsp
 have KX:K.In s.heap:=e0.mod.kin.keeps λb o e=>(e0.bs b o e).1
 have lim:s.heap.NoLimit:=e0.mod.nolimit.keeps λb o e=>(e0.bs b o e).1
 have hkind:∀y∈ps.zip us,scope.names.lookup y.1=some .local\/(scope.names.lookup y.1=some .cell/\((cellsFrom (s.heap.objs.size+1) scope.names []).lookup y.1).isSome=true):=λ⟨n,v⟩ hy=>by
  rcases S.par n (List.of_mem_zip hy).1 with q |q
  ·exact .inl q
  ·exact .inr ⟨q,W.cellsFrom_some _ _ _ (.inl q)⟩
 refine codeAny_call_function hr.depth (KX _ _ lk) rfl S.co S.gen rfl (W.codeRec_of KX hcd) (hb _ _ _ _ ?_)
 refine wpAny_newFunctionEnv_cells S.kind hkind λenv he s1 x=>?_
 subst he
 refine⟨lim.keeps x.toInCall.keep,codeAny_func ?_⟩
 obtain⟨t,ht,hq⟩:=jp A outer s H vs Q E (hr.deeper _) hsp
 have I:Inv (eX CX P w K mg base N qual scope f cdv A outer s H E) [] (gf N vs) H s1:=ym S hr.hd e0 hl r x
 refine OX (ht [] s1 (gf N vs) H _ I hq) (λfl s' hs=>?_) λe s' hs=>hs
 have ii:∀{σ':St}{H':Hp}{v:V}{u:Value},Inv (eX CX P w K mg base N qual scope f cdv A outer s H E) [] σ' H' s'->RelV v u->Q v H'->CE outer P w H s Q u s':=
  λ{σ' H' v u} J rv q=>⟨v,H',J.os,J.bare,J.base,J.hok,rv,q⟩
 cases fl with
 |
  ret u=>
  obtain⟨v,σ',H',J,rv,q⟩:=hs
  exact ii J rv q
 |
  next=>
  obtain⟨σ',H',J,q⟩:=hs
  exact ii (v:=V.non) (u:=Value.none) J rfl q
 |
  brk=>
  obtain⟨_,_,_,q⟩:=hs
  exact False.elim q
 |
  cont=>
  obtain⟨_,_,_,q⟩:=hs
  exact False.elim q
end L2
namespace L2
open PySem PySem.Spec PyProof.Rows
section
variable{X:Cx}{x:Str}{p pos:Pos}{e:Expr}{es:List Expr}{t:TA}{id T:String}{r:List V->Hp->VK->Prop}
def tCB(r:List V->Hp->VK->Prop)(t:TA):TE:=λσ H Q=>t σ H λvs H1=>r vs H1 Q
def Ap(hc:CallR X (.builtin id) r)(hg:Gl X x)(hm:X.mg x=none)(hv:bootBuiltins x=some (.builtin id))(ha:PA X (e::es) t)(hn:x ≠ "__name__":=by decide)(hdb:(x==("__debug__" : Str))=false:=by decide)
 (he:starEach (e::es) X.env=(false,eval e X.env)::starEach es X.env:=by rfl) (hpl:(backTo pos (starEach es X.env)).any (·.1)=false:=by rfl):PE X (.Call (.Name x p) (e::es) [] pos) (tCB r t):=by
 intro pins s σ H Q I h
 refine Qr (j8 I hg hm hv ?_ hn hdb)
 exact PyProof.Rows.callWith_builtin1 (thn (ha pos pins s σ H _ I h) λus s1 ⟨vs,H1,I1,r1,q1⟩=>hc pins s1 σ H1 vs us Q I1 r1 q1) he hpl
def yO(hc:CallR X (.type T) r)(hg:Gl X x)(hm:X.mg x=none)(hv:bootBuiltins x=some (.type T))(ha:PA X (e::es) t)(hn:x ≠ "__name__":=by decide)(hdb:(x==("__debug__" : Str))=false:=by decide)
 (he:starEach (e::es) X.env=(false,eval e X.env)::starEach es X.env:=by rfl) (hpl:(backTo pos (starEach es X.env)).any (·.1)=false:=by rfl):PE X (.Call (.Name x p) (e::es) [] pos) (tCB r t):=by
 intro pins s σ H Q I h
 refine Qr (j8 I hg hm hv ?_ hn hdb)
 exact P_ (thn (ha pos pins s σ H _ I h) λus s1 ⟨vs,H1,I1,r1,q1⟩=>hc pins s1 σ H1 vs us Q I1 r1 q1) he hpl
def wC(hc:CallR X (.type T) r)(hg:Gl X x)(hm:X.mg x=none)(hv:bootBuiltins x=some (.type T))(hn:x ≠ "__name__":=by decide)(hdb:(x==("__debug__" : Str))=false:=by decide):
 PE X (.Call (.Name x p) [] [] pos) (tCB r tNil):=by
 intro pins s σ H Q I h
 refine Qr (j8 I hg hm hv ?_ hn hdb)
 exact PyProof.Rows.callWith_type0 (hc pins s σ H [] [] Q I .nil h)
end
end L2
namespace HT
open PySem PyProof.Rows
section
open PySem.SeqAt
open PySem.AutoSeq1 (wpAny_loadPart')
open PySem.MeetsSeq PySem.MeetsSeq2 PySem.MeetsSeq3
end
section
variable{prog:Program}{w:World}{A:Around}{E:Value->Shared->Prop}{s:Shared}
def cat_tup(ht:IsTup s.heap t vs.toArray)(hb:IsTup s.heap b ws.toArray)(hv:vs≠[])
 (h1:ws=[]->Q (.ref t) s) (h2:ws≠[]->Q (.ref s.heap.objs.size) { s with heap:=s.heap.push { cls:=.type "tuple",data:=.seq (vs++ws).toArray } })
 (hsz:vs.length+ws.length<=sizeLine):wpAny (model prog w) A (binaryOp .Add (.ref t) (.ref b)) Q E s:=by
 obtain⟨⟨cls,dd,data,sl⟩,ho,hc,n,hd⟩:=id ht
 obtain⟨⟨cls2,dd2,data2,sl2⟩,ho2,hc2,n2,hd2⟩:=id hb
 simp only at hc hd hc2 hd2
 subst hc hd hc2 hd2
 have e:vs.toArray++ws.toArray=(vs++ws).toArray:=by simp
 by_cases hw:ws=[]
 ·exact concat_meets ⟨_,ho,rfl⟩ ⟨_,ho2,rfl⟩ noFill_tuple_add seq_tuple_add QD Qv (Qo _ _)
   (tuple_addW1 t b vs.toArray ws.toArray n n2 dd dd2 sl sl2 (by simpa using hv) (by simp [hw])) ⟨ho,ho2,h1 hw⟩
 ·refine concat_meets ⟨_,ho,rfl⟩ ⟨_,ho2,rfl⟩ noFill_tuple_add seq_tuple_add QD Qv (Qo _ _)
   (tuple_addW2 t b vs.toArray ws.toArray n n2 dd dd2 sl sl2 (by simpa using hv) (by simpa using hw) (by rw[Om,Om];exact hsz)) ⟨ho,ho2,?_⟩
  rw[e]
  exact h2 hw
def sIx(n d:Nat):Option Int->Nat
 |none=>d
 |some v=>if v<0 then (v+(n:Int)).toNat else min v.toNat n
def sIx_none(n d:Nat):sIx n d none=d:=rfl
def sIx_nat(n d k:Nat):sIx n d (some (k:Int))=min k n:=by
 show (if (k:Int)<0 then ((k:Int)+(n:Int)).toNat else min (k:Int).toNat n)=min k n
 rw[if_neg (by omega),OY]
def JD(n d:Nat)(hd:d<=n)(o:Option Int):sIx n d o<=n:=by
 cases o with
 |none=>exact hd
 |
  some v=>
  show (if v<0 then (v+(n:Int)).toNat else min v.toNat n)<=n
  by_cases hv:v<0
  ·rw[if_pos hv];omega
  ·rw[if_neg hv];exact Nat.min_le_right _ _
def vD(v:Int)(n d:Nat):(if v<0 then max (v+(n:Int)) 0 else min v (n:Int))=((sIx n d (some v):Nat):Int):=by
 show (if v<0 then max (v+(n:Int)) 0 else min v (n:Int))=(((if v<0 then (v+(n:Int)).toNat else min v.toNat n):Nat):Int)
 by_cases hv:v<0
 ·simp only[if_pos hv];omega
 ·simp only[if_neg hv];omega
def v9(lo hi:Option Int)(n:Nat):Builtin.Slice.sliceAdjust lo hi 1 (n:Int)=(((sIx n 0 lo:Nat):Int),((sIx n n hi:Nat):Int)):=by
 have h1:¬ ((1:Int)<0):=by omega
 unfold Builtin.Slice.sliceAdjust
 simp only[h1,Qq]
 refine Prod.ext ?_ ?_
 ·cases lo with
  |none=>rfl
  |some v=>exact vD v n 0
 ·cases hi with
  |none=>rfl
  |some v=>exact vD v n n
def xx(i j:Nat):Builtin.Slice.slicePlaces (i:Int) (j:Int) 1=j-i:=by
 unfold Builtin.Slice.slicePlaces
 have h1:(1:Int)>0:=by omega
 simp only[h1,Pl,Int.ediv_one]
 split <;> omega
def nJ(p:IsPart v o)(h:Q o s):wpAny (model prog w) A (Builtin.Slice.slicePartIndex v) Q E s:=by
 cases p with
 |none=>exact slicePart_none h
 |int i t=>exact slicePart_int h
def mS{sl:Addr}{vl vu:Value}{lo hi:Option Int}{n:Nat}{Q:Int×Int×Nat->Shared->Prop}(hs:s.heap.IsSliceOf sl vl vu .none)(pl:IsPart vl lo)(pu:IsPart vu hi)
 (h:Q (((sIx n 0 lo:Nat):Int),1,sIx n n hi-sIx n 0 lo) s):wpAny (model prog w) A (Builtin.Slice.sliceApplied (.ref sl) (pure (n:Int))) Q E s:=by
 obtain⟨os,hos,hcs,hds⟩:=id hs
 unfold Builtin.Slice.sliceApplied Builtin.Slice.sliceFields
 refine Oa (Oa (O2 hos hds (x:=vl) rfl (Oa (O2 hos hds (x:=vu) rfl (Oa (O2 hos hds (x:=.none) rfl (Ou ?_)))))))
 refine Oa (slicePart_none ?_)
 show wpAny _ _ (if ((1:Int)==0)=true then _ else _) _ _ s
 rw[if_neg (by decide)]
 refine Oa (nJ pl (Oa (nJ pu (Oa (Ou ?_)))))
 show wpAny _ _ (match Builtin.Slice.sliceAdjust lo hi 1 (n:Int) with |(lo,hi)=>pure (lo,(1:Int),Builtin.Slice.slicePlaces lo hi 1)) _ _ s
 rw[v9 lo hi n]
 show wpAny _ _ (pure (((sIx n 0 lo:Nat):Int),(1:Int),Builtin.Slice.slicePlaces ((sIx n 0 lo:Nat):Int) ((sIx n n hi:Nat):Int) 1)) _ _ s
 rw[xx]
 exact Ou h
def B8(xs:Array Value)(i k:Nat):((List.range k).filterMap λ(m:Nat)=>xs[((i:Int)+(m:Int)*1).toNat]?).toArray=((xs.toList.drop i).take k).toArray:=by
 have e:(λ(m:Nat)=>xs[((i:Int)+(m:Int)*1).toNat]?)=λm=>xs[i+m]?:=by
  funext m
  have:((i:Int)+(m:Int)*1).toNat=i+m:=by omega
  rw[this]
 rw[e]
 have:=pick_run xs i k
 rw[List.filterMap_map] at this
 have e2:((λx=>xs[x]?) ∘ λx=>i+x)=λm=>xs[i+m]?:=rfl
 rw[e2] at this
 rw[this]
def getItem_tuple_cut{t sl:Addr}{items:Array Value}{vl vu:Value}{lo hi:Option Int}{Q:Value->Shared->Prop}(ht:IsTup s.heap t items)(hs:s.heap.IsSliceOf sl vl vu .none)(pl:IsPart vl lo)(pu:IsPart vu hi)
 (hw:¬ (sIx items.size 0 lo=0/\sIx items.size items.size hi=items.size))
 (h:Q (.ref s.heap.objs.size) { s with heap:=s.heap.push { cls:=.type "tuple",data:=.seq ((items.toList.drop (sIx items.size 0 lo)).take (sIx items.size items.size hi-sIx items.size 0 lo)).toArray } })
 (hsz:items.size<=sizeLine):wpAny (model prog w) A (getItem (.ref t) (.ref sl)) Q E s:=by
 have htake:sizeOk (.seq ((items.toList.drop (sIx items.size 0 lo)).take (sIx items.size items.size hi-sIx items.size 0 lo)).toArray):=by
  show ((items.toList.drop (sIx items.size 0 lo)).take (sIx items.size items.size hi-sIx items.size 0 lo)).toArray.size<=sizeLine
  rw[Om,Pk,Qb,QS]
  omega
 have hj:sIx items.size items.size hi<=items.size:=JD _ _ (Og _) hi
 obtain⟨os,hos,hcs,hds⟩:=id hs
 have hTs:s.TypeIs (.ref sl) "slice":=⟨os,hos,hcs⟩
 unfold getItem
 try with_reducible refine Qi ?_
 first |refine Oa (Ou ?_) |skip
 refine Oa (wpAny_sequenceKey ht.typeIs (by decide) ?_)
 refine Oa (Pu (name:=Str.ofString "__getitem__") ht.typeIs PyProof.Rows.slot_tuple_getitem
  (Qe PyProof.Rows.slot_tuple_getitem ht.typeIs entry_tuple_getitem ?_ (args_tuple_getitem _ _)))
 show wpAny _ _ (Builtin.Tuple.tupleItemsOf (.ref t) >>= _) _ _ s
 refine Oa (tupleItemsOf_ ht ?_)
 refine Oa (wpAny_typeOf hTs ?_)
 rw[if_pos (by decide)]
 refine Oa (mS hs pl pu ?_)
 have hno:¬ ((((sIx items.size 0 lo:Nat):Int)==0&&(1:Int)==1&&(sIx items.size items.size hi-sIx items.size 0 lo)==items.size)=true):=by
  intro q
  rw[Oj,Oj] at q
  have q1:((sIx items.size 0 lo:Nat):Int)=0:=eq_of_beq q.1.1
  have q2:sIx items.size items.size hi-sIx items.size 0 lo=items.size:=eq_of_beq q.2
  exact hw ⟨by omega,by omega⟩
 show wpAny _ _ (if (((sIx items.size 0 lo:Nat):Int)==0&&(1:Int)==1&&(sIx items.size items.size hi-sIx items.size 0 lo)==items.size)=true then _ else _) _ _ s
 rw[if_neg hno,B8]
 first
  |exact Oa (m:=Builtin.Tuple.tupleExact _) (Pg (Ou ⟨_,rfl,Ou h⟩) htake)
  |exact Oa (m:=Builtin.Tuple.tupleExact _) (Pg (Oa (Ou (Ou ⟨_,rfl,Ou h⟩))) htake)
  |exact Oa (Oa (m:=Builtin.Tuple.tupleExact _) (Pg (Ou (Ou ⟨_,rfl,Ou h⟩)) htake))
  |exact Oa (Oa (m:=Builtin.Tuple.tupleExact _) (Pg (Ou ⟨_,rfl,Ou h⟩) htake))
end
end HT
namespace L2
open PySem PySem.Spec PyProof.Rows
abbrev TO:=St->Hp->(Option Int->Hp->Prop)->Prop
def PO(X:Cx)(e:Option Expr)(t:TO):Prop:=
 ∀
  (pins:List (Addr×Obj)) (s:Shared) (σ:St) (H:Hp) (Q:Option Int->Hp->Prop),Inv X pins σ H s->t σ H Q->
  wpAny (model X.prog X.w) X.A (evalPart e X.env) (λu s'=>∃o H',Inv X pins σ H' s'/\IsPart u o/\Q o H') X.xe s
def EI:TO:=λ_ H Q=>Q none H
def L9(t:TE):TO:=λσ H Q=>t σ H λx H1=>∃i,x=.int i/\Q (some i) H1
section
variable{X:Cx}{e:Expr}{te:TE}{lo hi:Option Expr}{tl th:TO}{pos p2:Pos}
def EH:PO X none EI:=by
 intro pins s σ H Q I h
 rw[evalPart_none]
 exact Ou ⟨none,H,I,.none,h⟩
def Ec(h:PE X e te):PO X (some e) (L9 te):=by
 intro pins s σ H Q I hw
 rw[evalPart_some]
 refine thn (h pins s σ H _ I hw) λu s1 ⟨x,H1,I1,r1,q1⟩=>?_
 obtain⟨i,rfl,q⟩:=q1
 obtain⟨t,rfl⟩:=r1
 exact⟨some i,H1,I1,.int i t,q⟩
def SlR(X:Cx)(r:V->Option Int->Option Int->Hp->VK->Prop):Prop:=
 ∀
  (pins:List (Addr×Obj)) (s:Shared) (σ:St) (H:Hp) (x:V) (v vl vu:Value) (lo hi:Option Int) (sl:Addr) (Q:VK),Inv X pins σ H s->RelV x v->s.heap.IsSliceOf sl vl vu .none->IsPart vl lo->IsPart vu hi->r x lo hi H Q->
  ∃T id,typeLookup (.type T) "__getitem__"=pure (some (.builtin id))/\s.TypeIs v T/\wpAny (model X.prog X.w) X.A (getItem v (.ref sl)) (EP X pins σ Q) X.xe s
def SlR.or(h:SlR X r)(h':SlR X r'):SlR X (λx lo hi H Q=>r x lo hi H Q\/r' x lo hi H Q):=by
 intro pins s σ H x v vl vu lo hi sl Q I rx hs pl pu q
 rcases q with q |q
 ·exact h pins s σ H x v vl vu lo hi sl Q I rx hs pl pu q
 ·exact h' pins s σ H x v vl vu lo hi sl Q I rx hs pl pu q
def tSl(r:V->Option Int->Option Int->Hp->VK->Prop)(te:TE)(tl th:TO):TE:=λσ H Q=>te σ H λx H1=>tl σ H1 λl H2=>th σ H2 λu H3=>r x l u H3 Q
def Ca(hr:SlR X r)(he:PE X e te)(hl:PO X lo tl)(hu:PO X hi th):PE X (.Subscript e (.Slice lo hi none p2) pos) (tSl r te tl th):=by
 intro pins s σ H Q I h
 refine Subscript_ (thn (he pins s σ H _ I h) λv s1 ⟨x,H1,I1,r1,q1⟩=>?_)
 refine wpAny_Slice (thn (hl pins s1 σ H1 _ I1 q1) λvl s2 ⟨l,H2,I2,pl,q2⟩=>thn (hu pins s2 σ H2 _ I2 q2) λvu s3 ⟨u,H3,I3,pu,q3⟩=>?_)
 rw[evalPart_none]
 refine Ou ?_
 have I4:Inv X pins σ H3 { s3 with heap:=s3.heap.push { cls:=.type "slice",data:=.fields #[vl,vu,.none] } }:=I3.kept (t':=s3.toks) λb ob q=>Oo _ q
 obtain⟨T,id,hT,ht,hg⟩:=hr pins { s3 with heap:=s3.heap.push { cls:=.type "slice",data:=.fields #[vl,vu,.none] } } σ H3 x v vl vu l u s3.heap.objs.size Q I4 r1 (Heap.IsSliceOf.new ..) pl pu q3
 show wpAny (model X.prog X.w) X.A (subscriptTail e (.Slice lo hi none p2) v (.ref s3.heap.objs.size)) (EP X pins σ Q) X.xe { s3 with heap:=s3.heap.push { cls:=.type "slice",data:=.fields #[vl,vu,.none] } }
 exact tail_any (ops:=[.ref s3.heap.objs.size,v]) ht hT hg (by with_unfolding_all rfl)
def lQ(xs:List V)(lo hi:Option Int):List V:=(xs.drop (HT.sIx xs.length 0 lo)).take (HT.sIx xs.length xs.length hi-HT.sIx xs.length 0 lo)
def mM(xs:List V)(lo hi:Option Int):(lQ xs lo hi).length<=xs.length:=by
 unfold lQ
 rw[Pk,Qb]
 omega
def rSlT(K:W.Frag):V->Option Int->Option Int->Hp->VK->Prop:=λx lo hi H Q=>∃a xs,x=.ref a/\SqT K H a xs/\
 ¬ (HT.sIx xs.length 0 lo=0/\HT.sIx xs.length xs.length hi=xs.length)/\∀p,H p=none->Q (.ref p) (upd H p (.tup (lQ xs lo hi)))
def Ji:SlR X (rSlT X.K):=by
 intro pins s σ H x v vl vu lo hi sl Q I rx hs pl pu h
 obtain⟨a,xs,rfl,hx,hw,q⟩:=h
 cases rx
 obtain⟨its,r,ht,hz⟩:=I.tuple hx
 have bi:its.toArray.size=xs.length:=by rw[Om];exact r.length.symm
 refine⟨"tuple",_,PyProof.Rows.slot_tuple_getitem.lookup,ht.typeIs,?_⟩
 refine HT.getItem_tuple_cut ht hs pl pu (by rw[bi];exact hw) ?_ (by rw[bi];exact hz)
 rw[bi]
 refine⟨.ref s.heap.objs.size,_,I.laid (t':=s.toks) (o:=.tup (lQ xs lo hi)) (λb ob q=>Oo _ q) (Og _) ?_,rfl,q _ (I.hok.fresh (Og _))⟩
 exact⟨Ow (mM xs lo hi) hz,_,(r.drop (HT.sIx xs.length 0 lo)).take (HT.sIx xs.length xs.length hi-HT.sIx xs.length 0 lo),IsTup.new _ _⟩
def mG(K:W.Frag):R2:=λx y H Q=>∃a b xs ys,x=.ref a/\y=.ref b/\SqT K H a xs/\SqT K H b ys/\xs≠[]/\xs.length+ys.length<=sizeLine/\
 (ys=[]->Q (.ref a) H)/\(ys≠[]->∀p,H p=none->Q (.ref p) (upd H p (.tup (xs++ys))))
def Vals.nil_iff(r:Vals xs us):us=[] ↔ xs=[]:=by
 cases r with
 |nil=>simp
 |cons _ _=>simp
def DY:OpR X (binaryOp .Add) (mG X.K):=by
 intro pins s σ H x y v u Q I rx ry h
 obtain⟨a,b,xs,ys,rfl,rfl,ha,hb,hx,hz,q1,q2⟩:=h
 cases rx
 cases ry
 obtain⟨its,r1,p1,_⟩:=I.tuple ha
 obtain⟨its2,r2,p2,_⟩:=I.tuple hb
 refine HT.cat_tup p1 p2 (λz=>hx (r1.nil_iff.mp z)) (λz=>⟨.ref a,H,I,rfl,q1 (r2.nil_iff.mp z)⟩) (λz=>?_) (by rw[<- r1.length,<- r2.length];exact hz)
 refine⟨.ref s.heap.objs.size,_,I.laid (t':=s.toks) (o:=.tup (xs++ys)) (λb ob q=>Oo _ q) (Og _) ?_,rfl,q2 (λw=>z (r2.nil_iff.mpr w)) _ (I.hok.fresh (Og _))⟩
 exact⟨by rw[Oh];exact hz,_,r1.append r2,IsTup.new _ _⟩
end
end L2
namespace L2
open PySem PySem.Spec PyProof.Rows
def ixN(n:Nat)(i:Int):Option Nat:=if 0<=i then (if i<n then some i.toNat else none) else if -(n:Int)<=i then some (i+n).toNat else none
def atI{α:Type}(xs:List α)(i:Int):Option α:=(ixN xs.length i).bind λj=>xs[j]?
def vS(h:ixN n i=some j):seqIndex? i n=some j/\j<n/\-(n:Int)<=i/\i<n:=by
 unfold ixN at h
 by_cases h0:0<=i
 ·rw[if_pos h0] at h
  by_cases h1:i<n
  ·rw[if_pos h1] at h
   have e:i.toNat=j:=OE h
   exact⟨by rw[seqIndex_of h0 h1,e],by omega,by omega,h1⟩
  ·rw[if_neg h1] at h;cases h
 ·rw[if_neg h0] at h
  by_cases h1:-(n:Int)<=i
  ·rw[if_pos h1] at h
   have e:(i+n).toNat=j:=OE h
   exact⟨by rw[seqIndex_neg (by omega) h1,e],by omega,h1,by omega⟩
  ·rw[if_neg h1] at h;cases h
def oH(h:atI xs i=some v):∃j,seqIndex? i xs.length=some j/\xs[j]?=some v/\j<xs.length/\-(xs.length:Int)<=i/\i<xs.length:=by
 unfold atI at h
 cases e:ixN xs.length i with
 |none=>rw[e] at h;cases h
 |
  some j=>
  rw[e] at h
  obtain⟨h1,h2,h3,h4⟩:=vS e
  exact⟨j,h1,h,h2,h3,h4⟩
def mI(b:Expr):Prop:=∀o i,subscripted b false o i=operate [o,i] (getItem o i)
def IxR(X:Cx)(r:R2):Prop:=
 ∀
  (value io:Expr) (pins:List (Addr×Obj)) (s:Shared) (σ:St) (H:Hp) (x y:V) (v u:Value) (Q:VK),Inv X pins σ H s->RelV x v->RelV y u->r x y H Q->
  subscripted io false v u=operate [v,u] (getItem v u)->wpAny (model X.prog X.w) X.A (subscriptTail value io v u) (EP X pins σ Q) X.xe s
def MtR(X:Cx)(id:String)(r:V->List V->Hp->VK->Prop):Prop:=
 ∀
  (pins:List (Addr×Obj)) (s:Shared) (σ:St) (H:Hp) (x:V) (xs:List V) (v:Value) (us:List Value) (Q:VK),Inv X pins σ H s->RelV x v->Vals xs us->r x xs H Q->
  wpAny (model X.prog X.w) X.A (call (.builtin id) (v::us)) (EP X pins σ Q) X.xe s
section
variable{X:Cx}{a b:Expr}{ta tb:TE}{pos:Pos}
def IxR.or(h:IxR X r)(h':IxR X r'):IxR X (λx y H Q=>r x y H Q\/r' x y H Q):=by
 intro value io pins s σ H x y v u Q I rx ry q hs
 rcases q with q |q
 ·exact h value io pins s σ H x y v u Q I rx ry q hs
 ·exact h' value io pins s σ H x y v u Q I rx ry q hs
def LR(hr:IxR X r)(ha:PE X a ta)(hb:PE X b tb)(hs:mI b):PE X (.Subscript a b pos) (tOp r ta tb):=by
 intro pins s σ H Q I h
 exact Subscript_ (A6 ha hb I h λv u s2 x y H2 I2 rx ry q=>hr a b pins s2 σ H2 x y v u Q I2 rx ry q (hs _ _))
def wQ(K:W.Frag):R2:=λx y H Q=>∃p xs i v,x=.ref p/\y=.int i/\SqL K H p xs/\atI xs i=some v/\Q v H
def xu(K:W.Frag):R2:=λx y H Q=>∃p xs i v,x=.ref p/\y=.int i/\SqT K H p xs/\atI xs i=some v/\Q v H
def A1:R2:=λx y H Q=>∃z i c,x=.str z/\y=.int i/\z.length<=sizeLine/\atI z.cps.toList i=some c/\Q (.str ⟨#[c]⟩) H
def E2:IxR X (wQ X.K):=by
 intro value io pins s σ H x y v u Q I rx ry h hs
 obtain⟨p,xs,i,z,rfl,rfl,hq,he,q⟩:=h
 cases rx
 obtain⟨t,rfl⟩:=ry
 obtain⟨its,r,pl,hz⟩:=I.list hq
 obtain⟨j,h1,h2,h3,h4,h5⟩:=oH he
 obtain⟨w,ew,rw'⟩:=r.get h2
 have hl:=r.length
 have hn:=jk
 have ii:EP X pins σ Q w s:=⟨z,H,I,rw',q⟩
 by_cases h0:0<=i
 ·have hj:i.toNat=j:=by
   rw[seqIndex_of h0 h5] at h1
   exact OE h1
  exact item_listR pl.isList h0 (by omega) (by rw[hj];simpa using ew) ii hs
 ·have hj:(i+(its.toArray.size:Int)).toNat=j:=by
   rw[seqIndex_neg (by omega) h4] at h1
   rw[Om,<- hl]
   exact OE h1
  exact subscriptTail_builtinR (x:=w) pl.isList.typeIs slot_list_getitem.lookup
   (wpAny_getItem_list_neg (Q:=λr s'=>r=w/\EP X pins σ Q r s') pl.isList (by omega) (by rw[Om] <;> omega) (by omega) (by rw[hj];simpa using ew) ⟨rfl,ii⟩) hs
def HB:IxR X (xu X.K):=by
 intro value io pins s σ H x y v u Q I rx ry h hs
 obtain⟨p,xs,i,z,rfl,rfl,hq,he,q⟩:=h
 cases rx
 obtain⟨t,rfl⟩:=ry
 obtain⟨its,r,pl,hz⟩:=I.tuple hq
 obtain⟨j,h1,h2,h3,h4,h5⟩:=oH he
 obtain⟨w,ew,rw'⟩:=r.get h2
 have hl:=r.length
 have hn:=jk
 have ii:EP X pins σ Q w s:=⟨z,H,I,rw',q⟩
 exact subscriptTail_builtinR (x:=w) pl.typeIs slot_tuple_getitem.lookup
  (getItem_tuple (j:=j) (Q:=λr s'=>r=w/\EP X pins σ Q r s') pl (by omega) (by omega) (by rw[Om,<- hl];exact h1) (by simpa using ew) ⟨rfl,ii⟩) hs
def GX:IxR X A1:=by
 intro value io pins s σ H x y v u Q I rx ry h hs
 obtain⟨z,i,c,rfl,rfl,hz,he,q⟩:=h
 obtain⟨t,rfl⟩:=rx
 obtain⟨t',rfl⟩:=ry
 obtain⟨j,h1,h2,h3,h4,h5⟩:=oH he
 have hl:z.cps.toList.length=z.length:=by simp [Str.length]
 rw[hl] at h1 h4 h5
 have hn:=jk
 exact tail_any (typeIs_str s z t) slot_str_getitem.lookup (getItem_str (c:=c) (by
  have e1:decide (i < -(2^63:Int))=false:=OA (by omega)
  have e2:decide (i >= 2^63)=false:=OA (by omega)
  rw[e1,e2,Bool.or_false]) (by rw[h1];simpa using h2) ⟨.str ⟨#[c]⟩,H,I.tok _,⟨_,rfl⟩,q⟩) hs
def wN(its:List Value)(n j:Nat)(u:Value):Obj.mapSeq (·.setIfInBounds j u) { cls:=.type "list",data:=.seq its.toArray n }={ cls:=.type "list",data:=.seq (its.set j u).toArray n }:=by
 simp [Obj.mapSeq]
def Inv.lst(I:Inv X pins σ H s)(h:H p=some (.lst xs)):
 ∃(its:List Value) (n:Nat),Vals xs its/\s.heap.get? p=some { cls:=.type "list",data:=.seq its.toArray n }/\xs.length<=sizeLine:=by
 obtain⟨z,its,n,r,e⟩:=I.hok p _ h
 exact⟨its,n,r,e,z⟩
def Inv.lstUpd{pins:List (Addr×Obj)}{σ:St}{H:Hp}{s:Shared}{p:Addr}{xs ys:List V}{its its':List Value}{n n':Nat}{f:Obj->Obj}(I:Inv X pins σ H s)(h:H p=some (.lst xs))
 (ho:s.heap.get? p=some { cls:=.type "list",data:=.seq its.toArray n }) (hf:f { cls:=.type "list",data:=.seq its.toArray n }={ cls:=.type "list",data:=.seq its'.toArray n' }) (r:Vals ys its') (hz:ys.length<=sizeLine) (t:Nat):
 Inv X pins σ (upd H p (.lst ys)) { s with heap:=s.heap.update p f,toks:=t }:=by
 have e:(s.heap.update p f).get? p=some { cls:=.type "list",data:=.seq its'.toArray n' }:=by
  rw[Heap.get?_update_self f ho (by rw[hf] <;> rfl),hf]
 refine I.write (x:=p) (e:=p) (by rw[h];trivial) (.inl rfl) (λb u hb q=>(QB _ _ (Ne.symm hb)).trans q) ⟨_,e⟩ ?_
 exact⟨hz,its',n',r,e⟩
def xB:V->V->V->Hp->(Hp->Prop)->Prop:=λo i v H Q=>∃p xs k j,o=.ref p/\i=.int k/\H p=some (.lst xs)/\ixN xs.length k=some j/\Q (upd H p (.lst (xs.set j v)))
def sg:sF X xB:=by
 intro pins s σ H o i v ov iv u Q I ro ri rv h
 obtain⟨p,xs,k,j,rfl,rfl,hp,hj,q⟩:=h
 cases ro
 obtain⟨t,rfl⟩:=ri
 obtain⟨its,n,r,ho,hz⟩:=I.lst hp
 obtain⟨h1,h2,h3,h4⟩:=vS hj
 have hl:=r.length
 have hn:=jk
 have I':Inv X pins σ (upd H p (.lst (xs.set j v))) { s with heap:=s.heap.update p (Obj.mapSeq (·.setIfInBounds j u)) }:=
  I.lstUpd hp ho (wN its n j u) (r.set rv j) (by rw[Oz];exact hz) s.toks
 by_cases h0:0<=k
 ·have hk:k.toNat=j:=by
   rw[seqIndex_of h0 h4] at h1
   exact OE h1
  exact W.ki_setAt ho h0 (by omega) (by rw[Om,<- hl];exact h4) (by rw[hk];exact⟨_,I',q⟩)
 ·have hk:(k+(its.toArray.size:Int)).toNat=j:=by
   rw[seqIndex_neg (by omega) h3] at h1
   rw[Om,<- hl]
   exact OE h1
  exact W.ki_setBack ho (by omega) (by rw[Om,<- hl];exact h3) (by omega) (by rw[hk];exact⟨_,I',q⟩)
def rD(lo hi:Option Int)(n:Nat):(sliceBounds lo hi none n).1=((HT.sIx n 0 lo:Nat):Int)/\(sliceBounds lo hi none n).2.1=((HT.sIx n n hi:Nat):Int)/\(sliceBounds lo hi none n).2.2=1:=by
 refine⟨?_,?_,rfl⟩
 ·cases lo with
  |none=>simp [sliceBounds,HT.sIx]
  |
   some i=>
   simp only[sliceBounds,HT.sIx,Option.getD_none,show (1:Int)>0 by decide,Pl]
   by_cases h:i<0
   ·simp only[h,Pl] <;> omega
   ·simp only[h,Qq] <;> omega
 ·cases hi with
  |none=>simp [sliceBounds,HT.sIx]
  |
   some i=>
   simp only[sliceBounds,HT.sIx,Option.getD_none,show (1:Int)>0 by decide,Pl]
   by_cases h:i<0
   ·simp only[h,Pl] <;> omega
   ·simp only[h,Qq] <;> omega
def qE(its:List Value)(lo hi:Option Int):slicePick its.toArray lo hi none=((its.drop (HT.sIx its.length 0 lo)).take (HT.sIx its.length its.length hi-HT.sIx its.length 0 lo)).toArray:=by
 obtain⟨h1,h2,h3⟩:=rD lo hi its.toArray.size
 unfold slicePick
 rw[h1,h2,h3]
 simp only[sliceRange_one,pick_run,Om] <;> rfl
def rSlL(K:W.Frag):V->Option Int->Option Int->Hp->VK->Prop:=λx lo hi H Q=>∃a xs,x=.ref a/\SqL K H a xs/\∀p,H p=none->Q (.ref p) (upd H p (.lst (lQ xs lo hi)))
def Dh:SlR X (rSlL X.K):=by
 intro pins s σ H x v vl vu lo hi sl Q I rx hs pl pu h
 obtain⟨a,xs,rfl,hx,q⟩:=h
 cases rx
 obtain⟨its,r,ht,hz⟩:=I.list hx
 have bi:=r.length
 refine⟨"list",_,slot_list_getitem.lookup,ht.isList.typeIs,?_⟩
 refine wpAny_getItem_list_slice ht.isList hs pl pu .none (by simp) ?_ (by rw[Om] <;> omega)
 rw[qE,<- bi]
 refine⟨.ref s.heap.objs.size,_,I.laid (t':=s.toks) (o:=.lst (lQ xs lo hi)) (λb ob q=>Oo _ q) (Og _) ?_,rfl,q _ (I.hok.fresh (Og _))⟩
 exact⟨Ow (mM xs lo hi) hz,_,0,(r.drop (HT.sIx xs.length 0 lo)).take (HT.sIx xs.length xs.length hi-HT.sIx xs.length 0 lo),OD _ rfl⟩
def a8:V->Bool
 |.non=>true
 |.bl _=>true
 |.int _=>true
 |.str _=>true
 |_=>false
def eqV:V->V->Bool
 |.non,.non=>true
 |.bl a,.bl b=>a==b
 |.bl a,.int b=>(if a then 1 else 0)==b
 |.int a,.bl b=>a==(if b then 1 else 0)
 |.int a,.int b=>a==b
 |.str a,.str b=>a==b
 |_,_=>false
def G0(ry:RelV y u)(rx:RelV x v)(fy:a8 y=true)(fx:a8 x=true):SeqAt.EqAt A s u v (eqV y x):=by
 cases y with
 |
  non=>
  cases ry
  cases x with
  |non=>cases rx;exact SeqAt.EqAt.same _
  |bl b=>cases rx;exact SeqAt.EqAt.none_bool b
  |int b=>obtain⟨t,rfl⟩:=rx;exact SeqAt.EqAt.none_int b t
  |str b=>obtain⟨t,rfl⟩:=rx;exact SeqAt.EqAt.none_str b t
  |_=>exact absurd (show false=true from fx) Ol
 |
  bl a=>
  cases ry
  cases x with
  |non=>cases rx;exact SeqAt.EqAt.bool_none a
  |bl b=>cases rx;exact SeqAt.EqAt.bool_bool a b
  |int b=>obtain⟨t,rfl⟩:=rx;exact SeqAt.EqAt.bool_int a b t
  |str b=>obtain⟨t,rfl⟩:=rx;exact SeqAt.EqAt.bool_str a b t
  |_=>exact absurd (show false=true from fx) Ol
 |
  int a=>
  obtain⟨t',rfl⟩:=ry
  cases x with
  |non=>cases rx;exact SeqAt.EqAt.int_none a t'
  |bl b=>cases rx;exact SeqAt.EqAt.int_bool a t' b
  |int b=>obtain⟨t,rfl⟩:=rx;exact SeqAt.EqAt.int_int a t' b t
  |str b=>obtain⟨t,rfl⟩:=rx;exact SeqAt.EqAt.int_str a t' b t
  |_=>exact absurd (show false=true from fx) Ol
 |
  str a=>
  obtain⟨t',rfl⟩:=ry
  cases x with
  |non=>cases rx;exact SeqAt.EqAt.str_none a t'
  |bl b=>cases rx;exact SeqAt.EqAt.str_bool a t' b
  |int b=>obtain⟨t,rfl⟩:=rx;exact SeqAt.EqAt.str_int a t' b t
  |str b=>obtain⟨t,rfl⟩:=rx;exact SeqAt.EqAt.str_str a t' b t
  |_=>exact absurd (show false=true from fx) Ol
 |_=>exact absurd (show false=true from fy) Ol
def eqU(x:V)(u:Value):Bool:=match u with
 |.none=>eqV .non x
 |.bool b=>eqV (.bl b) x
 |.int i _=>eqV (.int i) x
 |.str z _=>eqV (.str z) x
 |_=>false
def zK(r:RelV y u)(f:a8 y=true):eqU x u=eqV y x:=by
 cases y with
 |non=>cases r;rfl
 |bl b=>cases r;rfl
 |int i=>obtain⟨t,rfl⟩:=r;rfl
 |str z=>obtain⟨t,rfl⟩:=r;rfl
 |_=>exact absurd (show false=true from f) Ol
theorem pP:∀{xs:List V}{us:List Value},Vals xs us->xs.all a8=true->us.any (eqU x)=xs.any λy=>eqV y x
 |_,_,.nil,_=>rfl
 |
  y::xs,u::us,.cons r t,f=>by
  rw[PZ,Oj] at f
  rw[Pd,Pd,zK r f.1,pP t f.2]
theorem nc(rx:RelV x v)(fx:a8 x=true):∀{xs:List V}{us:List Value},Vals xs us->xs.all a8=true->∀u∈us,SeqAt.EqAt A s u v (eqU x u)
 |_,_,.nil,_=>λu hu=>by cases hu
 |
  y::xs,u::us,.cons r t,f=>λu' hu=>by
  rw[PZ,Oj] at f
  rcases Oy.mp hu with rfl |hu
  ·rw[zK r f.1];exact G0 r rx f.1 fx
  ·exact nc rx fx t f.2 u' hu
def inV(x:V)(xs:List V):Bool:=xs.any λy=>eqV y x
def rIn(K:W.Frag)(neg:Bool):R2:=λx y H Q=>∃p xs,y=.ref p/\(SqL K H p xs\/SqT K H p xs)/\a8 x=true/\xs.all a8=true/\Q (.bl (if neg then !inV x xs else inV x xs)) H
def yk:OpR X (compareOp .In) (rIn X.K false):=by
 intro pins s σ H x y v u Q I rx ry h
 obtain⟨p,xs,rfl,hq,fx,fs,q⟩:=h
 cases ry
 rcases hq with hq |hq
 ·obtain⟨its,r,pl,hz⟩:=I.list hq
  refine SeqAt.in_listAt (eqU x) pl.isList (λw hw=>nc rx fx r fs w (by simpa using hw)) ⟨.bl _,H,I,rfl,?_⟩
  rw[show its.toArray.any (eqU x)=its.any (eqU x) by simp,pP r fs]
  exact q
 ·obtain⟨its,r,pl,hz⟩:=I.tuple hq
  refine SeqAt.in_tupleAt (eqU x) pl (λw hw=>nc rx fx r fs w (by simpa using hw)) ⟨.bl _,H,I,rfl,?_⟩
  rw[show its.toArray.any (eqU x)=its.any (eqU x) by simp,pP r fs]
  exact q
def rT:CallR X (.builtin "len") (λxs H Q=>∃p ys,xs=[.ref p]/\(SqL X.K H p ys\/SqT X.K H p ys)/\Q (.int ys.length) H):=by
 intro pins s σ H xs us Q I r h
 obtain⟨p,ys,rfl,hq,q⟩:=h
 obtain⟨u,rfl,rx⟩:=g0 r
 cases rx
 have hn:=jk
 rcases hq with hq |hq
 ·obtain⟨its,r',pl,hz⟩:=I.list hq
  have bi:=r'.length
  exact Calls.call_len_list pl.isList (by simp only[Om] <;> omega) ⟨.int ys.length,H,I.tok _,⟨s.toks+1,by rw[Om,bi]⟩,q⟩
 ·obtain⟨its,r',pl,hz⟩:=I.tuple hq
  have bi:=r'.length
  exact len_tuple pl (by simp only[Om] <;> omega) ⟨.int ys.length,H,I.tok _,⟨s.toks+1,by rw[Om,bi]⟩,q⟩
def sj:CallR X (.builtin "len") (λxs H Q=>∃z,xs=[.str z]/\z.length<=sizeLine/\Q (.int z.length) H):=by
 intro pins s σ H xs us Q I r h
 obtain⟨z,rfl,hz,q⟩:=h
 obtain⟨u,rfl,t,rfl⟩:=g0 r
 have hn:=jk
 exact len_str (by omega) ⟨.int z.length,H,I.tok _,⟨_,rfl⟩,q⟩
def CallR.or(h:CallR X f r)(h':CallR X f r'):CallR X f (λxs H Q=>r xs H Q\/r' xs H Q):=by
 intro pins s σ H xs us Q I rs q
 rcases q with q |q
 ·exact h pins s σ H xs us Q I rs q
 ·exact h' pins s σ H xs us Q I rs q
def sR:CallR X (.type "list") (λxs H Q=>∃p ys,xs=[.ref p]/\(SqL X.K H p ys\/SqT X.K H p ys)/\∀l,H l=none->Q (.ref l) (upd H l (.lst ys))):=by
 intro pins s σ H xs us Q I r h
 obtain⟨p,ys,rfl,hq,q⟩:=h
 obtain⟨u,rfl,rx⟩:=g0 r
 cases rx
 have ii:∀(its:List Value),Vals ys its->ys.length<=sizeLine->∀(h':Heap) (c':Nat),(∀b o',s.heap.get? b=some o'->h'.get? b=some o')->
  h'.get? s.heap.objs.size=some { cls:=.type "list",dict:=none,data:=.seq its.toArray c',slots:=#[] }->EP X pins σ Q (.ref s.heap.objs.size) { s with heap:=h' }:=λits r' hz h' c' kp e=>
  ⟨.ref s.heap.objs.size,_,I.laid (t':=s.toks) kp (Og _) (show ObjOk X.prog X.w _ h' _ (.lst ys) from ⟨hz,its,c',r',e⟩),rfl,q _ (I.hok.fresh (Og _))⟩
 rcases hq with hq |hq
 ·obtain⟨its,r',pl,hz⟩:=I.list hq
  have bi:=r'.length
  obtain⟨o,ho,hc,n,hd⟩:=pl.isList
  exact call_list_seq p (.inl rfl) ho hc hd (λh' c' kp e=>ii its r' hz h' c' kp e) (by simp only[Om] <;> omega)
 ·obtain⟨its,r',pl,hz⟩:=I.tuple hq
  have bi:=r'.length
  obtain⟨o,ho,hc,n,hd⟩:=pl
  exact call_list_seq p (.inr rfl) ho hc hd (λh' c' kp e=>ii its r' hz h' c' kp e) (by simp only[Om] <;> omega)
def qM:CallR X (.type "tuple") (λxs H Q=>∃p ys,xs=[.ref p]/\((SqL X.K H p ys/\∀l,H l=none->Q (.ref l) (upd H l (.tup ys)))\/(SqT X.K H p ys/\Q (.ref p) H))):=by
 intro pins s σ H xs us Q I r h
 obtain⟨p,ys,rfl,h⟩:=h
 obtain⟨u,rfl,rx⟩:=g0 r
 cases rx
 rcases h with ⟨hq,q⟩ |⟨hq,q⟩
 ·obtain⟨its,r',pl,hz⟩:=I.list hq
  have bi:=r'.length
  refine call_tuple_list pl.isList (λh' kp=>?_) (by simp only[Om] <;> omega)
  have I1:Inv X pins σ H { s with heap:=h' }:=I.kept (t':=s.toks) kp
  have I2:Inv X pins σ (upd H h'.objs.size (.tup ys)) { s with heap:=h'.push { cls:=.type "tuple",data:=.seq its.toArray } }:=
   I1.laid (t':=s.toks) (λb o e=>Oo _ e) (Og _) (show ObjOk X.prog X.w _ _ _ (.tup ys) from ⟨hz,its,r',IsTup.new _ _⟩)
  exact⟨.ref h'.objs.size,_,I2,rfl,q _ (I1.hok.fresh (Og _))⟩
 ·obtain⟨its,r',pl,hz⟩:=I.tuple hq
  exact call_tuple_same pl ⟨.ref p,H,I,rfl,q⟩
def tyV(K:W.Frag)(T:String)(x:V)(H:Hp):Prop:=match x with
 |.str _=>T="str"
 |.int _=>T="int"
 |.ref p=>(T="list" /\ ∃xs,SqL K H p xs)\/(T="tuple" /\ ∃o,K.lookup p=some o/\o.cls=.type "tuple" /\ o.dict=none)\/
  (T="dict" /\ ((∃kvs,H p=some (.dK kvs))\/∃kvs,H p=some (.dT kvs)))\/(T="set" /\ ∃S n,H p=some (.set S n))
 |_=>False
def zq(I:Inv X pins σ H s)(r:RelV x v)(ty:tyV X.K T x H):
 s.TypeIs v T/\∀a,v=.ref a->∃ob,s.heap.get? a=some ob/\ob.dict=none:=by
 cases x with
 |
  str z=>
  obtain⟨t,rfl⟩:=r
  cases (show T="str" from ty)
  exact⟨typeIs_str s z t,λ_ e=>nomatch e⟩
 |
  int i=>
  obtain⟨t,rfl⟩:=r
  cases (show T="int" from ty)
  exact⟨typeIs_int s i t,λ_ e=>nomatch e⟩
 |
  ref p=>
  cases r
  rcases ty with ⟨rfl,xs,hq⟩ |⟨rfl,o,hk,hc,hd⟩ |⟨rfl,hk⟩ |⟨rfl,S,n,hk⟩
  ·obtain⟨its,_,pl,_⟩:=I.list hq
   refine⟨pl.isList.typeIs,λa e=>?_⟩
   cases e
   obtain⟨o,n,e,c,hd,_⟩:=pl
   exact⟨o,e,hd⟩
  ·refine⟨⟨o,I.kIn p o hk,hc⟩,λa e=>?_⟩
   cases e
   exact⟨o,I.kIn _ o hk,hd⟩
  ·have z:∃o,s.heap.get? p=some o/\o.ExactDict:=by
    rcases hk with ⟨kvs,hk⟩ |⟨kvs,hk⟩
    ·obtain⟨_,_,_,_,o,_,_,e,ex,_⟩:=I.hok p _ hk
     exact⟨o,e,ex⟩
    ·obtain⟨_,_,_,_,o,_,_,e,ex,_⟩:=I.hok p _ hk
     exact⟨o,e,ex⟩
   obtain⟨o,e,ex⟩:=z
   refine⟨⟨o,e,ex.1⟩,λa e2=>?_⟩
   cases e2
   exact⟨o,e,ex.2.1⟩
  ·obtain⟨o,_,_,_,e,ex,_⟩:=I.hok p _ hk
   refine⟨⟨o,e,ex.1⟩,λa e2=>?_⟩
   cases e2
   exact⟨o,e,ex.2.1⟩
 |_=>exact False.elim ty
def tBM0(K:W.Frag)(T:String)(r:V->List V->Hp->VK->Prop)(to:TE):TE:=λσ H Q=>to σ H λx H1=>tyV K T x H1/\r x [] H1 Q
def tBM(K:W.Frag)(T:String)(r:V->List V->Hp->VK->Prop)(to:TE)(t:TA):TE:=λσ H Q=>to σ H λx H1=>tyV K T x H1/\t σ H1 λxs H2=>r x xs H2 Q
variable{o e:Expr}{es:List Expr}{to:TE}{t:TA}{name:Str}{apos cpos:Pos}{T id:String}{r:V->List V->Hp->VK->Prop}
def Iq(pa:PlainAttrs T)(slot:Slot T name id)(hty:typeOf (.builtin id)=pure (.type "method_descriptor"))(hm:MtR X id r)(ho:PE X o to)
 (dL:attributeBase o name X.env (eval o X.env)=eval o X.env:=by rfl) (ge:(apos.endLine==cpos.line)=true:=by rfl):PE X (.Call (.Attribute o name apos) [] [] cpos) (tBM0 X.K T r to):=by
 intro pins s σ H Q I h
 refine wpAny_Call_method0_late dL ge (thn (ho pins s σ H _ I h) λv s1 ⟨x,H1,I1,r1,ty,q1⟩=>?_)
 obtain⟨h1,h2⟩:=zq I1 r1 ty
 exact⟨T,id,pa,slot,hty,h1,h2,Calls.callWith_builtin rfl (PySem.evalArgs_none (hm pins s1 σ H1 x [] v [] Q I1 r1 .nil q1))⟩
def CB(pa:PlainAttrs T)(slot:Slot T name id)(hty:typeOf (.builtin id)=pure (.type "method_descriptor"))(hm:MtR X id r)(ho:PE X o to)(ha:PA X (e::es) t)
 (dL:attributeBase o name X.env (eval o X.env)=eval o X.env:=by rfl)
 (hfew:((backTo cpos (starEach (e::es) X.env)).all (λx=>!x.1)&&(backToKw cpos (keywordEach [] X.env)).all (λx=>x.1.isSome)
  && decide ((e::es).length+([]:List Keyword).length+(if ([]:List Keyword).isEmpty then 0 else 1)<30))=true:=by rfl)
 (ge:(apos.endLine==cpos.line)=true:=by rfl) (hs:starEach (e::es) X.env=(false,eval e X.env)::starEach es X.env:=by rfl) (ci:(backTo cpos (starEach es X.env)).any (·.1)=false:=by rfl):
 PE X (.Call (.Attribute o name apos) (e::es) [] cpos) (tBM X.K T r to t):=by
 intro pins s σ H Q I h
 refine wpAny_Call_method_late dL hfew ge rfl (thn (ho pins s σ H _ I h) λv s1 ⟨x,H1,I1,r1,ty,q1⟩=>?_)
 obtain⟨h1,h2⟩:=zq I1 r1 ty
 refine⟨T,id,pa,slot,hty,h1,h2,?_⟩
 have hA:=ha cpos pins s1 σ H1 _ I1 q1
 rw[hs] at hA ⊢
 refine Calls.callWith_builtin (by show (false || (backTo cpos (starEach es X.env)).any (·.1))=false;rw[ci] <;> rfl) (Calls.evalArgs_plain ?_)
 exact thn hA λus s2 ⟨vs,H2,I2,r2,q2⟩=>hm pins s2 σ H2 x vs v us Q I2 r1 r2 q2
end
end L2
namespace L2
open PySem PySem.Spec PyProof.Rows
def MtM(X:Cx)(id:String)(r:V->List V->Hp->VK->Prop):Prop:=
 ∀
  (pins:List (Addr×Obj)) (s:Shared) (σ:St) (H:Hp) (x:V) (xs:List V) (v:Value) (us:List Value) (Q:VK),Inv X pins σ H s->RelV x v->Vals xs us->r x xs H Q->
  wpAny (model X.prog X.w) X.A (call (.builtin id) (v::us)) (EP X pins σ Q) X.xe s
def Vals.one(r:Vals [x] us):∃u,us=[u]/\RelV x u:=by
 cases r with
 |cons r t=>cases t;exact⟨_,rfl,r⟩
theorem Vals.zero:∀{us:List Value},Vals [] us->us=[]
 |_,.nil=>rfl
def Vals.dropLast(h:Vals xs us):Vals xs.dropLast us.dropLast:=by
 induction h with
 |nil=>exact .nil
 |
  cons r t ih=>
  cases t with
  |nil=>exact .nil
  |cons q t'=>exact .cons r ih
def Vals.reverse(h:Vals xs us):Vals xs.reverse us.reverse:=by
 induction h with
 |nil=>exact .nil
 |cons r t ih=>rw[Pt,Pt];exact Vals.append ih (.cons r .nil)
def wI{α:Type}(l:List α):l.eraseIdx (l.length-1)=l.dropLast:=by
 induction l with
 |nil=>rfl
 |
  cons a r ih=>
  cases r with
  |nil=>rfl
  |
   cons b r=>
   have e:(a::b::r).length-1=((b::r).length-1)+1:=by
    have h1:(a::b::r).length=r.length+2:=rfl
    have h2:(b::r).length=r.length+1:=rfl
    omega
   rw[e,List.eraseIdx_cons_succ,ih]
   all_goals rfl
section
variable{X:Cx}{pins:List (Addr×Obj)}{σ:St}{H:Hp}{s:Shared}{l b:Addr}{xs ys zs:List V}
def Inv.lset{its its':List Value}{n:Nat}{f:Array Value->Array Value}{t':Nat}(I:Inv X pins σ H s)(hH:H l=some (.lst xs))
 (e:s.heap.get? l=some { cls:=.type "list",data:=.seq its.toArray n }) (hf:f its.toArray=its'.toArray) (hv:Vals ys its') (hz:ys.length<=sizeLine):
 Inv X pins σ (upd H l (.lst ys)) { s with heap:=s.heap.update l (Obj.mapSeq f),toks:=t' }:=by
 have q:=PySem.IsL.update e f
 rw[hf] at q
 refine I.write (x:=l) (e:=l) (by rw[hH];exact trivial) (.inl rfl) (λb' u hb hu=>(QB s.heap (Obj.mapSeq f) (Ne.symm hb)).trans hu) ⟨_,q⟩ ?_
 exact⟨hz,its',_,hv,q⟩
def Inv.lnew(I:Inv X pins σ H s)(hv:Vals ys its)(hz:ys.length<=sizeLine):
 Inv X pins σ (upd H s.heap.objs.size (.lst ys)) { s with heap:=s.heap.push { cls:=.type "list",data:=.seq its.toArray },toks:=t' }:=
 I.laid (λ_ _ q=>Oo _ q) (Og _) ⟨hz,its,0,hv,OD _ rfl⟩
def Inv.fresh(I:Inv X pins σ H s):H s.heap.objs.size=none:=I.hok.fresh (Og _)
def Inv.lstM(I:Inv X pins σ H s)(hH:H l=some (.lst xs)):xs.length<=sizeLine/\∃(its:List Value) (n:Nat),Vals xs its/\xs.length=its.length/\s.heap.get? l=some { cls:=.type "list",data:=.seq its.toArray n }:=by
 obtain⟨z,its,n,r,e⟩:=I.hok l _ hH
 exact⟨z,its,n,r,r.length,e⟩
def Ae{n:Nat}(h:n<=sizeLine):Builtin.List.listTooLong n=false:=by
 unfold Builtin.List.listTooLong
 exact OA (by omega)
end
section
variable{X:Cx}
def pC:V->List V->Hp->VK->Prop:=λx vs H Q=>∃l xs y,x=.ref l/\vs=[y]/\H l=some (.lst xs)/\xs.length<sizeLine/\Q .non (upd H l (.lst (xs++[y])))
def ib:MtM X "list.append" pC:=by
 intro pins s σ H x vs v us Q I rx rv h
 obtain⟨l,xs,y,rfl,rfl,hH,hz,q⟩:=h
 cases rx
 obtain⟨u,rfl,ru⟩:=rv.one
 obtain⟨z,its,n,r,hl,e⟩:=I.lstM hH
 refine call_meets F.slot_list_append ⟨_,e,rfl⟩ F.entry_list_append (F.args_list_append_2 _ _) (PySem.list_append l its.toArray n u (by rw[Om];omega)) ⟨e,?_⟩
 refine⟨.non,_,I.lset (its':=its++[u]) hH e (by simp) (r.append (.cons ru .nil)) ?_,rfl,q⟩
 rw[Oh,List.length_singleton]
 omega
def Cd:V->List V->Hp->VK->Prop:=λx vs H Q=>∃l xs y,x=.ref l/\vs=[]/\H l=some (.lst xs)/\xs[xs.length-1]?=some y/\Q y (upd H l (.lst xs.dropLast))
def yi:MtM X "list.pop" Cd:=by
 intro pins s σ H x vs v us Q I rx rv h
 obtain⟨l,xs,y,rfl,rfl,hH,hy,q⟩:=h
 cases rx
 have hus:=rv.zero
 subst hus
 obtain⟨z,its,n,r,hl,e⟩:=I.lstM hH
 obtain⟨u,hu,ru⟩:=r.get hy
 have hy':its.toArray[its.toArray.size-1]?=some u:=by
  show its.toArray[its.length-1]?=some u
  rw[<- Array.getElem?_toList,<- hl]
  exact hu
 refine call_meets F.slot_list_pop ⟨_,e,rfl⟩ F.entry_list_pop (F.args_list_pop_1 _) (MeetsSeq.list_pop_last l its.toArray n u hy' (by rw[Om];omega)) ⟨e,?_⟩
 refine⟨y,_,I.lset (its':=its.dropLast) hH e ?_ r.dropLast ?_,ru,q⟩
 ·show its.toArray.eraseIdxIfInBounds (its.toArray.size-1)=its.dropLast.toArray
  rw[Om,List.eraseIdxIfInBounds_toArray,wI]
 ·rw[List.length_dropLast]
  omega
def pO:R2:=λx y H Q=>∃l b xs zs,x=.ref l/\y=.ref b/\H l=some (.lst xs)/\H b=some (.lst zs)/\xs.length+zs.length<=sizeLine/\∀p,H p=none->Q (.ref p) (upd H p (.lst (xs++zs)))
def IP:OpR X (binaryOp .Add) pO:=by
 intro pins s σ H x y v u Q I rx ry h
 obtain⟨l,b,xs,zs,rfl,rfl,hH,hB,hz,q⟩:=h
 cases rx
 cases ry
 obtain⟨z,its,n,r,hl,e⟩:=I.lstM hH
 obtain⟨z2,its2,n2,r2,hl2,e2⟩:=I.lstM hB
 refine PySem.P.add_list e e2 ?_ (by rw[Om,Om];omega)
 have ea:its.toArray++its2.toArray=(its++its2).toArray:=by simp
 rw[ea]
 exact⟨.ref _,_,I.lnew (t':=s.toks) (r.append r2) (by rw[Oh];omega),rfl,q _ I.fresh⟩
end
section
variable{prog:Program}{w:World}{A:Around}{E:Value->Shared->Prop}{s:Shared}
set_option maxRecDepth 100000 in
end
section
variable{X:Cx}
end
end L2
namespace Att
open PySem PySem.W PySem.Calls PyProof.Rows
def oz:∀(ns:List Int) (vs:List Value),WellAll P h vs (ns.map WData.int)->IntsAre vs ns:=by
 intro ns
 induction ns with
 |
  nil=>
  intro vs w
  rw[OL] at w
  cases w
  exact .nil
 |
  cons n ns ih=>
  intro vs w
  rw[Oi] at w
  cases w with
  |
   cons a b=>
   cases a
   exact .cons _ _ (ih _ b)
def yb{l:OpenLaw}{n:Nat}(hn:l.most=some n){P:Params}{h:Heap}{args:List WData}{vals:List Value}
 (hpre:l.row.toRowW.claim.pre args=true) (hwl:WellAll P h vals args):
 ∃a vs ns,vals=[Value.ref a]/\args=[WData.list (ns.map WData.int)]/\h.get? a=some { cls:=.type "list",data:=.seq vs.toArray }/\IntsAre vs ns/\ns.length<=n:=by
 have hsh:WShape.hasAll [] args [.list .int]=true:=(pre_splitW hpre).1
 have hc:l.pre.holds [] { args:=args }=true:=(pre_splitW hpre).2
 obtain⟨d,r,rfl,h1,h2⟩:=hasAllW_cons hsh
 obtain rfl:=hasAllW_nil h2
 obtain⟨xs,rfl,h3⟩:=hasW_list h1
 obtain⟨ns,rfl⟩:=items_int h3
 have bi:ns.length<=n:=by
  unfold OpenLaw.pre at hc
  have h4:(WTm.not (.lt (.lit (.int (n:Int))) (.len (.arg 0)))).holds [] { args:=[.list (ns.map .int)] }=true:=by
   have h4:=(holds_andW hc).1
   rw[hn] at h4
   exact h4
  have h5:=condW_of h4 (w_not (w_lt w_lit (w_len_list (w_arg rfl))))
  rw[N_] at h5
  refine Nat.le_of_not_lt λq=>?_
  have q':(n:Int)<((ns.length:Nat):Int):=by omega
  first
   |(rw[OI q'] at h5;exact absurd h5 (by decide))
   |(simp at h5;omega)
 cases hwl with
 |
  cons w1 w2=>
  cases w2
  cases w1 with
  |list ho hall=>exact⟨_,_,ns,rfl,rfl,ho,oz ns _ hall,bi⟩
def xY(l:OpenLaw)(args:List WData):l.row.toRowW.claim.post args (.bool true) args=true:=
 postW_of (r:=l.row.toRowW) (X:=(true==true))
  (show WShape.has [] (.bool true) .bool=true by first |rfl |decide |simp [WShape.has,WShape.arms,WShape.armsAll])
  (show (WTm.eq .res (.lit (.bool true))).value [] { args:=args,res:=some (.bool true),after:=args }=some (.bool (true==true)) from w_eq_bool (w_res rfl) w_lit) rfl
def attach_call{l:OpenLaw}{n:Nat}{q:Program}{loose:List Str}{XP:(Str->Option Value)->Heap->Prop}{YP:World->Heap->Prop}{d:DefRec}
 (hn:l.most=some n) (hdf:d.params.defaults=[])
 (call:∀(w:World) (s₀ s₁:Shared) (mg mb:Str->Option Value) (fa:Addr) (o:Obj) (pm cd doc:Value) (a:Addr) (vs:List Value) (ns:List Int),
  Ground q loose [] XP w s₀ mg mb s₁.heap->YP w s₁.heap->
  s₁.heap.get? fa=some o->o.data=.func (docDef d.name d.params d.body d.scope pm cd doc)->s₁.heap.CodeRec cd d.name->mg d.name=some (.ref fa)->
  s₁.heap.get? a=some { cls:=.type "list",data:=.seq vs.toArray }->IntsAre vs ns->ns.length<=n->s₁.gens=#[]->
  codeAny (model l.prog w) callerA (.call (.ref fa) ⟨[.ref a],[]⟩) (λr s'=>r=.ok (.ret (.bool true))/\OldK s₁.heap s'.heap/\s'.os=s₁.os/\AllBare s'.gens) s₁):
 WalkO q loose XP YP l.row.toRowW d [] (λf vs=>PySem.call f vs):=by
 intro w s₀ s₁ mg mb G Y fa o pm cd doc dV kV ho hd hcd hD hmg hg args vals as hpre hlay hrd hwl hlo
 obtain rfl:dV=.none:=Dflts.none hD hdf
 obtain rfl:kV=.none:=Dflts.noKw hD
 obtain⟨a,vs,ns,rfl,rfl,hobj,hints,bi⟩:=yb hn hpre hwl
 refine enter_call (codeAny_mono (call w s₀ s₁ mg mb fa o pm cd doc a vs ns G Y ho (fd_plain hd) hcd hmg hobj hints bi hg) λr s' hq=>?_)
 obtain⟨rfl,h2,h3,h4⟩:=hq
 exact⟨.inl ⟨.bool true,.bool true,[],rfl,λ_=>rfl,.bool true,xY l _,λ_=>⟨List.Pairwise.nil,λ_ hm=>(nomatch hm)⟩⟩,h2,h3,h4⟩
section
variable{prog:Program}{w:World}{A:Around}{E:Value->Shared->Prop}{s:Shared}{K:Frag}
def ledger(h:Heap)(L d:Addr):List (Addr×Obj):=(List.range h.objs.size).filterMap λa=>if a=L\/a=d then none else (h.get? a).map λo=>(a,o)
end
end Att
namespace L2
open PySem PySem.Spec PyProof.Rows
theorem qA:∀{vs:List Value}{ns:List Int},IntsAre vs ns->Vals (ns.map V.int) vs
 |_,_,.nil=>.nil
 |_,_,.cons n t h=>.cons ⟨t,rfl⟩ (qA h)
def pK(H:Hp):Prop:=∀b,H b=none\/∃o xs,H b=some (.frz o (.lst xs))
def BZ{P:Program}{w:World}{K:W.Frag}{mg mb:Str->Option Value}{CX:CXT}{k:Nat}{fa a:Addr}{fd:FuncData}{x:Str}{sp:Sp}{s₁:Shared}{vs:List Value}{ns:List Int}
 (KX:K.In s₁.heap) (hns:s₁.heap.Ns mainGlobals mg) (hb:s₁.heap.Ns builtinsNs mb) (hbb:∀x:Str,x ≠ "__name__"->mb x=bootBuiltins x) (hlim:s₁.heap.NoLimit) (hg:s₁.gens=#[])
 (ha:s₁.heap.get? a=some { cls:=.type "list",data:=.seq vs.toArray }) (hi:IntsAre vs ns) (hl:ns.length<=sizeLine) (hr:Room k callerA)
 (F:∀base:Heap,K.In base->base.Ns mainGlobals mg->FnOk P w K mg base CX k fa fd [x] sp) (hbind:∀(s:Shared) (u:Value),BindsTo s fd ⟨[u],[]⟩ [(x,u)])
 (hsp:∀H:Hp,pK H->SqL K H a (ns.map V.int)->sp [.ref a] H (λv _=>v=.bl true) λ_ _ _=>False)
 (hCX:∀H e s',CX [] H s₁ (λ_ _ _=>False) e s'->False):
 codeAny (model P w) callerA (.call (.ref fa) ⟨[.ref a],[]⟩) (λr s'=>r=.ok (.ret (.bool true))/\OldK s₁.heap s'.heap/\s'.os=s₁.os/\AllBare s'.gens) s₁:=by
 have rv:=qA hi
 have lenV:=hi.length
 have core
  : ∀H:Hp,pK H->SqL K H a (ns.map V.int)->HOk P w H s₁.heap->(∀b,H b≠none->b=a)->(H a≠none->K.lookup a=none)->
  codeAny (model P w) callerA (.call (.ref fa) ⟨[.ref a],[]⟩) (λr s'=>r=.ok (.ret (.bool true))/\OldK s₁.heap s'.heap/\s'.os=s₁.os/\AllBare s'.gens) s₁:=by
  intro H hO hS hok hA hK
  have base_of:∀{b:Addr}{o:Obj},s₁.heap.get? b=some o->H b=none->(kR s₁.heap H).get? b=some o:=λe n=>Bg e n
  have noA:∀{b:Addr}{o:Obj}{es:Array DictEntry}{ep:Nat},s₁.heap.get? b=some o->o.data=.dict es ep->H b=none:=λ{b o es ep} e d=>by
   cases q:H b with
   |none=>rfl
   |
    some u=>
    have e':b=a:=hA b (by rw[q];simp)
    subst e'
    rw[ha] at e;cases e
    have d':Data.seq vs.toArray _=Data.dict es ep:=d
    cases d'
  have nsK:∀{b:Addr}{m:Str->Option Value},s₁.heap.Ns b m->(kR s₁.heap H).Ns b m:=λ{b m} ⟨o,es,ep,e,d,r⟩=>⟨o,es,ep,base_of e (noA e d),d,r⟩
  have hKb:K.In (kR s₁.heap H):=λb o e=>base_of (KX b o e) (by
   cases q:H b with
   |none=>rfl
   |
    some u=>
    have e':b=a:=hA b (by rw[q];simp)
    subst e'
    rw[hK (by rw[q];simp)] at e;cases e)
  have hM:Mod K mg (kR s₁.heap H):=⟨hKb,nsK hns,⟨mb,nsK hb,hbb⟩,let ⟨mc,h1,h2⟩:=hlim;⟨mc,nsK h1,h2⟩⟩
  have e0:Env0 P w K mg (kR s₁.heap H) callerA [] s₁ H:=⟨rfl,hM,λb o e=>Fd e,Nat.le_of_eq (zb _ _),trivial,λb hb=>absurd (show b∈([]:List Addr) from hb) (by simp),hok,.of_eq hg⟩
  refine codeAny_mono ((F _ hKb (nsK hns)).run callerA [] s₁ H ⟨[.ref a],[]⟩ [.ref a] [.ref a] _ _ hr e0 (hbind s₁ (.ref a)) (.cons rfl .nil) (hsp H hO hS)) λr s' h=>?_
  cases r with
  |error e=>exact (hCX H e s' h).elim
  |
   ok fl=>
   cases fl with
   |next=>exact False.elim h
   |brk=>exact False.elim h
   |cont=>exact False.elim h
   |
    ret u=>
    obtain⟨v,H',os,bare,un,hok',r',q⟩:=h
    have q':v=.bl true:=q
    subst q'
    obtain rfl:u=Value.bool true:=r'
    refine⟨rfl,OldK.of_keep λb o e=>?_,os,bare⟩
    cases q:H b with
    |none=>exact un.keep b o e q (by intro z;exact absurd (show b∈([]:List Addr) from z) (by simp)) (by simp)
    |
     some u=>
     rcases hO b with z |⟨ob,xs,z⟩
     ·rw[q] at z;cases z
     ·have z2:=un.frzs b ob _ z
      obtain⟨e1,_⟩:=hok b _ z
      obtain⟨e2,_⟩:=hok' b _ z2
      rw[e] at e1;cases e1
      exact e2
 cases hk:K.lookup a with
 |
  some o=>
  have e:=KX a o hk
  rw[ha] at e
  cases e
  refine core (λ_=>none) (λ_=>.inl rfl) (.inr ⟨_,vs.toArray,_,hk,rfl,rfl,rfl,by rw[Om,lenV];exact hl,by simpa using rv⟩) (λb u z=>by have z':(none:Option HO)=some u:=z;cases z') (λb z=>absurd rfl z) λz=>absurd rfl z
 |
  none=>
  refine core (λb=>if b=a then some (.frz { cls:=.type "list",data:=.seq vs.toArray } (.lst (ns.map V.int))) else none) (λb=>?_) (.inl (.inr ⟨{ cls:=.type "list",data:=.seq vs.toArray },if_pos rfl⟩)) (λb u z=>?_) (λb z=>?_) λ_=>hk
  ·by_cases hb:b=a
   ·exact .inr ⟨_,_,if_pos hb⟩
   ·exact .inl (if_neg hb)
  ·by_cases hb:b=a
   ·have z':=(if_pos hb).symm.trans z
    cases z'
    subst hb
    exact⟨ha,by rw[N_];exact hl,vs,_,rv,ha⟩
   ·have z':=(if_neg hb).symm.trans z
    cases z'
  ·by_cases hb:b=a
   ·exact hb
   ·exact absurd (if_neg hb) z
end L2
namespace L2
open PySem PySem.Spec PyProof.Rows
abbrev KOf{K:W.Frag}{h:Heap}(_:K.In h):W.Frag:=K
def walk_of{l:W.OpenLaw}{n k:Nat}{q:Program}{loose:List Str}{XP:(Str->Option Value)->Heap->Prop}{YP:World->Heap->Prop}{d:DefRec}{K:Params->W.Frag}{CX:World->CXT}{sp:World->Sp}{x:Str}
 (hn:l.most=some n) (hn2:n<=sizeLine) (hdf:d.params.defaults=[]) (hr:Room k callerA)
 (hY:∀(w:World) (h:Heap),YP w h->(K w.params).In h)
 (F:∀(w:World) (mg:Str->Option Value) (fa:Addr) (h:Heap),(K w.params).In h->h.Ns mainGlobals mg->mg d.name=some (.ref fa)->
  ∃
   fd:FuncData,(∀(s:Shared) (u:Value),BindsTo s fd ⟨[u],[]⟩ [(x,u)])/\
   ∀base:Heap,(K w.params).In base->base.Ns mainGlobals mg->FnOk l.prog w (K w.params) mg base (CX w) k fa fd [x] (sp w))
 (hsp:∀(w:World) (H:Hp) (a:Addr) (ns:List Int),ns.length<=n->pK H->SqL (K w.params) H a (ns.map V.int)->sp w [.ref a] H (λv _=>v=.bl true) λ_ _ _=>False)
 (hCX:∀(w:World) (H:Hp) (s:Shared) (e:Value) (s':Shared),CX w [] H s (λ_ _ _=>False) e s'->False):
 W.WalkO q loose XP YP l.row.toRowW d [] (λf vs=>PySem.call f vs):=by
 refine Att.attach_call hn hdf λw s₀ s₁ mg mb fa o pm cd doc a vs ns G Y ho hd hcd hmg hobj hints bi hg=>?_
 have KX:=hY w _ Y
 obtain⟨fd,hb,hF⟩:=F w mg fa _ KX G.T.g hmg
 exact BZ KX G.T.g G.T.b G.T.builtins G.T.nolimit hg hobj hints (Ow bi hn2) hr hF hb (λH hO hS=>hsp w H a ns bi hO hS) λH e s'=>hCX w H s₁ e s'
end L2
namespace L2
open PySem PySem.Spec PyProof.Rows
def dU(s:Stmt):Arguments:=match s with
 |.FunctionDef _ a _ _ _ _ _ _ _ _=>a
 |_=>{ posonlyargs:=[],args:=[],vararg:=none,kwonlyargs:=[],kw_defaults:=[],kwarg:=none,defaults:=[] }
def bT(s:Stmt):List Stmt:=match s with
 |.FunctionDef _ _ b _ _ _ _ _ _ _=>b
 |_=>[]
def ay(s:Stmt):Scope:=match s with
 |.FunctionDef _ _ _ _ _ _ sc _ _ _=>sc
 |_=>{ kind:=.function,names:=[],isGenerator:=false,isCoroutine:=false }
abbrev E0:XK:=λ_ _ _=>False
structure Fun(K:W.Frag)(x qual:Str)(st:Stmt)(f:Addr)(fd:FuncData):Prop where
 ex:∃(oc:Value) (od:Option Addr) (kV doc pm:Value) (an:Option Addr) (cdv ct:Value) (osl:Array (Option Value)),
  fd=W.fnOf x qual (dU st) (bT st) (ay st) .none kV doc pm an cdv ct/\K.lookup f=some ⟨oc,od,.func fd,osl⟩/\W.codeIn K cdv qual=true
 kp:W.keepIn K (.ref f)=true
section
variable{P:Program}{w:World}{K:W.Frag}{mg:Str->Option Value}{base:Heap}
def Fun.binds{x qual:Str}{st:Stmt}{f:Addr}{fd:FuncData}{ps:List Str}(F:Fun K x qual st f fd)
 (h:∀(kV doc pm:Value) (an:Option Addr) (cdv ct:Value) (us:List Value),us.length=ps.length->bindArgs (W.fnOf x qual (dU st) (bT st) (ay st) .none kV doc pm an cdv ct) ⟨us,[]⟩=pure (ps.zip us)):Binds K fd ps []:=by
 obtain⟨oc,od,kV,doc,pm,an,cdv,ct,osl,rfl,lk,hcd⟩:=F.ex
 exact .all (h kV doc pm an cdv ct)
def Gk{x qual:Str}{st:Stmt}{f:Addr}{oc:Value}{od an:Option Addr}{osl:Array (Option Value)}{kV doc pm cdv ct:Value}(l:K.lookup f=some ⟨oc,od,.func (W.fnOf x qual (dU st) (bT st) (ay st) .none kV doc pm an cdv ct),osl⟩)
 (c:W.codeIn K cdv qual=true) (k:W.keepIn K (.ref f)=true):Fun K x qual st f (W.fnOf x qual (dU st) (bT st) (ay st) .none kV doc pm an cdv ct):=⟨⟨oc,od,kV,doc,pm,an,cdv,ct,osl,rfl,l,c⟩,k⟩
end
def CI(hr:Room k A):A.units+1<cLine:=P2 (Nat.add_le_add_left (by decide:1<=64) _) hr.units
section
variable{X:Cx}
def pv(i:Nat)(hN:X.N[i]?=some x:=by rfl)(hv:Vis X.env.scope x:=by first |exact Or.inl rfl |exact Or.inr (Or.inl rfl) |exact Or.inr (Or.inr rfl))(hd:(x==("__debug__" : Str))=false:=by decide)
 (hcd:(x==("__classdict__" : Str))=false:=by decide):PE X (.Name x pos) (tVar i):=zB hN hv hd hcd
end
end L2
namespace L2
open PySem PySem.Spec PyProof.Rows
section
variable{X:Cx}{pins:List (Addr×Obj)}{σ:St}{H:Hp}{s:Shared}
def Inv.track{a:Addr}{o:HO}(I:Inv X pins σ H s)(hn:H a=none)(h0:X.s₀.heap.get? a=none)(hL:a≠X.env.locals)(hc:∀x c,X.env.cells.lookup x=some c->c≠a)
 (hp:∀p∈X.pn++pins,p.1≠a) (new:ObjOk X.prog X.w (upd H a o) s.heap a o):Inv X pins σ (upd H a o) s:=by
 have ne:∀b u,H b=some u->b≠a:=λb u e z=>by rw[z,hn] at e;cases e
 have ne0:∀b u,X.s₀.heap.get? b=some u->b≠a:=λb u e z=>by rw[z,h0] at e;cases e
 refine⟨I.ok,I.os,I.bare,⟨I.base.keep,I.base.slot,λb u e n hx=>?_,I.base.there,λb xs e=>?_,λb u xs e=>?_,λb ps e=>?_⟩,I.loc,I.cell,?_,λx c e=>?_,λp hp'=>?_,λb u e=>?_,I.len⟩
 ·rw[aQ (ne0 b u e)];exact I.base.free b u e n hx
 ·have q:=I.base.tups b xs e
  rw[aQ (ne _ _ q)];exact q
 ·have q:=I.base.frzs b u xs e
  rw[aQ (ne _ _ q)];exact q
 ·obtain⟨m,q⟩:=I.base.tbls b ps e
  exact⟨m,by rw[aQ (ne _ _ q)];exact q⟩
 ·rw[aQ (Ne.symm hL)];exact I.free
 ·rw[aQ (hc x c e)];exact I.freeC x c e
 ·obtain⟨e,n,r⟩:=I.pin p hp'
  exact⟨e,by rw[aQ (hp p hp')];exact n,r⟩
 ·by_cases hb:b=a
  ·subst hb;rw[b0] at e;cases e;exact new
  ·rw[aQ hb] at e
   exact (I.hok b u e).stay (λc v _ q=>q) (λc q=>by rw[aQ (ne _ _ q)];exact q) λc xs q=>by rw[aQ (ne _ _ q)];exact q
end
theorem kY{env:Env}:∀{names:List (Str×NameKind)} (cs:List (Str×Addr)),(∀x∈names,x.2=.free->∃c,env.cells.lookup x.1=some c)->(∀x c,cs.lookup x=some c->env.cells.lookup x=some c)->
 ∃
  cl,(forIn names cs λ(x:Str×NameKind) (r:List (Str×Addr))=>if (x.2==NameKind.free)=true then do let a <- cellOf env x.1;pure (ForInStep.yield ((x.1,a)::r)) else pure (ForInStep.yield r):Sem (List (Str×Addr)))=pure cl/\
  (∀x c,cl.lookup x=some c->env.cells.lookup x=some c)/\(∀x c,cs.lookup x=some c->∃c',cl.lookup x=some c')/\∀x∈names,x.2=.free->∃c,cl.lookup x.1=some c
 | [],cs,_,h=>⟨cs,by simp,h,λx c e=>⟨c,e⟩,λ_ hx=>nomatch hx⟩
 |
  (n,k)::r,cs,hf,h=>by
  rw[List.forIn_cons]
  by_cases hk:k=.free
  ·subst hk
   obtain⟨c,hc⟩:=hf (n,.free) Of rfl
   have hcell:cellOf env n=pure c:=by unfold cellOf;rw[hc]
   have h':∀x d,((n,c)::cs).lookup x=some d->env.cells.lookup x=some d:=λx d e=>by
    rw[PN] at e
    cases q:x==n with
    |true=>rw[q] at e;cases e;rw[Qt.mp q];exact hc
    |false=>rw[q] at e;exact h x d e
   obtain⟨cl,e1,e2,e3,e4⟩:=kY (env:=env) (names:=r) ((n,c)::cs) (λx hx=>hf x (Od _ hx)) h'
   have top:∃c',cl.lookup n=some c':=e3 n c (by rw[PN];simp)
   refine⟨cl,?_,e2,λx d e=>?_,λx hx hfr=>?_⟩
   ·simp only[PU,Pl,hcell]
    exact e1
   ·by_cases q:x=n
    ·rw[q];exact top
    ·exact e3 x d (by rw[PN,(OB.mpr q:(x==n)=false)];exact e)
   ·rcases Oy.mp hx with rfl |hx
    ·exact top
    ·exact e4 x hx hfr
  ·have hb:(k==NameKind.free)=false:=by simpa using hk
   obtain⟨cl,e1,e2,e3,e4⟩:=kY (env:=env) (names:=r) cs (λx hx=>hf x (Od _ hx)) h
   refine⟨cl,?_,e2,e3,λx hx hfr=>?_⟩
   ·simp only[hb,PC,Qq]
    exact e1
   ·rcases Oy.mp hx with rfl |hx
    ·exact absurd hfr hk
    ·exact e4 x hx hfr
def qI{env:Env}{scope:Scope}(hf:∀x∈scope.names,x.2=.free->∃c,env.cells.lookup x.1=some c):
 ∃cl,closureFor scope env=pure cl/\(∀x c,cl.lookup x=some c->env.cells.lookup x=some c)/\∀x∈scope.names,x.2=.free->∃c,cl.lookup x.1=some c:=by
 obtain⟨cl,e1,e2,_,e4⟩:=kY (env:=env) (names:=scope.names) [] hf (λx c e=>by simp at e)
 refine⟨cl,?_,e2,e4⟩
 unfold closureFor
 simp only[e1]
 rfl
def bA(X:Cx)(N:List Str)(scope:Scope)(cl:List (Str×Addr))(C:Addr)(s₂:Shared)(H:Hp)(fp:List Addr):Cx:=
 { X with N:=N,s₀:=s₂,H₀:=H,env:=compEnvC scope cl C X.env,outer:=X.stack,stack:=X.stack,ex:=fp,fn:=λ_=>false,pn:=[],xe:=λ_ _=>False }
def g6(sub:List (Option Nat))(σ:St):St:=sub.map λo=>o.bind λi=>(σ[i]?).bind id
def LcW(J:It)(sub:List (Option Nat))(g:TG)(tc:TT)(te:TE)(σ:St)(H1:Hp)(Q:VK):Prop:=∃W:Nat->Nat->List V->St->Hp->Prop,(∃m,W 0 m [] (g6 sub σ) H1)/\∀i m ys σ H,W i m ys σ H->
 (J.stop i H/\ys.length<=sizeLine/\∀D,H D=none->Q (.ref D) (upd H D (.lst ys)))\/
 (J.go i H/\ys.length<sizeLine/\∃Nx:List V->St->Hp->Prop,(∀ys' σ' H',Nx ys' σ' H'->∃m',m'<m/\W (i+1) m' ys' σ' H')/\
  ∀x H',J.yld i H x H'->g x σ H' λσ2 H2=>tc σ2 H2 λb H3=>if b=true then te σ2 H3 λy H4=>Nx (ys++[y]) σ2 H4 else Nx ys σ2 H3)
def kI(wi:TI)(sub:List (Option Nat))(g:TG)(tc:TT)(te:TE):TE:=λσ H Q=>wi σ H λJ H1=>LcW J sub g tc te σ H1 Q
abbrev Bm:TT:=λ_ H Q=>Q true H
section
variable{prog:Program}{w:World}{A:Around}{R:Result->Shared->Prop}{s:Shared}
def rN{j' target am:Expr}{ifs:List Expr}{scope:Scope}{pos:Pos}{it acc:Value}{env:Env}(I:Nat->Shared->Prop)
 (turn
  : ∀n s,I n s->wpAny (model prog w) A (pyNext it) (λr s₁=>match r with
  |none=>R (.ok .next) s₁
  |some v=>wpAny (model prog w) A (letOwnedTupleGo target it v) (λ_ s₁'=>wpAny (model prog w) A (assign target env v) (λ_ s₂=>
   wpAny (model prog w) A (forIn ifs true λc r=>if r=true then do let ok <- isTrue c env (eval c env);pure (ForInStep.yield ok) else pure (ForInStep.yield r))
    (λok s₃=>if ok=true then wpAny (model prog w) A (eval j' env) (λx s₄=>wpAny (model prog w) A (call (.builtin "list.append") [acc,x]) (λ_ s₅=>∃m,m<n/\I m s₅) (λ_ _=>False) s₄) (λ_ _=>False) s₃
     else ∃m,m<n/\I m s₃) (λ_ _=>False) s₂) (λ_ _=>False) s₁') (λ_ _=>False) s₁) (λ_ _=>False) s)
 (n:Nat) (h:I n s):
 codeAny (model prog w) A (.compLoop (.ListComp j' [⟨target,am,ifs,0⟩] scope pos) 0 it acc env) R s:=by
 refine codeAny_loop rfl I (λn s hI=>?_) n h
 show wpAny _ _ ((compTurn (.ListComp j' [⟨target,am,ifs,0⟩] scope pos) 0 it acc env).onRaise (λx=>do noteFrame x env;theTreesLotGoes x)) _ _ s
 refine wpAny_noted ?_
 rw[compTurn_list]
 refine OX (E:=λ_ _=>False) ?_ (λ_ _ q=>q) λ_ _ q=>q.elim
 refine Oa (QZ (Oa (OX (turn n s hI) (λr s₁ h₁=>?_) λ_ _ h'=>h')))
 cases r with
 |none=>exact Ou h₁
 |
  some v=>
  refine Oa (OX h₁ (λ_ s₁' h₁'=>?_) λ_ _ h'=>h')
  refine Oa (OX h₁' (λ_ s₂ h₂=>?_) λ_ _ h'=>h')
  refine Oa (OX h₂ (λok s₃ h₃=>?_) λ_ _ h'=>h')
  cases ok with
  |
   true=>
   simp only[Pl] at h₃ ⊢
   refine Oa (Oa (OX h₃ (λx s₄ h₄=>?_) λ_ _ h'=>h'))
   refine Oa (OX h₄ (λ_ s₅ h₅=>?_) λ_ _ h'=>h')
   exact Ou (Ou ⟨rfl,h₅⟩)
  |
   false=>
   simp only[PC,Qq] at h₃ ⊢
   first
    |exact Oa (Ou (Ou ⟨rfl,h₃⟩))
    |exact Ou ⟨rfl,h₃⟩
end
section
variable{X:Cx}
def PTs(X:Cx)(ifs:List Expr)(t:TT):Prop:=
 ∀
  (pins:List (Addr×Obj)) (s:Shared) (σ:St) (H:Hp) (Q:Bool->Hp->Prop),Inv X pins σ H s->t σ H Q->
  wpAny (model X.prog X.w) X.A (forIn ifs true λc r=>if r=true then do let ok <- isTrue c X.env (eval c X.env);pure (ForInStep.yield ok) else pure (ForInStep.yield r)) (TP X pins σ Q) X.xe s
def uW:PTs X [] (λ_ H Q=>Q true H):=λpins s σ H Q I h=>by
 rw[List.forIn_nil]
 exact Ou ⟨H,I,h⟩
structure LcEnd(X:Cx)(pins:List (Addr×Obj))(σ:St)(Q:VK)(D C:Addr)(s4:Shared):Prop where
 ns:∃m,s4.heap.Ns C m
 dc:D<C
 fr:X.env.locals<D
 cell:∀x c,X.env.cells.lookup x=some c->c<D
 pin:∀p∈X.pn++pins,p.1<D
 sz:X.s₀.heap.objs.size<=D
 inv:∃H',H' C=none/\Q (.ref D) H'/\∀h',Heap.SameBut C s4.heap h'->Inv X pins σ H' { s4 with heap:=h' }
def vE{j' am tg:Expr}{ifs:List Expr}{scope:Scope}{pos:Pos}{wi:TI}{g:TG}{tc:TT}{te:TE}{N:List Str}{sub:List (Option Nat)}{use:Option (Value->Sem Unit)}{R:Value->Shared->Prop}{pins:List (Addr×Obj)}{s:Shared}{σ:St}{H:Hp}{Q:VK}{fpos:Pos}
 (hc:X.calm=true) (hi:PI X tg am wi)
 (hk:scope.kind=.function) (hnc:∀x∈scope.names,x.2 ≠ .cell) (bn:∀x∈scope.names,x.2=.local->scope.names.lookup x.1=some .local)
 (hfr:∀x∈scope.names,x.2=.free->X.env.kindOf x.1=some .cell\/X.env.kindOf x.1=some .free)
 (hsl:sub.length=N.length) (im:∀(j i:Nat) (x:Str),sub[j]?=some (some i)->N[j]?=some x->X.N[i]?=some x/\scope.names.lookup x=some .free)
 (hg:∀cl C s₂ H fp,PG (bA X N scope cl C s₂ H fp) tg g) (ht:∀cl C s₂ H fp,PTs (bA X N scope cl C s₂ H fp) ifs tc) (he:∀cl C s₂ H fp,PE (bA X N scope cl C s₂ H fp) j' te)
 (hs:∀x,foldedSetIterable am X.env x=pure x) (I:Inv X pins σ H s) (h:kI wi sub g tc te σ H Q)
 (ii:∀D C s4,LcEnd X pins σ Q D C s4->compPost (model X.prog X.w) X.A X.xe use R (.ref D) C (.ok .next) s4):
 wpAny (model X.prog X.w) X.A (comprehension (.ListComp j' [⟨tg,am,ifs,0⟩] scope pos) scope X.env fpos (newList []) false (eval am X.env) use) R X.xe s:=by
 obtain⟨cl,hclos,hcl,hclf⟩:=qI (env:=X.env) (scope:=scope) λx hx hf=>I.ok.has x.1 (hfr x hx hf)
 refine wpAny_comprehension_free rfl hs hclos hk bn ?_
 show wpAny _ _ (eval am X.env) _ _ _
 refine thn (hi pins s σ H _ I h) λv s1 h1=>thn h1 λitv s2 h2=>?_
 obtain⟨it,fp,tn,J,H2,e,I2,T,st2,f2,W,⟨m0,w0⟩,turn⟩:=h2
 subst e
 refine Pg (wpAny_newFunctionEnv hnc (by intro y hy;simp at hy) (λh₁ hns₁ hsb₁=>?_) hk)
 dsimp only at hns₁ hsb₁ ⊢
 generalize hH2:s2.heap.push { cls:=.type "list",dict:=none,data:=.seq ([]:List Value).toArray }=G2 at hns₁ hsb₁ ⊢
 have hC:G2.objs.size=s2.heap.objs.size+1:=by rw[<- hH2,Qs]
 have hDC:s2.heap.objs.size≠G2.objs.size:=by omega
 have below:∀b,b<s2.heap.objs.size->b≠G2.objs.size/\b≠s2.heap.objs.size:=λb hb=>⟨by omega,by omega⟩
 have old:∀b o,s2.heap.get? b=some o->h₁.get? b=some o:=λb o e=>hsb₁.extBut b o (below b (Ot e)).1 (Oo _ (hH2 ▸ Oo _ e))
 have hD₁:h₁.get? s2.heap.objs.size=some { cls:=.type "list",dict:=none,data:=.seq ([]:List Value).toArray }:=hsb₁.extBut _ _ hDC (Oo _ (hH2 ▸ OD _ rfl))
 have fresh:∀a,s2.heap.objs.size<=a->s2.heap.get? a=none:=λa ha=>QH ha
 have cellOld:∀x c,cl.lookup x=some c->c<s2.heap.objs.size:=λx c e=>by
  obtain⟨v,z⟩:=I2.cell x c (hcl x c e)
  exact z.lt
 have fpOld:∀b∈fp,b<s2.heap.objs.size:=λb hb=>by
  obtain⟨o,e,_⟩:=T.obj _ _ st2 b hb
  exact Ot e
 let Y:Cx:=bA X N scope cl G2.objs.size s2 H2 fp
 have okY:Y.Ok
  := by
  refine⟨I2.ok.mod,?_,I2.ok.glob,I2.ok.blt,?_,λx y c e1 e2=>I2.ok.inj x y c (hcl x c e1) (hcl y c e2),λx hx=>?_,λx c hfn _=>absurd hfn Ol,I2.ok.hd,I2.ok.frames,.inl rfl,
   λb hb=>⟨?_,λx c e z=>?_⟩,I2.bs,Ow I2.ok.bsz I2.sz,λb o e hb=>?_,λb hb hf=>?_,I2.stack,I2.stkFree⟩
  ·show (relabel scope X.env).kind=.function
   exact hk
  ·show s2.heap.objs.size<=G2.objs.size
   omega
  ·have hx':(
    relabel scope X.env).names.lookup x=some .cell\/(relabel scope X.env).names.lookup x=some .free:=hx
   have:∃k,
    (x,k)∈scope.names/\k=.free:=by
    have gen:∀(names:List (Str×NameKind)),(∀y∈names,y.2 ≠ .cell)->∀kk,(kk=NameKind.cell\/kk=NameKind.free)->(names.map λ(n,k)=>if (k==NameKind.free&&X.env.scope.kind == .function&&X.env.kindOf n==some .cell) then (n,NameKind.cell) else (n,k)).lookup x=some kk->∃k,(x,k)∈names/\k=.free:=by
     intro names
     induction names with
     |nil=>intro _ kk _ e;simp at e
     |
      cons y r ih=>
      intro hn kk hkk e
      obtain⟨n,k⟩:=y
      rw[Oi,PN] at e
      by_cases hkf:k=.free
      ·subst hkf
       by_cases hxn:x=n
       ·exact⟨.free,by rw[hxn];exact Of,rfl⟩
       ·have hb:(x==(if (NameKind.free==NameKind.free&&X.env.scope.kind == .function&&X.env.kindOf n==some .cell)=true then (n,NameKind.cell) else (n,NameKind.free)).1)=false:=by
         split <;> exact OB.mpr hxn
        rw[hb] at e
        obtain⟨k',m,q⟩:=ih (λz hz=>hn z (Od _ hz)) kk hkk e
        exact⟨k',Od _ m,q⟩
      ·have hb0:(k==NameKind.free&&X.env.scope.kind == .function&&X.env.kindOf n==some .cell)=false:=by
        have:(k==NameKind.free)=false:=by simpa using hkf
        rw[this];rfl
       rw[hb0] at e
       simp only[PC,Qq] at e
       cases q:x==n with
       |
        true=>
        rw[q] at e
        have e':k=kk:=OE e
        subst e'
        rcases hkk with z |z
        ·exact absurd z (hn (n,k) Of)
        ·exact absurd z hkf
       |
        false=>
        rw[q] at e
        obtain⟨k',m,q⟩:=ih (λz hz=>hn z (Od _ hz)) kk hkk e
        exact⟨k',Od _ m,q⟩
    rcases hx' with z |z
    ·exact gen scope.names hnc _ (.inl rfl) z
    ·exact gen scope.names hnc _ (.inr rfl) z
   obtain⟨k,m,q⟩:=this
   exact hclf (x,k) m q
  ·show b≠G2.objs.size
   exact (below b (fpOld b hb)).1
  ·exact (f2 b hb).2.2.2.2.1 x c (hcl x c e) z
  ·rcases (f2 b hb).2.2.2.1 with z |z
   ·exact I2.ok.noex b o e z
   ·exact absurd (Ox (Ot e) (Ow I2.ok.bsz z)) (Pe _)
  ·have hf':b∈frs X.stack:=hf
   rcases Oy.mp (I2.stkSub b hf') with z |z
   ·exact (f2 b hb).2.1 z
   ·exact (f2 b hb).2.2.1 z
 have startLoc
  : ∃m,h₁.Ns G2.objs.size m/\∀(i:Nat) (x:Str) (v:V),N[i]?=some x->(g6 sub σ)[i]?=some (some v)->Vis (relabel scope X.env) x->∃u,RelV v u/\Look Y.env h₁ m x u:=by
  refine⟨_,hns₁,λj x v e1 e2 e3=>?_⟩
  unfold g6 at e2
  rw[OH] at e2
  cases q:sub[j]? with
  |none=>rw[q] at e2;cases e2
  |
   some o=>
   rw[q] at e2
   cases o with
   |none=>cases e2
   |
    some i=>
    obtain⟨hNi,hfree⟩:=im j i x q e1
    have e2':(σ[i]?).bind id=some v:=OE e2
    have e2'':σ[i]?=some (some v):=by
     cases z:σ[i]? with
     |none=>rw[z] at e2';cases e2'
     |some y=>rw[z] at e2';rw[show y=some v from e2']
    obtain⟨m2,hn2,hl2⟩:=I2.loc
    have hkx:=hfr (x,.free) (Pj hfree) rfl
    obtain⟨u,r,l⟩:=hl2 i x v hNi e2'' (by rcases hkx with z |z;exact .inr (.inl z);exact .inr (.inr z))
    refine⟨u,r,.inr ⟨?_,?_⟩⟩
    ·rcases e3
      with z |z |z
     ·exfalso
      have gen:∀(names:List (Str×NameKind)),names.lookup x=some .free->(names.map λ(n,k)=>if (k==NameKind.free&&X.env.scope.kind == .function&&X.env.kindOf n==some .cell) then (n,NameKind.cell) else (n,k)).lookup x=some .local->False:=by
       intro names
       induction names with
       |nil=>intro e _;simp at e
       |
        cons y r ih=>
        intro e1 e2
        obtain⟨n,k⟩:=y
        rw[PN] at e1
        rw[Oi,PN] at e2
        by_cases hxn:x=n
        ·have hb1:(x==n)=true:=Qt.mpr hxn
         rw[hb1] at e1
         have:k=.free:=OE e1
         subst this
         split at e2
         ·rename_i hq
          split at e2 <;> cases e2
         ·rename_i hq
          split at hq <;> (rw[hb1] at hq;cases hq)
        ·have hb1:(x==n)=false:=OB.mpr hxn
         rw[hb1] at e1
         refine ih e1 ?_
         split at e2
         ·rename_i hq
          split at hq <;> (rw[hb1] at hq;cases hq)
         ·exact e2
      exact gen scope.names hfree z
     ·exact .inl z
     ·exact .inr z
    ·obtain⟨c,hc'⟩:=hclf (x,.free) (Pj hfree) rfl
     refine⟨c,hc',?_⟩
     rcases l with ⟨k,_⟩ |⟨_,c2,ec2,z⟩
     ·rcases hkx with z |z <;> (rw[k] at z;cases z)
     ·have:=hcl x c hc'
      rw[ec2] at this
      cases this
      obtain⟨oc,hoc,hd⟩:=z
      exact⟨oc,old _ _ hoc,hd⟩
 have pinD:∀{σ':St}{H':Hp}{s':Shared}{pl:List (Addr×Obj)}{o:Obj},Inv Y pl σ' H' s'->s'.heap.get? s2.heap.objs.size=some o->(∀v,o.data ≠ .cell v)->H' s2.heap.objs.size=none->Inv Y [(s2.heap.objs.size,o)] σ' H' s':=λ{σ' H' s' pl o} IY e d n=>
  IY.pins_of λp hp=>by
   have e':p=(s2.heap.objs.size,o):=by simpa using hp
   subst e'
   refine⟨e,n,?_,?_,d⟩
   ·show s2.heap.objs.size≠G2.objs.size
    omega
   ·intro hf
    have hf':s2.heap.objs.size∈frs X.stack:=hf
    obtain⟨_,o',ho',_⟩:=I2.stack.mem hf'
    exact absurd (Ot ho') (Pe _)
 have fpY:∀{H':Hp}{pl:List (Addr×Obj)},(∀b∈fp,H' b=none)->(∀p∈pl,p.1∉fp)->∀b∈fp,FpOk Y pl H' b:=λ{H' pl} hn hp b hb=>by
  refine⟨hn b hb,?_,?_,.inl hb,λx c e=>?_,λp hp'=>?_⟩
  ·exact (okY.exf b hb).1
  ·exact okY.exfs b hb
  ·exact (okY.exf b hb).2 x c e
  ·intro z
   have hp'':p∈pl:=by simpa [Y,bA] using hp'
   exact hp p hp'' (by rw[z];exact hb)
 have hDfp:s2.heap.objs.size∉fp:=λz=>Pe _ (fpOld _ z)
 have loop
  : ∀s₃:Shared,s₃={ s2 with heap:=h₁,toks:=s2.toks+([]:List (Str×Value)).length }->
  codeAny (model X.prog X.w) X.A (.compLoop (.ListComp j' [⟨tg,am,ifs,0⟩] scope pos) 0 (.ref it) (.ref s2.heap.objs.size) (compEnvC scope cl G2.objs.size X.env))
   (compPost (model X.prog X.w) X.A X.xe use R (.ref s2.heap.objs.size) G2.objs.size) s₃:=by
  rintro s₃ rfl
  have IY0:Inv Y [(s2.heap.objs.size,{ cls:=.type "list",dict:=none,data:=.seq ([]:List Value).toArray })] (g6 sub σ) H2 { s2 with heap:=h₁,toks:=s2.toks+([]:List (Str×Value)).length }:=by
   have J0:Inv Y [] (g6 sub σ) H2 { s2 with heap:=h₁,toks:=s2.toks+([]:List (Str×Value)).length }:=by
    refine⟨okY,rfl,I2.bare,Un.kept old,startLoc,λx c e=>?_,I2.hok.fresh (by show s2.heap.objs.size<=G2.objs.size;omega),λx c e=>I2.freeC x c (hcl x c e),λp hp=>absurd (show p∈([]:List (Addr×Obj)) from hp) (by simp),I2.hok.kept old,?_⟩
    ·obtain⟨v,oc,hoc,hd⟩:=I2.cell x c (hcl x c e)
     exact⟨v,oc,old _ _ hoc,hd⟩
    ·show (g6 sub σ).length=N.length
     unfold g6
     rw[N_];exact hsl
   exact pinD J0 hD₁ (λv z=>by cases z) I2.fresh
  refine rN (λn s'=>∃(i:Nat) (ys:List V) (its:List Value) (k:Nat) (σ':St) (H':Hp),Inv Y [(s2.heap.objs.size,{ cls:=.type "list",dict:=none,data:=.seq its.toArray k })] σ' H' s'/\Vals ys its/\tn i s'.heap/\(∀b∈fp,H' b=none)/\W i n ys σ' H') ?_ m0
   ⟨0,[],[],0,g6 sub σ,H2,IY0,.nil,T.keep _ _ _ st2 (λb hb o e=>old b o e),λb hb=>(f2 b hb).1,w0⟩
  rintro n s3 ⟨i,ys,its,k,σ3,H3,I3,rv,st3,fr3,w3⟩
  have npl:∀(o:Obj),∀p∈[(s2.heap.objs.size,o)],p.1∉fp:=λo p hp=>by
   have e':p=(s2.heap.objs.size,o):=by simpa using hp
   subst e'
   exact hDfp
  rcases turn i n ys σ3 H3 w3 with ⟨stop,hz,qn⟩ |⟨go,hz,Nx,hNx,step⟩
  ·refine OX (T.done Y rfl rfl rfl hc i _ s3 σ3 H3 (λ_ _=>False) I3 (fpY fr3 (npl _)) st3 stop) (λr s4 ⟨hr,I4⟩=>?_) λ_ _ z=>z
   subst hr
   obtain⟨m4,hn4,_⟩:=I4.loc
   have hCfree:H3 G2.objs.size=none:=I4.free
   have hD4:=I4.pin (s2.heap.objs.size,{ cls:=.type "list",dict:=none,data:=.seq its.toArray k }) (OK _ Of)
   have un4:Un (frs X.stack) fp H2 H3 s2.heap s4.heap:=I4.base
   have ne2:∀b o,s2.heap.get? b=some o->b≠G2.objs.size:=λb o e=>(below b (Ot e)).1
   have hDfree:H3 s2.heap.objs.size=none:=hD4.2.1
   have sz0:X.s₀.heap.objs.size<=s2.heap.objs.size:=I2.sz
   refine ii s2.heap.objs.size G2.objs.size s4 ⟨⟨m4,hn4⟩,by rw[hC];exact Nat.lt_succ_self _,I2.lt,λx c e=>?_,λp hp=>Ot (I2.pin p hp).1,sz0,upd H3 s2.heap.objs.size (.lst ys),by rw[aQ (Ne.symm hDC)];exact hCfree,qn _ hDfree,λh' hs'=>?_⟩
   ·obtain⟨v,q⟩:=I2.cell x c e
    exact q.lt
   have up:∀b o,b≠G2.objs.size->s4.heap.get? b=some o->h'.get? b=some o:=λb o hb e=>hs'.extBut b o hb e
   have un5:Un (frs X.stack) fp H2 H3 s2.heap h':=by
    refine⟨λb o e n hb hx=>up b o (ne2 b o e) (un4.keep b o e n hb hx),λb o e n hb hx=>?_,un4.free,λb o e hx=>?_,un4.tups,un4.frzs,un4.tbls⟩
    ·obtain⟨sl,q⟩:=un4.slot b o e n hb hx
     exact⟨sl,up b _ (ne2 b o e) q⟩
    ·obtain⟨o',q⟩:=un4.there b o e hx
     exact⟨o',up b _ (ne2 b o e) q⟩
   have hok5:HOk X.prog X.w H3 h':=λb u e=>(I4.hok b u e).stay (λc v hcc q=>up c v (λz=>by
    rcases hcc with zz |zz
    ·rw[zz] at z;rw[z,hCfree] at e;cases e
    ·rw[z,hCfree] at zz;cases zz) q) (λ_ q=>q) λ_ _ q=>q
   have I5:Inv X pins σ H3 { s4 with heap:=h' }:=I2.call' (s':={ s4 with heap:=h' }) (ch:=fp) I4.os un5 hok5 I4.bare λb hb=>by
    obtain⟨_,g1,_,g3,g4,g5⟩:=f2 b hb
    exact⟨g3,g1,g4,g5⟩
   refine I5.track (o:=.lst ys) hDfree (QH sz0) (Qn I2.lt) (λx c e z=>?_) (λp hp z=>?_) ?_
   ·obtain⟨v,q⟩:=I2.cell x c e
    exact absurd q.lt (by rw[z];exact Pe _)
   ·exact absurd (Ot (I2.pin p hp).1) (by rw[z];exact Pe _)
   ·exact⟨hz,its,k,rv,up _ _ hDC hD4.1⟩
  ·refine OX (T.item Y rfl rfl rfl hc i _ s3 σ3 H3 (λ_ _=>False) I3 (fpY fr3 (npl _)) st3 go) (λr s4 ⟨u,hr,h4⟩=>?_) λ_ _ z=>z
   subst hr
   refine OX h4 (λ_ s5 ⟨x,H5,I5,r5,y5,st5,fr5⟩=>?_) λ_ _ z=>z
   have I5':=I5.pinned (fpY fr5 (npl _)) (T.obj _ _ st5)
   refine OX (hg cl G2.objs.size s2 H2 fp _ s5 σ3 H5 x u _ I5' r5 (step x H5 y5)) (λ_ s6 ⟨σ6,H6,I6,q6⟩=>?_) λ_ _ z=>z
   refine OX (ht cl G2.objs.size s2 H2 fp _ s6 σ6 H6 _ I6 q6) (λok s7 ⟨H7,I7,q7⟩=>?_) λ_ _ z=>z
   have back:∀{σ':St}{H':Hp}{s':Shared},Inv Y ([(s2.heap.objs.size,{ cls:=.type "list",dict:=none,data:=.seq its.toArray k })]++lF fp s5.heap) σ' H' s'->tn (i+1) s'.heap/\∀b∈fp,H' b=none:=λ{σ' H' s'} IB=>by
    refine⟨T.keep _ _ _ st5 λb hb o e=>(IB.pin (b,o) (OK _ (OK _ (iN hb e)))).1,λb hb=>?_⟩
    obtain⟨o,e,d⟩:=T.obj _ _ st5 b hb
    exact (IB.pin (b,o) (OK _ (OK _ (iN hb e)))).2.1
   cases ok with
   |
    false=>
    rw[if_neg Ol] at q7
    obtain⟨m',hm,w7⟩:=hNx _ _ _ q7
    rw[if_neg Ol]
    obtain⟨t7,f7⟩:=back I7
    exact⟨m',hm,i+1,ys,its,k,σ6,H7,I7.unpinned,rv,t7,f7,w7⟩
   |
    true=>
    rw[if_pos rfl] at q7
    rw[if_pos rfl]
    refine OX (he cl G2.objs.size s2 H2 fp _ s7 σ6 H7 _ I7 q7) (λy s8 ⟨yv,H8,I8,r8,q8⟩=>?_) λ_ _ z=>z
    obtain⟨m',hm,w8⟩:=hNx _ _ _ q8
    obtain⟨t8,f8⟩:=back I8
    have I9:=I8.unpinned
    have hD9:=I9.pin (s2.heap.objs.size,{ cls:=.type "list",dict:=none,data:=.seq its.toArray k }) (OK _ Of)
    have e9:s8.heap.get? s2.heap.objs.size=some { cls:=.type "list",dict:=none,data:=.seq its.toArray k }:=hD9.1
    have bi:=rv.length
    refine call_meets F.slot_list_append ⟨_,e9,rfl⟩ F.entry_list_append (F.args_list_append_2 _ _) (PySem.list_append _ its.toArray k y (by rw[Om];omega)) ⟨e9,?_⟩
    have q9:=PySem.IsL.update e9 (λxs=>xs.push y)
    have ea:its.toArray.push y=(its++[y]).toArray:=by simp
    rw[ea] at q9
    have k9:∀b o,b≠s2.heap.objs.size->s8.heap.get? b=some o->(s8.heap.update s2.heap.objs.size (Obj.mapSeq λxs=>xs.push y)).get? b=some o:=λb o hb e=>(QB _ _ (Ne.symm hb)).trans e
    have I10:Inv Y [] σ6 H8 { s8 with heap:=s8.heap.update s2.heap.objs.size (Obj.mapSeq λxs=>xs.push y) }:=
     (I9.pins_of (pins':=[]) (λp hp=>nomatch hp)).turned (t':=s8.toks) k9 hD9.2.1 hD9.2.2.1 (.inr (Og _)) (λx c e z=>absurd (cellOld x c e) (by rw[z];exact Pe _))
      (λp hp=>absurd (show p∈([]:List (Addr×Obj)) from hp) (by simp))
    refine⟨m',hm,i+1,ys++[yv],its++[y],_,σ6,H8,pinD I10 q9 (λv z=>by cases z) hD9.2.1,rv.append (.cons r8 .nil),?_,f8,w8⟩
    exact T.keep _ _ _ t8 λb hb o e=>k9 b o (λz=>hDfp (by rw[<- z];exact hb)) e
 exact codeAny_compStart_list (loop _ rfl) (T.self _ 0 _ _ _ (T.keep _ _ _ st2 λb hb o e=>old b o e) (loop _ rfl))
def FO{j' am tg:Expr}{ifs:List Expr}{scope:Scope}{pos:Pos}{wi:TI}{g:TG}{tc:TT}{te:TE}{N:List Str}{sub:List (Option Nat)}
 (hc:X.calm=true) (hi:PI X tg am wi)
 (hk:scope.kind=.function) (hnc:∀x∈scope.names,x.2 ≠ .cell) (bn:∀x∈scope.names,x.2=.local->scope.names.lookup x.1=some .local)
 (hfr:∀x∈scope.names,x.2=.free->X.env.kindOf x.1=some .cell\/X.env.kindOf x.1=some .free)
 (hsl:sub.length=N.length) (im:∀(j i:Nat) (x:Str),sub[j]?=some (some i)->N[j]?=some x->X.N[i]?=some x/\scope.names.lookup x=some .free)
 (hg:∀cl C s₂ H fp,PG (bA X N scope cl C s₂ H fp) tg g) (ht:∀cl C s₂ H fp,PTs (bA X N scope cl C s₂ H fp) ifs tc) (he:∀cl C s₂ H fp,PE (bA X N scope cl C s₂ H fp) j' te)
 (hs:∀x,foldedSetIterable am X.env x=pure x:=by intro _;rfl):
 PE X (.ListComp j' [⟨tg,am,ifs,0⟩] scope pos) (kI wi sub g tc te):=by
 intro pins s σ H Q I h
 rw[eval_ListComp]
 refine vE hc hi hk hnc bn hfr hsl im hg ht he hs I h λD C s4 e=>?_
 obtain⟨m,hm⟩:=e.ns
 obtain⟨H',_,q,i⟩:=e.inv
 exact⟨m,hm,λh' hs'=>⟨.ref D,H',i h' hs',rfl,q⟩⟩
def jr(M:List Str)(names:List (Str×NameKind))(sub:List (Option Nat))(N:List Str):Bool:=(sub.zip N).all λp=>match p.1 with
 |none=>true
 |some i=>M[i]?==some p.2&&names.lookup p.2==some .free
def sO{M:List Str}{names:List (Str×NameKind)}{sub:List (Option Nat)}{N:List Str}(h:jr M names sub N=true)(j i:Nat)(x:Str)(h1:sub[j]?=some (some i))(h2:N[j]?=some x):
 M[i]?=some x/\names.lookup x=some .free:=by
 unfold jr at h
 rw[OV] at h
 have hm:(some i,x)∈sub.zip N:=by
  refine O4 (i:=j) ?_
  rw[List.getElem?_zip_eq_some]
  exact⟨h1,h2⟩
 have q:=h _ hm
 simp only[Oj,Qt] at q
 exact q
def lR(kn names:List (Str×NameKind)):Bool:=names.all λx=>x.2 != .free || kn.lookup x.1==some .cell || kn.lookup x.1==some .free
def vz{kn names:List (Str×NameKind)}(h:lR kn names=true):∀x∈names,x.2=.free->kn.lookup x.1=some .cell\/kn.lookup x.1=some .free:=λx hx hf=>by
 unfold lR at h
 rw[OV] at h
 have q:=h x hx
 rw[hf] at q
 simpa using q
def Lg{j' am tg:Expr}{scope:Scope}{pos:Pos}{wi:TI}{g:TG}{te:TE}(M:List Str)(kn:List (Str×NameKind))(N:List Str)(sub:List (Option Nat))
 (hc:X.calm=true) (hi:PI X tg am wi)
 (hg:∀cl C s₂ H fp,PG (bA X N scope cl C s₂ H fp) tg g) (he:∀cl C s₂ H fp,PE (bA X N scope cl C s₂ H fp) j' te)
 (hM:X.N=M:=by rfl) (hkn:X.env.scope.names=kn:=by rfl) (im:jr M scope.names sub N=true:=by decide)
 (hk:scope.kind=.function:=by rfl) (hnc:∀x∈scope.names,x.2 ≠ .cell:=by decide) (bn:∀x∈scope.names,x.2=.local->scope.names.lookup x.1=some .local:=by decide)
 (hfr:lR kn scope.names=true:=by decide)
 (hsl:sub.length=N.length:=by rfl) (hs:∀x,foldedSetIterable am X.env x=pure x:=by intro _;rfl):
 PE X (.ListComp j' [⟨tg,am,[],0⟩] scope pos) (kI wi sub g Bm te):=
 FO hc hi hk hnc bn (by subst hkn;exact vz hfr) hsl (by subst hM;exact sO im) hg (λcl C s₂ H fp=>uW) he hs
end
end L2
namespace L2
open PySem PySem.Spec PyProof.Rows PySem.W PySem.Builtin PySem.Builtin.ObjectAttr PySem.Builtin.Getset_descriptor
structure XCls(K:W.Frag)(C:Addr):Prop where
 cls:(clsIn K C).isSome=true
 ga:findIn K (.ref C) "__getattribute__"=some (some (.builtin "BaseException.__getattribute__"))
 gt:findIn K (.ref C) "__getattr__"=some none
 at_:findIn K (.ref C) "__class__"=some (some (.builtin "object.__class__"))
 gs:specialIn K (.builtin "object.__class__") "__get__"=some (some (.builtin "getset_descriptor.__get__"))
 tk:takesIn K (.builtin "object.__class__")=some true
 mo:mroIn K C (.type "object")=some true
 mb:mroIn K C (.type "BaseException")=some true
section
variable{prog:Program}{w:World}{A:Around}{E:Value->Shared->Prop}{K:W.Frag}{x C:Addr}{o:Obj}
def kG(hx:h.get? x=some o)(hc:o.cls=.ref C):Looks M h (typeOf (.ref x)) (.ref C):=hc ▸ (Looks.ld hx).andThen .now
def Bo(X:K.In h)(T:XCls K C):Looks M h (find (.ref x) (.ref C) "__class__") (.bind (.builtin "getset_descriptor.__get__") (.builtin "object.__class__")):=by
 have L1:=looks_findIn (M:=M) X T.at_
 have L2:Looks M h (getOf (some (.builtin "object.__class__"))) (some (.builtin "getset_descriptor.__get__")):=looks_specialIn X T.gs
 have L3:=looks_takesIn (M:=M) X T.tk
 refine L1.andThen (L2.andThen ?_)
 exact (show Looks M h (dataDescriptor? (some (.builtin "object.__class__")) (some (.builtin "getset_descriptor.__get__"))) (some (.builtin "getset_descriptor.__get__",.builtin "object.__class__")) from L3.andThen .now).andThen (Looks.tag .now)
def qG(X:K.In s.heap)(hx:s.heap.get? x=some o)(hc:o.cls=.ref C)(T:XCls K C)
 (h:R (.ok (.ret (.ref C))) s):codeAny (model prog w) A (.call (.builtin "getset_descriptor.__get__") ⟨[.builtin "object.__class__",.ref x,tp],[]⟩) R s:=by
 obtain⟨hh,g,dr,t,os⟩:=s
 have L0:=kG (M:=model prog w) hx hc
 have L1:=looks_mroIn (M:=model prog w) X T.mo
 refine codeAny_call_builtin KF.slot_gs.plain KF.entry_gs (KF.slot_gs.check _ _ _ _ _ _ _ _ KF.type_class (KF.args_gs _ _ _) ?_)
 unfold Builtin.«getset_descriptor.__get__» descrGet
 rw[dga_obj]
 refine Oa (Ou ?_)
 unfold descrGetter descrCheckInstance descrNameAndClass isInstance
 simp only[KF.owner_class]
 repeat lk
 refine⟨Code.quiet_builtin _ (by decide),codeAny_builtin KF.entry_class ?_⟩
 unfold Builtin.«object.__class__» shownTypeOf
 repeat lk
 exact h
def zS(X:K.In s.heap)(hx:s.heap.get? x=some o)(hc:o.cls=.ref C)(T:XCls K C)(hq:Q () s):
 wpAny M A (checkBuiltinCall "BaseException.__getattribute__" ⟨[.ref x,nameV],[]⟩) Q E s:=by
 obtain⟨h,g,dr,t,os⟩:=s
 have hk:builtinKind "BaseException.__getattribute__"=some .slot:=by decide
 have hsplit:splitId "BaseException.__getattribute__"=some ("BaseException", "__getattribute__"):=by decide
 have ha:=PySem.F.args_bexc_ga (.ref x) nameV
 have L0:=kG (M:=M) hx hc
 have LM:=looks_mroIn (M:=M) X T.mb
 have LI:Looks M h (isInstance (.ref x) (.type "BaseException")) true:=L0.andThen LM
 simp only[checkBuiltinCall,hk,hsplit]
 refine Oa ?_
 refine LI.at ?_
 repeat (first |wp_step)
 all_goals exact hq
def Jl(X:K.In s.heap)(hx:s.heap.get? x=some o)(hc:o.cls=.ref C)(T:XCls K C)(h:Q (some (.ref C)) { s with toks:=s.toks+1 }):
 wpAny (model prog w) A (getAttr? (.ref x) "__class__") Q E s:=by
 obtain⟨hh,g,d,t,os⟩:=s
 have L0:=kG (M:=model prog w) hx hc
 have L1:=looks_findIn (M:=model prog w) X T.ga
 have L2:=looks_findIn (M:=model prog w) X T.gt
 have LF:=Bo (M:=model prog w) (x:=x) X T
 have f3:=PySem.F.excAttr_ValueError.ga.bind (.ref x)
 have hx2:(Value.builtin "BaseException.__getattribute__" == Value.builtin "object.__getattribute__")=false:=by decide
 unfold getAttr? getAttrBy? getAttrBy
 refine Oa (wpAny_mkText (Oa (QX (Qi (Oa (L0.at (Oa (L1.at ?_))))))))
 dsimp only
 rw[if_neg (by rw[hx2];simp)]
 unfold getAttrByItsOwn hookBefore
 rw[if_pos (show onTheHeap (Value.ref C)=true from rfl)]
 refine Oa (L2.at ?_)
 unfold callGetattribute
 refine Oa (QX (Qi ?_))
 rw[if_neg (by simp)]
 unfold boundAndCalled
 refine Oa (wpAny_of_eq f3 ?_)
 refine wpAny_call (codeAny_call_builtin PySem.F.excAttr_ValueError.ga.plain PySem.F.entry_bexc_ga (zS X hx hc T ?_))
 unfold Builtin.«object.__getattribute__»
 repeat (first |(refine Oa (L0.at ?_)) |(refine Oa (LF.at ?_)) |wp_step)
 refine qG (s:=⟨hh,g,d,t+1,os⟩) X hx hc T ?_
 repeat (first |exact h |wp_step)
def AG(x:Addr)(C:Addr)(h:Heap):Prop:=∃o vs,h.get? x=some o/\o.cls=.ref C/\o.data=.fields vs
def BG(T:XCls K C):KitX K (.ref x) (.ref C) (AG x C) where
 ty:=λM h _ ⟨o,_,hx,hc,_⟩=>kG hx hc
 it:=λM h X _=>by
  obtain⟨cd,hcd⟩:=ON.mp T.cls
  unfold clsIn at hcd
  split at hcd
  ·rename_i c' d' cd' sl' ho
   intro A' Q' E' s' k q
   unfold isType loadHead
   exact Oa (wpAny_loadPart (k _ _ (X _ _ ho)) (Ou q))
  ·cases hcd
 ne:=λh tp dd its n sl X htp=>by
  obtain⟨cd,hcd⟩:=ON.mp T.cls
  refine Bool.eq_false_iff.mpr λq=>?_
  have e:C=tp:=Value.ref.inj (Qt.mp q)
  subst e
  unfold clsIn at hcd
  split at hcd
  ·rename_i c' d' cd' sl' ho
   have z:=(X _ _ ho).symm.trans htp
   cases z
  ·cases hcd
 ca:=λX ⟨o,_,hx,hc,_⟩ k=>Jl X hx hc T k
end
inductive TyX(K:W.Frag)(H:Hp):V->Value->Prop where
 |of {x:V}{t:Value} (h:TyOf K H x t):TyX K H x t
 |exc {a C:Addr} (e:H a=some (.ext (AG a C))) (T:XCls K C):TyX K H (.ref a) (.ref C)
 |sqT {a:Addr}{xs:List V} (h:SqT K H a xs):TyX K H (.ref a) (.type "tuple")
 |sqL {a:Addr}{xs:List V} (h:SqL K H a xs):TyX K H (.ref a) (.type "list")
section
variable{X:Cx}{pins:List (Addr×Obj)}{σ:St}{H:Hp}{s:Shared}{A:Around}{E:Value->Shared->Prop}{Q:Value->Shared->Prop}{c:Value}{b:Bool}
def va(I:Inv X pins σ H s)(rx:RelV x u)(ty:TyX X.K H x t):∃Hh:Heap->Prop,KitX X.K u t Hh/\Hh s.heap/\u ≠ .builtin "__main__.__loader__#opaque":=by
 cases ty with
 |
  exc ea T=>
  cases (show u=Value.ref _ from rx)
  exact⟨_,BG T,(I.hok _ _ ea).1,λz=>nomatch z⟩
 |
  sqT h=>
  cases (show u=Value.ref _ from rx)
  obtain⟨its,rv,⟨o,e,c,_⟩,_⟩:=I.tuple h
  exact⟨_,kitx_tuple,⟨o,e,c⟩,λz=>nomatch z⟩
 |
  sqL h=>
  cases (show u=Value.ref _ from rx)
  obtain⟨its,rv,⟨o,n,e,c,_⟩,_⟩:=I.list h
  exact⟨_,kitx_list,⟨o,e,c⟩,λz=>nomatch z⟩
 |
  of ty=>
  cases ty with
  |non=>cases (show u=Value.none from rx);exact⟨_,kitx_none,True.intro,λz=>nomatch z⟩
  |bl y=>cases (show u=Value.bool y from rx);exact⟨_,kitx_bool,True.intro,λz=>nomatch z⟩
  |int i=>obtain⟨t,q⟩:=(show ∃t,u=Value.int i t from rx);cases q;exact⟨_,kitx_int,True.intro,λz=>nomatch z⟩
  |str y=>obtain⟨t,q⟩:=(show ∃t,u=Value.str y t from rx);cases q;exact⟨_,kitx_str,True.intro,λz=>nomatch z⟩
  |flt y=>obtain⟨t,q⟩:=(show ∃t,u=Value.float y t from rx);cases q;exact⟨_,kitx_float,True.intro,λz=>nomatch z⟩
  |
   @lst a xs ea=>
   cases (show u=Value.ref a from rx)
   obtain⟨_,_,n,_,h1⟩:=(show ObjOk X.prog X.w H s.heap a (.lst xs) from I.hok a _ ea)
   exact⟨_,kitx_list,⟨_,h1,rfl⟩,λz=>nomatch z⟩
  |
   @frz a ob xs ea=>
   cases (show u=Value.ref a from rx)
   obtain⟨_,_,_,n,_,h1⟩:=(show ObjOk X.prog X.w H s.heap a (.frz ob (.lst xs)) from I.hok a _ ea)
   exact⟨_,kitx_list,⟨_,h1,rfl⟩,λz=>nomatch z⟩
  |
   @tup a xs ea=>
   cases (show u=Value.ref a from rx)
   obtain⟨_,_,_,p⟩:=(show ObjOk X.prog X.w H s.heap a (.tup xs) from I.hok a _ ea)
   obtain⟨o,h1,h2,_⟩:=p
   exact⟨_,kitx_tuple,⟨o,h1,h2⟩,λz=>nomatch z⟩
  |
   @dK a kvs ea=>
   cases (show u=Value.ref a from rx)
   obtain⟨_,_,vs,_,p⟩:=(show ObjOk X.prog X.w H s.heap a (.dK kvs) from I.hok a _ ea)
   obtain⟨o,es,ep,h1,h2,_⟩:=p
   exact⟨_,kitx_dict,⟨o,h1,h2.1⟩,λz=>nomatch z⟩
  |
   @dT a kvs ea=>
   cases (show u=Value.ref a from rx)
   obtain⟨_,_,xs,_,o,es,ep,h1,h2,_⟩:=(show ObjOk X.prog X.w H s.heap a (.dT kvs) from I.hok a _ ea)
   exact⟨_,kitx_dict,⟨o,h1,h2.1⟩,λz=>nomatch z⟩
  |
   @ins a C dx fs ea cl ha hn htk hm=>
   cases (show u=Value.ref a from rx)
   obtain⟨mA,O,_⟩:=Dy I.hok ea
   obtain⟨od,J,_⟩:=O.look
   exact⟨_,kitx_own (cl.get _) cl.hd ha hn htk hm,J,λz=>nomatch z⟩
end
section
variable{X:Cx}
def gk:V->Option Value
 |.ref C=>some (.ref C)
 |.ty T=>some (.type T)
 |_=>none
def sy(h:gk c=some v)(r:RelV c u):u=v:=by
 cases c with
 |ref C=>cases r;exact OE h
 |ty T=>cases r;exact OE h
 |_=>cases h
theorem pW:∀{cs:List V}{us vs:List Value},cs.mapM gk=some vs->Vals cs us->us=vs
 |
  [],_,vs,h,.nil=>by
  have h':some ([]:List Value)=some vs:=h
  exact OE h'
 |
  c::cs,_,vs,h,.cons r rr=>by
  rw[P7] at h
  cases q:gk c with
  |none=>rw[q] at h;cases h
  |
   some v=>
   rw[q] at h
   cases q2:cs.mapM gk with
   |none=>rw[q2] at h;cases h
   |
    some vs'=>
    rw[q2] at h
    have h':some (v::vs')=some vs:=h
    cases h'
    rw[sy q r,pW q2 rr]
def BX:CallR X (.builtin "isinstance") (λxs H Q=>∃x c t v b,xs=[x,c]/\TyX X.K H x t/\gk c=some v/\kitOne X.K t v=some b/\Q (.bl b) H):=by
 intro pins s σ H xs us Q I r h
 obtain⟨x,c,t,v,b,rfl,ty,hc,hk,q⟩:=h
 obtain⟨u,w',rfl,rx,rc⟩:=og r
 obtain rfl:=sy hc rc
 obtain⟨Hh,Z,p,hne⟩:=va I rx ty
 exact kia_one Z I.kIn p hk hne λtk=>⟨.bl b,H,I.tok _,rfl,q⟩
end
end L2
namespace L2
open PySem PySem.Spec PyProof.Rows
def ObjOk.there(x:ObjOk P w H h a o):∃u,h.get? a=some u:=by
 cases o with
 |lst xs=>obtain⟨_,_,_,_,e⟩:=x;exact⟨_,e⟩
 |tup xs=>obtain⟨_,_,_,ob,e,_⟩:=x;exact⟨_,e⟩
 |dK kvs=>obtain⟨_,_,_,_,o,_,_,e,_⟩:=x;exact⟨_,e⟩
 |dT kvs=>obtain⟨_,_,_,_,o,_,_,e,_⟩:=x;exact⟨_,e⟩
 |set S n=>obtain⟨o,_,_,_,e,_⟩:=x;exact⟨_,e⟩
 |ins C dx fs=>obtain⟨_,_,_,e,_⟩:=x;exact⟨_,e⟩
 |own y=>exact x
 |xd fs=>obtain⟨_,⟨_,_,_,e,_⟩,_⟩:=x;exact⟨_,e⟩
 |rng lo hi=>obtain⟨_,_,_,e⟩:=x;exact⟨_,e⟩
 |frz ob u=>obtain⟨e,_⟩:=x;exact⟨_,e⟩
 |tbl ps=>exact⟨_,show h.get? a=some _ from x⟩
 |met f y=>exact⟨_,show h.get? a=some _ from x⟩
 |ext φ=>obtain⟨_,e,_⟩:=x;exact e
structure Fly(P:Program)(w:World)(outer:List Env)(H:Hp)(h₀:Heap)(H':Hp)(ea:Addr)(cls:Value)(h:Heap)(B:Heap)(t:Addr):Prop where
 un:Un (frs outer) [] H H' h₀ h
 hok:HOk P w H' h
 fl:Heap.FlyingW B outer ea cls (.ref t) h
 old:∀b o,h₀.get? b=some o->b∉frs outer->∃o',B.get? b=some o'
 trk:∀b o,H' b=some o->∃o',B.get? b=some o'
def CX1(P:Program)(w:World):CXT:=λouter H s E e s'=>∃(ea t:Addr) (cls:Value) (H':Hp) (B:Heap),e=.ref ea/\s'.os=s.os/\AllBare s'.gens/\Fly P w outer H s.heap H' ea cls s'.heap B t/\E cls none H'
def sU(h:env.frame=some L):frs (env::outer)=L::frs outer:=by
 unfold frs
 rw[Pw,h]
section
variable{P:Program}{w:World}{outer:List Env}{H H':Hp}{h₀ h h' B:Heap}{ea t L:Addr}{cls:Value}
def Fly.step(F:Fly P w outer H h₀ H' ea cls h B t)(fl':Heap.FlyingW B outer' ea cls (.ref t) h')(up:h.UpToSlots h'):
 Un (frs outer) [] H H' h₀ h'/\HOk P w H' h':=by
 have st:=F.fl.1
 have same:∀b o,(∃o',B.get? b=some o')->h.get? b=some o->h'.get? b=some o:=λb o ⟨o',e⟩ q=>by
  have z:=st b o' e
  rw[q] at z;cases z
  exact fl'.1 b _ e
 have frame:∀b o,b∈frs outer->h.get? b=some o->∃sl,h'.get? b=some { o with slots:=sl }:=λb o hb q=>by
  obtain⟨_,o',ho',hd⟩:=F.fl.2.2.1.mem hb
  rw[q] at ho';cases ho'
  exact up b o q hd
 refine⟨⟨λb o e n hb hx=>same b o (F.old b o e hb) (F.un.keep b o e n hb hx),λb o e n hb hx=>?_,F.un.free,λb o e hx=>?_,F.un.tups,F.un.frzs,F.un.tbls⟩,λa o e=>?_⟩
 ·obtain⟨sl,q⟩:=F.un.slot b o e n hb hx
  obtain⟨sl',q'⟩:=frame b _ hb q
  exact⟨sl',q'⟩
 ·obtain⟨o',q⟩:=F.un.there b o e hx
  by_cases hb:b∈frs outer
  ·obtain⟨sl,q'⟩:=frame b _ hb q
   exact⟨_,q'⟩
  ·exact⟨o',same b o' (F.old b o e hb) q⟩
 ·refine (F.hok a o e).stay (λb u hb q=>same b u ?_ q) (λ_ q=>q) λ_ _ q=>q
  rcases hb with z |z
  ·rw[z];exact F.trk a o e
  ·exact F.trk b _ z
end
structure Cx.Top(X:Cx):Prop where
 ex:X.ex=[]
 stk:X.stack=X.env::X.outer
 fr:X.env.frame=some X.env.locals
section
variable{X:Cx}{pins:List (Addr×Obj)}{σ:St}{H:Hp}{s s':Shared}{E:XK}{e:Value}
def yn(T:X.Top)(hA:A.frames=some X.stack)(I:Inv X pins σ H s)(h:CX1 X.prog X.w X.stack H s E e s'):
 wpAny (model X.prog X.w) A (leaving X.env e) (λ_ s''=>CX1 X.prog X.w X.outer X.H₀ X.s₀ E e s'') E' s':=by
 obtain⟨ea,t,cls,H',B,rfl,os,bare,F,q⟩:=h
 have F0:=F
 rw[T.stk] at F
 have hf:=sU (outer:=X.outer) T.fr
 refine wpAny_leaves_onW (by rw[hA,T.stk]) T.fr F.fl λh'' fl'' up=>?_
 obtain⟨un2,hok2⟩:=F.step fl'' up
 have exn:∀b,b∉X.ex:=λb z=>by rw[T.ex] at z;cases z
 have neL:∀b o,X.s₀.heap.get? b=some o->b≠X.env.locals:=λb o e=>OM (Ox (Ot e) I.ok.above)
 have notin:∀b o,X.s₀.heap.get? b=some o->b∉frs X.outer->b∉frs (X.env::X.outer):=λb o e hb z=>by
  rw[hf] at z
  rcases Oy.mp z with z |z
  ·exact neL b o e z
  ·exact hb z
 refine⟨ea,t,cls,H',B,rfl,os.trans I.os,bare,⟨⟨λb o e n hb hx=>?_,λb o e n hb hx=>?_,λb o e n hx=>?_,λb o e hx=>?_,λb xs e=>un2.tups b xs (I.base.tups b xs e),λb o xs e=>un2.frzs b o xs (I.base.frzs b o xs e),λb ps e=>?_⟩,hok2,fl'',λb o e hb=>?_,F.trk⟩,q⟩
 ·exact un2.keep b o (I.base.keep b o e n hb (exn b)) (I.base.free b o e n (exn b)) (notin b o e hb) (by simp)
 ·obtain⟨sl,e1⟩:=I.base.slot b o e n hb (exn b)
  obtain⟨sl',e2⟩:=un2.slot b _ e1 (I.base.free b o e n (exn b)) (by rw[hf];exact Od _ hb) (by simp)
  exact⟨sl',e2⟩
 ·obtain⟨o',e1⟩:=I.base.there b o e (exn b)
  exact un2.free b o' e1 (I.base.free b o e n (exn b)) (by simp)
 ·obtain⟨o',e1⟩:=I.base.there b o e (exn b)
  exact un2.there b o' e1 (by simp)
 ·obtain⟨m1,e1⟩:=I.base.tbls b ps e
  obtain⟨m2,e2⟩:=un2.tbls b _ e1
  exact⟨m1++m2,by rw[e2,Array.append_assoc]⟩
 ·obtain⟨o',e1⟩:=I.base.there b o e (exn b)
  exact F.old b o' e1 (notin b o e hb)
def As(T:X.Top)(hA:A.frames=some X.stack)(I:Inv X pins σ H s)(hx:Heap.MadeExcOf s.heap h' ea cls args)(q:E cls none H):
 wpAny (model X.prog X.w) A (leaving X.env (.ref ea)) (λ_ s''=>CX1 X.prog X.w X.outer X.H₀ X.s₀ E (.ref ea) s'') E' { s with heap:=h' }:=by
 have hf:=sU (outer:=X.outer) T.fr
 have stk:=I.stack
 rw[T.stk] at stk
 have hin:∀env∈(X.env::X.outer),∀b,env.frame=some b->b∈frs (X.env::X.outer):=λenv he b hb=>List.mem_filterMap.mpr ⟨env,he,hb⟩
 refine wpAny_leaves_madeW (base:=W.hideAll s.heap (frs (X.env::X.outer))) (h:=s.heap) (by rw[hA,T.stk]) T.fr (λb o q=>W.of_hideAll _ q) (W.funFrames_hide stk hin) hx λh'' t fl tup tn up=>?_
 have inB:∀b o,s.heap.get? b=some o->b∉frs (X.env::X.outer)->(W.hideAll s.heap (frs (X.env::X.outer))).get? b=some o:=λb o e hb=>W.hideAll_get _ e hb
 have free:∀b∈frs (X.env::X.outer),H b=none:=λb hb=>I.stkFree b (by rw[T.stk];exact hb)
 have up2:s.heap.UpToSlots h'':=(Heap.UpToSlots.of_keeps hx.keeps).trans up
 have exn:∀b,b∉X.ex:=λb z=>by rw[T.ex] at z;cases z
 have neL:∀b o,X.s₀.heap.get? b=some o->b≠X.env.locals:=λb o e=>OM (Ox (Ot e) I.ok.above)
 have notin:∀b o,X.s₀.heap.get? b=some o->b∉frs X.outer->b∉frs (X.env::X.outer):=λb o e hb z=>by
  rw[hf] at z
  rcases Oy.mp z with z |z
  ·exact neL b o e z
  ·exact hb z
 have trk:∀b o,H b=some o->∃o',(W.hideAll s.heap (frs (X.env::X.outer))).get? b=some o':=λb o e=>by
  obtain⟨u,hu⟩:=(I.hok b o e).there
  exact⟨u,inB b u hu λz=>by rw[free b z] at e;cases e⟩
 refine⟨ea,t,cls,H,_,rfl,I.os,I.bare,⟨⟨λb o e n hb hx=>?_,λb o e n hb hx=>?_,λb o e n hx=>?_,λb o e hx=>?_,I.base.tups,I.base.frzs,I.base.tbls⟩,λa o e=>?_,fl,λb o e hb=>?_,trk⟩,q⟩
 ·exact fl.1 b o (inB b o (I.base.keep b o e n hb (exn b)) (notin b o e hb))
 ·obtain⟨sl,e1⟩:=I.base.slot b o e n hb (exn b)
  obtain⟨_,o',ho',hd⟩:=I.ok.funs.mem hb
  rw[e] at ho';cases ho'
  obtain⟨sl',e2⟩:=up2 b _ e1 hd
  exact⟨sl',e2⟩
 ·exact I.base.free b o e n (exn b)
 ·obtain⟨o',e1⟩:=I.base.there b o e (exn b)
  by_cases hb:b∈frs X.outer
  ·obtain⟨_,o2,ho2,hd⟩:=I.funs.mem hb
   rw[e1] at ho2;cases ho2
   obtain⟨sl',e2⟩:=up2 b _ e1 hd
   exact⟨_,e2⟩
  ·exact⟨o',fl.1 b o' (inB b o' e1 (notin b o e hb))⟩
 ·refine (I.hok a o e).stay (λb u hb q=>?_) (λ_ q=>q) λ_ _ q=>q
  refine fl.1 b u (inB b u q λz=>?_)
  rcases hb with y |y
  ·rw[y] at z;rw[free a z] at e;cases e
  ·rw[free b z] at y;cases y
 ·obtain⟨o',e1⟩:=I.base.there b o e (exn b)
  exact⟨o',inB b o' e1 (notin b o e hb)⟩
end
end L2
namespace L2
open PySem PySem.Spec PyProof.Rows
section
variable{P:Program}{w:World}{K:W.Frag}{mg:Str->Option Value}{base:Heap}{N:List Str}{qual:Str}{scope:Scope}{f:Addr}{cd:Value}{A:Around}{outer:List Env}{s:Shared}{H:Hp}{E:XK}
def CK:(eX (CX1 P w) P w K mg base N qual scope f cd A outer s H E).Top:=⟨rfl,rfl,rfl⟩
def aB:rJ (CX1 P w) (eX (CX1 P w) P w K mg base N qual scope f cd A outer s H E) E:=λpins σ H s e s' I h=>yn CK I.ok.frames I h
def L8:rJ (CX1 P w) X E0:=λpins σ H s e s' I ⟨_,_,_,_,_,_,_,_,_,q⟩=>q.elim
def gn:PassesOwn (model P w) (eX (CX1 P w) P w K mg base N qual scope f cd A outer s H E).A (eX (CX1 P w) P w K mg base N qual scope f cd A outer s H E).env (eX (CX1 P w) P w K mg base N qual scope f cd A outer s H E).xe:=PassesOwn.leaving
def Rz(X:Cx)(E:XK):Prop:=∀(pins:List (Addr×Obj)) (σ:St) (H:Hp) (s:Shared) (h':Heap) (ea:Addr) (cls:Value) (args:List Value),Inv X pins σ H s->Heap.MadeExcOf s.heap h' ea cls args->E cls none H->X.xe (.ref ea) { s with heap:=h' }
def rz1:Rz (eX (CX1 P w) P w K mg base N qual scope f cd A outer s H E) E:=λpins σ H s h' ea cls args I hx q=>As CK I.ok.frames I hx q
def Fun.okR{x qual:Str}{st:Stmt}{f:Addr}{fd:FuncData}{N ps:List Str}{k:Nat}{sp:Sp}(F:Fun K x qual st f fd)(S:FnScope N ps (ay st))(len:∀vs H Q E,sp vs H Q E->vs.length=ps.length)
 (jp:∀(cdv:Value) (A:Around) (outer:List Env) (s:Shared) (H:Hp) (vs:List V) (Q:VK) (E:XK),Room k (A.deeper (envOfC qual (ay st) s.heap.objs.size f cdv))->sp vs H Q E->
  ∃t,PSs (eX (CX1 P w) P w K mg base N qual (ay st) f cdv A outer s H E) (bT st) t/\t { nx:=λ_ H'=>Q .non H',rt:=Q } (gf N vs) H):FnOk P w K mg base (CX1 P w) (k+1) f fd ps sp:=by
 obtain⟨oc,od,kV,doc,pm,an,cdv,ct,osl,rfl,lk,hcd⟩:=F.ex
 exact La lk hcd S len λA outer s H vs Q E hr hsp=>jp cdv A outer s H vs Q E hr hsp
end
abbrev eR:List Value:=[.type "ValueError",.type "Exception",.type "BaseException",.type "object"]
def zH{K:W.Frag}{h:Heap}{C:Addr}(X:K.In h)(q:W.excIn K C eR "ValueError.__new__"=true):
 ∃bm N nm q' bs hdct sn sub ab col dd k0 k1 k2 k3 k5 mN,h.get? C=some (excClassObj nm q' C N bs bm hdct sn sub ab col dd k0 k1 k2 k3 k5 "ValueError.__new__")/\h.Ns N mN/\mN "__init__"=none/\OwnTail h eR bm:=by
 unfold W.excIn at q
 split at q
 ·rename_i dd cd sl ho
  split at q
  ·rename_i C' bm k0 k1 k2 k3 n k5 hm hs
   simp only[Oj,Qt,Bool.not_eq_true'] at q
   obtain⟨⟨⟨⟨⟨rfl,rfl⟩,hdel⟩,ht⟩,hok⟩,hni⟩:=q
   obtain⟨nm,bs,mro,ns,qn,hd,sn,sub,ab,col,del⟩:=cd
   dsimp only at hm hdel hok hni
   subst hm hdel
   have hsl:sl=#[k0,k1,k2,k3,some (.builtin "ValueError.__new__"),k5]:=by
    obtain⟨l⟩:=sl
    simp only at hs
    rw[hs]
   subst hsl
   exact⟨bm,ns,nm,qn,bs,hd,sn,sub,ab,col,dd,k0,k1,k2,k3,k5,_,X _ _ ho,.of_isNs (W.isNs_of_in X hok),W.nsMap_none_of_in X hok hni,W.tail_of_in X ht⟩
  ·cases q
 ·cases q
section
variable{X:Cx}{x:Str}{C:Addr}{E:XK}{np cpos pos:Pos}{e₀:Expr}{es:List Expr}{ta:TA}
def Hc(C:Addr)(E:XK)(ta:TA):TS:=λ_ σ H=>ta σ H λvs H1=>vs.length<=sizeLine/\E (.ref C) none H1
def AW(hc:X.calm=true)(hR:Rz X E)(hg:Gl X x)(hm:X.mg x=some (.ref C))(hq:W.excIn X.K C eR "ValueError.__new__"=true)(ha:PA X (e₀::es) ta)
 (he:starEach (e₀::es) X.env=(false,eval e₀ X.env)::starEach es X.env:=by rfl) (ci:(backTo cpos (starEach es X.env)).any (·.1)=false:=by rfl) (hd:(x==("__debug__" : Str))=false:=by decide):
 PS X (.Raise (some (.Call (.Name x np) (e₀::es) [] cpos)) none pos) (Hc C E ta):=by
 intro pins s σ H D I h
 obtain⟨bm,N,nm,q',bs,hdct,sn,sub,ab,col,dd,k0,k1,k2,k3,k5,mN,hC,hN,hni,T⟩:=zH I.ok.mod.kin hq
 refine wpAny_Raise_call_subT (C:=C) (nm:=nm) (q:=q') (N:=N) (bs:=bs) (bm:=bm) (hdct:=hdct) (sn:=sn) (sub:=sub) (ab:=ab) (col:=col) (dd:=dd) (k0:=k0) (k1:=k1) (k2:=k2) (k3:=k3) (k5:=k5)
  PySem.F.excBase_ValueError (mN:=mN) (T.hasType PySem.F.excBase_ValueError.hasBase) (I.ok.hd hc) (by rw[he];show (false || (backTo cpos (starEach es X.env)).any (·.1))=false;rw[ci];rfl) hni (o8 I hg hm ⟨rfl,?_⟩ hd)
 have hA:=ha cpos pins s σ H _ I h
 rw[he] at hA ⊢
 refine Calls.evalArgs_plain (thn hA λus s2 ⟨vs,H2,I2,r2,hz,q2⟩=>⟨rfl,by rw[<- r2.length];exact hz,I2.bk _ _ hC,hN.keeps I2.bk,T.keeps I2.bk,λh' e hm'=>?_⟩)
 exact hR pins σ H2 s2 h' e _ _ I2 hm' q2
end
abbrev XS:=St->XK
abbrev TEx:=St->Hp->VK->XK->Prop
abbrev TSx:=Ends->XS->St->Hp->Prop
def XP(X:Cx)(pins:List (Addr×Obj))(E:XS)(e:Value)(s':Shared):Prop:=∃σ1 H1 s1,Inv X pins σ1 H1 s1/\CX1 X.prog X.w X.stack H1 s1 (E σ1) e s'
def PEx(X:Cx)(e:Expr)(t:TEx):Prop:=
 ∀(pins:List (Addr×Obj)) (s:Shared) (σ:St) (H:Hp) (Q:VK) (E:XS),Inv X pins σ H s->t σ H Q (E σ)->wpAny (model X.prog X.w) X.A (eval e X.env) (EP X pins σ Q) (XP X pins E) s
section
variable{X:Cx}{st:Stmt}{dR:List Stmt}{t u:TSx}{e:Expr}{es:List Expr}{te:TEx}{pos p:Pos}{x:Str}{f:Addr}{fd:FuncData}{ps:List Str}{sp:Sp}{k:Nat}{ta:TA}{dvs:List V}{ds:List Value}
end
section
variable{X:Cx}{pins:List (Addr×Obj)}{σ:St}{H:Hp}{s:Shared}{ea:Addr}
end
structure XHand(K:W.Frag)(C:Addr):Prop where
 ty:W.typeIn K (.ref C)=some (.type "type")
 cls:(W.clsIn K C).isSome=true
 mb:W.mroIn K C (.type "BaseException")=some true
section
variable{X:Cx}{x n:Str}{C:Addr}{i:Nat}{body suite:List Stmt}{b₀:Stmt}{tb:TSx}{ts:TS}{np hpos pos:Pos}
end
end L2
namespace L2
open PySem PySem.Spec PyProof.Rows
mutual
inductive Rep(K:W.Frag)(H:Hp):V->PyData->Prop where
 |non:Rep K H .non .none
 |bl (b:Bool):Rep K H (.bl b) (.bool b)
 |int (i:Int):Rep K H (.int i) (.int i)
 |str (x:Str):Rep K H (.str x) (.str x)
 |tup {a:Addr}{xs:List V}{ds:List PyData} (h:SqT K H a xs) (r:Reps K H xs ds):Rep K H (.ref a) (.tuple ds)
 |lst {a:Addr}{xs:List V}{ds:List PyData} (h:SqL K H a xs) (r:Reps K H xs ds):Rep K H (.ref a) (.list ds)
inductive Reps(K:W.Frag)(H:Hp):List V->List PyData->Prop where
 |nil:Reps K H [] []
 |cons {x:V}{d:PyData}{xs:List V}{ds:List PyData} (r:Rep K H x d) (rr:Reps K H xs ds):Reps K H (x::xs) (d::ds)
end
section
variable{X:Cx}{pins:List (Addr×Obj)}{σ:St}{H H':Hp}{s:Shared}{K:W.Frag}
def Rep.reads(I:Inv X pins σ H s)(r:Rep X.K H v d)(q:RelV v u):∃as,Reads s.heap u d as:=
 Rep.rec (motive_1:=λv d _=>∀u,RelV v u->∃as,Reads s.heap u d as) (motive_2:=λvs ds _=>∀us,Vals vs us->∃as,ReadsAll s.heap us ds as)
  (λu r=>by cases r;exact⟨_,.none⟩) (λb u r=>by cases r;exact⟨_,.bool b⟩) (λi u r=>by obtain⟨t,rfl⟩:=r;exact⟨_,.int i t⟩) (λx u r=>by obtain⟨t,rfl⟩:=r;exact⟨_,.str x t⟩)
  (λh _ ih u r=>by
   cases r
   obtain⟨its,rv,⟨o,e,c,n,d⟩,_⟩:=I.tuple h
   obtain⟨as,q⟩:=ih _ rv
   exact⟨as,.tuple e c d (by simpa using q)⟩)
  (λh _ ih u r=>by
   cases r
   obtain⟨its,rv,⟨o,n,e,c,_,d⟩,_⟩:=I.list h
   obtain⟨as,q⟩:=ih _ rv
   exact⟨_,.list e c d (by simpa using q)⟩)
  (λus r=>by cases r;exact⟨_,.nil⟩)
  (λ_ _ a b us q=>by
   cases q with
   |
    cons q1 q2=>
    obtain⟨as,h1⟩:=a _ q1
    obtain⟨bs,h2⟩:=b _ q2
    exact⟨_,.cons h1 h2⟩) r u q
end
section
variable{X:Cx}
def shp(d:PyData):Bool:=d.canLay0&&decide (d.depth<=160)
def my(h:shp d=true):d.canLay0=true:=(Bool.and_eq_true_iff.mp h).1
def tV{A:Around}{d e:PyData}(h:shp d=true)(hu:A.units+180<cLine):A.units+min d.depth e.depth<cLine:=by
 have h1:d.depth<=160:=Pf (Bool.and_eq_true_iff.mp h).2
 have h2:min d.depth e.depth<=d.depth:=Nat.min_le_left _ _
 omega
def xH(K:W.Frag):R2:=λx y H Q=>∃dx dy,Rep K H x dx/\Rep K H y dy/\shp dx=true/\shp dy=true/\Q (.bl (PyData.eqv dx dy)) H
def xI(K:W.Frag):R2:=λx y H Q=>∃dx dy,Rep K H x dx/\Rep K H y dy/\shp dx=true/\shp dy=true/\Q (.bl (!PyData.eqv dx dy)) H
def IQ(hu:X.A.units+180<cLine):OpR X (compareOp .Eq) (xH X.K):=by
 intro pins s σ H x y v u Q I rx ry h
 obtain⟨dx,dy,r1,r2,h1,h2,q⟩:=h
 obtain⟨as,q1⟩:=r1.reads I rx
 obtain⟨bs,q2⟩:=r2.reads I ry
 exact SeqAt.compareEq_reads q1 q2 (my h1) (my h2) (tV h1 hu) (zM I q rfl)
def Ih(hu:X.A.units+180<cLine):OpR X (compareOp .NotEq) (xI X.K):=by
 intro pins s σ H x y v u Q I rx ry h
 obtain⟨dx,dy,r1,r2,h1,h2,q⟩:=h
 obtain⟨as,q1⟩:=r1.reads I rx
 obtain⟨bs,q2⟩:=r2.reads I ry
 exact SeqAt.compareNe_reads q1 q2 (my h1) (my h2) (tV h1 hu) (zM I q rfl)
open PySem.Builtin.Int (intBits)
def CDivB(i j:Int):Prop:=j≠0/\intBits j<=8000
def CT(i j:Int):Prop:=intBits i<=100000/\intBits j<=100000
def gy:OpR X (binaryOp .FloorDiv) (rI CDivB λi j=>.int (i.fdiv j)):=opI λi j _ _ _ _ _ hc q=>floordiv_int hc.1 q (.inl (PyProof.noPylong_of_log2 (by
 have h:=hc.2
 have h0:=hc.1
 unfold intBits at h
 have hb:(j==0)=false:=by simpa using h0
 rw[hb] at h
 simp only[PC,Qq] at h
 omega)))
def ER:OpR X (binaryOp .Mult) (rI CT λi j=>.int (i*j)):=opI λi j _ _ _ _ _ hc q=>mul_int q (PySem.IntMulOk.of_le hc.1 hc.2 (by decide))
def yg(bs:List Bool):((List.range bs.length).all λi=>bs.getD i false)=bs.all id:=by
 rw[Bool.eq_iff_iff,OV,OV]
 constructor
 ·intro h x hx
  obtain⟨i,hi,rfl⟩:=List.mem_iff_getElem.mp hx
  have:=h i (Px.mpr hi)
  simpa [OW,hi] using this
 ·intro h i hi
  have hi':=Px.mp hi
  have:=h bs[i] (List.getElem_mem hi')
  simpa [OW,hi'] using this
def Bp(hc:X.calm=true):CallR X (.builtin "all") (λxs H Q=>∃(a:Addr) (bs:List Bool),xs=[.ref a]/\SqL X.K H a (bs.map V.bl)/\Q (.bl (bs.all id)) H):=by
 intro pins s σ H xs us Q I r h
 obtain⟨a,bs,rfl,hq,q⟩:=h
 obtain⟨u,rfl,ru⟩:=g0 r
 cases ru
 obtain⟨its,rv,p,hz⟩:=I.list hq
 have hl:=rv.length
 rw[N_] at hl
 have hlt:a<s.heap.objs.size:=by obtain⟨o,n,e,_⟩:=p;exact Ot e
 refine call_all_walk (wpAny_pyIter_list p.isList ?_)
 refine⟨s.heap.objs.size,_,_,_,_,_,λi=>bs.getD i false,rfl,Walks.list (A:=X.A.in1) (I.ok.hd hc) s.heap.objs.size a (OM hlt) its.toArray,⟨⟨_,OD _ rfl,rfl,rfl⟩,(p.keeps λb o e=>Oo _ e).isList⟩,λi v s' Q' E' hP hQ=>?_,λh' tk hk=>?_⟩
 ·have hP':its[i]?=some v:=by simpa using hP
  have hi:i<bs.length:=by rw[hl];exact (Oe.mp hP').1
  have hb:(bs.map V.bl)[i]?=some (V.bl bs[i]):=by simp [hi]
  obtain⟨u,hu,ru⟩:=rv.get hb
  rw[hP'] at hu
  cases hu
  cases ru
  refine PM ?_
  have e:bs.getD i false=bs[i]:=by simp [OW,hi]
  show Q' bs[i] s'
  rw[<- e]
  exact hQ
 ·have e1:its.toArray.size=bs.length:=by rw[Om,hl]
  rw[e1,yg]
  have hn:H s.heap.objs.size=none:=I.fresh
  have I1:Inv X pins σ H { s with heap:=s.heap.push { cls:=.type "list_iterator",dict:=none,data:=.fields #[.ref a,rawInt 0] } }:=I.kept (t':=s.toks) λb o e=>Oo _ e
  refine⟨.bl _,H,?_,rfl,q⟩
  refine I.kept (t':=tk) λb o e=>?_
  have hne:b≠s.heap.objs.size:=OM (Ot e)
  exact hk b o (by simpa using hne) (Oo _ e)
end
end L2
namespace L2
open PySem PySem.Spec PyProof.Rows
structure Def(K:W.Frag)(mg:Str->Option Value)(x:Str)(st:Stmt):Prop where
 ex:∃f fd,Fun K x x st f fd/\mg x=some (.ref f)
def aR{K:W.Frag}{h:Heap}{mg:Str->Option Value}{x:Str}{st:Stmt}{f:Addr}{oc:Value}{od an:Option Addr}{osl:Array (Option Value)}{kV doc pm cdv ct:Value}(X:K.In h)(G:h.Ns mainGlobals mg)
 (a:W.nsIn K mainGlobals x=some (some (.ref f))) (l:K.lookup f=some ⟨oc,od,.func (W.fnOf x x (dU st) (bT st) (ay st) .none kV doc pm an cdv ct),osl⟩)
 (c:W.codeIn K cdv x=true) (k:W.keepIn K (.ref f)=true):Def K mg x st:=⟨f,_,Gk l c k,QF X G a⟩
def Fun.look{K:W.Frag}{x qual:Str}{st:Stmt}{f:Addr}{fd:FuncData}(F:Fun K x qual st f fd):∃oc od osl,K.lookup f=some ⟨oc,od,.func fd,osl⟩:=by
 obtain⟨oc,od,kV,doc,pm,an,cdv,ct,osl,rfl,lk,hcd⟩:=F.ex
 exact⟨oc,od,osl,lk⟩
structure Callee(P:Program)(w:World)(K:W.Frag)(mg:Str->Option Value)(base:Heap)(x:Str)(k:Nat)(ps:List Str)(sp:Sp):Prop where
 ex:∃f fd,FnOk P w K mg base (CX1 P w) k f fd ps sp/\mg x=some (.ref f)/\W.keepIn K (.ref f)=true/\Binds K fd ps []/\∃oc od osl,K.lookup f=some ⟨oc,od,.func fd,osl⟩
section
variable{P:Program}{w:World}{K:W.Frag}{mg:Str->Option Value}{base:Heap}{x:Str}{st:Stmt}{k:Nat}{ps N:List Str}{sp:Sp}
def Callee.imp(C:Callee P w K mg base x k ps sp)(h:∀vs H Q E,sp' vs H Q E->sp vs H Q E):Callee P w K mg base x k ps sp':=by
 obtain⟨f,fd,F,r⟩:=C.ex
 exact⟨f,fd,F.imp h,r⟩
def Def.okR(D:Def K mg x st)(S:FnScope N ps (ay st))
 (hb:∀(kV doc pm:Value) (an:Option Addr) (cdv ct:Value) (us:List Value),us.length=ps.length->bindArgs (W.fnOf x x (dU st) (bT st) (ay st) .none kV doc pm an cdv ct) ⟨us,[]⟩=pure (ps.zip us))
 (len:∀vs H Q E,sp vs H Q E->vs.length=ps.length)
 (jp:∀(f:Addr) (cdv:Value) (A:Around) (outer:List Env) (s:Shared) (H:Hp) (vs:List V) (Q:VK) (E:XK),Room k (A.deeper (envOfC x (ay st) s.heap.objs.size f cdv))->sp vs H Q E->
  ∃t,PSs (eX (CX1 P w) P w K mg base N x (ay st) f cdv A outer s H E) (bT st) t/\t { nx:=λ_ H'=>Q .non H',rt:=Q } (gf N vs) H):Callee P w K mg base x (k+1) ps sp:=by
 obtain⟨f,fd,F,m⟩:=D.ex
 exact⟨f,fd,F.okR S len (jp f),m,F.kp,F.binds hb,F.look⟩
end
section
variable{X:Cx}{x:Str}{p pos:Pos}{e:Expr}{es:List Expr}{ta:TA}{k:Nat}{ps:List Str}{sp:Sp}{E:XK}
end
section
variable{X:Cx}{K:W.Frag}{tg l:Expr}{tl:TE}
def allK(h:X.K=K)(hc:X.calm=true):CallR X (.builtin "all") (λxs H Q=>∃(a:Addr) (bs:List Bool),xs=[.ref a]/\SqL K H a (bs.map V.bl)/\Q (.bl (bs.all id)) H):=by subst h;exact Bp hc
def Room.u180(r:Room k A):A.units+180<cLine:=by have:=r.un;omega
def fc(h:X.K=K)(hu:X.A.units+180<cLine):OpR X (compareOp .Eq) (xH K):=by subst h;exact IQ hu
def kr(h:X.K=K)(hu:X.A.units+180<cLine):OpR X (compareOp .NotEq) (xI K):=by subst h;exact Ih hu
def inK(h:X.K=K):OpR X (compareOp .In) (rIn K false):=by subst h;exact yk
end
end L2
namespace L2
open PySem PySem.Spec PyProof.Rows
section
variable{X:Cx}
def FC{j' am tg:Expr}{ifs:List Expr}{scope:Scope}{pos:Pos}{wi:TI}{g:TG}{tc:TT}{te:TE}{N:List Str}{sub:List (Option Nat)}{iT:Nat}{xT:Str}{px spos:Pos}
 (hc:X.calm=true) (hN:X.N.Nodup) (hix:X.N[iT]?=some xT) (hxl:Loc X.env.scope xT) (hi:PI X tg am wi)
 (hk:scope.kind=.function) (hnc:∀x∈scope.names,x.2 ≠ .cell) (bn:∀x∈scope.names,x.2=.local->scope.names.lookup x.1=some .local)
 (hfr:∀x∈scope.names,x.2=.free->X.env.kindOf x.1=some .cell\/X.env.kindOf x.1=some .free)
 (hsl:sub.length=N.length) (im:∀(j i:Nat) (x:Str),sub[j]?=some (some i)->N[j]?=some x->X.N[i]?=some x/\scope.names.lookup x=some .free)
 (hg:∀cl C s₂ H fp,PG (bA X N scope cl C s₂ H fp) tg g) (ht:∀cl C s₂ H fp,PTs (bA X N scope cl C s₂ H fp) ifs tc) (he:∀cl C s₂ H fp,PE (bA X N scope cl C s₂ H fp) j' te)
 (hsw:swapsWith (.ListComp j' [⟨tg,am,ifs,0⟩] scope pos) (some (.Name xT px)) spos.line X.env=pure true)
 (hs:∀x,foldedSetIterable am X.env x=pure x:=by intro _;rfl) (hf:X.fn xT=true\/X.env.scope.names.lookup xT=some .local:=by first |exact .inl rfl |exact .inr rfl |assumption):
 PS X (.Assign [.Name xT px] (.ListComp j' [⟨tg,am,ifs,0⟩] scope pos) spos) (tP (kI wi sub g tc te) (oo iT)):=by
 intro pins s σ H D0 I h
 rw[exec_Assign_Name_used _ _ _ _ hsw]
 refine Oa (QZ (Oa ?_))
 show wpAny _ X.A (do let _ <- comprehension (.ListComp j' [⟨tg,am,ifs,0⟩] scope pos) scope X.env _ (newList []) false (eval am X.env) (some (assign (.Name xT px) X.env))) _ _ s
 refine Oa (OX (vE (use:=some (assign (.Name xT px) X.env)) (R:=λ_ s'=>SP X pins D0 .next s') hc hi hk hnc bn hfr hsl im hg ht he hs I h λD C s4 e=>?_) (λ_ s' hq=>Ou (Ou hq)) λ_ _ e=>e)
 obtain⟨m,hm⟩:=e.ns
 obtain⟨H',hC,q,i⟩:=e.inv
 have dc:=e.dc
 have fr:=e.fr
 refine wpAny_assign_Name (p9 (v:=.ref D) (i s4.heap ⟨rfl,λ_ _=>rfl⟩) hN hix hxl rfl (λs7 I7 ⟨a7,sb7,ha7⟩=>?_) hf)
 have ha:a7<D:=by
  rcases ha7 with z |z
  ·rw[z];exact fr
  ·exact e.cell xT a7 z
 refine⟨m,hm.sameBut sb7 (Qn (QM ha dc)),λh8 hs8=>⟨_,_,I7.turned (it:=C) (t':=s7.toks) (λb o hb e=>hs8.extBut b o hb e) hC (Qn (QM fr dc)) (.inr (Ow e.sz (QL dc))) (λx c q=>OM (QM (e.cell x c q) dc)) (λp hp=>OM (QM (e.pin p hp) dc)),q⟩⟩
def Kw{j' am tg:Expr}{scope:Scope}{pos px spos:Pos}{wi:TI}{g:TG}{te:TE}{iT:Nat}{xT:Str}(M:List Str)(kn:List (Str×NameKind))(N:List Str)(sub:List (Option Nat))
 (hc:X.calm=true) (hN:X.N.Nodup) (hix:X.N[iT]?=some xT) (hxl:Loc X.env.scope xT) (hi:PI X tg am wi)
 (hg:∀cl C s₂ H fp,PG (bA X N scope cl C s₂ H fp) tg g) (he:∀cl C s₂ H fp,PE (bA X N scope cl C s₂ H fp) j' te)
 (hsw:swapsWith (.ListComp j' [⟨tg,am,[],0⟩] scope pos) (some (.Name xT px)) spos.line X.env=pure true:=by rfl)
 (hM:X.N=M:=by rfl) (hkn:X.env.scope.names=kn:=by rfl) (im:jr M scope.names sub N=true:=by decide)
 (hk:scope.kind=.function:=by rfl) (hnc:∀x∈scope.names,x.2 ≠ .cell:=by decide) (bn:∀x∈scope.names,x.2=.local->scope.names.lookup x.1=some .local:=by decide)
 (hfr:lR kn scope.names=true:=by decide)
 (hsl:sub.length=N.length:=by rfl) (hs:∀x,foldedSetIterable am X.env x=pure x:=by intro _;rfl) (hf:X.fn xT=true\/X.env.scope.names.lookup xT=some .local:=by first |exact .inl rfl |exact .inr rfl |assumption):
 PS X (.Assign [.Name xT px] (.ListComp j' [⟨tg,am,[],0⟩] scope pos) spos) (tP (kI wi sub g Bm te) (oo iT)):=
 FC hc hN hix hxl hi hk hnc bn (by subst hkn;exact vz hfr) hsl (by subst hM;exact sO im) hg (λcl C s₂ H fp=>uW) he hsw hs hf
end
end L2
namespace L2
open PySem PySem.Spec PyProof.Rows
theorem uZ:∀{ns:List Int}{its:List Value},Vals (ns.map V.int) its->IntsAre its ns
 | [],_,h=>by cases h;exact .nil
 |
  i::r,_,h=>by
  cases h with
  |
   cons h1 h2=>
   obtain⟨t,rfl⟩:=h1
   exact .cons i t (uZ h2)
def qb{X:Cx}{K:W.Frag}(hK:X.K=K)(hc:X.calm=true):CallR X (.builtin "sum") (λxs H Q=>∃(a:Addr) (ns:List Int),xs=[.ref a]/\SqL K H a (ns.map V.int)/\Q (.int ns.sum) H):=by
 subst hK
 intro pins s σ H xs us Q I r h
 obtain⟨a,ns,rfl,hq,q⟩:=h
 obtain⟨u,rfl,ru⟩:=g0 r
 cases ru
 obtain⟨its,rv,p,hz⟩:=I.list hq
 have hi:=uZ rv
 obtain⟨ys,hy⟩:=hi.allInts.items
 have hn:numsOf its.toArray.toList=ns:=by rw[show its.toArray.toList=its from rfl,hi.numsOf]
 have pl:=p.isList
 rw[hy] at pl hn
 rw[nums_intItems] at hn
 refine sum_intListG (I.ok.hd hc) pl λh' tk t' hk=>?_
 rw[preSum_eq,Pz (by simp),hn]
 exact⟨.int ns.sum,H,I.kept (t':=tk) hk,⟨_,rfl⟩,q⟩
end L2
namespace Fr
def dv(a b:Int):Int:=if b<0 then -((Int.gcd a b:Nat):Int) else ((Int.gcd a b:Nat):Int)
def T(a b:Int):Int:=a.fdiv (dv a b)
def B(a b:Int):Int:=b.fdiv (dv a b)
def uu(hb:b≠0):0<Int.gcd a b:=Int.gcd_pos_of_ne_zero_right a hb
def dv_ne(hb:b≠0):dv a b≠0:=by
 have:=uu (a:=a) hb
 unfold dv
 split <;> omega
def B1(a b:Int):dv a b ∣ a:=by
 have h:((Int.gcd a b:Nat):Int) ∣ a:=Int.gcd_dvd_left a b
 unfold dv
 split
 ·exact Int.neg_dvd.mpr h
 ·exact h
def Bd(a b:Int):dv a b ∣ b:=by
 have h:((Int.gcd a b:Nat):Int) ∣ b:=Int.gcd_dvd_right a b
 unfold dv
 split
 ·exact Int.neg_dvd.mpr h
 ·exact h
def u7{a d q:Int}(hd:d≠0)(h:a=d*q):a.fdiv d=q:=by
 rw[h,Ql]
 exact Int.mul_fdiv_cancel q hd
def T_mul(hb:b≠0):T a b*dv a b=a:=by
 obtain⟨q,h⟩:=B1 a b
 have:T a b=q:=u7 (dv_ne hb) h
 rw[this,Ql];exact h.symm
def B_mul(hb:b≠0):B a b*dv a b=b:=by
 obtain⟨q,h⟩:=Bd a b
 have:B a b=q:=u7 (dv_ne hb) h
 rw[this,Ql];exact h.symm
def B_pos(hb:b≠0):0<B a b:=by
 have h:=B_mul (a:=a) hb
 have hg:=uu (a:=a) hb
 generalize hx:B a b=x at h ⊢
 unfold dv at h
 split at h
 ·rename_i hneg
  have h2:x*((Int.gcd a b:Nat):Int)=-b:=by rw[Int.mul_neg] at h;omega
  rcases Int.lt_or_le 0 x with z |z
  ·exact z
  ·have:x*((Int.gcd a b:Nat):Int)<=0:=Int.mul_nonpos_of_nonpos_of_nonneg z (by omega)
   omega
 ·rename_i hpos
  rcases Int.lt_or_le 0 x with z |z
  ·exact z
  ·have:x*((Int.gcd a b:Nat):Int)<=0:=Int.mul_nonpos_of_nonpos_of_nonneg z (by omega)
   omega
def cross(hb:b≠0):T a b*b=a*B a b:=by
 have h1:=T_mul (a:=a) hb
 have h2:=B_mul (a:=a) hb
 generalize T a b=x at *
 generalize B a b=y at *
 generalize dv a b=d at *
 rw[<- h2,<- h1]
 rw[<- Pc,Qm]
def dv_abs(a b:Int):(dv a b).natAbs=Int.gcd a b:=by
 unfold dv
 split <;> simp
def low(hb:b≠0):Int.gcd (T a b) (B a b)=1:=by
 have h1:=T_mul (a:=a) hb
 have h2:=B_mul (a:=a) hb
 have hg:=uu (a:=a) hb
 have e1:a.natAbs=(T a b).natAbs*Int.gcd a b:=by rw[<- dv_abs a b,<- O5,h1]
 have e2:b.natAbs=(B a b).natAbs*Int.gcd a b:=by rw[<- dv_abs a b,<- O5,h2]
 have e3:Int.gcd a b=Nat.gcd ((T a b).natAbs*Int.gcd a b) ((B a b).natAbs*Int.gcd a b):=by rw[<- e1,<- e2];rfl
 rw[Nat.gcd_mul_right] at e3
 show Nat.gcd (T a b).natAbs (B a b).natAbs=1
 generalize Nat.gcd (T a b).natAbs (B a b).natAbs=k at *
 generalize Int.gcd a b=g at *
 have:(1:Nat)*g=k*g:=by omega
 exact (Nat.eq_of_mul_eq_mul_right hg this).symm
def uniq(hy:0<y)(hy':0<y')(h:Int.gcd x y=1)(h':Int.gcd x' y'=1)(e:x*y'=x'*y):x=x'/\y=y':=by
 have c1:Nat.Coprime y.natAbs x.natAbs:=by rw[Nat.coprime_comm];exact h
 have c2:Nat.Coprime y'.natAbs x'.natAbs:=by rw[Nat.coprime_comm];exact h'
 have e1:x.natAbs*y'.natAbs=x'.natAbs*y.natAbs:=by rw[<- O5,<- O5,e]
 have d1:y.natAbs ∣ y'.natAbs:=c1.dvd_of_dvd_mul_left (by rw[e1];exact Nat.dvd_mul_left _ _)
 have d2:y'.natAbs ∣ y.natAbs:=c2.dvd_of_dvd_mul_left (by rw[<- e1];exact Nat.dvd_mul_left _ _)
 have ey:y.natAbs=y'.natAbs:=Nat.dvd_antisymm d1 d2
 have ey':y=y':=by omega
 subst ey'
 exact⟨Qf (by omega) e,rfl⟩
def same(hb:b≠0)(hd:d≠0)(e:a*d=c*b):T a b=T c d/\B a b=B c d:=by
 refine uniq (B_pos hb) (B_pos hd) (low hb) (low hd) ?_
 have h1:=cross (a:=a) hb
 have h2:=cross (a:=c) hd
 have hbd:b*d≠0:=QI hb hd
 refine Qf hbd ?_
 calc T a b*B c d*(b*d)=(T a b*b)*(B c d*d):=by rw[Pc,P5 (B c d) b d,<- Pc]
  _=(a*B a b)*(B c d*d):=by rw[h1]
  _=(a*d)*(B c d*B a b):=by rw[Pc a,Pc a,P5 (B a b),P5 d,Ql (B a b) d]
  _=(c*b)*(B c d*B a b):=by rw[e]
  _=(c*B c d)*(B a b*b):=by rw[Pc c,Pc c,P5 b,Ql b (B a b)]
  _=(T c d*d)*(B a b*b):=by rw[<- h2]
  _=T c d*B a b*(b*d):=by rw[Pc,Pc,P5 d,Ql d b]
def self(hb:0<b)(h:Int.gcd a b=1):T a b=a/\B a b=b:=
 uniq (B_pos (by omega)) hb (low (by omega)) h (cross (by omega))
def euc(m n:Nat):Nat.gcd n (m % n)=Nat.gcd m n:=by
 rw[Nat.gcd_comm,<- Nat.gcd_rec,Nat.gcd_comm]
end Fr
set_option maxHeartbeats 1000000
namespace L2
open PySem PySem.Spec PyProof.Rows
def Inv.turnedL{X:Cx}{pins:List (Addr×Obj)}{σ:St}{H:Hp}{s:Shared}{h':Heap}{t':Nat}{ch:List Addr}(I:Inv X pins σ H s)(k:∀b o,b∉ch->s.heap.get? b=some o->h'.get? b=some o)(hf:∀b∈ch,FpOk X pins H b):Inv X pins σ H { s with heap:=h',toks:=t' }:=by
 have away:∀b u,H b=some u->b∉ch:=λb u e z=>by have:=(hf b z).1;rw[e] at this;cases this
 refine I.step (g':=s.gens) (d':=s.drawn) (ch:=ch) (λb hb=>⟨(hf b hb).2.2.2.1,(hf b hb).2.1,(hf b hb).2.2.2.2.1,(hf b hb).2.2.2.2.2⟩) (λb o _ _ hc e _=>k b o hc e) (λb o _ _ hc e _=>⟨o.slots,k b o hc e⟩) (λ_ _ _ _ n=>n)
  (λb o hc e=>⟨o,k b o hc e⟩) (λ_ _ e=>e) (λ_ _ _ e=>e) (λb ps e=>⟨#[],by rw[e];simp⟩) (λm hm=>?_) (λb u e=>?_) I.bare
 ·obtain⟨o,es,ep,ho,r⟩:=hm
  exact⟨o,es,ep,k _ o (λz=>(hf _ z).2.1 rfl) ho,r⟩
 ·refine (I.hok b u e).stay (λc v hc q=>k c v ?_ q) (λ_ q=>q) λ_ _ q=>q
  rcases hc with z |z
  ·rw[z];exact away b u e
  ·exact away c _ z
def FpOk.up(f:FpOk X pins H b)(hn:b≠p):FpOk X pins (upd H p o) b:=⟨by rw[aQ hn];exact f.1,f.2⟩
def wO(hj:s.heap.IsTupleIter j t n)(ht:s.heap.IsTuple t its)(hv:its[n]?=some v)
 (k:∀h',h'.IsTupleIter j t (n+1)->Heap.SameBut j s.heap h'->Q v { s with heap:=h' }):wpAny (model prog w) A (Builtin.SmallTypes.nextOf (.ref j)) Q E s:=by
 obtain⟨oj,ej,cj,dj⟩:=id hj
 obtain⟨ot,et,_,m,dt⟩:=ht
 unfold Builtin.SmallTypes.nextOf
 refine Oa (Pu (name:=Str.ofString "__next__") hj.typeIs PL (Qe PL hj.typeIs F.entry_tuple_iterator_next ?_ (F.args_tuple_iterator_next_1 _)))
 show wpAny _ _ (field (.ref j) 0 >>= _) _ _ s
 refine Oa (O2 ej dj (x:=.ref t) rfl ?_)
 show wpAny _ _ (if (Value.ref t==Value.none)=true then _ else _) _ _ s;rw[if_neg (show ¬ ((Value.ref t==Value.none)=true) from Ol)]
 show wpAny _ _ (field (.ref j) 1 >>= _) _ _ s
 refine Oa (O2 ej dj (x:=.int n 0) rfl ?_)
 show wpAny _ _ (seqItems? (.ref t) >>= _) _ _ s;refine Oa (Py et dt ?_)
 simp only[OY,hv]
 refine Oa (wpAny_setField ej dj (by simp) (Ou ⟨v,rfl,Ou (k _ ?_ (Heap.SameBut.update ..))⟩))
 exact⟨_,Heap.get?_update_self _ ej (Obj.isFreed_of_fields (Obj.data_mapFields dj _)),(Obj.cls_mapFields ..).trans cj,by rw[Obj.data_mapFields dj];simp [rawInt]⟩
def pD(hh:A.handled=none)(hj:s.heap.IsTupleIter j t n)(ht:s.heap.IsTuple t its)(hv:its[n]?=none)
 (k:∀h' e,Heap.ExtBut j s.heap h'->(∃o,h'.get? e=some o/\o.cls=.type "StopIteration")->E (.ref e) { s with heap:=h' }):wpAny (model prog w) A (Builtin.SmallTypes.nextOf (.ref j)) Q E s:=by
 obtain⟨oj,ej,cj,dj⟩:=id hj
 obtain⟨ot,et,_,m,dt⟩:=ht
 unfold Builtin.SmallTypes.nextOf
 refine Oa (Pu (name:=Str.ofString "__next__") hj.typeIs PL (Qe PL hj.typeIs F.entry_tuple_iterator_next ?_ (F.args_tuple_iterator_next_1 _)))
 show wpAny _ _ (field (.ref j) 0 >>= _) _ _ s
 refine Oa (O2 ej dj (x:=.ref t) rfl ?_)
 show wpAny _ _ (if (Value.ref t==Value.none)=true then _ else _) _ _ s;rw[if_neg (show ¬ ((Value.ref t==Value.none)=true) from Ol)]
 show wpAny _ _ (field (.ref j) 1 >>= _) _ _ s
 refine Oa (O2 ej dj (x:=.int n 0) rfl ?_)
 show wpAny _ _ (seqItems? (.ref t) >>= _) _ _ s;refine Oa (Py et dt ?_)
 simp only[OY,hv]
 refine Oa (wpAny_rule (Oa (wpAny_setField ej dj (by simp) ?_)));show wpAny _ _ (newExc (.type "StopIteration") [] >>= _) _ _ _
 refine Oa ?_;simp only[newExc,newTuple]
 refine Oa (Pg ?_ (by size_fits));refine Oa (m:=firstArgMember _ _) (wpAny_of_eq (a:=Value.none) (by first |rfl |(simp only[firstArgMember];rfl)) ?_)
 refine Pg ?_ (by size_fits);simp only[raiseNew]
 refine Oa (wpAny_handled ?_);first |rw[show A.in1.handled=none from hh] |rw[hh]
 refine Oa (Ou (wpAny_throw ?_));exact k _ _ (((Heap.SameBut.update ..).extBut.push _).push _) ⟨_,OD _ rfl,rfl⟩
def SqB(K:W.Frag)(b:Bool)(H:Hp)(a:Addr)(xs:List V):Prop:=match b with
 |true=>SqL K H a xs
 |false=>SqT K H a xs
def ItB(b:Bool)(h:Heap)(j a:Addr)(i:Nat):Prop:=match b with
 |true=>h.IsListIter j a i
 |false=>h.IsTupleIter j a i
def SqB.inj(I:Inv X pins σ H s)(x:SqB X.K b H a xs)(y:SqB X.K b H a ys):xs=ys:=by
 cases b with
 |true=>exact I.list_inj x y
 |false=>exact I.tuple_inj x y
def IteE(K:W.Frag)(b:Bool)(a:Addr):It:=
 ⟨λi H=>∃xs x,SqB K b H a xs/\xs[i]?=some x,λi H x H'=>∃p u,x=.ref p/\H p=none/\H'=upd H p (.tup [.int (i:Nat),u])/\∀xs,SqB K b H a xs->xs[i]?=some u,λi H=>∃xs,SqB K b H a xs/\xs.length=i⟩
def me(z:ItB b h j a i):∃o,h.get? j=some o/\(∀v,o.data ≠ .cell v)/\o.cls=.type (if b then "list_iterator" else "tuple_iterator"):=by
 cases b with
 |true=>obtain⟨o,e,c,d⟩:=z;exact⟨o,e,(λv y=>by rw[d] at y;cases y),c⟩
 |false=>obtain⟨o,e,c,d⟩:=z;exact⟨o,e,(λv y=>by rw[d] at y;cases y),c⟩
def b8(z:ItB b h j a i)(k:∀o,h.get? j=some o->h'.get? j=some o):ItB b h' j a i:=by
 cases b with
 |true=>obtain⟨o,e,r⟩:=z;exact⟨o,k o e,r⟩
 |false=>obtain⟨o,e,r⟩:=z;exact⟨o,k o e,r⟩
def LsB(b:Bool)(h:Heap)(a:Addr)(its:Array Value):Prop:=match b with
 |true=>h.IsList a its
 |false=>h.IsTuple a its
def LsB.keep(z:LsB b h a its)(k:∀o,h.get? a=some o->h'.get? a=some o):LsB b h' a its:=by
 cases b <;> (obtain⟨o,e,r⟩:=z;exact⟨o,k o e,r⟩)
def xo(hj:ItB b s.heap j a n)(ht:LsB b s.heap a its)(hv:its[n]?=some v)
 (k:∀h',ItB b h' j a (n+1)->Heap.SameBut j s.heap h'->Q v { s with heap:=h' }):wpAny (model prog w) A (Builtin.SmallTypes.nextOf (.ref j)) Q E s:=by
 cases b with
 |true=>exact wpAny_nextOf_list_item hj ht hv k
 |false=>exact wO hj ht hv k
def qr(hh:A.handled=none)(hj:ItB b s.heap j a n)(ht:LsB b s.heap a its)(hv:its[n]?=none)
 (k:∀h' e,Heap.ExtBut j s.heap h'->(∃o,h'.get? e=some o/\o.cls=.type "StopIteration")->E (.ref e) { s with heap:=h' }):wpAny (model prog w) A (Builtin.SmallTypes.nextOf (.ref j)) Q E s:=by
 cases b with
 |true=>exact wpAny_nextOf_list_end hh hj ht hv k
 |false=>exact pD hh hj ht hv k
section
variable{prog:Program}{w:World}{A:Around}{E:Value->Shared->Prop}{s:Shared}{b1 b2:Bool}{z p q j1 j2 a1 a2:Addr}{n:Nat}{xs ys:Array Value}{x y u v:Value}
def zipN{Q:Value->Shared->Prop}(D:ZipApart z p q j1 j2 a1 a2)(hz:IsZip s.heap z p q .none)(hp:IsPair s.heap p (.ref j1) (.ref j2))(hq:IsPair s.heap q u v)
 (i1:ItB b1 s.heap j1 a1 n) (i2:ItB b2 s.heap j2 a2 n) (l1:LsB b1 s.heap a1 xs) (l2:LsB b2 s.heap a2 ys) (ex:xs[n]?=some x) (ey:ys[n]?=some y)
 (k:∀h',IsZip h' z p q (rawInt s.heap.objs.size)->IsPair h' q x y->ItB b1 h' j1 a1 (n+1)->ItB b2 h' j2 a2 (n+1)->IsPair h' s.heap.objs.size x y->(∀c o,c≠z->c≠q->c≠j1->c≠j2->s.heap.get? c=some o->h'.get? c=some o)->Q (.ref s.heap.objs.size) { s with heap:=h' }):
 wpAny (model prog w) A (Builtin.«zip.__next__» ⟨[.ref z],[]⟩) (λii s'=>∃v,ii=.done (.ret v)/\Q v s') E s:=by
 show wpAny _ _ (field (.ref z) 2 >>= _) _ _ _;refine Oa (O2 hz rfl (x:=.bool false) rfl ?_)
 show wpAny _ _ (field (.ref z) 3 >>= _) _ _ _;refine Oa (O2 hz rfl (x:=.ref p) rfl ?_)
 refine Oa (Py hp rfl ?_);show wpAny _ _ (Builtin.SmallTypes.ownedTupleIsFree (.ref z) >>= _) _ _ _
 refine Oa ?_;unfold Builtin.SmallTypes.ownedTupleIsFree
 refine Oa (O2 hz rfl (x:=.none) rfl (Ou ?_));simp only[Pl]
 refine Oa (wpAny_rule ?_);refine Oa (O2 hz rfl (x:=.ref q) rfl ?_)
 refine Oa (PF hz (by simp) λg1 (y1:IsZip g1 z p q .ellipsis) t1=>?_)
 refine Oa ?_;simp only[List.zipIdx_cons,List.zipIdx_nil,List.forIn_cons,List.forIn_nil]
 refine Oa (Oa (QY ?_));show wpAny _ _ (Builtin.SmallTypes.nextOf (.ref j1) >>= _) _ _ _
 refine Oa (xo (b8 i1 λo e=>t1.extBut _ _ D.i1z e) (l1.keep λo e=>t1.extBut _ _ D.l1z e) ex λg2 m1 t2=>Ou ?_)
 have q2:IsPair g2 q u v:=t2.extBut _ _ D.TOi1 (t1.extBut _ _ D.TOz hq)
 refine Oa (Py q2 rfl ?_);refine Oa (QR q2 λg3 (q3:IsPair g3 q x v) t3=>?_)
 refine Oa (wpAny_letGo (Ou ?_));refine Oa (Oa (QY ?_))
 show wpAny _ _ (Builtin.SmallTypes.nextOf (.ref j2) >>= _) _ _ _
 refine Oa (xo (b8 i2 λo e=>t3.extBut _ _ D.TOi2.symm (t2.extBut _ _ D.i12.symm (t1.extBut _ _ D.i2z e))) (l2.keep λo e=>t3.extBut _ _ D.l2TO (t2.extBut _ _ D.l2i1 (t1.extBut _ _ D.l2z e))) ey λg4 m2 t4=>Ou ?_)
 have q4:IsPair g4 q x v:=t4.extBut _ _ D.TOi2 q3
 refine Oa (Py q4 rfl ?_);refine Oa (QR q4 λg5 (q5:IsPair g5 q x y) t5=>?_)
 refine Oa (wpAny_letGo (Ou (Ou ?_)));refine Oa (Py q5 rfl ?_);refine Oa (wpAny_newTuple ?_)
 have sz:g5.objs.size=s.heap.objs.size:=by rw[t5.1,t4.1,t3.1,t2.1,t1.1]
 have y5:IsZip g5 z p q .ellipsis:=t5.extBut _ _ D.TOz.symm (t4.extBut _ _ D.i2z.symm (t3.extBut _ _ D.TOz.symm (t2.extBut _ _ D.i1z.symm y1)))
 have all5:∀c o,c≠z->c≠q->c≠j1->c≠j2->s.heap.get? c=some o->g5.get? c=some o:=λc o c1 c2 c3 c4 e=>t5.extBut _ _ c2 (t4.extBut _ _ c4 (t3.extBut _ _ c2 (t2.extBut _ _ c3 (t1.extBut _ _ c1 e))))
 have n1:ItB b1 g5 j1 a1 (n+1):=b8 m1 λo e=>t5.extBut _ _ D.TOi1.symm (t4.extBut _ _ D.i12 (t3.extBut _ _ D.TOi1.symm e))
 have n2:ItB b2 g5 j2 a2 (n+1):=b8 m2 λo e=>t5.extBut _ _ D.TOi2.symm e
 have zl:z<g5.objs.size:=Ot y5
 show wpAny _ _ (Builtin.SmallTypes.ownedTupleHandOut (.ref z) (.ref g5.objs.size) >>= _) _ _ _;refine Oa ?_;unfold Builtin.SmallTypes.ownedTupleHandOut
 have y6:IsZip (g5.push { cls:=.type "tuple",data:=.seq #[x,y] }) z p q .ellipsis:=Oo _ y5
 refine Oa (PF y6 (by simp) λg7 (y7:IsZip g7 z p q (rawInt g5.objs.size)) t7=>?_)
 refine PF y7 (by simp) λg8 (y8:IsZip g8 z p q (rawInt g5.objs.size)) t8=>?_
 have up:∀c o,c≠z->g5.get? c=some o->g8.get? c=some o:=λc o c1 e=>t8.extBut _ _ c1 (t7.extBut _ _ c1 (Oo _ e))
 have w8:IsPair g8 g5.objs.size x y:=t8.extBut _ _ (Qn zl) (t7.extBut _ _ (Qn zl) (OD _ rfl))
 rw[sz] at y8 w8
 refine Ou ⟨_,rfl,?_⟩
 show Q (.ref g5.objs.size) _;rw[sz]
 exact k g8 y8 (up _ _ D.TOz q5) (b8 n1 λo e=>up _ o D.i1z e) (b8 n2 λo e=>up _ o D.i2z e) w8 λc o c1 c2 c3 c4 e=>up c o c1 (all5 c o c1 c2 c3 c4 e)
def A5(hh:A.handled=none)(D:ZipApart z p q j1 j2 a1 a2)(hz:IsZip s.heap z p q .none)(hp:IsPair s.heap p (.ref j1) (.ref j2))(hq:IsPair s.heap q u v)
 (i1:ItB b1 s.heap j1 a1 n) (i2:ItB b2 s.heap j2 a2 n) (l1:LsB b1 s.heap a1 xs) (l2:LsB b2 s.heap a2 ys) (en:xs[n]?=none\/ys[n]?=none)
 (k:∀h' e,(∀c o,c≠z->c≠q->c≠j1->c≠j2->s.heap.get? c=some o->h'.get? c=some o)->(∃o,h'.get? e=some o/\o.cls=.type "StopIteration")->E (.ref e) { s with heap:=h' }):wpAny (model prog w) A (Builtin.«zip.__next__» ⟨[.ref z],[]⟩) Q E s:=by
 show wpAny _ _ (field (.ref z) 2 >>= _) _ _ _;refine Oa (O2 hz rfl (x:=.bool false) rfl ?_)
 show wpAny _ _ (field (.ref z) 3 >>= _) _ _ _;refine Oa (O2 hz rfl (x:=.ref p) rfl ?_)
 refine Oa (Py hp rfl ?_);show wpAny _ _ (Builtin.SmallTypes.ownedTupleIsFree (.ref z) >>= _) _ _ _
 refine Oa ?_;unfold Builtin.SmallTypes.ownedTupleIsFree
 refine Oa (O2 hz rfl (x:=.none) rfl (Ou ?_));simp only[Pl]
 refine Oa (wpAny_rule ?_);refine Oa (O2 hz rfl (x:=.ref q) rfl ?_)
 refine Oa (PF hz (by simp) λg1 (y1:IsZip g1 z p q .ellipsis) t1=>?_)
 refine Oa ?_;simp only[List.zipIdx_cons,List.zipIdx_nil,List.forIn_cons,List.forIn_nil]
 refine Oa (Oa (QY ?_));show wpAny _ _ (Builtin.SmallTypes.nextOf (.ref j1) >>= _) _ _ _
 cases ex:xs[n]? with
 |
  none=>
  refine Oa (qr hh (b8 i1 λo e=>t1.extBut _ _ D.i1z e) (l1.keep λo e=>t1.extBut _ _ D.l1z e) ex λg2 e t2 ⟨oe,he,ce⟩=>?_)
  have y2:IsZip g2 z p q .ellipsis:=t2 _ _ D.i1z.symm y1
  have ez:e≠z:=λw=>by subst w;rw[y2] at he;cases he;simp at ce
  exact PF y2 (by simp) λg3 _ t3=>k g3 e (λc o c1 _ c3 _ w=>t3.extBut _ _ c1 (t2 _ _ c3 (t1.extBut _ _ c1 w))) ⟨oe,t3.extBut _ _ ez he,ce⟩
 |
  some x=>
  have ey:ys[n]?=none:=en.resolve_left λw=>by rw[ex] at w;cases w
  refine Oa (xo (b8 i1 λo e=>t1.extBut _ _ D.i1z e) (l1.keep λo e=>t1.extBut _ _ D.l1z e) ex λg2 m1 t2=>Ou ?_)
  have q2:IsPair g2 q u v:=t2.extBut _ _ D.TOi1 (t1.extBut _ _ D.TOz hq)
  refine Oa (Py q2 rfl ?_);refine Oa (QR q2 λg3 q3 t3=>?_);refine Oa (wpAny_letGo (Ou ?_))
  refine Oa (Oa (QY ?_));show wpAny _ _ (Builtin.SmallTypes.nextOf (.ref j2) >>= _) _ _ _
  refine Oa (qr hh (b8 i2 λo e=>t3.extBut _ _ D.TOi2.symm (t2.extBut _ _ D.i12.symm (t1.extBut _ _ D.i2z e))) (l2.keep λo e=>t3.extBut _ _ D.l2TO (t2.extBut _ _ D.l2i1 (t1.extBut _ _ D.l2z e))) ey λg4 e t4 ⟨oe,he,ce⟩=>?_)
  have y4:IsZip g4 z p q .ellipsis:=t4 _ _ D.i2z.symm (t3.extBut _ _ D.TOz.symm (t2.extBut _ _ D.i1z.symm y1))
  have ez:e≠z:=λw=>by subst w;rw[y4] at he;cases he;simp at ce
  exact PF y4 (by simp) λg5 _ t5=>k g5 e (λc o c1 c2 c3 c4 w=>t5.extBut _ _ c1 (t4 _ _ c4 (t3.extBut _ _ c2 (t2.extBut _ _ c3 (t1.extBut _ _ c1 w))))) ⟨oe,t5.extBut _ _ ez he,ce⟩
end
end L2
namespace L2
open PySem PySem.Spec PyProof.Rows
def Au(b:Bool):String:=if b then "list_iterator" else "tuple_iterator"
def vj(h:LsB b s.heap a its)(k:Q (.ref s.heap.objs.size) { s with heap:=s.heap.push { cls:=.type (Au b),data:=.fields #[.ref a,.int 0 0] } }):wpAny (model prog w) A (pyIter (.ref a)) Q E s:=by
 cases b with
 |true=>exact wpAny_pyIter_list h k
 |false=>exact wpAny_pyIter_tuple h k
abbrev zp1(h:Heap)(b:Bool)(a:Addr):Heap:=h.push { cls:=.type (Au b),data:=.fields #[.ref a,.int 0 0] }
abbrev zp2(h:Heap)(b c:Bool)(a d:Addr):Heap:=zp1 (zp1 h b a) c d
abbrev zp3(h:Heap)(b c:Bool)(a d:Addr):Heap:=(zp2 h b c a d).push { cls:=.type "tuple",data:=.seq #[.ref h.objs.size,.ref (zp1 h b a).objs.size] }
abbrev zp4(h:Heap)(b c:Bool)(a d:Addr):Heap:=(zp3 h b c a d).push { cls:=.type "tuple",data:=.seq #[.none,.none] }
abbrev zp5(h:Heap)(b c:Bool)(a d:Addr):Heap:=(zp4 h b c a d).push { cls:=.type "zip",data:=.fields #[.none,.bool false,.bool false,.ref (zp2 h b c a d).objs.size,.ref (zp3 h b c a d).objs.size] }
def Br(b c:Bool)(a d:Addr)(xs ys:Array Value):Meets (Builtin.«zip.__new__» ⟨[.type "zip",.ref a,.ref d],[]⟩) (λ_ R s=>LsB b s.heap a xs/\LsB c s.heap d ys/\R (.ok (.ret (.ref (zp4 s.heap b c a d).objs.size))) { s with heap:=zp5 s.heap b c a d }):=
 .of_wp λprog w A R s h=>by
  obtain⟨hp,g,dr,tk,os⟩:=s;obtain⟨la,ld,h⟩:=h
  have im:=sub_zip
  have L1:LsB b (Shared.heap ⟨hp,g,dr,tk,os⟩) a xs:=la
  have L2':LsB c (Shared.heap ⟨hp.push { cls:=.type (Au b),data:=.fields #[.ref a,.int 0 0] },g,dr,tk,os⟩) d ys:=ld.keep λo e=>Oo _ e
  wp_walk using vj L1,vj L2'
  exact⟨_,rfl,h⟩
def yI(la:LsB b s.heap a xs)(ld:LsB c s.heap d ys)
 (k:∀h',IsZip h' (s.heap.objs.size+4) (s.heap.objs.size+2) (s.heap.objs.size+3) .none->IsPair h' (s.heap.objs.size+2) (.ref s.heap.objs.size) (.ref (s.heap.objs.size+1))->IsPair h' (s.heap.objs.size+3) .none .none->
  ItB b h' s.heap.objs.size a 0->ItB c h' (s.heap.objs.size+1) d 0->(∀c o,s.heap.get? c=some o->h'.get? c=some o)->Q (.ref (s.heap.objs.size+4)) { s with heap:=h' }):wpAny (model prog w) A (call (.type "zip") [.ref a,.ref d]) Q E s:=by
 refine callType_new F.called_zip (by decide) (F.typeCall_zip_2 _ _) (F.newCall_zip_2 _ _) (λobj=>F.args_object_init_3 obj _ _) F.entry_zip_new (Br b c a d xs ys) ⟨la,ld,?_⟩
 have n1:(zp1 s.heap b a).objs.size=s.heap.objs.size+1:=Qs ..
 have n2:(zp2 s.heap b c a d).objs.size=s.heap.objs.size+2:=by rw[Qs,n1]
 have n3:(zp3 s.heap b c a d).objs.size=s.heap.objs.size+3:=by rw[Qs,n2]
 have n4:(zp4 s.heap b c a d).objs.size=s.heap.objs.size+4:=by rw[Qs,n3]
 have up:=λ{h:Heap}{x:Addr}{o:Obj} (o':Obj) (e:h.get? x=some o)=>Oo o' e
 have e5:(zp5 s.heap b c a d).get? (zp4 s.heap b c a d).objs.size=some _:=OD _ rfl
 have e4:(zp5 s.heap b c a d).get? (zp3 s.heap b c a d).objs.size=some _:=up _ (OD _ rfl)
 have e3:(zp5 s.heap b c a d).get? (zp2 s.heap b c a d).objs.size=some _:=up _ (up _ (OD _ rfl))
 have e2:(zp5 s.heap b c a d).get? (zp1 s.heap b a).objs.size=some _:=up _ (up _ (up _ (OD _ rfl)))
 have e1:(zp5 s.heap b c a d).get? s.heap.objs.size=some _:=up _ (up _ (up _ (up _ (OD _ rfl))))
 show _/\_
 rw[n2,n3,n4] at e5;rw[n1,n2] at e3;rw[n3] at e4;rw[n1] at e2;rw[n4]
 have i1:ItB b (zp5 s.heap b c a d) s.heap.objs.size a 0:=by cases b <;> exact⟨_,e1,rfl,rfl⟩
 have i2:ItB c (zp5 s.heap b c a d) (s.heap.objs.size+1) d 0:=by cases c <;> exact⟨_,e2,rfl,rfl⟩
 exact⟨⟨_,e5,rfl⟩,k _ e5 e3 e4 i1 i2 λx o e=>up _ (up _ (up _ (up _ (up _ e))))⟩
def ItZ(K:W.Frag)(b c:Bool)(a d:Addr):It:=
 ⟨λi H=>∃xs ys x y,SqB K b H a xs/\SqB K c H d ys/\xs[i]?=some x/\ys[i]?=some y,
  λi H x H'=>∃p u v,x=.ref p/\H p=none/\H'=upd H p (.tup [u,v])/\(∀xs,SqB K b H a xs->xs[i]?=some u)/\∀ys,SqB K c H d ys->ys[i]?=some v,
  λi H=>∃xs ys,SqB K b H a xs/\SqB K c H d ys/\(xs[i]?=none\/ys[i]?=none)⟩
def kf(I:Inv X pins σ H s)(hq:SqB X.K b H a xs):∃its:List Value,Vals xs its/\LsB b s.heap a its.toArray:=by
 cases b with
 |true=>obtain⟨its,rv,p,_⟩:=I.list hq;exact⟨its,rv,p.isList⟩
 |false=>obtain⟨its,rv,p,_⟩:=I.tuple hq;exact⟨its,rv,p⟩
def Ao{P:Program}{w:World}{K:W.Frag}{elts:List Expr}{x1:Nat}{tp:Pos}(b c:Bool)(a d z p q j1 j2:Addr)(D:ZipApart z p q j1 j2 a d):
 Turn P w K (.Tuple elts x1 tp) (ItZ K b c a d) [z,p,q,j1,j2] z (λi h=>IsZip h z p q .none/\IsPair h p (.ref j1) (.ref j2)/\(∃u v,IsPair h q u v)/\ItB b h j1 a i/\ItB c h j2 d i) where
 mem:=by simp
 obj:=λi h st e he=>by
  obtain⟨s1,s2,⟨u,v,s3⟩,s4,s5⟩:=st
  obtain⟨o4,k4,l4,_⟩:=me s4
  obtain⟨o5,k5,l5,_⟩:=me s5
  simp only[Oy,List.not_mem_nil,or_false] at he
  rcases he with rfl |rfl |rfl |rfl |rfl
  ·exact⟨_,s1,λv y=>by cases y⟩
  ·exact⟨_,s2,λv y=>by cases y⟩
  ·exact⟨_,s3,λv y=>by cases y⟩
  ·exact⟨o4,k4,l4⟩
  ·exact⟨o5,k5,l5⟩
 keep:=λi h h' st k=>by
  obtain⟨s1,s2,⟨u,v,s3⟩,s4,s5⟩:=st
  exact⟨k z (by simp) _ s1,k p (by simp) _ s2,⟨u,v,k q (by simp) _ s3⟩,b8 s4 λo e=>k j1 (by simp) o e,b8 s5 λo e=>k j2 (by simp) o e⟩
 item:=
  by
  intro X hP hw hK hc i pins s σ H E I hf st hg
  subst hP hw hK
  obtain⟨xs,ys,x,y,qx,qy,ex,ey⟩:=hg
  obtain⟨s1,s2,⟨u,v,s3⟩,s4,s5⟩:=st
  obtain⟨ix,rx,lx⟩:=kf I qx
  obtain⟨iy,ry,ly⟩:=kf I qy
  obtain⟨ux,hux,rux⟩:=rx.get ex
  obtain⟨uy,huy,ruy⟩:=ry.get ey
  have hTy:s.TypeIs (.ref z) "zip":=⟨_,s1,rfl⟩
  have zl:=Ot s1
  have pl:=Ot s2
  have ql:=Ot s3
  obtain⟨o4,k4,_,_⟩:=me s4
  obtain⟨o5,k5,_,_⟩:=me s5
  have j1l:=Ot k4
  have j2l:=Ot k5
  unfold pyNext
  refine Oa (QX (Pu (name:=Str.ofString "__next__") hTy QG (Qe QG hTy F.entry_zip_next (zipN D s1 s2 s3 s4 s5 lx ly (by simpa using hux) (by simpa using huy) λh' y1 y3 y4 y5 yT hk=>Ou ?_) (F.args_zip_next_1 _))))
  refine⟨_,rfl,wpAny_letOwnedTupleGo_zip (s:={ s with heap:=h' }) y1 λh2 z2 sb=>?_⟩
  have sb':Heap.SameBut z h' h2:=sb
  have hT:H s.heap.objs.size=none:=I.hok.fresh (Og _)
  have I1:Inv X pins σ (upd H s.heap.objs.size (.tup [x,y])) { s with heap:=s.heap.push { cls:=.type "tuple",data:=.seq #[ux,uy] },toks:=s.toks }:=
   I.laid (t':=s.toks) (λc o q=>Oo _ q) (Og _) ⟨by show 2<=sizeLine;decide,[ux,uy],.cons rux (.cons ruy .nil),⟨_,OD _ rfl,rfl,_,rfl⟩⟩
  have fp':∀e∈[z,p,q,j1,j2],FpOk X pins (upd H s.heap.objs.size (.tup [x,y])) e:=λe he=>by
   have:=hf e he
   simp only[Oy,List.not_mem_nil,or_false] at he
   rcases he with rfl |rfl |rfl |rfl |rfl
   ·exact this.up (OM zl)
   ·exact this.up (OM pl)
   ·exact this.up (OM ql)
   ·exact this.up (OM j1l)
   ·exact this.up (OM j2l)
  have I2:Inv X pins σ (upd H s.heap.objs.size (.tup [x,y])) { s with heap:=h2,toks:=s.toks }:=
   Inv.turnedL (s:={ s with heap:=s.heap.push { cls:=.type "tuple",data:=.seq #[ux,uy] },toks:=s.toks }) (ch:=[z,p,q,j1,j2]) (t':=s.toks) I1 (λe o he qe=>by
    have c1:e≠z:=λw=>he (by simp [w])
    have c2:e≠q:=λw=>he (by simp [w])
    have c3:e≠j1:=λw=>he (by simp [w])
    have c4:e≠j2:=λw=>he (by simp [w])
    rw[sb'.2 e c1]
    have q':(s.heap.push { cls:=.type "tuple",data:=.seq #[ux,uy] }).get? e=some o:=qe
    by_cases w:e=s.heap.objs.size
    ·subst w
     rw[OD _ rfl] at q'
     cases q'
     exact yT
    ·rw[Heap.get?_push_ne _ _ _ w] at q'
     exact hk e o c1 c2 c3 c4 q') fp'
  refine⟨.ref s.heap.objs.size,_,I2,rfl,⟨_,x,y,rfl,hT,rfl,λzs hz=>by rw[SqB.inj I hz qx];exact ex,λzs hz=>by rw[SqB.inj I hz qy];exact ey⟩,⟨z2,?_,⟨ux,uy,?_⟩,b8 y4 λo e=>(sb'.2 j1 D.i1z).trans e,b8 y5 λo e=>(sb'.2 j2 D.i2z).trans e⟩,λe he=>(fp' e he).1⟩
  ·exact (sb'.2 p D.TIz).trans (hk p _ D.TIz D.TITO D.TIi1 D.TIi2 s2)
  ·exact (sb'.2 q D.TOz).trans y3
 done:=by
  intro X hP hw hK hc i pins s σ H E I hf st hg
  subst hP hw hK
  obtain⟨xs,ys,qx,qy,en⟩:=hg
  obtain⟨s1,s2,⟨u,v,s3⟩,s4,s5⟩:=st
  obtain⟨ix,rx,lx⟩:=kf I qx
  obtain⟨iy,ry,ly⟩:=kf I qy
  have hTy:s.TypeIs (.ref z) "zip":=⟨_,s1,rfl⟩
  have en':ix.toArray[i]?=none\/iy.toArray[i]?=none:=by
   rcases en with e |e
   ·left;rw[Pm] at e;simp;rw[<- rx.length];exact e
   ·right;rw[Pm] at e;simp;rw[<- ry.length];exact e
  unfold pyNext
  refine Oa (QX (Pu (name:=Str.ofString "__next__") hTy QG (Qe QG hTy F.entry_zip_next (A5 (I.ok.hd hc) D s1 s2 s3 s4 s5 lx ly en' λh' e hk ⟨o,ho,co⟩=>?_) (F.args_zip_next_1 _))))
  refine Oa (wpAny_isInstance (T:="StopIteration") (b:=true) ⟨o,ho,co⟩ isSubtype_stop (Ou ⟨rfl,?_⟩))
  exact Inv.turnedL (ch:=[z,p,q,j1,j2]) (t':=s.toks) I (λe o he qe=>hk e o (λw=>he (by simp [w])) (λw=>he (by simp [w])) (λw=>he (by simp [w])) (λw=>he (by simp [w])) qe) hf
 self:=λ_ _ _ _ _ st h=>wpAny_pyIter_zip st.1 h
def zu:bootBuiltins "zip"=some (.type "zip"):=by decide
def Jf(hg:Gl X "zip")(hm:X.mg "zip"=none)(ha:PA X [l,m] tl)(hs:starEach [l,m] X.env=[(false,eval l X.env),(false,eval m X.env)]:=by rfl)(hs2:starEach [m] X.env=[(false,eval m X.env)]:=by rfl):
 PI X (.Tuple elts x1 tp) (.Call (.Name "zip" p) [l,m] [] pos) (λσ H R=>tl σ H λvs H1=>∃(b c:Bool) (a d:Addr) (xs ys:List V),vs=[.ref a,.ref d]/\SqB X.K b H1 a xs/\SqB X.K c H1 d ys/\R (ItZ X.K b c a d) H1):=by
 intro pins s σ H R I h
 refine Call_ (j8 I hg hm zu (P_ (thn (ha pos pins s σ H _ I h) λus s1 ⟨vs,H1,I1,r1,q1⟩=>?_) (by rw[hs,hs2]) (by rw[hs2];rfl)))
 obtain⟨b,c,a,d,xs,ys,e,qx,qy,q⟩:=q1
 subst e
 cases r1 with
 |
  cons r rr=>
  cases rr with
  |
   cons r' rr=>
   cases rr
   cases r
   cases r'
   obtain⟨ix,rx,lx⟩:=kf I1 qx
   obtain⟨iy,ry,ly⟩:=kf I1 qy
   have la:a<s1.heap.objs.size:=by cases b <;> (obtain⟨o,e,_⟩:=lx;exact Ot e)
   have ld:d<s1.heap.objs.size:=by cases c <;> (obtain⟨o,e,_⟩:=ly;exact Ot e)
   refine yI lx ly λh' y1 y2 y3 y4 y5 hk=>wpAny_pyIter_zip y1 ⟨s1.heap.objs.size+4,[s1.heap.objs.size+4,s1.heap.objs.size+2,s1.heap.objs.size+3,s1.heap.objs.size,s1.heap.objs.size+1],_,_,H1,rfl,I1.kept (t':=s1.toks) λc o z=>hk c o z,Ao b c a d _ _ _ _ _ (W.ktu_apart _ _ _ la ld),⟨y1,y2,⟨_,_,y3⟩,y4,y5⟩,λe he=>?_,q⟩
   have hge:s1.heap.objs.size<=e:=by
    simp only[Oy,List.not_mem_nil,or_false] at he
    rcases he with rfl |rfl |rfl |rfl |rfl
    ·exact QE _ _
    ·exact QE _ _
    ·exact QE _ _
    ·exact Og _
    ·exact QE _ _
   exact I1.fpOk hge (I1.hok.fresh hge)
end L2
namespace L2
open PySem PySem.Spec PyProof.Rows
inductive D where
 |non |bl (b:Bool) |int (i:Int) |str (x:Str) |ty (n:String) |glb (x:Str) |exc (x:Str) |tup (xs:List D) |ref (n:Nat) |kl (xs:List D)
 deriving Inhabited
inductive Ob where
 |lst (xs:List D) |fz (xs:List D) |set (xs:List Int) |dct (kvs:List (Key×D)) |any
 deriving Inhabited
abbrev AH:=List Ob
abbrev AE:=List (Option D)
inductive R(α:Type) where
 |ok (a:α) (h:AH) |exc (c:Str) (h:AH) |stuck
inductive SR where
 |nx (ae:AE) (h:AH) |rt (d:D) (h:AH) |bk (ae:AE) (h:AH) |ct (ae:AE) (h:AH) |exc (c:Str) (ae:AE) (h:AH) |stuck
abbrev ME:=AE->AH->R D
abbrev MT:=AE->AH->R Bool
abbrev MA:=AE->AH->R (List D)
abbrev MS:=AE->AH->SR
abbrev Fn:=List D->AH->R D
def R.bind{α β:Type}(r:R α)(f:α->AH->R β):R β:=match r with
 |.ok a h=>f a h
 |.exc c h=>.exc c h
 |.stuck=>.stuck
section
variable(K:W.Frag)(mg:Str->Option Value)
mutual
inductive RelD(ρ:List Addr)(H:Hp):D->V->Prop where
 |non:RelD ρ H .non .non
 |bl (b:Bool):RelD ρ H (.bl b) (.bl b)
 |int (i:Int):RelD ρ H (.int i) (.int i)
 |str (x:Str):RelD ρ H (.str x) (.str x)
 |ty (n:String):RelD ρ H (.ty n) (.ty n)
 |glb {x:Str}{a:Addr} (m:mg x=some (.ref a)):RelD ρ H (.glb x) (.ref a)
 |exc {x:Str}{a C:Addr} (m:mg x=some (.ref C)) (e:H a=some (.ext (AG a C))):RelD ρ H (.exc x) (.ref a)
 |tup {p:Addr}{vs:List V}{ds:List D} (h:SqT K H p vs) (r:RelDs ρ H ds vs):RelD ρ H (.tup ds) (.ref p)
 |ref {n:Nat}{a:Addr} (e:ρ[n]?=some a):RelD ρ H (.ref n) (.ref a)
 |kl {a:Addr}{vs:List V}{ds:List D} (h:∃(o:Obj) (its:Array Value) (n:Nat),K.lookup a=some o/\o.cls=.type "list" /\ o.dict=none/\o.data=.seq its n/\its.size<=sizeLine/\Vals vs its.toList) (r:RelDs ρ H ds vs):RelD ρ H (.kl ds) (.ref a)
inductive RelDs(ρ:List Addr)(H:Hp):List D->List V->Prop where
 |nil:RelDs ρ H [] []
 |cons {d:D}{v:V}{ds:List D}{vs:List V} (r:RelD ρ H d v) (rr:RelDs ρ H ds vs):RelDs ρ H (d::ds) (v::vs)
end
structure Le(ρ:List Addr)(H:Hp)(ρ':List Addr)(H':Hp):Prop where
 pre:∀(n:Nat) (a:Addr),ρ[n]?=some a->ρ'[n]?=some a
 tup:∀b xs,H b=some (.tup xs)->H' b=some (.tup xs)
 frz:∀b o u,H b=some (.frz o u)->H' b=some (.frz o u)
 ext:∀b φ,H b=some (.ext φ)->H' b=some (.ext φ)
def ObR(ρ:List Addr)(H:Hp)(a:Addr):Ob->Prop
 |.lst ds=>∃vs,H a=some (.lst vs)/\RelDs K mg ρ H ds vs
 |.fz ds=>∃o vs,H a=some (.frz o (.lst vs))/\RelDs K mg ρ H ds vs
 |.set xs=>xs.Nodup/\H a=some (.set (λi=>decide (i∈xs)) xs.length)
 |.dct kvs=>∃ws,H a=some (.dK ws)/\ws.map (·.1)=kvs.map (·.1)/\RelDs K mg ρ H (kvs.map (·.2)) (ws.map (·.2))
 |.any=>∃o,H a=some o
structure Wd(ρ:List Addr)(h:AH)(H:Hp):Prop where
 len:ρ.length=h.length
 nd:ρ.Nodup
 ob:∀(n:Nat) (a:Addr) (o:Ob),ρ[n]?=some a->h[n]?=some o->ObR K mg ρ H a o
structure RelE(ρ:List Addr)(H:Hp)(ae:AE)(σ:St):Prop where
 len:ae.length=σ.length
 at_:∀(i:Nat) (d:D),ae[i]?=some (some d)->∃v,σ[i]?=some (some v)/\RelD K mg ρ H d v
def PostG{α:Type}(ρ:List Addr)(H:Hp)(E:XK)(k:α->AH->List Addr->Hp->Prop):R α->Prop
 |.ok a h=>∀ρ' H',Le ρ H ρ' H'->Wd K mg ρ' h H'->k a h ρ' H'
 |.exc c h=>∀ρ' H' C,Le ρ H ρ' H'->Wd K mg ρ' h H'->mg c=some (.ref C)->E (.ref C) none H'
 |.stuck=>False
abbrev eE(ρ:List Addr)(H:Hp)(Q:VK)(E:XK)(r:R D):Prop:=PostG K mg ρ H E (λd _ ρ' H'=>∀v,RelD K mg ρ' H' d v->Q v H') r
abbrev CL(ρ:List Addr)(H:Hp)(Q:Bool->Hp->Prop)(E:XK)(r:R Bool):Prop:=PostG K mg ρ H E (λb _ ρ' H'=>Q b H') r
abbrev Cw(ρ:List Addr)(H:Hp)(Q:List V->Hp->Prop)(E:XK)(r:R (List D)):Prop:=PostG K mg ρ H E (λd _ ρ' H'=>∀vs,RelDs K mg ρ' H' d vs->Q vs H') r
def PostS(ρ:List Addr)(H:Hp)(D:Ends)(ES:St->XK):SR->Prop
 |.nx ae h=>∀ρ' H' σ',Le ρ H ρ' H'->Wd K mg ρ' h H'->RelE K mg ρ' H' ae σ'->D.nx σ' H'
 |.bk ae h=>∀ρ' H' σ',Le ρ H ρ' H'->Wd K mg ρ' h H'->RelE K mg ρ' H' ae σ'->D.bk σ' H'
 |.ct ae h=>∀ρ' H' σ',Le ρ H ρ' H'->Wd K mg ρ' h H'->RelE K mg ρ' H' ae σ'->D.ct σ' H'
 |.rt d h=>∀ρ' H' v,Le ρ H ρ' H'->Wd K mg ρ' h H'->RelD K mg ρ' H' d v->D.rt v H'
 |.exc c ae h=>∀ρ' H' σ' C,Le ρ H ρ' H'->Wd K mg ρ' h H'->RelE K mg ρ' H' ae σ'->mg c=some (.ref C)->ES σ' (.ref C) none H'
 |.stuck=>False
def rdE(ES:St->XK)(F:ME):TE:=λσ H Q=>∃ρ h ae,Wd K mg ρ h H/\RelE K mg ρ H ae σ/\eE K mg ρ H Q (ES σ) (F ae h)
def rdT(ES:St->XK)(F:MT):TT:=λσ H Q=>∃ρ h ae,Wd K mg ρ h H/\RelE K mg ρ H ae σ/\CL K mg ρ H Q (ES σ) (F ae h)
def rdA(ES:St->XK)(F:MA):TA:=λσ H Q=>∃ρ h ae,Wd K mg ρ h H/\RelE K mg ρ H ae σ/\Cw K mg ρ H Q (ES σ) (F ae h)
def rdS(ES:St->XK)(F:MS):TS:=λD σ H=>∃ρ h ae,Wd K mg ρ h H/\RelE K mg ρ H ae σ/\PostS K mg ρ H D ES (F ae h)
def spD(n:Nat)(S:Fn):Sp:=λvs H Q E=>∃ρ h ds,Wd K mg ρ h H/\RelDs K mg ρ H ds vs/\ds.length=n/\eE K mg ρ H Q E (S ds h)
end
def rdE.el{K:W.Frag}{mg:Str->Option Value}{ES:St->XK}{F:ME}{σ:St}{H:Hp}{Q:VK}{C:Prop}(q:rdE K mg ES F σ H Q)(k:∀ρ h ae,Wd K mg ρ h H->RelE K mg ρ H ae σ->eE K mg ρ H Q (ES σ) (F ae h)->C):C:=by
 obtain⟨ρ,h,ae,w,re,p⟩:=q
 exact k ρ h ae w re p
def rdT.el{K:W.Frag}{mg:Str->Option Value}{ES:St->XK}{F:MT}{σ:St}{H:Hp}{Q:Bool->Hp->Prop}{C:Prop}(q:rdT K mg ES F σ H Q)(k:∀ρ h ae,Wd K mg ρ h H->RelE K mg ρ H ae σ->CL K mg ρ H Q (ES σ) (F ae h)->C):C:=by
 obtain⟨ρ,h,ae,w,re,p⟩:=q
 exact k ρ h ae w re p
def rdA.el{K:W.Frag}{mg:Str->Option Value}{ES:St->XK}{F:MA}{σ:St}{H:Hp}{Q:List V->Hp->Prop}{C:Prop}(q:rdA K mg ES F σ H Q)(k:∀ρ h ae,Wd K mg ρ h H->RelE K mg ρ H ae σ->Cw K mg ρ H Q (ES σ) (F ae h)->C):C:=by
 obtain⟨ρ,h,ae,w,re,p⟩:=q
 exact k ρ h ae w re p
def rdS.el{K:W.Frag}{mg:Str->Option Value}{ES:St->XK}{F:MS}{σ:St}{H:Hp}{De:Ends}{C:Prop}(q:rdS K mg ES F De σ H)(k:∀ρ h ae,Wd K mg ρ h H->RelE K mg ρ H ae σ->PostS K mg ρ H De ES (F ae h)->C):C:=by
 obtain⟨ρ,h,ae,w,re,p⟩:=q
 exact k ρ h ae w re p
section
variable{K:W.Frag}{mg:Str->Option Value}{ρ ρ' ρ1:List Addr}{H H' H1:Hp}{h h':AH}{ae:AE}{σ:St}
def Le.refl:Le ρ H ρ H:=⟨λ_ _ e=>e,λ_ _ e=>e,λ_ _ _ e=>e,λ_ _ e=>e⟩
def Le.trans(a:Le ρ H ρ1 H1)(b:Le ρ1 H1 ρ' H'):Le ρ H ρ' H':=
 ⟨λn x e=>b.pre n x (a.pre n x e),λx y e=>b.tup x y (a.tup x y e),λx y z e=>b.frz x y z (a.frz x y z e),λx y e=>b.ext x y (a.ext x y e)⟩
def Le.sqT(l:Le ρ H ρ' H')(q:SqT K H a xs):SqT K H' a xs:=by
 rcases q with (q |⟨o,q⟩) |q
 ·exact .inl (.inl (l.tup _ _ q))
 ·exact .inl (.inr ⟨o,l.frz _ _ _ q⟩)
 ·exact .inr q
def RelD.mono(l:Le ρ H ρ' H')(r:RelD K mg ρ H d v):RelD K mg ρ' H' d v:=
 RelD.rec (motive_1:=λd v _=>RelD K mg ρ' H' d v) (motive_2:=λds vs _=>RelDs K mg ρ' H' ds vs) .non (λb=>.bl b) (λi=>.int i) (λx=>.str x) (λn=>.ty n) (λm=>.glb m) (λm e=>.exc m (l.ext _ _ e)) (λh _ ih=>.tup (l.sqT h) ih) (λe=>.ref (l.pre _ _ e)) (λh _ ih=>.kl h ih) .nil (λ_ _ a b=>.cons a b) r
def RelDs.ind{M:List D->List V->Prop}(h0:M [] [])(h1:∀{d v ds vs},RelD K mg ρ H d v->RelDs K mg ρ H ds vs->M ds vs->M (d::ds) (v::vs)){ds:List D}{vs:List V}(r:RelDs K mg ρ H ds vs):M ds vs:=by
 induction ds generalizing vs with
 |nil=>cases r;exact h0
 |
  cons d ds ih=>
  cases r with
  |cons r rr=>exact h1 r rr (ih rr)
def RelDs.mono(l:Le ρ H ρ' H'){ds:List D}{vs:List V}(r:RelDs K mg ρ H ds vs):RelDs K mg ρ' H' ds vs:=r.ind .nil λr _ ih=>.cons (r.mono l) ih
def RelDs.len{ds:List D}{vs:List V}(r:RelDs K mg ρ H ds vs):ds.length=vs.length:=r.ind (M:=λds vs=>ds.length=vs.length) rfl λ_ _ ih=>Pb (· + 1) ih
def RelDs.getD{ds:List D}{vs:List V}{i:Nat}{d:D}(r:RelDs K mg ρ H ds vs)(e:ds[i]?=some d):∃v,vs[i]?=some v/\RelD K mg ρ H d v:=
 r.ind (M:=λds vs=>∀i,ds[i]?=some d->∃v,vs[i]?=some v/\RelD K mg ρ H d v) (λ_ e=>by rw[Qx] at e;cases e) (λr _ ih i e=>match i,e with
  |0,e=>by cases e;exact⟨_,rfl,r⟩
  |i+1,e=>ih i e) i e
def RelDs.append{ds es:List D}{vs ws:List V}(r:RelDs K mg ρ H ds vs)(q:RelDs K mg ρ H es ws):RelDs K mg ρ H (ds++es) (vs++ws):=r.ind (M:=λds vs=>RelDs K mg ρ H (ds++es) (vs++ws)) q λr _ ih=>.cons r ih
def RelDs.take{ds:List D}{vs:List V}(n:Nat)(r:RelDs K mg ρ H ds vs):RelDs K mg ρ H (ds.take n) (vs.take n):=
 r.ind (M:=λds vs=>∀n:Nat,RelDs K mg ρ H (ds.take n) (vs.take n)) (λn=>by rw[P0,P0];exact .nil) (λr _ ih n=>by cases n with |zero=>exact .nil |succ n=>exact .cons r (ih n)) n
def RelDs.drop{ds:List D}{vs:List V}(n:Nat)(r:RelDs K mg ρ H ds vs):RelDs K mg ρ H (ds.drop n) (vs.drop n):=
 r.ind (M:=λds vs=>∀n:Nat,RelDs K mg ρ H (ds.drop n) (vs.drop n)) (λn=>by rw[Qh,Qh];exact .nil) (λr rr ih n=>by cases n with |zero=>exact .cons r rr |succ n=>exact ih n) n
def RelDs.set{d:D}{v:V}(r:RelD K mg ρ H d v){ds:List D}{vs:List V}(i:Nat)(q:RelDs K mg ρ H ds vs):RelDs K mg ρ H (ds.set i d) (vs.set i v):=
 q.ind (M:=λds vs=>∀i:Nat,RelDs K mg ρ H (ds.set i d) (vs.set i v)) (λ_=>.nil) (λq qq ih i=>by cases i with |zero=>exact .cons r qq |succ i=>exact .cons q (ih i)) i
def RelDs.reverse(r:RelDs K mg ρ H ds vs):RelDs K mg ρ H ds.reverse vs.reverse:=by
 induction ds generalizing vs with
 |nil=>cases r;exact .nil
 |
  cons d ds ih=>
  cases r with
  |cons q rr=>rw[Pt,Pt];exact (ih rr).append (.cons q .nil)
def RelDs.ints:∀{ns:List Int}{vs:List V},RelDs K mg ρ H (ns.map D.int) vs->vs=ns.map V.int:=by
 intro ns
 induction ns with
 |nil=>intro vs r;cases r;rfl
 |
  cons n ns ih=>
  intro vs r
  cases r with
  |cons r rr=>cases r;rw[ih rr];rfl
def RelDs.bls:∀{ns:List Bool}{vs:List V},RelDs K mg ρ H (ns.map D.bl) vs->vs=ns.map V.bl:=by
 intro ns
 induction ns with
 |nil=>intro vs r;cases r;rfl
 |
  cons n ns ih=>
  intro vs r
  cases r with
  |cons r rr=>cases r;rw[ih rr];rfl
def RelE.mono(l:Le ρ H ρ' H')(r:RelE K mg ρ H ae σ):RelE K mg ρ' H' ae σ:=⟨r.len,λi d e=>by
 obtain⟨v,h1,h2⟩:=r.at_ i d e
 exact⟨v,h1,h2.mono l⟩⟩
def RelE.set(i:Nat)(r:RelE K mg ρ H ae σ)(q:RelD K mg ρ H d v):RelE K mg ρ H (ae.set i (some d)) (σ.set i (some v)):=⟨by rw[Oz,Oz];exact r.len,λj d' e=>by
 rw[Qy] at e ⊢
 by_cases hij:i=j
 ·rw[if_pos hij] at e ⊢
  by_cases hi:i<ae.length
  ·rw[if_pos hi] at e
   cases e
   rw[if_pos (by rw[<- r.len];exact hi)]
   exact⟨v,rfl,q⟩
  ·rw[if_neg hi] at e;cases e
 ·rw[if_neg hij] at e ⊢
  exact r.at_ j d' e⟩
def ObR.mono(l:Le ρ H ρ' H')(e:H' a=H a)(q:ObR K mg ρ H a o):ObR K mg ρ' H' a o:=by
 cases o with
 |lst ds=>obtain⟨vs,h1,h2⟩:=q;exact⟨vs,e.trans h1,h2.mono l⟩
 |fz ds=>obtain⟨o,vs,h1,h2⟩:=q;exact⟨o,vs,e.trans h1,h2.mono l⟩
 |set xs=>exact⟨q.1,e.trans q.2⟩
 |dct kvs=>obtain⟨ws,h1,h2,h3⟩:=q;exact⟨ws,e.trans h1,h2,h3.mono l⟩
 |any=>obtain⟨o,h1⟩:=q;exact⟨o,e.trans h1⟩
def ObR.there(q:ObR K mg ρ H a o):∃u,H a=some u:=by
 cases o with
 |lst ds=>obtain⟨vs,h1,_⟩:=q;exact⟨_,h1⟩
 |fz ds=>obtain⟨o,vs,h1,_⟩:=q;exact⟨_,h1⟩
 |set xs=>exact⟨_,q.2⟩
 |dct kvs=>obtain⟨ws,h1,_⟩:=q;exact⟨_,h1⟩
 |any=>exact q
def Wd.fresh(w:Wd K mg ρ h H)(hp:H p=none):p∉ρ:=λhm=>by
 obtain⟨n,hn⟩:=QK hm
 have hl:n<h.length:=by rw[<- w.len];exact (Oe.mp hn).1
 obtain⟨u,hu⟩:=(w.ob n p h[n] hn (Ov hl)).there
 rw[hp] at hu;cases hu
def eu(hp:H p=none):Le ρ H ρ (upd H p o):=
 ⟨λ_ _ e=>e,λb xs e=>by rw[aQ (cq e hp)];exact e,λb xs u e=>by rw[aQ (cq e hp)];exact e,λb xs e=>by rw[aQ (cq e hp)];exact e⟩
def l9:Le ρ H (ρ++m) H:=
 ⟨λn a e=>by rw[OF (Oe.mp e).1];exact e,λ_ _ e=>e,λ_ _ _ e=>e,λ_ _ e=>e⟩
def Wd.alloc(w:Wd K mg ρ h H)(hp:H p=none)(hn:ObR K mg (ρ++[p]) (upd H p u) p o):Wd K mg (ρ++[p]) (h++[o]) (upd H p u):=by
 refine⟨by rw[Oh,Oh,w.len];rfl,?_,λn a ob e1 e2=>?_⟩
 ·rw[List.nodup_append]
  exact⟨w.nd,by simp,λa ha b hb=>by rw[Pa] at hb;subst hb;intro z;subst z;exact w.fresh hp ha⟩
 ·by_cases hl:n<ρ.length
  ·rw[OF hl] at e1
   rw[OF (by rw[<- w.len];exact hl)] at e2
   have q:=w.ob n a ob e1 e2
   obtain⟨v,hv⟩:=q.there
   exact q.mono ((eu hp).trans l9) (aQ (cq hv hp))
  ·have h1:n=ρ.length:=by
    have:=(Oe.mp e1).1
    rw[Oh] at this
    simp at this
    omega
   subst h1
   rw[OC (Og _),PD] at e1
   rw[w.len,OC (Og _),PD] at e2
   simp at e1 e2
   subst e1 e2
   exact hn
def Wd.tuple(w:Wd K mg ρ h H)(hp:H p=none):Wd K mg ρ h (upd H p u):=
 ⟨w.len,w.nd,λn a ob e1 e2=>by
  have q:=w.ob n a ob e1 e2
  obtain⟨v,hv⟩:=q.there
  exact q.mono (eu hp) (aQ (cq hv hp))⟩
def nU(e:H a=some u)(hu:(∀xs,u ≠ .tup xs)/\(∀x y,u ≠ .frz x y)/\∀φ,u ≠ .ext φ):Le ρ H ρ (upd H a o):=by
 refine⟨λ_ _ e=>e,λb xs q=>?_,λb x y q=>?_,λb φ q=>?_⟩ <;> rw[aQ] <;> (try exact q) <;> (intro z;subst z;rw[e] at q;have:=OE q;first |exact hu.1 _ this |exact hu.2.1 _ _ this |exact hu.2.2 _ this)
def Wd.write{n:Nat}{a:Addr}{o u:HO}{ob:Ob}(w:Wd K mg ρ h H)(ea:ρ[n]?=some a)(e:H a=some u)(hu:(∀xs,u ≠ .tup xs)/\(∀x y,u ≠ .frz x y)/\∀φ,u ≠ .ext φ)
 (hn:ObR K mg ρ (upd H a o) a ob):Wd K mg ρ (h.set n ob) (upd H a o):=by
 refine⟨by rw[Oz];exact w.len,w.nd,λm b ob' e1 e2=>?_⟩
 rw[Qy] at e2
 by_cases hm:n=m
 ·subst hm
  rw[ea] at e1;cases e1
  rw[if_pos rfl] at e2
  split at e2
  ·cases e2;exact hn
  ·cases e2
 ·rw[if_neg hm] at e2
  have q:=w.ob m b ob' e1 e2
  refine q.mono (nU e hu) (aQ λz=>hm ?_)
  subst z
  have h1:=(Oe.mp e1)
  have h2:=(Oe.mp ea)
  exact (List.getElem_inj (h₀:=h2.1) (h₁:=h1.1) w.nd).mp (h2.2.trans h1.2.symm)
def qT:(∀xs,HO.lst vs ≠ .tup xs)/\(∀x y,HO.lst vs ≠ .frz x y)/\∀φ,HO.lst vs ≠ .ext φ:=⟨λ_ z=>(nomatch z),λ_ _ z=>(nomatch z),λ_ z=>(nomatch z)⟩
def CM:(∀xs,HO.set S n ≠ .tup xs)/\(∀x y,HO.set S n ≠ .frz x y)/\∀φ,HO.set S n ≠ .ext φ:=⟨λ_ z=>(nomatch z),λ_ _ z=>(nomatch z),λ_ z=>(nomatch z)⟩
def dKNo:(∀xs,HO.dK ws ≠ .tup xs)/\(∀x y,HO.dK ws ≠ .frz x y)/\∀φ,HO.dK ws ≠ .ext φ:=⟨λ_ z=>(nomatch z),λ_ _ z=>(nomatch z),λ_ z=>(nomatch z)⟩
def PostG.mono(l:Le ρ H ρ' H')(p:PostG K mg ρ H E k r):PostG K mg ρ' H' E k r:=by
 cases r with
 |ok d h=>exact λρ2 H2 l2=>p ρ2 H2 (l.trans l2)
 |exc c h=>exact λρ2 H2 C l2=>p ρ2 H2 C (l.trans l2)
 |stuck=>exact p
def PostG.imp(p:PostG K mg ρ H E k r)(i:∀a h1 ρ' H',Le ρ H ρ' H'->Wd K mg ρ' h1 H'->k a h1 ρ' H'->k' a h1 ρ' H'):PostG K mg ρ H E k' r:=by
 cases r with
 |ok d h=>exact λρ2 H2 l2 w2=>i _ _ _ _ l2 w2 (p ρ2 H2 l2 w2)
 |exc c h=>exact p
 |stuck=>exact p
def PostG.bind(p:PostG K mg ρ H E k (r.bind f)):PostG K mg ρ H E (λa h1 ρ' H'=>PostG K mg ρ' H' E k (f a h1)) r:=by
 cases r with
 |ok d h=>exact λρ2 H2 l2 w2=>PostG.mono l2 p
 |exc c h=>exact p
 |stuck=>exact p
def PostS.mono(l:Le ρ H ρ' H')(p:PostS K mg ρ H De ES r):PostS K mg ρ' H' De ES r:=by
 cases r with
 |nx ae h=>exact λρ2 H2 σ l2=>p ρ2 H2 σ (l.trans l2)
 |bk ae h=>exact λρ2 H2 σ l2=>p ρ2 H2 σ (l.trans l2)
 |ct ae h=>exact λρ2 H2 σ l2=>p ρ2 H2 σ (l.trans l2)
 |rt d h=>exact λρ2 H2 v l2=>p ρ2 H2 v (l.trans l2)
 |exc c ae h=>exact λρ2 H2 σ C l2=>p ρ2 H2 σ C (l.trans l2)
 |stuck=>exact p
end
end L2
namespace L2
open PySem PySem.Spec PyProof.Rows
section
variable{X:Cx}{e:Expr}{es:List Expr}{st:Stmt}{sts:List Stmt}
def PE.imp(h:PE X e t)(k:∀σ H Q,t' σ H Q->t σ H Q):PE X e t':=λpins s σ H Q I w=>h pins s σ H Q I (k σ H Q w)
def PT.imp(h:PT X e t)(k:∀σ H Q,t' σ H Q->t σ H Q):PT X e t':=λpins s σ H Q I w=>h pins s σ H Q I (k σ H Q w)
def PW.imp(h:PW X e t)(k:∀σ H Q,t' σ H Q->t σ H Q):PW X e t':=λwh pins s σ H Q I w=>h wh pins s σ H Q I (k σ H Q w)
def PA.imp(h:PA X es t)(k:∀σ H Q,t' σ H Q->t σ H Q):PA X es t':=λpos pins s σ H Q I w=>h pos pins s σ H Q I (k σ H Q w)
def PS.imp(h:PS X st t)(k:∀D σ H,t' D σ H->t D σ H):PS X st t':=λpins s σ H D I w=>h pins s σ H D I (k D σ H w)
def PSs.imp(h:PSs X sts t)(k:∀D σ H,t' D σ H->t D σ H):PSs X sts t':=λpins s σ H D I w=>h pins s σ H D I (k D σ H w)
def PG.imp(h:PG X e t)(k:∀v σ H Q,t' v σ H Q->t v σ H Q):PG X e t':=λpins s σ H v u Q I r w=>h pins s σ H v u Q I r (k v σ H Q w)
def PGs.imp(h:PGs X es t)(k:∀v σ H Q,t' v σ H Q->t v σ H Q):PGs X es t':=λpins s σ H v u Q I r w=>h pins s σ H v u Q I r (k v σ H Q w)
def PO.imp(h:PO X o t)(k:∀σ H Q,t' σ H Q->t σ H Q):PO X o t':=λpins s σ H Q I w=>h pins s σ H Q I (k σ H Q w)
end
section
variable(K:W.Frag)(mg:Str->Option Value)(X:Cx)(ES:St->XK)
def DE(e:Expr)(F:ME):Prop:=PE X e (rdE K mg ES F)
def DT(e:Expr)(F:MT):Prop:=PT X e (rdT K mg ES F)
def DW(e:Expr)(F:MT):Prop:=PW X e (rdT K mg ES F)
def DA(es:List Expr)(F:MA):Prop:=PA X es (rdA K mg ES F)
def DS(st:Stmt)(F:MS):Prop:=PS X st (rdS K mg ES F)
def DSs(st:List Stmt)(F:MS):Prop:=PSs X st (rdS K mg ES F)
end
def OpD(K:W.Frag)(mg:Str->Option Value)(r:R2)(g:D->D->AH->R D):Prop:=∀ρ h H dx dy x y Q E,Wd K mg ρ h H->RelD K mg ρ H dx x->RelD K mg ρ H dy y->eE K mg ρ H Q E (g dx dy h)->r x y H Q
def UnD(K:W.Frag)(mg:Str->Option Value)(r:V->Hp->VK->Prop)(g:D->AH->R D):Prop:=∀ρ h H dx x Q E,Wd K mg ρ h H->RelD K mg ρ H dx x->eE K mg ρ H Q E (g dx h)->r x H Q
def bG(K:W.Frag)(mg:Str->Option Value)(r:List V->Hp->VK->Prop)(g:Fn):Prop:=∀ρ h H ds vs Q E,Wd K mg ρ h H->RelDs K mg ρ H ds vs->eE K mg ρ H Q E (g ds h)->r vs H Q
def a9(i:Nat):ME:=λae h=>match ae[i]? with
 |some (some d)=>.ok d h
 |_=>.stuck
def eC(d:D):ME:=λ_ h=>.ok d h
def eOp(g:D->D->AH->R D)(F G:ME):ME:=λae h=>(F ae h).bind λx h1=>(G ae h1).bind λy h2=>g x y h2
def eUn(g:D->AH->R D)(F:ME):ME:=λae h=>(F ae h).bind g
def fD:MA:=λ_ h=>.ok [] h
def eW(F:ME)(G:MA):MA:=λae h=>(F ae h).bind λx h1=>(G ae h1).bind λxs h2=>.ok (x::xs) h2
def eFn(g:Fn)(A:MA):ME:=λae h=>(A ae h).bind g
def nY(ds:List D)(h:AH):R D:=if ds.length<=16777216 then .ok (.tup ds) h else .stuck
def b9(ds:List D)(h:AH):R D:=if ds.length<=16777216 then .ok (.ref h.length) (h++[.lst ds]) else .stuck
def asB(d:D)(h:AH):R Bool:=match d with
 |.bl b=>.ok b h
 |_=>.stuck
def Av(F G:ME):ME:=λae h=>(F ae h).bind λx h1=>(asB x h1).bind λb h2=>if b=true then G ae h2 else .ok (.bl false) h2
def A0(F:ME):ME:=λae h=>(F ae h).bind λx h1=>(asB x h1).bind λb h2=>.ok (.bl (!b)) h2
def eIf(c:MT)(F G:ME):ME:=λae h=>(c ae h).bind λb h1=>if b=true then F ae h1 else G ae h1
def tOf(F:ME):MT:=λae h=>(F ae h).bind asB
def tAn(c d:MT):MT:=λae h=>(c ae h).bind λb h1=>if b=true then d ae h1 else .ok false h1
def tO(c d:MT):MT:=λae h=>(c ae h).bind λb h1=>if b=true then .ok true h1 else d ae h1
def tNo(c:MT):MT:=λae h=>(c ae h).bind λb h1=>.ok (!b) h1
section
variable{K:W.Frag}{mg:Str->Option Value}{ρ:List Addr}{H:Hp}{h:AH}
def fM(w:Wd K mg ρ h H)(rs:RelDs K mg ρ H ds vs)(hp:H p=none)(q:eE K mg ρ H Q E (.ok (.ref h.length) (h++[.lst ds]))):Q (.ref p) (upd H p (.lst vs)):=by
 have l:Le ρ H (ρ++[p]) (upd H p (.lst vs)):=(eu hp).trans l9
 refine q (ρ++[p]) _ l (w.alloc hp ⟨vs,b0,rs.mono l⟩) _ (.ref ?_)
 rw[<- w.len,OC (Og _),PD]
 rfl
def kX(w:Wd K mg ρ h H)(rs:RelDs K mg ρ H ds vs)(hp:H p=none)(q:eE K mg ρ H Q E (.ok (.tup ds) h)):Q (.ref p) (upd H p (.tup vs)):=
 q ρ _ (eu hp) (w.tuple hp) _ (.tup (SqT.of b0) (rs.mono (eu hp)))
def aJ(w:Wd K mg ρ h H)(r:RelD K mg ρ H d v)(q:eE K mg ρ H Q E (.ok d h)):Q v H:=q ρ H Le.refl w v r
end
section
variable{K:W.Frag}{mg:Str->Option Value}{X:Cx}{ES:St->XK}{e a b c:Expr}{es:List Expr}{F G:ME}{A:MA}{cf cg:MT}{pos:Pos}
def IJ(i:Nat)(hN:X.N[i]?=some x:=by rfl)(hv:Vis X.env.scope x:=by first |exact Or.inl rfl |exact Or.inr (Or.inl rfl) |exact Or.inr (Or.inr rfl))(hd:(x==("__debug__" : Str))=false:=by decide)
 (hcd:(x==("__classdict__" : Str))=false:=by decide):DE K mg X ES (.Name x pos) (a9 i):=PE.imp (zB hN hv hd hcd) λσ H Q q_=>q_.el λρ h ae w re p=>by
 unfold a9 at p
 split at p
 ·rename_i d ed
  obtain⟨v,e1,r⟩:=re.at_ i d ed
  exact⟨v,e1,aJ w r p⟩
 ·exact p.elim
def rV(hp:PE X e (tC v))(r:∀ρ H,RelD K mg ρ H d v):DE K mg X ES e (eC d):=PE.imp hp λσ H Q q_=>q_.el λρ h ae w re p=>aJ w (r ρ H) p
def Ha:DE K mg X ES (.Constant (.int i) j pos) (eC (.int i)):=rV Hj λ_ _=>.int i
def J1:DE K mg X ES (.Constant (.bool i) j pos) (eC (.bl i)):=rV LK λ_ _=>.bl i
def Je:DE K mg X ES (.Constant (.str x) j pos) (eC (.str x)):=rV GO λ_ _=>.str x
structure GC(K:W.Frag)(mg:Str->Option Value)(x:Str)(d:D):Prop where
 ex:∃u v,mg x=some u/\RelV v u/\∀ρ H,RelD K mg ρ H d v
def KA(hg:Gl X x)(ha:GC K mg x d)(hm:X.mg=mg:=by rfl)(hd:(x==("__debug__" : Str))=false:=by decide):DE K mg X ES (.Name x pos) (eC d):=by
 subst hm
 obtain⟨u,v,h1,h2,h3⟩:=ha.ex
 exact rV (DD hg h1 h2 hd) h3
def JF(hg:Gl X x)(hm:mg x=none)(hv:bootBuiltins x=some (.type n))(he:X.mg=mg:=by rfl)(hn:x ≠ "__name__":=by decide)(hd:(x==("__debug__" : Str))=false:=by decide):DE K mg X ES (.Name x pos) (eC (.ty n)):=by
 subst he
 exact rV (Eh hg hm hv (v:=.ty n) rfl hn hd) λ_ _=>.ty n
def rm(hd:OpD K mg r g)(σ:St)(H:Hp)(Q:VK)(q:rdE K mg ES (eOp g F G) σ H Q):tOp r (rdE K mg ES F) (rdE K mg ES G) σ H Q:=by
 obtain⟨ρ,h,ae,w,re,p⟩:=q
 exact⟨ρ,h,ae,w,re,p.bind.imp λdx h1 ρ1 H1 l1 w1 p1 x rx=>⟨ρ1,h1,ae,w1,re.mono l1,p1.bind.imp λdy h2 ρ2 H2 l2 w2 p2 y ry=>hd ρ2 h2 H2 dx dy x y Q _ w2 (rx.mono l2) ry p2⟩⟩
def JZ(ho:OpR X (binaryOp op) r)(hd:OpD K mg r g)(ha:DE K mg X ES a F)(hb:DE K mg X ES b G):DE K mg X ES (.BinOp a op b pos) (eOp g F G):=PE.imp (Kq ho ha hb) (rm hd)
def Ct(hr:IxR X r)(hd:OpD K mg r g)(ha:DE K mg X ES a F)(hb:DE K mg X ES b G)(hs:mI b):DE K mg X ES (.Subscript a b pos) (eOp g F G):=PE.imp (LR hr ha hb hs) (rm hd)
def Iu(ho:OpR X (compareOp op) r)(hd:OpD K mg r g)(ha:DE K mg X ES a F)(hb:DE K mg X ES b G)(hm:behindInMarks op b=false):DE K mg X ES (.Compare a [op] [b] pos) (eOp g F G):=PE.imp (Di ho ha hb hm) (rm hd)
def vb(σ:St)(H:Hp)(Q:Bool->Hp->Prop)(q:rdT K mg ES (tOf F) σ H Q):rdE K mg ES F σ H λx H'=>∃k,x=.bl k/\Q k H':=by
 obtain⟨ρ,h,ae,w,re,p⟩:=q
 refine⟨ρ,h,ae,w,re,p.bind.imp λd h1 ρ1 H1 l1 w1 p1 x rx=>?_⟩
 unfold asB at p1
 split at p1
 ·cases rx;exact⟨_,rfl,p1 ρ1 H1 Le.refl w1⟩
 ·exact p1.elim
def Js(ho:OpR X (compareOp op) r)(hd:OpD K mg r g)(ha:DE K mg X ES a F)(hb:DE K mg X ES b G)(hm:behindInMarks op b=false):DT K mg X ES (.Compare a [op] [b] pos) (tOf (eOp g F G)):=
 PT.imp (DZ ho ha hb hm) λσ H Q q=>rm hd σ H _ (vb σ H Q q)
def Ij(ha:DE K mg X ES a F)(he:∀db,isTrue a X.env db=(do let v <- db;standAt a.pos;holding [v] (truthy v)):=by intro _;rfl):DT K mg X ES a (tOf F):=
 PT.imp (Jp ha he) λσ H Q q=>vb σ H Q q
def GG(ha:DT K mg X ES a cf):DT K mg X ES (.UnaryOp .Not a pos) (tNo cf):=PT.imp (HV ha) λσ H Q q_=>q_.el λρ h ae w re p=>
 ⟨ρ,h,ae,w,re,p.bind.imp λb h1 ρ1 H1 l1 w1 p1=>p1 ρ1 H1 Le.refl w1⟩
def Ez(ha:DT K mg X ES a cf):DW K mg X ES (.BoolOp .And [a] pos) cf:=E8 ha
def FX(ha:DT K mg X ES a cf):DW K mg X ES (.BoolOp .Or [a] pos) cf:=HP ha
def Hb(ha:DT K mg X ES a cf)(hb:DW K mg X ES (.BoolOp .And (b::es) pos) cg):DW K mg X ES (.BoolOp .And (a::b::es) pos) (tAn cf cg):=PW.imp (FV ha hb) λσ H Q q_=>q_.el λρ h ae w re p=>
 ⟨ρ,h,ae,w,re,p.bind.imp λb h1 ρ1 H1 l1 w1 p1=>by
  cases b with
  |true=>exact⟨ρ1,h1,ae,w1,re.mono l1,p1⟩
  |false=>exact p1 ρ1 H1 Le.refl w1⟩
def JU(ha:DT K mg X ES a cf)(hb:DW K mg X ES (.BoolOp .Or (b::es) pos) cg):DW K mg X ES (.BoolOp .Or (a::b::es) pos) (tO cf cg):=PW.imp (Kd ha hb) λσ H Q q_=>q_.el λρ h ae w re p=>
 ⟨ρ,h,ae,w,re,p.bind.imp λb h1 ρ1 H1 l1 w1 p1=>by
  cases b with
  |true=>exact p1 ρ1 H1 Le.refl w1
  |false=>exact⟨ρ1,h1,ae,w1,re.mono l1,p1⟩⟩
def DW.dt(h:DW K mg X ES a cf):DT K mg X ES a cf:=PW.pt h
def Jv{op}(h:DE K mg X ES a F):DE K mg X ES (.BoolOp op [a] pos) F:=Jz h
def Gs(ha:DE K mg X ES a F)(hb:DE K mg X ES (.BoolOp .And (b::es) pos) G):DE K mg X ES (.BoolOp .And (a::b::es) pos) (Av F G):=PE.imp (HU ha hb) λσ H Q q_=>q_.el λρ h ae w re p=>by
 refine⟨ρ,h,ae,w,re,p.bind.imp λd h1 ρ1 H1 l1 w1 p1 x rx=>?_⟩
 unfold asB at p1
 split at p1
 ·rename_i b'
  cases rx
  refine⟨b',rfl,?_⟩
  cases b' with
  |true=>exact⟨ρ1,h1,ae,w1,re.mono l1,p1⟩
  |false=>exact p1 ρ1 H1 Le.refl w1 _ (.bl false)
 ·exact p1.elim
def FN(ha:DE K mg X ES a F):DE K mg X ES (.UnaryOp .Not a pos) (A0 F):=PE.imp (Gy ha) λσ H Q q_=>q_.el λρ h ae w re p=>by
 refine⟨ρ,h,ae,w,re,p.bind.imp λd h1 ρ1 H1 l1 w1 p1 x rx=>?_⟩
 unfold asB at p1
 split at p1
 ·cases rx
  exact⟨_,rfl,p1 ρ1 H1 Le.refl w1 _ (.bl _)⟩
 ·exact p1.elim
def J5(hc:DT K mg X ES c cf)(ha:DE K mg X ES a F)(hb:DE K mg X ES b G):DE K mg X ES (.IfExp c a b pos) (eIf cf F G):=PE.imp (Ay hc ha hb) λσ H Q q_=>q_.el λρ h ae w re p=>
 ⟨ρ,h,ae,w,re,p.bind.imp λb h1 ρ1 H1 l1 w1 p1=>by
  cases b with
  |true=>exact⟨ρ1,h1,ae,w1,re.mono l1,p1⟩
  |false=>exact⟨ρ1,h1,ae,w1,re.mono l1,p1⟩⟩
def Lc(ho:UnR X (unaryOp op) r)(hd:UnD K mg r g)(ha:DE K mg X ES a F):DE K mg X ES (.UnaryOp op a pos) (eUn g F):=PE.imp (JV ho ha) λσ H Q q_=>q_.el λρ h ae w re p=>
 ⟨ρ,h,ae,w,re,p.bind.imp λd h1 ρ1 H1 l1 w1 p1 x rx=>hd ρ1 h1 H1 d x Q _ w1 rx p1⟩
def zx:DA K mg X ES [] fD:=PA.imp Hk λσ H Q q_=>q_.el λρ h ae w re p=>p ρ H Le.refl w _ .nil
def u6(ha:DE K mg X ES e F)(hr:DA K mg X ES es A)(hs:starEach (e::es) X.env=(false,eval e X.env)::starEach es X.env:=by rfl):DA K mg X ES (e::es) (eW F A):=PA.imp (Ei ha hr hs) λσ H Q q_=>q_.el λρ h ae w re p=>
 ⟨ρ,h,ae,w,re,p.bind.imp λd h1 ρ1 H1 l1 w1 p1 x rx=>⟨ρ1,h1,ae,w1,re.mono l1,p1.bind.imp λds h2 ρ2 H2 l2 w2 p2 vs rs=>p2 ρ2 H2 Le.refl w2 _ (.cons (rx.mono l2) rs)⟩⟩
def Gp{x1}(h:DA K mg X ES es A):DE K mg X ES (.Tuple es x1 pos) (eFn nY A):=PE.imp (HE h) λσ H Q q_=>q_.el λρ h ae w re p=>
 ⟨ρ,
  h,ae,w,re,p.bind.imp λds h1 ρ1 H1 l1 w1 p1 vs rs=>by
  unfold nY at p1
  split at p1
  ·rename_i hl
   exact⟨by rw[<- rs.len];exact hl,λq hq=>kX w1 rs hq p1⟩
  ·exact p1.elim⟩
def Hr(h:DA K mg X ES es A):DE K mg X ES (.List es pos) (eFn b9 A):=PE.imp (HW h) λσ H Q q_=>q_.el λρ h ae w re p=>
 ⟨ρ,
  h,ae,w,re,p.bind.imp λds h1 ρ1 H1 l1 w1 p1 vs rs=>by
  unfold b9 at p1
  split at p1
  ·rename_i hl
   exact⟨by rw[<- rs.len];exact hl,λq hq=>fM w1 rs hq p1⟩
  ·exact p1.elim⟩
def CH(hd:bG K mg r g)(σ:St)(H:Hp)(Q:VK)(q:rdE K mg ES (eFn g A) σ H Q):tCB r (rdA K mg ES A) σ H Q:=by
 obtain⟨ρ,h,ae,w,re,p⟩:=q
 exact⟨ρ,h,ae,w,re,p.bind.imp λds h1 ρ1 H1 l1 w1 p1 vs rs=>hd ρ1 h1 H1 ds vs Q _ w1 rs p1⟩
def Bn{id:String}{r:List V->Hp->VK->Prop}{g:Fn}{x:Str}{p:Pos}(hc:CallR X (.builtin id) r)(hd:bG K mg r g)(hg:Gl X x)(hm:mg x=none)(hv:bootBuiltins x=some (.builtin id))(ha:DA K mg X ES (e::es) A)(hk:X.mg=mg:=by rfl)(hn:x ≠ "__name__":=by decide)(hdb:(x==("__debug__" : Str))=false:=by decide)
 (he:starEach (e::es) X.env=(false,eval e X.env)::starEach es X.env:=by rfl) (hpl:(backTo pos (starEach es X.env)).any (·.1)=false:=by rfl):DE K mg X ES (.Call (.Name x p) (e::es) [] pos) (eFn g A):=by
 subst hk
 exact PE.imp (Ap hc hg hm hv ha hn hdb he hpl) (CH hd)
def yw(hc:CallR X (.type T) r)(hd:bG K mg r g)(hg:Gl X x)(hm:mg x=none)(hv:bootBuiltins x=some (.type T))(ha:DA K mg X ES (e::es) A)(hk:X.mg=mg:=by rfl)(hn:x ≠ "__name__":=by decide)(hdb:(x==("__debug__" : Str))=false:=by decide)
 (he:starEach (e::es) X.env=(false,eval e X.env)::starEach es X.env:=by rfl) (hpl:(backTo pos (starEach es X.env)).any (·.1)=false:=by rfl):DE K mg X ES (.Call (.Name x p) (e::es) [] pos) (eFn g A):=by
 subst hk
 exact PE.imp (yO hc hg hm hv ha hn hdb he hpl) (CH hd)
end
end L2
namespace L2
open PySem PySem.Spec PyProof.Rows
def SR.then(r:SR)(f:AE->AH->SR):SR:=match r with
 |.nx ae h=>f ae h
 |.rt d h=>.rt d h
 |.bk ae h=>.bk ae h
 |.ct ae h=>.ct ae h
 |.exc c ae h=>.exc c ae h
 |.stuck=>.stuck
def R.toS{α:Type}(r:R α)(ae:AE)(f:α->AH->SR):SR:=match r with
 |.ok a h=>f a h
 |.exc c h=>.exc c ae h
 |.stuck=>.stuck
def sNx:MS:=λae h=>.nx ae h
def wd:MS:=λ_ h=>.rt .non h
def iY(F G:MS):MS:=λae h=>(F ae h).then G
def BO(F:ME):MS:=λae h=>(F ae h).toS ae λd h1=>.rt d h1
def iO(F:ME):MS:=λae h=>(F ae h).toS ae λ_ h1=>.nx ae h1
def sIf(c:MT)(F G:MS):MS:=λae h=>(c ae h).toS ae λb h1=>if b=true then F ae h1 else G ae h1
abbrev MG:=D->AE->AH->R AE
abbrev MGs:=List D->AE->AH->R AE
def iz(F:ME)(g:MG):MS:=λae h=>(F ae h).toS ae λd h1=>(g d ae h1).toS ae λbe h2=>.nx be h2
def gN(i:Nat):MG:=λd ae h=>.ok (ae.set i (some d)) h
def gsN:MGs:=λds ae h=>match ds with
 | []=>.ok ae h
 |_=>.stuck
def gsC(g:MG)(u:MGs):MGs:=λds ae h=>match ds with
 |d::r=>(g d ae h).bind λbe h'=>u r be h'
 | []=>.stuck
def gT(u:MGs):MG:=λd ae h=>match d with
 |.tup ds=>u ds ae h
 |_=>.stuck
def gS(F G:ME)(w:D->D->D->AH->R Unit):MG:=λv ae h=>(F ae h).bind λo h1=>(G ae h1).bind λi h2=>(w o i v h2).bind λ_ h3=>.ok ae h3
def Cj(i j:Nat)(A:MA):MS:=λae h=>(A ae h).toS ae λds h1=>match ds with
 | [d,e]=>.nx ((ae.set i (some d)).set j (some e)) h1
 |_=>.stuck
def tf(i:Nat)(g:D->D->AH->R D)(F:ME):MS:=λae h=>match ae[i]? with
 |some (some x)=>(F ae h).toS ae λy h1=>(g x y h1).toS ae λz h2=>.nx (ae.set i (some z)) h2
 |_=>.stuck
def uf(c:Str)(A:MA):MS:=λae h=>(A ae h).toS ae λds h1=>if ds.length<=16777216 then .exc c ae h1 else .stuck
section
variable(K:W.Frag)(mg:Str->Option Value)
def rdG(ES:St->XK)(g:MG):TG:=λv σ H Q=>∃ρ h ae d,Wd K mg ρ h H/\RelE K mg ρ H ae σ/\RelD K mg ρ H d v/\PostG K mg ρ H (ES σ) (λbe _ ρ' H'=>∀σ',RelE K mg ρ' H' be σ'->Q σ' H') (g d ae h)
def rdGs(ES:St->XK)(g:MGs):TGs:=λvs σ H Q=>∃ρ h ae ds,Wd K mg ρ h H/\RelE K mg ρ H ae σ/\RelDs K mg ρ H ds vs/\PostG K mg ρ H (ES σ) (λbe _ ρ' H'=>∀σ',RelE K mg ρ' H' be σ'->Q σ' H') (g ds ae h)
def DG(X:Cx)(ES:St->XK)(e:Expr)(g:MG):Prop:=PG X e (rdG K mg ES g)
def DGs(X:Cx)(ES:St->XK)(es:List Expr)(g:MGs):Prop:=PGs X es (rdGs K mg ES g)
def oa(X:Cx)(ES:St->XK):Prop:=∀(pins:List (Addr×Obj)) (σ:St) (H:Hp) (s:Shared) (e:Value) (s':Shared),Inv X pins σ H s->CX1 X.prog X.w X.stack H s (ES σ) e s'->X.xe e s'
end
def rdG.el{K:W.Frag}{mg:Str->Option Value}{ES:St->XK}{g:MG}{v:V}{σ:St}{H:Hp}{Q:St->Hp->Prop}{C:Prop}(q:rdG K mg ES g v σ H Q)(k:∀ρ h ae d,Wd K mg ρ h H->RelE K mg ρ H ae σ->RelD K mg ρ H d v->PostG K mg ρ H (ES σ) (λbe _ ρ' H'=>∀σ',RelE K mg ρ' H' be σ'->Q σ' H') (g d ae h)->C):C:=by
 obtain⟨ρ,h,ae,d,w,re,rd,p⟩:=q
 exact k ρ h ae d w re rd p
def rdGs.el{K:W.Frag}{mg:Str->Option Value}{ES:St->XK}{g:MGs}{v:List V}{σ:St}{H:Hp}{Q:St->Hp->Prop}{C:Prop}(q:rdGs K mg ES g v σ H Q)(k:∀ρ h ae d,Wd K mg ρ h H->RelE K mg ρ H ae σ->RelDs K mg ρ H d v->PostG K mg ρ H (ES σ) (λbe _ ρ' H'=>∀σ',RelE K mg ρ' H' be σ'->Q σ' H') (g d ae h)->C):C:=by
 obtain⟨ρ,h,ae,d,w,re,rd,p⟩:=q
 exact k ρ h ae d w re rd p
section
variable{K:W.Frag}{mg:Str->Option Value}{X:Cx}{ES:St->XK}{ρ:List Addr}{H:Hp}{h:AH}{ae:AE}{σ:St}{De:Ends}
def cD(p:PostS K mg ρ H De ES (r.toS ae f))(re:RelE K mg ρ H ae σ)
 (i:∀a h1 ρ1 H1,Le ρ H ρ1 H1->Wd K mg ρ1 h1 H1->RelE K mg ρ1 H1 ae σ->PostS K mg ρ1 H1 De ES (f a h1)->k a h1 ρ1 H1):PostG K mg ρ H (ES σ) k r:=by
 cases r with
 |ok a h1=>exact λρ1 H1 l1 w1=>i a h1 ρ1 H1 l1 w1 (re.mono l1) (PostS.mono l1 p)
 |exc c h1=>exact λρ1 H1 C l1 w1 m=>p ρ1 H1 σ C l1 w1 (re.mono l1) m
 |stuck=>exact p
def iD(p:PostS K mg ρ H De ES (.nx be h))(w:Wd K mg ρ h H)(re:RelE K mg ρ H be σ):De.nx σ H:=p ρ H σ Le.refl w re
def Bf(p:PostS K mg ρ H De ES (r.then f))(i:∀ae1 h1 ρ1 H1 σ1,Le ρ H ρ1 H1->Wd K mg ρ1 h1 H1->RelE K mg ρ1 H1 ae1 σ1->PostS K mg ρ1 H1 De ES (f ae1 h1)->N σ1 H1):PostS K mg ρ H { De with nx:=N } ES r:=by
 cases r with
 |nx ae1 h1=>exact λρ1 H1 σ1 l1 w1 re1=>i ae1 h1 ρ1 H1 σ1 l1 w1 re1 (PostS.mono l1 p)
 |rt d h1=>exact p
 |bk ae1 h1=>exact p
 |ct ae1 h1=>exact p
 |exc c ae1 h1=>exact p
 |stuck=>exact p
end
section
variable{K:W.Frag}{mg:Str->Option Value}{X:Cx}{ES:St->XK}{e a b c o i:Expr}{es:List Expr}{st:Stmt}{sts sts':List Stmt}{F G:ME}{A:MA}{cf:MT}{U V':MS}{g:MG}{gs:MGs}{pos:Pos}
def C1:DSs K mg X ES [] sNx:=PSs.imp Dt λD σ H q_=>q_.el λρ h ae w re p=>iD p w re
def vy(h1:DS K mg X ES st U):DSs K mg X ES [st] U:=Ed h1
def nh(h1:DS K mg X ES st U)(h2:DSs K mg X ES sts V'):DSs K mg X ES (st::sts) (iY U V'):=PSs.imp (BR h1 h2) λD σ H q_=>q_.el λρ h ae w re p=>
 ⟨ρ,h,ae,w,re,Bf p λae1 h1 ρ1 H1 σ1 l1 w1 re1 p1=>⟨ρ1,h1,ae1,w1,re1,p1⟩⟩
def EC:DS K mg X ES (.Return none pos) wd:=PS.imp EW λD σ H q_=>q_.el λρ h ae w re p=>p ρ H _ Le.refl w .non
def Gb(he:DE K mg X ES e F):DS K mg X ES (.Return (some e) pos) (BO F):=PS.imp (Il he) λD σ H q_=>q_.el λρ h ae w re p=>
 ⟨ρ,h,ae,w,re,cD p re λd h1 ρ1 H1 l1 w1 re1 p1 v rv=>p1 ρ1 H1 v Le.refl w1 rv⟩
def ve(he:DE K mg X ES e F)(hs:swapsWith e none pos.line X.env=pure false:=by rfl):DS K mg X ES (.Expr e pos) (iO F):=PS.imp (EF he hs) λD σ H q_=>q_.el λρ h ae w re p=>
 ⟨ρ,h,ae,w,re,cD p re λd h1 ρ1 H1 l1 w1 re1 p1 v rv=>iD p1 w1 re1⟩
def J9(hc:DT K mg X ES c cf)(ha:DSs K mg X ES sts U)(hb:DSs K mg X ES sts' V'):DS K mg X ES (.If c sts sts' pos) (sIf cf U V'):=PS.imp (Kg hc ha hb) λD σ H q_=>q_.el λρ h ae w re p=>
 ⟨ρ,h,ae,w,re,cD p re λb h1 ρ1 H1 l1 w1 re1 p1=>by
  cases b with
  |true=>exact⟨ρ1,h1,ae,w1,re1,p1⟩
  |false=>exact⟨ρ1,h1,ae,w1,re1,p1⟩⟩
def D1{i:Nat}{x:Str}(hN:X.N.Nodup)(hi:X.N[i]?=some x)(hx:Loc X.env.scope x)(hf:X.fn x=true\/X.env.scope.names.lookup x=some .local:=by first |exact .inl rfl |exact .inr rfl |assumption):DG K mg X ES (.Name x pos) (gN i):=
 PG.imp (DH hN hi hx hf) λv σ H Q q_=>q_.el λρ h ae d w re rd p=>p ρ H Le.refl w _ (re.set i rd)
def EX:DGs K mg X ES [] gsN:=PGs.imp Fi λvs σ H Q q_=>q_.el λρ h ae ds w re rd p=>by
 cases rd with
 |nil=>exact⟨rfl,p ρ H Le.refl w _ re⟩
 |cons r rr=>exact p.elim
def Cb(h1:DG K mg X (λ_=>E0) e g)(h2:DGs K mg X (λ_=>E0) es gs)
 (hs:(assignEach (e::es) X.env).map (·.2)=assign e X.env::(assignEach es X.env).map (·.2):=by rfl):DGs K mg X (λ_=>E0) (e::es) (gsC g gs):=PGs.imp (A9 h1 h2 hs) λvs σ H Q q_=>q_.el λρ h ae ds w re rd p=>by
 cases rd with
 |nil=>exact p.elim
 |cons r rr=>exact⟨_,_,rfl,ρ,h,ae,_,w,re,r,p.bind.imp λae1 h1 ρ1 H1 l1 w1 p1 σ1 re1=>⟨ρ1,h1,ae1,_,w1,re1,rr.mono l1,p1⟩⟩
def F4{k n:Nat}(hK:X.K=K)(hc:X.calm=true)(h:DGs K mg X (λ_=>E0) es gs)
 (hn:(assignEach es X.env).length=n:=by rfl) (hst:(assignEach es X.env).findIdx? (·.1)=none:=by rfl):DG K mg X (λ_=>E0) (.Tuple es k pos) (gT λds ae h=>if ds.length=n then gs ds ae h else .stuck):=by
 subst hK
 refine PG.imp (Gu hc h hn hst) λv σ H Q q_=>q_.el λρ h ae d w re rd p=>?_
 unfold gT at p
 cases rd with
 |
  tup q rs=>
  dsimp only at p
  split at p
  ·rename_i hl
   exact⟨_,_,rfl,q,by rw[<- rs.len];exact hl,ρ,h,ae,_,w,re,rs,p⟩
  ·exact p.elim
 |_=>exact p.elim
def noX{α:Type}(r:R α):R α:=match r with
 |.exc _ _=>.stuck
 |.ok a h=>.ok a h
 |.stuck=>.stuck
def DG.weak(hg:DG K mg X (λ_=>E0) e g):DG K mg X ES e (λd ae h=>noX (g d ae h)):=PG.imp hg λv σ H Q q_=>q_.el λρ h ae d w re rd p=>by
 refine⟨ρ,h,ae,d,w,re,rd,?_⟩
 try dsimp only at p
 cases q:g d ae h with
 |ok a h1=>rw[q] at p;exact p
 |exc c h1=>rw[q] at p;exact p.elim
 |stuck=>rw[q] at p;exact p.elim
def oP(K:W.Frag)(mg:Str->Option Value)(r:wc)(f:D->D->D->AH->R Unit):Prop:=∀ρ h H do_ di dv o i v (Q:Hp->Prop) E,Wd K mg ρ h H->RelD K mg ρ H do_ o->RelD K mg ρ H di i->RelD K mg ρ H dv v->PostG K mg ρ H E (λ_ _ _ H'=>Q H') (f do_ di dv h)->r o i v H Q
def xU(he:DE K mg X ES e F)(hg:DG K mg X ES a g)(hs:swapsWithSole [a] e pos.line X.env=pure false:=by rfl)(hw:swappedStores [a] e X.env=pure none:=by rfl)
 (h1:(assignEach [a] X.env).map (·.2)=[assign a X.env]:=by rfl):DS K mg X ES (.Assign [a] e pos) (iz F g):=PS.imp (IF he hg hs hw h1) λD σ H q_=>q_.el λρ h ae w re p=>
 ⟨ρ,h,ae,w,re,cD p re λd h1 ρ1 H1 l1 w1 re1 p1 v rv=>⟨ρ1,h1,ae,d,w1,re1,rv,cD p1 re1 λae2 h2 ρ2 H2 l2 w2 re2 p2 σ' re'=>iD p2 w2 re'⟩⟩
def GY{i:Nat}{x:Str}{pos':Pos}(hN:X.N.Nodup)(hi:X.N[i]?=some x)(hx:Loc X.env.scope x)(he:DE K mg X ES e F)(hs:swapsWith e (some (.Name x pos')) pos.line X.env=pure false:=by rfl)(hf:X.fn x=true\/X.env.scope.names.lookup x=some .local:=by first |exact .inl rfl |exact .inr rfl |assumption):
 DS K mg X ES (.Assign [.Name x pos'] e pos) (iz F (gN i)):=PS.imp (GS hN hi hx he hs hf) λD σ H q_=>q_.el λρ h ae w re p=>
 ⟨ρ,h,ae,w,re,cD p re λd h1 ρ1 H1 l1 w1 re1 p1 v rv=>iD p1 w1 (re1.set i rv)⟩
def JA{i j:Nat}{x y:Str}{px py pt:Pos}{kt k2 pt2}(hc:X.calm=true)(hN:X.N.Nodup)(hi:X.N[i]?=some x)(hj:X.N[j]?=some y)(hij:i≠j)
 (hx:X.env.scope.names.lookup x=some .local) (hy:X.env.scope.names.lookup y=some .local) (ha:DA K mg X ES [a,b] A)
 (hw:swappedStores [.Tuple [.Name x px,.Name y py] kt pt] (.Tuple [a,b] k2 pt2) X.env=pure (some [x,y]))
 (hs:swapsWithSole [.Tuple [.Name x px,.Name y py] kt pt] (.Tuple [a,b] k2 pt2) pos.line X.env=pure false:=by rfl):
 DS K mg X ES (.Assign [.Tuple [.Name x px,.Name y py] kt pt] (.Tuple [a,b] k2 pt2) pos) (Cj i j A):=PS.imp (IS hc hN hi hj hij hx hy ha hw hs) λD σ H q_=>q_.el λρ h ae w re p=>
 ⟨ρ,h,ae,w,re,cD p re λds h1 ρ1 H1 l1 w1 re1 p1 vs rs=>by
  split at p1
  ·cases rs with
   |
    cons r1 rs=>
    cases rs with
    |
     cons r2 rs=>
     cases rs
     exact⟨_,_,rfl,iD p1 w1 ((re1.set i r1).set j r2)⟩
  ·exact p1.elim⟩
def IpD(K:W.Frag)(mg:Str->Option Value)(r:TIp)(g:D->D->AH->R D):Prop:=∀ρ h H dx dy x y Q E,Wd K mg ρ h H->RelD K mg ρ H dx x->RelD K mg ρ H dy y->eE K mg ρ H Q E (g dx dy h)->r x y H Q
def GN{i:Nat}{x:Str}{op:Operator}{ti:TIp}{pos':Pos}{gg:D->D->AH->R D}(hN:X.N.Nodup)(hi:X.N[i]?=some x)(hx:Loc X.env.scope x)(he:DE K mg X ES e F)(ho:PIp X op ti)(hd:IpD K mg ti gg)(hf:X.fn x=true\/X.env.scope.names.lookup x=some .local:=by first |exact .inl rfl |exact .inr rfl |assumption):
 DS K mg X ES (.AugAssign (.Name x pos') op e pos) (tf i gg F):=PS.imp (FW hN hi hx he ho hf) λD σ H q_=>q_.el λρ h ae w re p=>by
 unfold tf at p
 split at p
 ·rename_i d ed
  obtain⟨v,e1,r⟩:=re.at_ i d ed
  exact⟨v,e1,ρ,h,ae,w,re,cD p re λdy h1 ρ1 H1 l1 w1 re1 p1 y ry=>hd ρ1 h1 H1 d dy v y _ _ w1 (r.mono l1) ry (cD p1 re1 λdz h2 ρ2 H2 l2 w2 re2 p2 z rz=>iD p2 w2 (re2.set i rz))⟩
 ·exact p.elim
def Ce(hc:X.calm=true)(hR:Rz X E)(hg:Gl X x)(hm:mg x=some (.ref C))(hq:W.excIn X.K C eR "ValueError.__new__"=true)(ha:DA K mg X (λ_=>E) (e::es) A)(hk:X.mg=mg:=by rfl)
 (he:starEach (e::es) X.env=(false,eval e X.env)::starEach es X.env:=by rfl) (ci:(backTo cpos (starEach es X.env)).any (·.1)=false:=by rfl) (hd:(x==("__debug__" : Str))=false:=by decide):
 DS K mg X (λ_=>E) (.Raise (some (.Call (.Name x np) (e::es) [] cpos)) none pos) (uf x A):=by
 subst hk
 exact
  PS.imp (AW hc hR hg hm hq ha he ci hd) λD σ H q_=>q_.el λρ h ae w re p=>
  ⟨ρ,
   h,ae,w,re,cD p re λds h1 ρ1 H1 l1 w1 re1 p1 vs rs=>by
   split at p1
   ·rename_i hl
    exact⟨by rw[<- rs.len];exact hl,p1 ρ1 H1 σ C Le.refl w1 re1 hm⟩
   ·exact p1.elim⟩
def Fh(C:Callee X.prog X.w X.K X.mg X.base x k ps (spD K mg n S))(hr:Room k X.A)(hg:Gl X x)(hx:oa X ES)(ha:DA K mg X ES (e::es) A)
 (hdb:(x==("__debug__" : Str))=false:=by decide) (he:starEach (e::es) X.env=(false,eval e X.env)::starEach es X.env:=by rfl) (hpl:(backTo pos (starEach es X.env)).any (·.1)=false:=by rfl):
 DE K mg X ES (.Call (.Name x p) (e::es) [] pos) (eFn (λds h=>if ds.length=n then S ds h else .stuck) A):=by
 obtain⟨f,fd,F',m,kp,bb,_⟩:=C.ex
 intro pins s σ H Q I hh
 refine Qr (o8 I hg m ?_ hdb)
 have rd:rdA K mg ES A σ H (λvs H1=>spD K mg n S vs H1 Q (ES σ)):=by
  obtain⟨ρ,h,ae,w,re,p⟩:=hh
  refine⟨ρ,h,ae,w,re,p.bind.imp λds h1 ρ1 H1 l1 w1 p1 vs rs=>?_⟩
  split at p1
  ·rename_i hl
   exact⟨ρ1,h1,ds,w1,rs,hl,p1⟩
  ·exact p1.elim
 refine W.callWith_K (h₀:=X.base) I.ok.mod.kin kp (OX (ha pos pins s σ H _ I rd) (λus s1 ⟨vs,H1,I1,r,q⟩=>⟨I1.kIn,?_⟩) λ_ _ z=>z) he hpl
 have hl:(us++[]).length=ps.length:=by rw[OT,<- r.length];exact F'.len _ _ _ _ q
 refine wpAny_call (codeAny_mono (F'.run X.A X.stack s1 H1 ⟨us,[]⟩ us vs Q (ES σ) hr I1.env0 (by simpa using bb s1 us I1.kIn hl) r q) λr s' hq=>?_)
 cases r with
 |error ex=>exact hx pins σ H1 s1 ex s' I1 hq
 |
  ok fl=>
  cases fl with
  |ret u=>exact I1.after hq
  |next=>exact False.elim hq
  |brk=>exact False.elim hq
  |cont=>exact False.elim hq
def fnD(n:Nat)(F:MS):Fn:=λds h=>match F (ds.map some++List.replicate (n-ds.length) none) h with
 |.nx _ h'=>.ok .non h'
 |.rt d h'=>.ok d h'
 |.exc c _ h'=>.exc c h'
 |_=>.stuck
def aq(hp:rJ (CX1 X.prog X.w) X E):oa X (λ_=>E):=λpins σ H s e s' I h=>hp pins σ H s e s' I h
def fE:oa X (λ_=>E0):=λpins σ H s e s' I h=>L8 pins σ H s e s' I h
end
section
variable{P:Program}{w:World}{K:W.Frag}{mg:Str->Option Value}{base:Heap}{x:Str}{st:Stmt}{k:Nat}{ps N:List Str}{F:MS}
def xj(rs:RelDs K mg ρ H ds vs):RelE K mg ρ H (ds.map some++List.replicate (N.length-ds.length) none) (gf N vs):=by
 unfold gf
 refine⟨by rw[Oh,Oh,N_,N_,O9,O9,rs.len],λi d e=>?_⟩
 by_cases hi:i<ds.length
 ·rw[OF (by rw[N_];exact hi),OH] at e
  have e':ds[i]?=some d:=by
   cases q:ds[i]? with
   |none=>rw[q] at e;cases e
   |some z=>rw[q] at e;cases e;rfl
  obtain⟨v,h1,h2⟩:=rs.getD e'
  refine⟨v,?_,h2⟩
  rw[OF (by rw[N_,<- rs.len];exact hi),OH,h1];rfl
 ·rw[OC (by rw[N_];omega),O3] at e
  split at e <;> cases e
def Def.okD(D:Def K mg x st)(S:FnScope N ps (ay st))
 (hb:∀(kV doc pm:Value) (an:Option Addr) (cdv ct:Value) (us:List Value),us.length=ps.length->bindArgs (W.fnOf x x (dU st) (bT st) (ay st) .none kV doc pm an cdv ct) ⟨us,[]⟩=pure (ps.zip us))
 (jp:∀(f:Addr) (cdv:Value) (A:Around) (outer:List Env) (s:Shared) (H:Hp) (E:XK),Room k (A.deeper (envOfC x (ay st) s.heap.objs.size f cdv))->
  DSs K mg (eX (CX1 P w) P w K mg base N x (ay st) f cdv A outer s H E) (λ_=>E) (bT st) F):Callee P w K mg base x (k+1) ps (spD K mg ps.length (fnD N.length F)):=by
 refine D.okR S hb (λvs H Q E ⟨ρ,h,ds,w,rs,hl,p⟩=>by rw[<- rs.len];exact hl) λf cdv A outer s H vs Q E hr ⟨ρ,h,ds,w',rs,hl,p⟩=>?_
 refine⟨_,jp f cdv A outer s H E hr,ρ,h,_,w',xj rs,?_⟩
 unfold fnD at p
 split at p
 ·rename_i e;rw[e];exact λρ1 H1 σ1 l1 w1 re1=>p ρ1 H1 l1 w1 _ .non
 ·rename_i e;rw[e];exact λρ1 H1 v l1 w1 rv=>p ρ1 H1 l1 w1 v rv
 ·rename_i e;rw[e];exact λρ1 H1 σ1 C l1 w1 re1 m=>p ρ1 H1 C l1 w1 m
 ·exact p.elim
end
end L2
namespace L2
open PySem PySem.Spec PyProof.Rows
def bj(h:AH)(n:Nat):Option (List D):=match h[n]? with
 |some (.lst xs)=>some xs
 |some (.fz xs)=>some xs
 |_=>none
def df(h:AH):D->Option (List D)
 |.tup xs=>some xs
 |.ref n=>bj h n
 |.kl xs=>some xs
 |_=>none
section
variable{K:W.Frag}{mg:Str->Option Value}{ρ:List Addr}{H:Hp}{h:AH}
def cB(w:Wd K mg ρ h H)(ea:ρ[n]?=some a)(e:bj h n=some xs):∃vs,SqL K H a vs/\RelDs K mg ρ H xs vs:=by
 unfold bj at e
 split at e
 ·rename_i ys eo
  cases e
  obtain⟨vs,h1,h2⟩:=w.ob n a _ ea eo
  exact⟨vs,SqL.of h1,h2⟩
 ·rename_i ys eo
  cases e
  obtain⟨o,vs,h1,h2⟩:=w.ob n a _ ea eo
  exact⟨vs,.inl (.inr ⟨o,h1⟩),h2⟩
 ·cases e
def eA(w:Wd K mg ρ h H)(r:RelD K mg ρ H d v)(e:df h d=some xs):∃p vs,v=.ref p/\(SqL K H p vs\/SqT K H p vs)/\RelDs K mg ρ H xs vs:=by
 cases r with
 |
  tup q rs=>
  have e':some _=some xs:=e
  cases e'
  exact⟨_,_,rfl,.inr q,rs⟩
 |
  ref ea=>
  obtain⟨vs,h1,h2⟩:=cB w ea e
  exact⟨_,vs,rfl,.inl h1,h2⟩
 |
  kl q rs=>
  have e':some _=some xs:=e
  cases e'
  exact⟨_,_,rfl,.inl (.inr q),rs⟩
 |_=>cases e
end
def g2(f:Int->Int->R D)(x y:D):R D:=match x,y with
 |.int i,.int j=>f i j
 |_,_=>.stuck
def gI(f:Int->Int->D):D->D->AH->R D:=λx y h=>match x,y with
 |.int i,.int j=>.ok (f i j) h
 |_,_=>.stuck
open Classical in
def gIc(C:Int->Int->Prop)(f:Int->Int->D):D->D->AH->R D:=λx y h=>match x,y with
 |.int i,.int j=>if C i j then .ok (f i j) h else .stuck
 |_,_=>.stuck
section
variable{K:W.Frag}{mg:Str->Option Value}{X:Cx}
def lK(hr:∀i j ρ H,RelD K mg ρ H (g i j) (f i j)):OpD K mg (rI0 f) (gI g):=λρ h H dx dy x y Q E w rx ry p=>by
 unfold gI at p
 split at p
 ·cases rx;cases ry;exact⟨_,_,rfl,rfl,aJ w (hr _ _ ρ H) p⟩
 ·exact p.elim
def qX(hr:∀i j ρ H,RelD K mg ρ H (g i j) (f i j)):OpD K mg (rI C f) (gIc C g):=λρ h H dx dy x y Q E w rx ry p=>by
 unfold gIc at p
 split at p
 ·cases rx;cases ry
  split at p
  ·rename_i hc;exact⟨_,_,rfl,rfl,hc,aJ w (hr _ _ ρ H) p⟩
  ·exact p.elim
 ·exact p.elim
def gOr(g g':D->D->AH->R D):D->D->AH->R D:=λx y h=>match g x y h with
 |.stuck=>g' x y h
 |r=>r
def OpD.or(a:OpD K mg r g)(b:OpD K mg r' g'):OpD K mg (λx y H Q=>r x y H Q\/r' x y H Q) (gOr g g'):=λρ h H dx dy x y Q E w rx ry p=>by
 unfold gOr at p
 split at p
 ·exact .inr (b ρ h H dx dy x y Q E w rx ry p)
 ·exact .inl (a ρ h H dx dy x y Q E w rx ry p)
end
def ny:D->D->AH->R D:=λx y h=>match x,y with
 |.ref n,.ref m=>match h[n]?,h[m]? with
  |some (.lst xs),some (.lst ys)=>if xs.length+ys.length<=16777216 then .ok (.ref h.length) (h++[.lst (xs++ys)]) else .stuck
  |_,_=>.stuck
 |.tup xs,.tup ys=>if xs.length+ys.length<=16777216 then .ok (.tup (xs++ys)) h else .stuck
 |_,_=>.stuck
def gIx:D->D->AH->R D:=λx y h=>match df h x,y with
 |some xs,.int i=>match atI xs i with
  |some d=>.ok d h
  |none=>.stuck
 |_,_=>.stuck
section
variable{K:W.Frag}{mg:Str->Option Value}{X:Cx}
def mD(K:W.Frag):R2:=λx y H Q=>∃a b ys,x=.ref a/\y=.ref b/\SqT K H a []/\SqT K H b ys/\Q (.ref b) H
def DK:OpR X (binaryOp .Add) (mD X.K):=by
 intro pins s σ H x y v u Q I rx ry h
 obtain⟨a,b,ys,rfl,rfl,ha,hb,q⟩:=h
 cases rx
 cases ry
 obtain⟨its,r1,p1,_⟩:=I.tuple ha
 obtain⟨its2,r2,p2,_⟩:=I.tuple hb
 have e:its=[]:=r1.nil_iff.mpr rfl
 subst e
 obtain⟨⟨cls,dd,data,sl⟩,ho,hc,n,hd⟩:=id p1
 obtain⟨⟨cls2,dd2,data2,sl2⟩,ho2,hc2,n2,hd2⟩:=id p2
 simp only at hc hd hc2 hd2
 subst hc hd hc2 hd2
 exact concat_meets ⟨_,ho,rfl⟩ ⟨_,ho2,rfl⟩ noFill_tuple_add seq_tuple_add QD Qv (Qo _ _)
  (tuple_addW0 _ _ _ _ n n2 dd dd2 sl sl2 rfl) ⟨ho,ho2,⟨.ref b,H,I,rfl,q⟩⟩
def Ea:OpD K mg (λx y H Q=>pO x y H Q\/(mG K x y H Q\/mD K x y H Q)) ny:=λρ h H dx dy x y Q E w rx ry p=>by
 unfold ny at p
 split at p
 ·cases
   rx with
  |
   ref ea=>
   cases ry with
   |
    ref eb=>
    split at p
    ·rename_i xs ys e1 e2
     split at p
     ·rename_i hl
      obtain⟨vs,q1,r1⟩:=w.ob _ _ _ ea e1
      obtain⟨ws,q2,r2⟩:=w.ob _ _ _ eb e2
      exact .inl ⟨_,_,vs,ws,rfl,rfl,q1,q2,by rw[<- r1.len,<- r2.len];exact hl,λp' hp=>fM w (r1.append r2) hp p⟩
     ·exact p.elim
    ·exact p.elim
 ·cases
   rx with
  |
   tup q1 r1=>
   cases ry with
   |
    tup q2 r2=>
    split at p
    ·rename_i hl
     cases r1 with
     |nil=>exact .inr (.inr ⟨_,_,_,rfl,rfl,q1,q2,aJ w (.tup q2 r2) p⟩)
     |
      cons r0 r1=>
      refine .inr (.inl ⟨_,_,_,_,rfl,rfl,q1,q2,(λz=>nomatch z),by rw[<- (RelDs.cons r0 r1).len,<- r2.len];exact hl,λz=>?_,λ_ p' hp=>kX w ((RelDs.cons r0 r1).append r2) hp p⟩)
      subst z
      cases r2
      rw[OT] at p
      exact aJ w (.tup q1 (.cons r0 r1)) p
    ·exact p.elim
 ·exact p.elim
def DN(r:RelDs K mg ρ H xs vs)(e:atI xs i=some d):∃v,atI vs i=some v/\RelD K mg ρ H d v:=by
 unfold atI at e ⊢
 rw[<- r.len]
 cases q:ixN xs.length i with
 |none=>rw[q] at e;cases e
 |some j=>rw[q] at e;exact r.getD e
def JC:OpD K mg (λx y H Q=>wQ K x y H Q\/xu K x y H Q) gIx:=λρ h H dx dy x y Q E w rx ry p=>by
 unfold gIx at p
 split at p
 ·rename_i xs i e1
  split at p
  ·rename_i d e2
   cases ry
   obtain⟨pa,vs,rfl,hq,rs⟩:=eA w rx e1
   obtain⟨v,e3,rv⟩:=DN rs e2
   rcases hq with hq |hq
   ·exact .inl ⟨_,_,_,_,rfl,rfl,hq,e3,aJ w rv p⟩
   ·exact .inr ⟨_,_,_,_,rfl,rfl,hq,e3,aJ w rv p⟩
  ·exact p.elim
 ·exact p.elim
def ixK(h:X.K=K):IxR X (λx y H Q=>wQ K x y H Q\/xu K x y H Q):=by subst h;exact E2.or HB
def catK(h:X.K=K):OpR X (binaryOp .Add) (λx y H Q=>pO x y H Q\/(mG K x y H Q\/mD K x y H Q)):=by subst h;exact IP.or (DY.or DK)
end
def eY:Nat->AH->D->Option PyData
 |0,_,_=>none
 |_+1,_,.non=>some .none
 |_+1,_,.bl b=>some (.bool b)
 |_+1,_,.int i=>some (.int i)
 |_+1,_,.str x=>some (.str x)
 |k+1,h,.tup xs=>(xs.mapM (eY k h)).map .tuple
 |k+1,h,.ref n=>match bj h n with
  |some xs=>(xs.mapM (eY k h)).map .list
  |none=>none
 |_+1,_,_=>none
def qg{K:W.Frag}{mg:Str->Option Value}{ρ:List Addr}{H:Hp}{f:D->Option PyData}(hf:∀d v pd,RelD K mg ρ H d v->f d=some pd->Rep K H v pd):∀{xs:List D}{vs:List V}{ps:List PyData},RelDs K mg ρ H xs vs->xs.mapM f=some ps->Reps K H vs ps:=by
 intro xs
 induction xs with
 |
  nil=>
  intro vs ps r e
  cases r
  have e':some []=some _:=e
  cases e';exact .nil
 |
  cons x xs ih=>
  intro vs ps r e
  cases r with
  |
   cons r rr=>
   rw[P7] at e
   cases q:f x with
   |none=>rw[q] at e;cases e
   |
    some pd=>
    rw[q] at e
    cases q2:xs.mapM f with
    |none=>rw[q2] at e;cases e
    |
     some pds=>
     rw[q2] at e
     have e':some (pd::pds)=some ps:=e
     cases e'
     exact .cons (hf _ _ _ r q) (ih rr q2)
theorem lq{K:W.Frag}{mg:Str->Option Value}{ρ:List Addr}{H:Hp}{h:AH}(w:Wd K mg ρ h H):∀(k:Nat) {d:D}{v:V}{pd:PyData},RelD K mg ρ H d v->eY k h d=some pd->Rep K H v pd
 |0,_,_,_,_,e=>by cases e
 |
  k+1,d,v,pd,r,e=>by
  cases r with
  |non=>have e':some _=some pd:=e;cases e';exact .non
  |bl b=>have e':some _=some pd:=e;cases e';exact .bl b
  |int b=>have e':some _=some pd:=e;cases e';exact .int b
  |str b=>have e':some _=some pd:=e;cases e';exact .str b
  |
   tup q rs=>
   rename_i ds
   have e':(ds.mapM (eY k h)).map PyData.tuple=some pd:=e
   cases q2:ds.mapM (eY k h) with
   |none=>rw[q2] at e';cases e'
   |
    some ps=>
    rw[q2] at e'
    cases e'
    exact .tup q (qg (λd v pd r e=>lq w k r e) rs q2)
  |
   ref ea=>
   rename_i n a
   unfold eY at e
   split at e
   ·rename_i xs e1
    obtain⟨vs,h1,h2⟩:=cB w ea e1
    cases q2:xs.mapM (eY k h) with
    |none=>rw[q2] at e;cases e
    |
     some ps=>
     rw[q2] at e
     cases e
     exact .lst h1 (qg (λd v pd r e=>lq w k r e) h2 q2)
   ·cases e
  |_=>cases e
def tS(h:AH)(x y:D):Option Bool:=match eY 164 h x,eY 164 h y with
 |some a,some b=>if shp a=true/\shp b=true then some (PyData.eqv a b) else none
 |_,_=>none
def gEq(neg:Bool):D->D->AH->R D:=λx y h=>match tS h x y with
 |some b=>.ok (.bl (if neg then !b else b)) h
 |none=>.stuck
section
variable{K:W.Frag}{mg:Str->Option Value}{X:Cx}
def vN(w:Wd K mg ρ h H)(rx:RelD K mg ρ H dx x)(ry:RelD K mg ρ H dy y)(e:tS h dx dy=some b):
 ∃a c,Rep K H x a/\Rep K H y c/\shp a=true/\shp c=true/\PyData.eqv a c=b:=by
 unfold tS at e
 split at e
 ·rename_i a c e1 e2
  split at e
  ·rename_i hs
   cases e
   exact⟨a,c,lq w 164 rx e1,lq w 164 ry e2,hs.1,hs.2,rfl⟩
  ·cases e
 ·cases e
def Hg:OpD K mg (xH K) (gEq false):=λρ h H dx dy x y Q E w rx ry p=>by
 unfold gEq at p
 split at p
 ·rename_i b e
  obtain⟨a,c,h1,h2,h3,h4,rfl⟩:=vN w rx ry e
  exact⟨a,c,h1,h2,h3,h4,aJ w (.bl _) p⟩
 ·exact p.elim
def GB:OpD K mg (xI K) (gEq true):=λρ h H dx dy x y Q E w rx ry p=>by
 unfold gEq at p
 split at p
 ·rename_i b e
  obtain⟨a,c,h1,h2,h3,h4,rfl⟩:=vN w rx ry e
  exact⟨a,c,h1,h2,h3,h4,aJ w (.bl _) p⟩
 ·exact p.elim
end
def mj:D->Bool
 |.non=>true
 |.bl _=>true
 |.int _=>true
 |.str _=>true
 |_=>false
def toV:D->V
 |.bl b=>.bl b
 |.int i=>.int i
 |.str x=>.str x
 |_=>.non
def eqF(x y:D):Bool:=eqV (toV x) (toV y)
def gIn(neg:Bool):D->D->AH->R D:=λx y h=>match df h y with
 |some xs=>if mj x=true/\xs.all mj=true then .ok (.bl (if neg then !(xs.any λd=>eqF d x) else xs.any λd=>eqF d x)) h else .stuck
 |none=>.stuck
section
variable{K:W.Frag}{mg:Str->Option Value}{X:Cx}{ρ:List Addr}{H:Hp}
def sC(r:RelD K mg ρ H d v)(f:mj d=true):v=toV d/\a8 v=true:=by
 cases r with
 |non=>exact⟨rfl,rfl⟩
 |bl=>exact⟨rfl,rfl⟩
 |int=>exact⟨rfl,rfl⟩
 |str=>exact⟨rfl,rfl⟩
 |_=>cases f
def yL:∀{ds:List D}{vs:List V},RelDs K mg ρ H ds vs->ds.all mj=true->vs=ds.map toV/\vs.all a8=true:=by
 intro ds
 induction ds with
 |
  nil=>
  intro vs r f
  cases r
  exact⟨rfl,rfl⟩
 |
  cons d0 ds ih=>
  intro vs r f
  cases r with
  |
   cons r rr=>
   rw[PZ,Oj] at f
   obtain⟨rfl,h1⟩:=sC r f.1
   obtain⟨rfl,h2⟩:=ih rr f.2
   exact⟨rfl,by rw[PZ,h1,h2];rfl⟩
def IW(neg:Bool):OpD K mg (rIn K neg) (gIn neg):=λρ h H dx dy x y Q E w rx ry p=>by
 unfold gIn at p
 split at p
 ·rename_i xs e
  split at p
  ·rename_i hf
   obtain⟨pa,vs,rfl,hq,rs⟩:=eA w ry e
   obtain⟨rfl,f1⟩:=sC rx hf.1
   obtain⟨rfl,f2⟩:=yL rs hf.2
   refine⟨pa,_,rfl,hq,f1,f2,?_⟩
   have e2:inV (toV dx) (xs.map toV)=xs.any λd=>eqF d dx:=by
    unfold inV eqF
    rw[List.any_map];rfl
   rw[e2]
   exact aJ w (.bl _) p
  ·exact p.elim
 ·exact p.elim
def By(neg:Bool):D->D->AH->R D:=λx y h=>match x,y with
 |.non,.non=>.ok (.bl (!neg)) h
 |_,.non=>.ok (.bl neg) h
 |_,_=>.stuck
end
end L2
namespace L2
open PySem PySem.Spec PyProof.Rows
inductive AIt where
 |lst (n:Nat) (xs:List D) |tup (xs:List D) |rng (lo:Int) (k:Nat) |enm (s:AIt) |zip (s t:AIt)
def jB:Nat->List D->List D
 |_,[]=>[]
 |i,d::ds=>.tup [.int (i:Nat),d]::jB (i+1) ds
def AIt.items:AIt->List D
 |.lst _ xs=>xs
 |.tup xs=>xs
 |.rng lo k=>(List.range k).map λi=>D.int (lo+(i:Nat))
 |.enm s=>jB 0 s.items
 |.zip s t=>List.zipWith (λx y=>.tup [x,y]) s.items t.items
def AIt.guard:AIt->AH->Prop
 |.lst n xs,h=>bj h n=some xs
 |.enm s,h=>s.guard h
 |.zip s t,h=>s.guard h/\t.guard h
 |_,_=>True
def SrcR(K:W.Frag)(mg:Str->Option Value)(ρ:List Addr)(H:Hp):AIt->Bool->Addr->Prop
 |.lst n _,true,a=>ρ[n]?=some a
 |.tup xs,false,p=>∃vs,SqT K H p vs/\RelDs K mg ρ H xs vs
 |_,_,_=>False
def ItR(K:W.Frag)(mg:Str->Option Value)(ρ:List Addr)(H:Hp):AIt->It->Prop
 |.lst n _,J=>∃a,ρ[n]?=some a/\J=Itl K a
 |.tup xs,J=>∃p vs,SqT K H p vs/\RelDs K mg ρ H xs vs/\J=Itt K p
 |.rng lo k,J=>J=Itr lo k
 |.enm s,J=>∃b a,SrcR K mg ρ H s b a/\J=IteE K b a
 |.zip s t,J=>∃b c a d,SrcR K mg ρ H s b a/\SrcR K mg ρ H t c d/\J=ItZ K b c a d
theorem tq:∀{ds:List D}{k i:Nat}{e:D},(jB k ds)[i]?=some e->∃d,ds[i]?=some d/\e=.tup [.int ((k+i:Nat):Int),d]
 | [],_,_,_,q=>by simp [jB] at q
 |d::ds,k,0,e,q=>⟨d,rfl,by simpa [jB] using q.symm⟩
 |
  d::ds,k,i+1,e,q=>by
  obtain⟨d',q1,q2⟩:=tq (ds:=ds) (k:=k+1) (i:=i) (e:=e) (by simpa [jB] using q)
  refine⟨d',by simpa using q1,?_⟩
  rw[q2]
  congr 4
  omega
theorem rQ:∀(ds:List D) (k:Nat),(jB k ds).length=ds.length
 | [],_=>rfl
 |_::ds,k=>by show (jB (k+1) ds).length+1=ds.length+1;rw[rQ ds]
section
variable{K:W.Frag}{mg:Str->Option Value}{ρ ρ1:List Addr}{H H1:Hp}{h h1:AH}
def SrcR.at_(r:SrcR K mg ρ H s b a)(l:Le ρ H ρ1 H1)(w:Wd K mg ρ1 h1 H1)(g:s.guard h1):∃vs,SqB K b H1 a vs/\RelDs K mg ρ1 H1 s.items vs:=by
 cases s with
 |
  lst n xs=>
  cases b with
  |true=>exact cB w (l.pre _ _ r) g
  |false=>exact r.elim
 |
  tup xs=>
  cases b with
  |true=>exact r.elim
  |false=>obtain⟨vs,q,rs⟩:=r;exact⟨vs,l.sqT q,rs.mono l⟩
 |rng _ _=>cases b <;> exact r.elim
 |enm _=>cases b <;> exact r.elim
 |zip _ _=>cases b <;> exact r.elim
def ItR.step(hJ:ItR K mg ρ H it J)(l:Le ρ H ρ1 H1)(w:Wd K mg ρ1 h1 H1)(g:it.guard h1):
 (∀(i:Nat) (d:D),it.items[i]?=some d->J.go i H1/\∀x H',J.yld i H1 x H'->Le ρ1 H1 ρ1 H'/\Wd K mg ρ1 h1 H'/\RelD K mg ρ1 H' d x)/\J.stop it.items.length H1:=by
 cases it with
 |
  lst n xs=>
  obtain⟨a,ea,rfl⟩:=hJ
  obtain⟨vs,q,rs⟩:=cB w (l.pre _ _ ea) g
  refine⟨λi d e=>?_,vs,q,by rw[<- rs.len];exact Og _⟩
  obtain⟨v,ev,rv⟩:=rs.getD e
  refine⟨⟨vs,v,q,ev⟩,λx H' ⟨e1,y⟩=>?_⟩
  subst e1
  have:=(y vs q).symm.trans ev
  cases this
  exact⟨Le.refl,w,rv⟩
 |
  tup xs=>
  obtain⟨p,vs,q,rs,rfl⟩:=hJ
  have q1:=l.sqT q
  have rs1:=rs.mono l
  refine⟨λi d e=>?_,vs,q1,by rw[<- rs1.len];exact Og _⟩
  obtain⟨v,ev,rv⟩:=rs1.getD e
  refine⟨⟨vs,v,q1,ev⟩,λx H' ⟨e1,y⟩=>?_⟩
  subst e1
  have:=(y vs q1).symm.trans ev
  cases this
  exact⟨Le.refl,w,rv⟩
 |
  rng lo k=>
  cases hJ
  refine⟨λi d e=>?_,?_⟩
  ·have e':((List.range k).map λi=>D.int (lo+(i:Nat)))[i]?=some d:=e
   rw[OH] at e'
   cases q:(List.range k)[i]? with
   |none=>rw[q] at e';cases e'
   |
    some j=>
    rw[q] at e'
    have hj:=Oe.mp q
    have e2:=hj.2
    rw[List.getElem_range] at e2
    subst e2
    cases e'
    refine⟨show i<k by simpa using hj.1,λx H' ⟨e1,e2⟩=>?_⟩
    subst e1 e2
    exact⟨Le.refl,w,.int _⟩
  ·show k<=((List.range k).map λi=>D.int (lo+(i:Nat))).length
   simp
 |
  enm s=>
  obtain⟨b,a,r,rfl⟩:=hJ
  obtain⟨vs,q,rs⟩:=r.at_ l w g
  refine⟨λi d e=>?_,vs,q,by show vs.length=(jB 0 s.items).length;rw[rQ,rs.len]⟩
  obtain⟨d',q1,rfl⟩:=tq (show (jB 0 s.items)[i]?=some d from e)
  obtain⟨v,ev,rv⟩:=rs.getD q1
  refine⟨⟨vs,v,q,ev⟩,λx H' ⟨p,u,e1,hp,e2,hu⟩=>?_⟩
  subst e1 e2
  have:=(hu vs q).symm.trans ev
  cases this
  rw[Nat.zero_add]
  exact⟨eu hp,w.tuple hp,.tup (SqT.of b0) (.cons (.int _) (.cons (rv.mono (eu hp)) .nil))⟩
 |
  zip s t=>
  obtain⟨b,c,a,d,r1,r2,rfl⟩:=hJ
  obtain⟨vs,q,rs⟩:=r1.at_ l w g.1
  obtain⟨us,q',rs'⟩:=r2.at_ l w g.2
  refine⟨λi e ei=>?_,vs,us,q,q',?_⟩
  ·have ei':(List.zipWith (λx y=>D.tup [x,y]) s.items t.items)[i]?=some e:=ei
   rw[PJ] at ei'
   cases k1:s.items[i]? with
   |none=>rw[k1] at ei';cases ei'
   |
    some d1=>
    cases k2:t.items[i]? with
    |none=>rw[k1,k2] at ei';cases ei'
    |
     some d2=>
     rw[k1,k2] at ei'
     cases ei'
     obtain⟨v,ev,rv⟩:=rs.getD k1
     obtain⟨v',ev',rv'⟩:=rs'.getD k2
     refine⟨⟨vs,us,v,v',q,q',ev,ev'⟩,λx H' ⟨p,u,u',e1,hp,e2,hu,hu'⟩=>?_⟩
     subst e1 e2
     have:=(hu vs q).symm.trans ev
     cases this
     have:=(hu' us q').symm.trans ev'
     cases this
     exact⟨eu hp,w.tuple hp,.tup (SqT.of b0) (.cons (rv.mono (eu hp)) (.cons (rv'.mono (eu hp)) .nil))⟩
  ·have hl:(AIt.zip s t).items.length=min s.items.length t.items.length:=PX ..
   rw[hl,rs.len,rs'.len]
   rcases Nat.le_total vs.length us.length with z |z
   ·left;rw[QN z];exact List.getElem?_eq_none (Og _)
   ·right;rw[Nat.min_eq_right z];exact List.getElem?_eq_none (Og _)
end
def SR.loop(r:SR)(f:AE->AH->SR):SR:=match r with
 |.nx ae h=>f ae h
 |.ct ae h=>f ae h
 |.bk ae h=>.nx ae h
 |.rt d h=>.rt d h
 |.exc c ae h=>.exc c ae h
 |.stuck=>.stuck
open Classical in
def gz(G:AH->Prop)(g:MG)(B:MS):List D->MS
 | [],ae,h=>if G h then .nx ae h else .stuck
 |d::ds,ae,h=>if G h then (g d ae h).toS ae λae1 h1=>(B ae1 h1).loop (gz G g B ds) else .stuck
abbrev MI:=AE->AH->R AIt
def pE(I:MI)(g:MG)(B:MS):MS:=λae h=>(I ae h).toS ae λit h1=>gz it.guard g B it.items ae h1
open Classical in
def lcL(G:AH->Prop)(g:MG)(c:MT)(F:ME):List D->List D->AE->AH->R (List D)
 | [],acc,_,h=>if G h then .ok acc h else .stuck
 |d::ds,acc,ae,h=>if G h/\acc.length<16777216 then (g d ae h).bind λae1 h1=>(c ae1 h1).bind λb h2=>if b=true then (F ae1 h2).bind λy h3=>lcL G g c F ds (acc++[y]) ae1 h3 else lcL G g c F ds acc ae1 h2 else .stuck
def kF(sub:List (Option Nat))(ae:AE):AE:=sub.map λo=>o.bind λi=>(ae[i]?).bind id
def eLC(I:MI)(sub:List (Option Nat))(g:MG)(c:MT)(F:ME):ME:=λae h=>(I ae h).bind λit h1=>(noX (lcL it.guard g c F it.items [] (kF sub ae) h1)).bind b9
def tY:MT:=λ_ h=>.ok true h
section
variable(K:W.Frag)(mg:Str->Option Value)
def rdI(ES:St->XK)(F:MI):TI:=λσ H R'=>∃ρ h ae,Wd K mg ρ h H/\RelE K mg ρ H ae σ/\PostG K mg ρ H (ES σ) (λit _ ρ' H'=>∀J,ItR K mg ρ' H' it J->R' J H') (F ae h)
def DI(X:Cx)(ES:St->XK)(tg am:Expr)(F:MI):Prop:=PI X tg am (rdI K mg ES F)
end
def AB(F:ME):MI:=λae h=>(F ae h).bind λd h1=>match d with
 |.tup xs=>.ok (.tup xs) h1
 |.ref n=>match bj h1 n with
  |some xs=>.ok (.lst n xs) h1
  |none=>.stuck
 |_=>.stuck
def Aq(A:MA):MI:=λae h=>(A ae h).bind λds h1=>match ds with
 | [.int j]=>if -(2^62)<=j/\j<2^62 then .ok (.rng 0 j.toNat) h1 else .stuck
 |_=>.stuck
def iF(d:D)(h:AH):Option AIt:=match d with
 |.tup xs=>some (.tup xs)
 |.ref n=>(bj h n).map (.lst n)
 |_=>none
def BK(A:MA):MI:=λae h=>(A ae h).bind λds h1=>match ds with
 | [d,e]=>(match iF d h1,iF e h1 with
  |some s,some t=>.ok (.zip s t) h1
  |_,_=>.stuck)
 |_=>.stuck
section
variable{K:W.Frag}{mg:Str->Option Value}{X:Cx}{ES:St->XK}{tg am e a b c j':Expr}{F:ME}{A:MA}{I:MI}{g:MG}{cf:MT}{U:MS}{sts:List Stmt}{pos:Pos}
def PI.imp(h:PI X tg am t)(k:∀σ H Q,t' σ H Q->t σ H Q):PI X tg am t':=λpins s σ H Q I w=>h pins s σ H Q I (k σ H Q w)
def JE(hl:PE X l tl):PI X tg l (λσ H R=>tl σ H λx H1=>(∃a,x=.ref a/\(∃xs,SqL X.K H1 a xs)/\R (Itl X.K a) H1)\/(∃a,x=.ref a/\(∃xs,SqT X.K H1 a xs)/\R (Itt X.K a) H1)):=by
 intro pins s σ H R I h
 refine thn (hl pins s σ H _ I h) λv s1 ⟨x,H1,I1,r1,q1⟩=>?_
 rcases q1 with ⟨a,e,⟨xs,hq⟩,q⟩ |⟨a,e,⟨xs,hq⟩,q⟩
 ·subst e
  cases r1
  obtain⟨its,rv,p,hz⟩:=I1.list hq
  refine wpAny_pyIter_list p.isList ?_
  refine⟨s1.heap.objs.size,[s1.heap.objs.size],_,_,H1,rfl,I1.kept (t':=s1.toks) λb o e=>Oo _ e,yt a _,⟨_,OD _ rfl,rfl,rfl⟩,λb hb=>?_,q⟩
  have e:b=s1.heap.objs.size:=by simpa using hb
  subst e
  exact I1.fpOk (Og _) (I1.hok.fresh (Og _))
 ·subst e
  cases r1
  obtain⟨its,rv,p,hz⟩:=I1.tuple hq
  refine wpAny_pyIter_tuple (show s1.heap.IsTuple a its.toArray from p) ?_
  refine⟨s1.heap.objs.size,[s1.heap.objs.size],_,_,H1,rfl,I1.kept (t':=s1.toks) λb o e=>Oo _ e,wz a _,⟨_,OD _ rfl,rfl,rfl⟩,λb hb=>?_,q⟩
  have e:b=s1.heap.objs.size:=by simpa using hb
  subst e
  exact I1.fpOk (Og _) (I1.hok.fresh (Og _))
def Jd(hK:X.K=K)(he:DE K mg X ES e F):DI K mg X ES tg e (AB F):=by
 subst hK
 refine PI.imp (JE he) λσ H R ⟨ρ,h,ae,w,re,p⟩=>⟨ρ,h,ae,w,re,p.bind.imp λd h1 ρ1 H1 l1 w1 p1 v rv=>?_⟩
 cases rv with
 |tup q rs=>exact .inr ⟨_,rfl,⟨_,q⟩,p1 ρ1 H1 Le.refl w1 _ ⟨_,_,q,rs,rfl⟩⟩
 |
  ref ea=>
  dsimp only at p1
  split at p1
  ·rename_i xs e1
   obtain⟨vs,q,rs⟩:=cB w1 ea e1
   exact .inl ⟨_,rfl,⟨_,q⟩,p1 ρ1 H1 Le.refl w1 _ ⟨_,ea,rfl⟩⟩
  ·exact p1.elim
 |_=>exact p1.elim
def zA(hg:Gl X "range")(hm:mg "range"=none)(ha:DA K mg X ES [a] A)(hk:X.mg=mg:=by rfl)(hs:starEach [a] X.env=[(false,eval a X.env)]:=by rfl):DI K mg X ES tg (.Call (.Name "range" p) [a] [] pos) (Aq A):=by
 subst hk
 refine PI.imp (yp hg hm ha hs) λσ H R ⟨ρ,h,ae,w,re,p⟩=>⟨ρ,h,ae,w,re,p.bind.imp λds h1 ρ1 H1 l1 w1 p1 vs rs=>?_⟩
 split at p1
 ·cases rs with
  |
   cons r rs=>
   cases r;cases rs
   split at p1
   ·rename_i hb
    exact⟨_,rfl,hb.1,hb.2,p1 ρ1 H1 Le.refl w1 _ rfl⟩
   ·exact p1.elim
 ·exact p1.elim
def p8(w:Wd K mg ρ h H)(r:RelD K mg ρ H d v)(q:iF d h=some s):∃b p,v=.ref p/\SrcR K mg ρ H s b p/\∃vs,SqB K b H p vs:=by
 cases r with
 |tup hq rs=>cases q;exact⟨false,_,rfl,⟨_,hq,rs⟩,_,hq⟩
 |
  ref ea=>
  obtain⟨xs,q1,rfl⟩:=OJ.mp q
  obtain⟨vs,h1,h2⟩:=cB w ea q1
  exact⟨true,_,rfl,ea,vs,h1⟩
 |_=>cases q
def HL(hK:X.K=K)(hg:Gl X "zip")(hm:mg "zip"=none)(ha:DA K mg X ES [a,b] A)(hk:X.mg=mg:=by rfl)(hs:starEach [a,b] X.env=[(false,eval a X.env),(false,eval b X.env)]:=by rfl)(hs2:starEach [b] X.env=[(false,eval b X.env)]:=by rfl):DI K mg X ES (.Tuple elts x1 tp) (.Call (.Name "zip" p) [a,b] [] pos) (BK A):=by
 subst hk hK
 refine PI.imp (Jf hg hm ha hs hs2) λσ H R ⟨ρ,h,ae,w,re,p⟩=>⟨ρ,h,ae,w,re,p.bind.imp λds h1 ρ1 H1 l1 w1 p1 vs rs=>?_⟩
 split at p1
 ·cases
   rs with
  |
   cons r rs=>
   cases rs with
   |
    cons r' rs=>
    cases rs
    split at p1
    ·rename_i s t q q'
     obtain⟨b,pa,rfl,sr,xs,hx⟩:=p8 w1 r q
     obtain⟨c,pd,rfl,sr',ys,hy⟩:=p8 w1 r' q'
     exact⟨b,c,pa,pd,xs,ys,rfl,hx,hy,p1 ρ1 H1 Le.refl w1 _ ⟨b,c,pa,pd,sr,sr',rfl⟩⟩
    ·exact p1.elim
 ·exact p1.elim
def uh(p:PostS K mg ρ H De ES (r.loop f))(i:∀ae1 h1 ρ1 H1 σ1,Le ρ H ρ1 H1->Wd K mg ρ1 h1 H1->RelE K mg ρ1 H1 ae1 σ1->PostS K mg ρ1 H1 De ES (f ae1 h1)->N σ1 H1):
 PostS K mg ρ H { De with nx:=N,ct:=N,bk:=De.nx } ES r:=by
 cases r with
 |nx ae1 h1=>exact λρ1 H1 σ1 l1 w1 re1=>i ae1 h1 ρ1 H1 σ1 l1 w1 re1 (PostS.mono l1 p)
 |rt d h1=>exact p
 |bk ae1 h1=>exact p
 |ct ae1 h1=>exact λρ1 H1 σ1 l1 w1 re1=>i ae1 h1 ρ1 H1 σ1 l1 w1 re1 (PostS.mono l1 p)
 |exc c ae1 h1=>exact p
 |stuck=>exact p
def zV(hp:PassesOwn (model X.prog X.w) X.A X.env X.xe)(hc:X.calm=true)(hi:DI K mg X ES tg am I)(hg:DG K mg X ES tg g)(hb:DSs K mg X ES sts U)
 (hs:∀x,foldedSetIterable am X.env x=pure x:=by intro _;rfl):DS K mg X ES (.For tg am sts [] pos) (pE I g U):=by
 refine PS.imp (HN hp hc hi hg hb hs) λDe σ H q_=>q_.el λρ h ae w re p=>⟨ρ,h,ae,w,re,cD p re λit h1 ρ1 H1 l1 w1 re1 p1 J hJ=>?_⟩
 refine⟨λi m σ2 H2=>m=it.items.length-i/\i<=it.items.length/\∃ρ2 h2 ae2,Le ρ1 H1 ρ2 H2/\Wd K mg ρ2 h2 H2/\RelE K mg ρ2 H2 ae2 σ2/\PostS K mg ρ2 H2 De ES (gz it.guard g U (it.items.drop i) ae2 h2),⟨_,rfl,OO _,ρ1,h1,ae,Le.refl,w1,re1,p1⟩,?_⟩
 rintro i m σ2 H2 ⟨rfl,hi',ρ2,h2,ae2,l2,w2,re2,p2⟩
 by_cases hlt:i<it.items.length
 ·have hd:it.items.drop i=it.items[i]::it.items.drop (i+1):=List.drop_eq_getElem_cons hlt
  rw[hd] at p2
  unfold gz at p2
  split at p2
  ·rename_i hG
   obtain⟨st,_⟩:=hJ.step l2 w2 hG
   obtain⟨go,yl⟩:=st i it.items[i] (Ov hlt)
   refine .inr ⟨go,λσ' H'=>∃ρ3 h3 ae3,Le ρ1 H1 ρ3 H'/\Wd K mg ρ3 h3 H'/\RelE K mg ρ3 H' ae3 σ'/\PostS K mg ρ3 H' De ES (gz it.guard g U (it.items.drop (i+1)) ae3 h3),
    λσ' H' ⟨ρ3,h3,ae3,q⟩=>⟨_,by omega,rfl,hlt,ρ3,h3,ae3,q⟩,λx H' hy=>?_⟩
   obtain⟨ly,wy,rx⟩:=yl x H' hy
   refine⟨ρ2,h2,ae2,_,wy,re2.mono ly,rx,cD (PostS.mono ly p2) (re2.mono ly) λae3 h3 ρ3 H3 l3 w3 re3 p3 σ' re'=>⟨ρ3,h3,ae3,w3,re',uh p3 λae4 h4 ρ4 H4 σ4 l4 w4 re4 p4=>⟨ρ4,h4,ae4,((l2.trans ly).trans l3).trans l4,w4,re4,p4⟩⟩⟩
  ·exact p2.elim
 ·have hi2:i=it.items.length:=by omega
  subst hi2
  rw[List.drop_length] at p2
  unfold gz at p2
  split at p2
  ·rename_i hG
   exact .inl ⟨(hJ.step l2 w2 hG).2,iD p2 w2 re2⟩
  ·exact p2.elim
def Ac(re:RelE K mg ρ H ae σ)(sub:List (Option Nat)):RelE K mg ρ H (kF sub ae) (g6 sub σ):=by
 unfold kF g6
 refine⟨by rw[N_,N_],λj d e=>?_⟩
 rw[OH] at e ⊢
 cases q:sub[j]? with
 |none=>rw[q] at e;cases e
 |
  some o=>
  rw[q] at e
  cases o with
  |none=>cases e
  |
   some i=>
   have e':(ae[i]?).bind id=some d:=OE e
   cases q2:ae[i]? with
   |none=>rw[q2] at e';cases e'
   |
    some z=>
    rw[q2] at e'
    have e3:z=some d:=e'
    subst e3
    obtain⟨v,h1,h2⟩:=re.at_ i d q2
    refine⟨v,?_,h2⟩
    show some ((σ[i]?).bind id)=some (some v)
    rw[h1];rfl
def mU(p:PostG K mg ρ H E k ((noX (r.bind f)).bind m)):
 PostG K mg ρ H E0 (λa h1 ρ' H'=>PostG K mg ρ' H' E k ((noX (f a h1)).bind m)) r:=by
 cases r with
 |ok a h1=>exact λρ1 H1 l1 w1=>PostG.mono l1 p
 |exc c h1=>exact p.elim
 |stuck=>exact p.elim
def Co(σ:St)(H:Hp)(Q:VK)(q:rdE K mg ES (eLC I sub g cf F) σ H Q):kI (rdI K mg ES I) sub (rdG K mg (λ_=>E0) g) (rdT K mg (λ_=>E0) cf) (rdE K mg (λ_=>E0) F) σ H Q:=by
 obtain⟨ρ,h,ae,w,re,p⟩:=q
 refine⟨ρ,h,ae,w,re,p.bind.imp λit h1 ρ1 H1 l1 w1 p1 J hJ=>?_⟩
 have re1:=Ac (re.mono l1) sub
 refine⟨λi m ys σ2 H2=>m=it.items.length-i/\i<=it.items.length/\∃ρ2 h2 ae2 acc,Le ρ1 H1 ρ2 H2/\Wd K mg ρ2 h2 H2/\RelE K mg ρ2 H2 ae2 σ2/\RelDs K mg ρ2 H2 acc ys/\
  PostG K mg ρ2 H2 (ES σ) (λd _ ρ' H'=>∀v,RelD K mg ρ' H' d v->Q v H') ((noX (lcL it.guard g cf F (it.items.drop i) acc ae2 h2)).bind b9),
  ⟨_,rfl,OO _,ρ1,h1,kF sub ae,[],Le.refl,w1,re1,.nil,p1⟩,?_⟩
 rintro i m ys σ2 H2 ⟨rfl,hi',ρ2,h2,ae2,acc,l2,w2,re2,rs,p2⟩
 by_cases hlt:i<it.items.length
 ·have hd:it.items.drop i=it.items[i]::it.items.drop (i+1):=List.drop_eq_getElem_cons hlt
  rw[hd] at p2
  unfold lcL at p2
  split at p2
  ·rename_i hG
   obtain⟨st,_⟩:=hJ.step l2 w2 hG.1
   obtain⟨go,yl⟩:=st i it.items[i] (Ov hlt)
   refine .inr ⟨go,by rw[<- rs.len];exact hG.2,λys' σ' H'=>∃ρ3 h3 ae3 acc3,Le ρ1 H1 ρ3 H'/\Wd K mg ρ3 h3 H'/\RelE K mg ρ3 H' ae3 σ'/\RelDs K mg ρ3 H' acc3 ys'/\
    PostG K mg ρ3 H' (ES σ) (λd _ ρ' H'=>∀v,RelD K mg ρ' H' d v->Q v H') ((noX (lcL it.guard g cf F (it.items.drop (i+1)) acc3 ae3 h3)).bind b9),
    λys' σ' H' ⟨ρ3,h3,ae3,acc3,q⟩=>⟨_,by omega,rfl,hlt,ρ3,h3,ae3,acc3,q⟩,λx H' hy=>?_⟩
   obtain⟨ly,wy,rx⟩:=yl x H' hy
   refine⟨ρ2,h2,ae2,_,wy,re2.mono ly,rx,(mU (PostG.mono ly p2)).imp λae3 h3 ρ3 H3 l3 w3 p3 σ3 re3=>⟨ρ3,h3,ae3,w3,re3,(mU p3).imp λb h4 ρ4 H4 l4 w4 p4=>?_⟩⟩
   cases b with
   |true=>exact⟨ρ4,h4,ae3,w4,re3.mono l4,(mU p4).imp λy h5 ρ5 H5 l5 w5 p5 v rv=>⟨ρ5,h5,ae3,acc++[y],(((l2.trans ly).trans l3).trans l4).trans l5,w5,(re3.mono l4).mono l5,((((rs.mono ly).mono l3).mono l4).mono l5).append (.cons rv .nil),p5⟩⟩
   |false=>exact⟨ρ4,h4,ae3,acc,((l2.trans ly).trans l3).trans l4,w4,re3.mono l4,((rs.mono ly).mono l3).mono l4,p4⟩
  ·exact p2.elim
 ·have hi2:i=it.items.length:=by omega
  subst hi2
  rw[List.drop_length] at p2
  unfold lcL at p2
  split at p2
  ·rename_i hG
   refine .inl ⟨(hJ.step l2 w2 hG).2,?_⟩
   have p3:PostG K mg ρ2 H2 (ES σ) (λd _ ρ' H'=>∀v,RelD K mg ρ' H' d v->Q v H') (b9 acc h2):=p2
   unfold b9 at p3
   split at p3
   ·rename_i hl
    exact⟨by rw[<- rs.len];exact hl,λq hq=>fM w2 rs hq p3⟩
   ·exact p3.elim
  ·exact p2.elim
def K1(M:List Str)(kn:List (Str×NameKind))(N:List Str)(sub:List (Option Nat))
 (hc:X.calm=true) (hi:DI K mg X ES tg am I)
 (hg:∀cl C s₂ H fp,DG K mg (bA X N scope cl C s₂ H fp) (λ_=>E0) tg g) (he:∀cl C s₂ H fp,DE K mg (bA X N scope cl C s₂ H fp) (λ_=>E0) j' F)
 (hM:X.N=M:=by rfl) (hkn:X.env.scope.names=kn:=by rfl) (im:jr M scope.names sub N=true:=by decide)
 (hk:scope.kind=.function:=by rfl) (hnc:∀x∈scope.names,x.2 ≠ .cell:=by decide) (bn:∀x∈scope.names,x.2=.local->scope.names.lookup x.1=some .local:=by decide)
 (hfr:lR kn scope.names=true:=by decide)
 (hsl:sub.length=N.length:=by rfl) (hs:∀x,foldedSetIterable am X.env x=pure x:=by intro _;rfl):
 DE K mg X ES (.ListComp j' [⟨tg,am,[],0⟩] scope pos) (eLC I sub g tY F):=
 PE.imp (Lg M kn N sub hc hi hg he hM hkn im hk hnc bn hfr hsl hs) λσ H Q q=>by
  have:=Co (cf:=tY) σ H Q q
  obtain⟨ρ,h,ae,w,re,p⟩:=this
  refine⟨ρ,h,ae,w,re,p.imp λit h1 ρ1 H1 l1 w1 k J hJ=>?_⟩
  obtain⟨W,w0,tn⟩:=k J hJ
  refine⟨W,w0,λi m ys σ2 H2 hW=>?_⟩
  rcases tn i m ys σ2 H2 hW with z |⟨go,hl,Nx,hN,st⟩
  ·exact .inl z
  ·refine .inr ⟨go,hl,Nx,hN,λx H' hy=>?_⟩
   obtain⟨ρ3,h3,ae3,d3,w3,re3,rd3,p3⟩:=st x H' hy
   refine⟨ρ3,h3,ae3,d3,w3,re3,rd3,p3.imp λae4 h4 ρ4 H4 l4 w4 k4 σ4 re4=>?_⟩
   obtain⟨ρ5,h5,ae5,w5,re5,p5⟩:=k4 σ4 re4
   exact p5 ρ5 _ Le.refl w5
def GW(σ:St)(H:Hp)(Q:VK)(q:rdE K mg ES (eLC I sub g tY F) σ H Q):kI (rdI K mg ES I) sub (rdG K mg (λ_=>E0) g) Bm (rdE K mg (λ_=>E0) F) σ H Q:=by
 have:=Co (cf:=tY) σ H Q q
 obtain⟨ρ,h,ae,w,re,p⟩:=this
 refine⟨ρ,h,ae,w,re,p.imp λit h1 ρ1 H1 l1 w1 k J hJ=>?_⟩
 obtain⟨W,w0,tn⟩:=k J hJ
 refine⟨W,w0,λi m ys σ2 H2 hW=>?_⟩
 rcases tn i m ys σ2 H2 hW with z |⟨go,hl,Nx,hN,st⟩
 ·exact .inl z
 ·refine .inr ⟨go,hl,Nx,hN,λx H' hy=>?_⟩
  obtain⟨ρ3,h3,ae3,d3,w3,re3,rd3,p3⟩:=st x H' hy
  refine⟨ρ3,h3,ae3,d3,w3,re3,rd3,p3.imp λae4 h4 ρ4 H4 l4 w4 k4 σ4 re4=>?_⟩
  obtain⟨ρ5,h5,ae5,w5,re5,p5⟩:=k4 σ4 re4
  exact p5 ρ5 _ Le.refl w5
def Ej(ht:∀σ H Q,rdE K mg ES F σ H Q->t σ H Q)(De:Ends)(σ:St)(H:Hp)(q:rdS K mg ES (iz F (gN i)) De σ H):tP t (oo i) De σ H:=by
 obtain⟨ρ,h,ae,w,re,p⟩:=q
 exact ht σ H _ ⟨ρ,h,ae,w,re,cD p re λd h1 ρ1 H1 l1 w1 re1 p1 v rv=>iD p1 w1 (re1.set i rv)⟩
def K8(M:List Str)(kn:List (Str×NameKind))(N:List Str)(sub:List (Option Nat))
 (hc:X.calm=true) (hN:X.N.Nodup) (hix:X.N[iT]?=some xT) (hxl:Loc X.env.scope xT) (hi:DI K mg X ES tg am I)
 (hg:∀cl C s₂ H fp,DG K mg (bA X N scope cl C s₂ H fp) (λ_=>E0) tg g) (he:∀cl C s₂ H fp,DE K mg (bA X N scope cl C s₂ H fp) (λ_=>E0) j' F)
 (hsw:swapsWith (.ListComp j' [⟨tg,am,[],0⟩] scope pos) (some (.Name xT px)) spos.line X.env=pure true:=by rfl)
 (hM:X.N=M:=by rfl) (hkn:X.env.scope.names=kn:=by rfl) (im:jr M scope.names sub N=true:=by decide)
 (hk:scope.kind=.function:=by rfl) (hnc:∀x∈scope.names,x.2 ≠ .cell:=by decide) (bn:∀x∈scope.names,x.2=.local->scope.names.lookup x.1=some .local:=by decide)
 (hfr:lR kn scope.names=true:=by decide)
 (hsl:sub.length=N.length:=by rfl) (hs:∀x,foldedSetIterable am X.env x=pure x:=by intro _;rfl) (hf:X.fn xT=true\/X.env.scope.names.lookup xT=some .local:=by first |exact .inl rfl |exact .inr rfl |assumption):
 DS K mg X ES (.Assign [.Name xT px] (.ListComp j' [⟨tg,am,[],0⟩] scope pos) spos) (iz (eLC I sub g tY F) (gN iT)):=
 PS.imp (Kw M kn N sub hc hN hix hxl hi hg he hsw hM hkn im hk hnc bn hfr hsl hs hf) (Ej GW)
end
def whN(c:MT)(B:MS):Nat->MS
 |0,_,_=>.stuck
 |k+1,ae,h=>(c ae h).toS ae λb h1=>if b=true then (B ae h1).loop (whN c B k) else .nx ae h1
open Classical in
def sWh(c:MT)(B:MS):MS:=λae h=>if q:∃k,whN c B k ae h ≠ .stuck then whN c B q.choose ae h else .stuck
theorem m5:∀{k:Nat}{ae:AE}{h:AH},whN c B k ae h ≠ .stuck->whN c B (k+1) ae h=whN c B k ae h
 |0,_,_,q=>absurd rfl q
 |
  k+1,ae,h,q=>by
  have e1:whN c B (k+2) ae h=(c ae h).toS ae λb h1=>if b=true then (B ae h1).loop (whN c B (k+1)) else .nx ae h1:=rfl
  have e2:whN c B (k+1) ae h=(c ae h).toS ae λb h1=>if b=true then (B ae h1).loop (whN c B k) else .nx ae h1:=rfl
  rw[e2] at q
  rw[e1,e2]
  cases r:c ae h with
  |exc _ _=>rfl
  |stuck=>rfl
  |
   ok b h1=>
   rw[r] at q
   cases b with
   |false=>rfl
   |
    true=>
    have q':(B ae h1).loop (whN c B k) ≠ .stuck:=q
    show (B ae h1).loop (whN c B (k+1))=(B ae h1).loop (whN c B k)
    cases s:B ae h1 with
    |nx a2 h2=>rw[s] at q';exact m5 q'
    |ct a2 h2=>rw[s] at q';exact m5 q'
    |_=>rfl
def yQ(q:whN c B k ae h ≠ .stuck)(hj:k<=j):whN c B j ae h=whN c B k ae h:=by
 induction hj with
 |refl=>rfl
 |step _ ih=>rw[m5 (by rw[ih];exact q),ih]
def yX(q:whN c B k ae h ≠ .stuck):sWh c B ae h=whN c B k ae h:=by
 have hq:∃k,whN c B k ae h ≠ .stuck:=⟨k,q⟩
 unfold sWh
 rw[dif_pos hq]
 rcases Nat.le_total hq.choose k with z |z
 ·exact (yQ hq.choose_spec z).symm
 ·exact yQ q z
section
variable{K:W.Frag}{mg:Str->Option Value}{X:Cx}{ES:St->XK}{c:Expr}{cf:MT}{U:MS}{sts:List Stmt}{pos:Pos}
def Az(hp:PassesOwn (model X.prog X.w) X.A X.env X.xe)(hc:DT K mg X ES c cf)(hb:DSs K mg X ES sts U):DS K mg X ES (.While c sts [] pos) (sWh cf U):=by
 refine PS.imp (B4 hp hc hb) λDe σ H q_=>q_.el λρ h ae w re p=>?_
 have hx:∃k,whN cf U k ae h ≠ .stuck:=Qk λz=>by
  unfold sWh at p
  rw[dif_neg z] at p
  exact p.elim
 obtain⟨k,hk⟩:=hx
 rw[yX hk] at p
 refine⟨λm σ2 H2=>∃ρ2 h2 ae2,Wd K mg ρ2 h2 H2/\RelE K mg ρ2 H2 ae2 σ2/\PostS K mg ρ2 H2 De ES (whN cf U m ae2 h2),⟨k,ρ,h,ae,w,re,p⟩,?_⟩
 rintro m σ2 H2 ⟨ρ2,h2,ae2,w2,re2,p2⟩
 cases m with
 |zero=>exact p2.elim
 |
  succ m=>
  refine⟨ρ2,h2,ae2,w2,re2,cD p2 re2 λb h3 ρ3 H3 l3 w3 re3 p3=>?_⟩
  cases b with
  |true=>exact⟨λσ' H'=>∃ρ4 h4 ae4,Wd K mg ρ4 h4 H'/\RelE K mg ρ4 H' ae4 σ'/\PostS K mg ρ4 H' De ES (whN cf U m ae4 h4),λσ' H' q=>⟨m,Nat.lt_succ_self _,q⟩,ρ3,h3,ae2,w3,re3,uh p3 λae4 h4 ρ4 H4 σ4 l4 w4 re4 p4=>⟨ρ4,h4,ae4,w4,re4,p4⟩⟩
  |false=>exact iD p3 w3 re3
end
end L2
namespace L2
open PySem PySem.Spec PyProof.Rows
def tT:Fn:=λds h=>match ds with
 | [d]=>match df h d with
  |some xs=>.ok (.int xs.length) h
  |none=>match d with
   |.str z=>if z.length<=16777216 then .ok (.int z.length) h else .stuck
   |_=>.stuck
 |_=>.stuck
def vW:Fn:=λds h=>match ds with
 | [.int i]=>.ok (.int (if i<0 then -i else i)) h
 |_=>.stuck
def rb:Fn:=λds h=>match ds with
 | [.int i,.int j]=>.ok (.int (if j>i then j else i)) h
 |_=>.stuck
def rl:Fn:=λds h=>match ds with
 | [.int i,.int j]=>.ok (.int (if j<i then j else i)) h
 |_=>.stuck
def jt:List D->Option (List Bool)
 | []=>some []
 |.bl b::r=>(jt r).map (b :: ·)
 |_=>none
def ij:List D->Option (List Int)
 | []=>some []
 |.int b::r=>(ij r).map (b :: ·)
 |_=>none
theorem sY:∀{ds:List D}{bs:List Bool},jt ds=some bs->ds=bs.map D.bl
 | [],bs,e=>by cases e;rfl
 |
  .bl b::r,bs,e=>by
  have e':(jt r).map (b :: ·)=some bs:=e
  cases q:jt r with
  |none=>rw[q] at e';cases e'
  |some z=>rw[q] at e';cases e';rw[sY q];rfl
theorem pU:∀{ds:List D}{bs:List Int},ij ds=some bs->ds=bs.map D.int
 | [],bs,e=>by cases e;rfl
 |
  .int b::r,bs,e=>by
  have e':(ij r).map (b :: ·)=some bs:=e
  cases q:ij r with
  |none=>rw[q] at e';cases e'
  |some z=>rw[q] at e';cases e';rw[pU q];rfl
def tD:Fn:=λds h=>match ds with
 | [.ref n]=>match (bj h n).bind jt with
  |some bs=>.ok (.bl (bs.all id)) h
  |none=>.stuck
 |_=>.stuck
def rW:Fn:=λds h=>match ds with
 | [.ref n]=>match (bj h n).bind ij with
  |some ns=>.ok (.int ns.sum) h
  |none=>.stuck
 |_=>.stuck
def oC:Fn:=λds h=>match ds with
 | [d]=>match df h d with
  |some xs=>.ok (.ref h.length) (h++[.lst xs])
  |none=>.stuck
 |_=>.stuck
def lV:Fn:=λds h=>match ds with
 | [d]=>match df h d with
  |some xs=>.ok (.tup xs) h
  |none=>.stuck
 |_=>.stuck
def xJ:Fn:=λds h=>match ds with
 | [.int i]=>.ok (.int i) h
 | [.bl b]=>.ok (.int (if b then 1 else 0)) h
 |_=>.stuck
section
variable{K:W.Frag}{mg:Str->Option Value}{X:Cx}
def Ga:bG K mg (λxs H Q=>(∃p ys,xs=[.ref p]/\(SqL K H p ys\/SqT K H p ys)/\Q (.int ys.length) H)\/(∃z,xs=[.str z]/\z.length<=sizeLine/\Q (.int z.length) H)) tT:=λρ h H ds vs Q E w rs p=>by
 unfold tT at p
 split at p
 ·cases
   rs with
  |
   cons r rs=>
   cases rs
   split at p
   ·rename_i xs e
    obtain⟨pa,vs,rfl,hq,rs⟩:=eA w r e
    exact .inl ⟨_,_,rfl,hq,by rw[<- rs.len];exact aJ w (.int _) p⟩
   ·split at p
    ·cases r
     split at p
     ·rename_i hl;exact .inr ⟨_,rfl,hl,aJ w (.int _) p⟩
     ·exact p.elim
    ·exact p.elim
 ·exact p.elim
def eF(h:X.K=K):CallR X (.builtin "len") (λxs H Q=>(∃p ys,xs=[.ref p]/\(SqL K H p ys\/SqT K H p ys)/\Q (.int ys.length) H)\/(∃z,xs=[.str z]/\z.length<=sizeLine/\Q (.int z.length) H)):=by subst h;exact rT.or sj
def Ic:bG K mg (λxs H Q=>∃i,xs=[.int i]/\Q (.int (if i<0 then -i else i)) H) vW:=λρ h H ds vs Q E w rs p=>by
 unfold vW at p
 split at p
 ·cases rs with
  |cons r rs=>cases r;cases rs;exact⟨_,rfl,aJ w (.int _) p⟩
 ·exact p.elim
def Dq:bG K mg (λxs H Q=>∃i j,xs=[.int i,.int j]/\Q (.int (if j>i then j else i)) H) rb:=λρ h H ds vs Q E w rs p=>by
 unfold rb at p
 split at p
 ·cases rs with
  |cons r rs=>cases rs with |cons r2 rs=>cases r;cases r2;cases rs;exact⟨_,_,rfl,aJ w (.int _) p⟩
 ·exact p.elim
def E9:bG K mg (λxs H Q=>∃i j,xs=[.int i,.int j]/\Q (.int (if j<i then j else i)) H) rl:=λρ h H ds vs Q E w rs p=>by
 unfold rl at p
 split at p
 ·cases rs with
  |cons r rs=>cases rs with |cons r2 rs=>cases r;cases r2;cases rs;exact⟨_,_,rfl,aJ w (.int _) p⟩
 ·exact p.elim
def Ib:bG K mg (λxs H Q=>∃(a:Addr) (bs:List Bool),xs=[.ref a]/\SqL K H a (bs.map V.bl)/\Q (.bl (bs.all id)) H) tD:=λρ h H ds vs Q E w rs p=>by
 unfold tD at p
 split at p
 ·cases
   rs with
  |
   cons r rs=>
   cases r with
   |
    ref ea=>
    cases rs
    split at p
    ·rename_i bs e
     obtain⟨xs,q,e2⟩:=OP.mp e
     ·obtain⟨vs,h1,h2⟩:=cB w ea q
      rw[sY e2] at h2
      rw[h2.bls] at h1
      exact⟨_,bs,rfl,h1,aJ w (.bl _) p⟩
    ·exact p.elim
 ·exact p.elim
def Hl:bG K mg (λxs H Q=>∃(a:Addr) (ns:List Int),xs=[.ref a]/\SqL K H a (ns.map V.int)/\Q (.int ns.sum) H) rW:=λρ h H ds vs Q E w rs p=>by
 unfold rW at p
 split at p
 ·cases
   rs with
  |
   cons r rs=>
   cases r with
   |
    ref ea=>
    cases rs
    split at p
    ·rename_i bs e
     obtain⟨xs,q,e2⟩:=OP.mp e
     ·obtain⟨vs,h1,h2⟩:=cB w ea q
      rw[pU e2] at h2
      rw[h2.ints] at h1
      exact⟨_,bs,rfl,h1,aJ w (.int _) p⟩
    ·exact p.elim
 ·exact p.elim
def DB:bG K mg (λxs H Q=>∃p ys,xs=[.ref p]/\(SqL K H p ys\/SqT K H p ys)/\∀l,H l=none->Q (.ref l) (upd H l (.lst ys))) oC:=λρ h H ds vs Q E w rs p=>by
 unfold oC at p
 split at p
 ·cases rs with
  |
   cons r rs=>
   cases rs
   split at p
   ·rename_i xs e
    obtain⟨pa,vs,rfl,hq,rs⟩:=eA w r e
    exact⟨_,_,rfl,hq,λl hl=>fM w rs hl p⟩
   ·exact p.elim
 ·exact p.elim
def A8:bG K mg (λxs H Q=>∃p ys,xs=[.ref p]/\((SqL K H p ys/\∀l,H l=none->Q (.ref l) (upd H l (.tup ys)))\/(SqT K H p ys/\Q (.ref p) H))) lV:=λρ h H ds vs Q E w rs p=>by
 unfold lV at p
 split at p
 ·cases rs with
  |
   cons r rs=>
   cases rs
   split at p
   ·rename_i xs e
    obtain⟨pa,vs,rfl,hq,rs⟩:=eA w r e
    rcases hq with hq |hq
    ·exact⟨_,_,rfl,.inl ⟨hq,λl hl=>kX w rs hl p⟩⟩
    ·exact⟨_,_,rfl,.inr ⟨hq,aJ w (.tup hq rs) p⟩⟩
   ·exact p.elim
 ·exact p.elim
def F9:bG K mg (λxs H Q=>(∃i,xs=[.int i]/\Q (.int i) H)\/∃k,xs=[.bl k]/\Q (.int (if k then 1 else 0)) H) xJ:=λρ h H ds vs Q E w rs p=>by
 unfold xJ at p
 split at p
 ·cases rs with
  |cons r rs=>cases r;cases rs;exact .inl ⟨_,rfl,aJ w (.int _) p⟩
 ·cases rs with
  |cons r rs=>cases r;cases rs;exact .inr ⟨_,rfl,aJ w (.int _) p⟩
 ·exact p.elim
def HI(h:X.K=K):CallR X (.type "list") (λxs H Q=>∃p ys,xs=[.ref p]/\(SqL K H p ys\/SqT K H p ys)/\∀l,H l=none->Q (.ref l) (upd H l (.lst ys))):=by subst h;exact sR
def mq(h:X.K=K):CallR X (.type "tuple") (λxs H Q=>∃p ys,xs=[.ref p]/\((SqL K H p ys/\∀l,H l=none->Q (.ref l) (upd H l (.tup ys)))\/(SqT K H p ys/\Q (.ref p) H))):=by subst h;exact qM
end
inductive Cl where
 |b (n:String) |o (x:Str)
 deriving DecidableEq
def tyD(h:AH):D->Option Cl
 |.non=>some (.b "NoneType")
 |.bl _=>some (.b "bool")
 |.int _=>some (.b "int")
 |.str _=>some (.b "str")
 |.tup _=>some (.b "tuple")
 |.exc x=>some (.o x)
 |.ref n=>match h[n]? with
  |some (.lst _)=>some (.b "list")
  |some (.fz _)=>some (.b "list")
  |some (.dct _)=>some (.b "dict")
  |_=>none
 |_=>none
def clD:D->Option Cl
 |.ty n=>some (.b n)
 |.glb x=>some (.o x)
 |_=>none
def ClV(mg:Str->Option Value):Cl->Value->Prop
 |.b n,v=>v=.type n
 |.o x,v=>∃a,v=.ref a/\mg x=some (.ref a)
abbrev kj:=List (Cl×Cl×Bool)
structure KitsOk(K:W.Frag)(mg:Str->Option Value)(kt:kj):Prop where
 one:∀p∈kt,∀t v,ClV mg p.1 t->ClV mg p.2.1 v->W.kitOne K t v=some p.2.2
 xc:∀p∈kt,∀x C,p.1=.o x->mg x=some (.ref C)->XCls K C
def kit(kt:kj)(t c:Cl):Option Bool:=(kt.find? λp=>decide (p.1=t)&&decide (p.2.1=c)).map (·.2.2)
def gK(kt:kj)(t:Cl):List Cl->Option Bool
 | []=>some false
 |c::r=>match kit kt t c with
  |some true=>some true
  |some false=>gK kt t r
  |none=>none
def uk(kt:kj):Fn:=λds h=>match ds with
 | [d,c]=>match tyD h d with
  |some t=>match c with
   |.tup cs=>match cs.mapM clD with
    |some (c0::cr)=>match gK kt t (c0::cr),kit kt t c0 with
     |some b,some _=>.ok (.bl b) h
     |_,_=>.stuck
    |_=>.stuck
   |c=>match clD c with
    |some cl=>match kit kt t cl with
     |some b=>.ok (.bl b) h
     |none=>.stuck
    |none=>.stuck
  |none=>.stuck
 |_=>.stuck
def oQ(e:kit kt t c=some b):(t,c,b)∈kt:=by
 unfold kit at e
 cases q:kt.find? (λp=>decide (p.1=t)&&decide (p.2.1=c)) with
 |none=>rw[q] at e;cases e
 |
  some p=>
  rw[q] at e
  have h1:=List.find?_some q
  have h2:=List.mem_of_find?_eq_some q
  simp only[Oj,QA] at h1
  obtain⟨p1,p2,p3⟩:=p
  have e3:p3=b:=OE e
  obtain⟨rfl,rfl⟩:=h1
  subst e3
  exact h2
section
variable{K:W.Frag}{mg:Str->Option Value}{X:Cx}{ρ:List Addr}{H:Hp}{h:AH}
def vw(ok:KitsOk K mg kt)(w:Wd K mg ρ h H)(r:RelD K mg ρ H d v)(e:tyD h d=some t)(k:kit kt t c=some b):∃tv,TyX K H v tv/\ClV mg t tv:=by
 cases r with
 |non=>cases e;exact⟨_,.of .non,rfl⟩
 |bl=>cases e;exact⟨_,.of (.bl _),rfl⟩
 |int=>cases e;exact⟨_,.of (.int _),rfl⟩
 |str=>cases e;exact⟨_,.of (.str _),rfl⟩
 |tup q rs=>cases e;exact⟨_,.sqT q,rfl⟩
 |
  exc m ex=>
  cases e
  exact⟨_,.exc ex (ok.xc _ (oQ k) _ _ rfl m),_,rfl,m⟩
 |
  ref ea=>
  unfold tyD at e
  dsimp only at e
  split at e
  ·rename_i e1;cases e;obtain⟨vs,h1,h2⟩:=w.ob _ _ _ ea e1;exact⟨_,.of (.lst h1),rfl⟩
  ·rename_i e1;cases e;obtain⟨o,vs,h1,h2⟩:=w.ob _ _ _ ea e1;exact⟨_,.of (.frz h1),rfl⟩
  ·rename_i e1;cases e;obtain⟨ws,h1,_⟩:=w.ob _ _ _ ea e1;exact⟨_,.of (.dK h1),rfl⟩
  ·cases e
 |_=>cases e
def vg(r:RelD K mg ρ H d v)(e:clD d=some c):∃cv,gk v=some cv/\ClV mg c cv:=by
 cases r with
 |ty n=>cases e;exact⟨_,rfl,rfl⟩
 |glb m=>cases e;exact⟨_,rfl,_,rfl,m⟩
 |_=>cases e
def AX:∀{ds:List D}{vs:List V}{cs:List Cl},RelDs K mg ρ H ds vs->ds.mapM clD=some cs->∃cvs,vs.mapM gk=some cvs/\Paired (ClV mg) cs cvs:=by
 intro ds
 induction ds with
 |
  nil=>
  intro vs cs r e
  cases r
  have e':some ([]:List Cl)=some cs:=e
  cases e';exact⟨[],rfl,.nil⟩
 |
  cons d ds ih=>
  intro vs cs r e
  cases r with
  |
   cons r rr=>
   rw[P7] at e
   cases q:clD d with
   |none=>rw[q] at e;cases e
   |
    some c=>
    rw[q] at e
    cases q2:ds.mapM clD with
    |none=>rw[q2] at e;cases e
    |
     some cs'=>
     rw[q2] at e
     have e':some (c::cs')=some cs:=e
     cases e'
     obtain⟨cv,h1,h2⟩:=vg r q
     obtain⟨cvs,h3,h4⟩:=ih rr q2
     refine⟨cv::cvs,?_,.cons h2 h4⟩
     rw[P7,h1,h3];rfl
def yG(ok:KitsOk K mg kt)(ht:ClV mg t tv):∀{cs:List Cl}{cvs:List Value}{b:Bool},Paired (ClV mg) cs cvs->gK kt t cs=some b->W.kitAny K tv cvs=some b:=by
 intro cs
 induction cs with
 |
  nil=>
  intro cvs b r e
  cases r
  cases e;rfl
 |
  cons c cs ih=>
  intro cvs b r e
  cases r with
  |
   cons r rr=>
   unfold gK at e
   unfold W.kitAny
   cases q:kit kt t c with
   |none=>rw[q] at e;cases e
   |
    some z=>
    rw[q] at e
    rw[ok.one _ (oQ q) _ _ ht r]
    cases z with
    |true=>exact e
    |false=>exact ih rr e
def zf:CallR X (.builtin "isinstance") (λxs H Q=>∃x tp cs t vs b,xs=[x,.ref tp]/\SqT X.K H tp cs/\TyX X.K H x t/\cs.mapM gk=some vs/\W.kitAny X.K t vs=some b/\Q (.bl b) H):=by
 intro pins s σ H xs us Q I r h
 obtain⟨x,tp,cs,t,vs,b,rfl,ht,ty,hc,hk,q⟩:=h
 obtain⟨u,w',rfl,rx,rc⟩:=og r
 cases rc
 obtain⟨its,rv,⟨o,e,c,n,d⟩,_⟩:=I.tuple ht
 obtain rfl:=pW hc rv
 obtain⟨Hh,Z,p,hne⟩:=va I rx ty
 obtain⟨oc,od,odt,osl⟩:=o
 have c':oc=.type "tuple":=c
 have d':odt=.seq its.toArray n:=d
 subst c' d'
 exact W.kia_tup Z I.kIn p e hk hne λtk=>⟨.bl b,H,I.tok _,rfl,q⟩
def dO(hK:X.K=K):CallR X (.builtin "isinstance") (λxs H Q=>(∃x c t v b,xs=[x,c]/\TyX K H x t/\gk c=some v/\W.kitOne K t v=some b/\Q (.bl b) H)\/
 (∃x tp cs t vs b,xs=[x,.ref tp]/\SqT K H tp cs/\TyX K H x t/\cs.mapM gk=some vs/\W.kitAny K t vs=some b/\Q (.bl b) H)):=by subst hK;exact BX.or zf
def IZ(ok:KitsOk K mg kt):bG K mg (λxs H Q=>(∃x c t v b,xs=[x,c]/\TyX K H x t/\gk c=some v/\W.kitOne K t v=some b/\Q (.bl b) H)\/
 (∃x tp cs t vs b,xs=[x,.ref tp]/\SqT K H tp cs/\TyX K H x t/\cs.mapM gk=some vs/\W.kitAny K t vs=some b/\Q (.bl b) H)) (uk kt):=λρ h H ds vs Q E w rs p=>by
 unfold uk at p
 split at p
 ·cases
   rs with
  |
   cons r rs=>
   cases rs with
   |
    cons r2 rs=>
    cases rs
    split at p
    ·rename_i t e1
     split at p
     ·split
       at p
      ·rename_i cs c0 cr e2
       split at p
       ·rename_i b b' e3 e4
        cases r2 with
        |
         tup q rs2=>
         obtain⟨tv,h1,h2⟩:=vw ok w r e1 e4
         obtain⟨cvs,h3,h4⟩:=AX rs2 e2
         exact .inr ⟨_,_,_,tv,cvs,b,rfl,q,h1,h3,yG ok h2 h4 e3,aJ w (.bl _) p⟩
       ·exact p.elim
      ·exact p.elim
     ·split at p
      ·rename_i cl e2
       split at p
       ·rename_i b e3
        obtain⟨tv,h1,h2⟩:=vw ok w r e1 e3
        obtain⟨cv,h3,h4⟩:=vg r2 e2
        exact .inl ⟨_,_,tv,cv,b,rfl,h1,h3,ok.one _ (oQ e3) _ _ h2 h4,aJ w (.bl _) p⟩
       ·exact p.elim
      ·exact p.elim
    ·exact p.elim
 ·exact p.elim
end
end L2
namespace L2
open PySem PySem.Spec PyProof.Rows
def MtD(K:W.Frag)(mg:Str->Option Value)(r:V->List V->Hp->VK->Prop)(g:D->List D->AH->R D):Prop:=∀ρ h H dx ds x vs Q E,Wd K mg ρ h H->RelD K mg ρ H dx x->RelDs K mg ρ H ds vs->eE K mg ρ H Q E (g dx ds h)->r x vs H Q
def kH(h:AH):D->Bool
 |.ref n=>(bj h n).isSome
 |_=>false
def eM(g:D->List D->AH->R D)(F:ME)(A:MA):ME:=λae h=>(F ae h).bind λx h1=>if kH h1 x=true then (A ae h1).bind λds h2=>g x ds h2 else .stuck
def eM0(g:D->List D->AH->R D)(F:ME):ME:=λae h=>(F ae h).bind λx h1=>if kH h1 x=true then g x [] h1 else .stuck
section
variable{K:W.Frag}{mg:Str->Option Value}{X:Cx}{ES:St->XK}{o e:Expr}{es:List Expr}{F G:ME}{A:MA}{pos:Pos}
def pV(w:Wd K mg ρ h H)(r:RelD K mg ρ H d v)(q:kH h d=true):tyV K "list" v H:=by
 cases r with
 |
  ref ea=>
  obtain⟨xs,e⟩:=ON.mp q
  obtain⟨vs,h1,_⟩:=cB w ea e
  exact .inl ⟨rfl,vs,h1⟩
 |_=>cases q
def de_m{name:Str}{id:String}{apos cpos:Pos}{r:V->List V->Hp->VK->Prop}{g:D->List D->AH->R D}(hK:X.K=K)(slot:Slot "list" name id)(hty:typeOf (.builtin id)=pure (.type "method_descriptor"))(hm:MtM X id r)(hd:MtD K mg r g)(ho:DE K mg X ES o F)(ha:DA K mg X ES (e::es) A)
 (dL:attributeBase o name X.env (eval o X.env)=eval o X.env:=by rfl)
 (hfew:((backTo cpos (starEach (e::es) X.env)).all (λx=>!x.1)&&(backToKw cpos (keywordEach [] X.env)).all (λx=>x.1.isSome)
  && decide ((e::es).length+([]:List Keyword).length+(if ([]:List Keyword).isEmpty then 0 else 1)<30))=true:=by rfl)
 (ge:(apos.endLine==cpos.line)=true:=by rfl) (hs:starEach (e::es) X.env=(false,eval e X.env)::starEach es X.env:=by rfl) (ci:(backTo cpos (starEach es X.env)).any (·.1)=false:=by rfl):
 DE K mg X ES (.Call (.Attribute o name apos) (e::es) [] cpos) (eM g F A):=by
 subst hK
 refine PE.imp (CB PySem.F.plainAttrs_list slot hty hm ho ha dL hfew ge hs ci) λσ H Q q_=>q_.el λρ h ae w re p=>⟨ρ,h,ae,w,re,p.bind.imp λdx h1 ρ1 H1 l1 w1 p1 x rx=>?_⟩
 split at p1
 ·rename_i hl
  exact⟨pV w1 rx hl,ρ1,h1,ae,w1,re.mono l1,p1.bind.imp λds h2 ρ2 H2 l2 w2 p2 vs rs=>hd ρ2 h2 H2 dx ds x vs Q _ w2 (rx.mono l2) rs p2⟩
 ·exact p1.elim
def KN{name:Str}{id:String}{apos cpos:Pos}{r:V->List V->Hp->VK->Prop}{g:D->List D->AH->R D}(hK:X.K=K)(slot:Slot "list" name id)(hty:typeOf (.builtin id)=pure (.type "method_descriptor"))(hm:MtM X id r)(hd:MtD K mg r g)(ho:DE K mg X ES o F)
 (dL:attributeBase o name X.env (eval o X.env)=eval o X.env:=by rfl) (ge:(apos.endLine==cpos.line)=true:=by rfl):DE K mg X ES (.Call (.Attribute o name apos) [] [] cpos) (eM0 g F):=by
 subst hK
 refine PE.imp (Iq PySem.F.plainAttrs_list slot hty hm ho dL ge) λσ H Q q_=>q_.el λρ h ae w re p=>⟨ρ,h,ae,w,re,p.bind.imp λdx h1 ρ1 H1 l1 w1 p1 x rx=>?_⟩
 split at p1
 ·rename_i hl
  exact⟨pV w1 rx hl,hd ρ1 h1 H1 dx [] x [] Q _ w1 rx .nil p1⟩
 ·exact p1.elim
end
def iG(h:AH)(d:D)(f:Nat->List D->R D):R D:=match d with
 |.ref n=>match h[n]? with
  |some (.lst xs)=>f n xs
  |_=>.stuck
 |_=>.stuck
def dQ:D->List D->AH->R D:=λx ds h=>iG h x λn xs=>match ds with
 | [d]=>if xs.length<16777216 then .ok .non (h.set n (.lst (xs++[d]))) else .stuck
 |_=>.stuck
def vX:D->List D->AH->R D:=λx ds h=>iG h x λn xs=>match ds with
 | []=>match xs[xs.length-1]? with
  |some d=>.ok d (h.set n (.lst xs.dropLast))
  |none=>.stuck
 |_=>.stuck
section
variable{K:W.Frag}{mg:Str->Option Value}{X:Cx}{ρ:List Addr}{H:Hp}{h:AH}
def jq(w:Wd K mg ρ h H)(r:RelD K mg ρ H d v)(p:eE K mg ρ H Q E (iG h d f)):
 ∃n xs a vs,d=.ref n/\h[n]?=some (.lst xs)/\ρ[n]?=some a/\v=.ref a/\H a=some (.lst vs)/\RelDs K mg ρ H xs vs/\eE K mg ρ H Q E (f n xs):=by
 unfold iG at p
 split at p
 ·cases r with
  |
   ref ea=>
   split at p
   ·rename_i n xs e
    obtain⟨vs,h1,h2⟩:=w.ob _ _ _ ea e
    exact⟨_,_,_,vs,rfl,e,ea,rfl,h1,h2,p⟩
   ·exact p.elim
 ·exact p.elim
def kC(w:Wd K mg ρ h H)(ea:ρ[n]?=some a)(e:H a=some (.lst vs))(rs:RelDs K mg ρ H ys ws)(rd:RelD K mg ρ H d v)(p:eE K mg ρ H Q E (.ok d (h.set n (.lst ys)))):Q v (upd H a (.lst ws)):=by
 have l:Le ρ H ρ (upd H a (.lst ws)):=nU e qT
 exact p ρ _ l (w.write ea e qT ⟨ws,b0,rs.mono l⟩) v (rd.mono l)
def qu:MtD K mg pC dQ:=λρ h H dx ds x vs Q E w rx rs p=>by
 obtain⟨n,xs,a,us,rfl,e,ea,rfl,h1,h2,p⟩:=jq w rx p
 split at p
 ·cases rs with
  |
   cons r rs=>
   cases rs
   split at p
   ·rename_i hl
    exact⟨a,us,_,rfl,rfl,h1,by rw[<- h2.len];exact hl,kC w ea h1 (h2.append (.cons r .nil)) .non p⟩
   ·exact p.elim
 ·exact p.elim
def Gv:MtD K mg Cd vX:=λρ h H dx ds x vs Q E w rx rs p=>by
 obtain⟨n,xs,a,us,rfl,e,ea,rfl,h1,h2,p⟩:=jq w rx p
 split at p
 ·cases rs
  split at p
  ·rename_i d ed
   obtain⟨v,ev,rv⟩:=h2.getD ed
   rw[h2.len] at ev
   refine⟨a,us,v,rfl,rfl,h1,ev,kC w ea h1 ?_ rv p⟩
   rw[P6,P6,h2.len]
   exact h2.take _
  ·exact p.elim
 ·exact p.elim
inductive EqsR(K:W.Frag)(H:Hp)(y:V)(pd:PyData):List V->List Bool->Prop where
 |nil:EqsR K H y pd [] []
 |cons {x:V}{px:PyData}{xs:List V}{bs:List Bool} (rx:Rep K H x px) (hx:shp px=true) (r:EqsR K H y pd xs bs):EqsR K H y pd (x::xs) (PyData.eqv px pd::bs)
end
def wL(o i v:D)(h:AH):R Unit:=match o,i with
 |.ref n,.int k=>match h[n]? with
  |some (.lst xs)=>match ixN xs.length k with
   |some j=>.ok () (h.set n (.lst (xs.set j v)))
   |none=>.stuck
  |_=>.stuck
 |_,_=>.stuck
section
variable{K:W.Frag}{mg:Str->Option Value}{X:Cx}{ES:St->XK}{o i:Expr}{F G:ME}{pos:Pos}
def Dp:oP K mg xB wL:=λρ h H do_ di dv o i v Q E w ro ri rv p=>by
 unfold wL at p
 split at p
 ·cases
   ro with
  |
   ref ea=>
   cases ri
   split at p
   ·rename_i n k xs e
    split at p
    ·rename_i j ej
     obtain⟨vs,h1,h2⟩:=w.ob _ _ _ ea e
     have l:Le ρ H ρ (upd H _ (.lst (vs.set j v))):=nU h1 qT
     exact⟨_,vs,_,j,rfl,rfl,h1,by rw[<- h2.len];exact ej,p ρ _ l (w.write ea h1 qT ⟨_,b0,(h2.set rv j).mono l⟩)⟩
    ·exact p.elim
   ·exact p.elim
 ·exact p.elim
def Fm(ho:DE K mg X ES o F)(hi:DE K mg X ES i G)(hs:sF X t)(hd:oP K mg t f)
 (ha:∀v,assign (.Subscript o i pos) X.env v=(do
  let ov <- holding [v] (eval o X.env)
  let iv <- holding [v,ov] (eval i X.env)
  standAt pos
  holding [v,ov,iv] (setItem ov iv v)
  release [v,ov,iv] []):=by intro _;rfl):DG K mg X ES (.Subscript o i pos) (gS F G f):=
 PG.imp (GI ho hi hs ha) λv σ H Q q_=>q_.el λρ h ae d w re rd p=>
  ⟨ρ,h,ae,w,re,p.bind.imp λdo_ h1 ρ1 H1 l1 w1 p1 o' ro=>⟨ρ1,h1,ae,w1,re.mono l1,p1.bind.imp λdi h2 ρ2 H2 l2 w2 p2 i' ri=>
   hd ρ2 h2 H2 do_ di d o' i' v _ _ w2 (ro.mono l2) ri ((rd.mono l1).mono l2) (p2.bind.imp λ_ h3 ρ3 H3 l3 w3 p3=>p3 ρ3 H3 Le.refl w3 σ (((re.mono l1).mono l2).mono l3))⟩⟩
end
def cutD(xs:List D)(lo hi:Option Int):List D:=(xs.drop (HT.sIx xs.length 0 lo)).take (HT.sIx xs.length xs.length hi-HT.sIx xs.length 0 lo)
abbrev MO:=AE->AH->R (Option Int)
def v3:MO:=λ_ h=>.ok none h
def wM(F:ME):MO:=λae h=>(F ae h).bind λd h1=>match d with
 |.int i=>.ok (some i) h1
 |_=>.stuck
def gSl(x:D)(lo hi:Option Int)(h:AH):R D:=match x with
 |.tup xs=>if HT.sIx xs.length 0 lo=0/\HT.sIx xs.length xs.length hi=xs.length then .stuck else .ok (.tup (cutD xs lo hi)) h
 |.ref n=>match bj h n with
  |some xs=>.ok (.ref h.length) (h++[.lst (cutD xs lo hi)])
  |none=>.stuck
 |.kl xs=>.ok (.ref h.length) (h++[.lst (cutD xs lo hi)])
 |_=>.stuck
def eSl(F:ME)(L U:MO):ME:=λae h=>(F ae h).bind λx h1=>(L ae h1).bind λlo h2=>(U ae h2).bind λhi h3=>gSl x lo hi h3
section
variable{K:W.Frag}{mg:Str->Option Value}{X:Cx}{ES:St->XK}{e:Expr}{F:ME}{L U:MO}{lo hi:Option Expr}{pos p2:Pos}
def rdO(K:W.Frag)(mg:Str->Option Value)(ES:St->XK)(F:MO):TO:=λσ H Q=>∃ρ h ae,Wd K mg ρ h H/\RelE K mg ρ H ae σ/\PostG K mg ρ H (ES σ) (λo _ ρ' H'=>Q o H') (F ae h)
def DO(K:W.Frag)(mg:Str->Option Value)(X:Cx)(ES:St->XK)(e:Option Expr)(F:MO):Prop:=PO X e (rdO K mg ES F)
def E5:DO K mg X ES none v3:=PO.imp EH λσ H Q ⟨ρ,h,ae,w,re,p⟩=>p ρ H Le.refl w
def C6(he:DE K mg X ES e F):DO K mg X ES (some e) (wM F):=PO.imp (Ec he) λσ H Q ⟨ρ,h,ae,w,re,p⟩=>⟨ρ,h,ae,w,re,p.bind.imp λd h1 ρ1 H1 l1 w1 p1 v rv=>by
 split at p1
 ·cases rv;exact⟨_,rfl,p1 ρ1 H1 Le.refl w1⟩
 ·exact p1.elim⟩
def oO(r:RelDs K mg ρ H xs vs)(lo hi:Option Int):RelDs K mg ρ H (cutD xs lo hi) (lQ vs lo hi):=by
 unfold cutD lQ
 rw[<- r.len]
 exact (r.drop _).take _
def slK(h:X.K=K):SlR X (λx lo hi H Q=>rSlL K x lo hi H Q\/rSlT K x lo hi H Q):=by subst h;exact Dh.or Ji
def Bs(hK:X.K=K)(he:DE K mg X ES e F)(hl:DO K mg X ES lo L)(hu:DO K mg X ES hi U):DE K mg X ES (.Subscript e (.Slice lo hi none p2) pos) (eSl F L U):=
 PE.imp (
  Ca (slK hK) he hl hu) λσ H Q q_=>q_.el λρ h ae w re p=>⟨ρ,h,ae,w,re,p.bind.imp λd h1 ρ1 H1 l1 w1 p1 x rx=>⟨ρ1,h1,ae,w1,re.mono l1,p1.bind.imp λlo h2 ρ2 H2 l2 w2 p2=>⟨ρ2,h2,ae,w2,(re.mono l1).mono l2,p2.bind.imp λhi h3 ρ3 H3 l3 w3 p3=>by
  have rx3:=(rx.mono l2).mono l3
  unfold gSl at p3
  split at p3
  ·split at p3
   ·exact p3.elim
   ·rename_i hn
    cases rx3 with
    |tup q rs=>exact .inr ⟨_,_,rfl,q,by rw[<- rs.len];exact hn,λl hl=>kX w3 (oO rs lo hi) hl p3⟩
  ·split at p3
   ·rename_i xs e1
    cases rx3 with
    |
     ref ea=>
     obtain⟨vs,q,rs⟩:=cB w3 ea e1
     exact .inl ⟨_,_,rfl,q,λl hl=>fM w3 (oO rs lo hi) hl p3⟩
   ·exact p3.elim
  ·cases rx3 with
   |kl q rs=>exact .inl ⟨_,_,rfl,.inr q,λl hl=>fM w3 (oO rs lo hi) hl p3⟩
  ·exact p3.elim⟩⟩⟩
end
def rM(d:D)(h:AH):R Bool:=match d with
 |.non=>.ok false h
 |.bl b=>.ok b h
 |.int i=>.ok (i != 0) h
 |d=>match df h d with
  |some xs=>.ok (!xs.isEmpty) h
  |none=>.stuck
def tTr(F:ME):MT:=λae h=>(F ae h).bind rM
section
variable{K:W.Frag}{mg:Str->Option Value}{X:Cx}{ES:St->XK}{a:Expr}{F:ME}
def BU(hK:X.K=K)(ha:DE K mg X ES a F)(he:∀db,isTrue a X.env db=(do let v <- db;standAt a.pos;holding [v] (truthy v)):=by intro _;rfl):DT K mg X ES a (tTr F):=by
 subst hK
 refine PT.imp (Bl ha he) λσ H Q q_=>q_.el λρ h ae w re p=>⟨ρ,h,ae,w,re,p.bind.imp λd h1 ρ1 H1 l1 w1 p1 x rx=>?_⟩
 have items:∀{xs:List D},df h1 d=some xs->Q (!xs.isEmpty) H1->∃k,AK X.K x H1 k/\Q k H1:=λ{xs} e q=>by
  obtain⟨pa,vs,rfl,hq,rs⟩:=eA w1 rx e
  have ee:xs.isEmpty=vs.isEmpty:=by cases rs <;> rfl
  rw[ee] at q
  rcases hq with hq |hq
  ·exact⟨_,.inl ⟨vs,hq,rfl⟩,q⟩
  ·exact⟨_,.inr (.inl ⟨vs,hq,rfl⟩),q⟩
 unfold rM at p1
 split at p1
 ·cases rx;exact⟨_,rfl,p1 ρ1 H1 Le.refl w1⟩
 ·cases rx;exact⟨_,rfl,p1 ρ1 H1 Le.refl w1⟩
 ·cases rx;exact⟨_,rfl,p1 ρ1 H1 Le.refl w1⟩
 ·split at p1
  ·rename_i xs e1;exact items e1 (p1 ρ1 H1 Le.refl w1)
  ·exact p1.elim
end
end L2
namespace L2
open PySem PySem.Spec PyProof.Rows
section
variable{X:Cx}{pins pins2 pn:List (Addr×Obj)}{σ:St}{H:Hp}{s:Shared}{xe:Value->Shared->Prop}
end
section
variable{K:W.Frag}{mg:Str->Option Value}{X:Cx}{ES:St->XK}{x n:Str}{C:Addr}{i:Nat}{body suite:List Stmt}{b₀:Stmt}{B U:MS}{np hpos pos:Pos}{mro:List Str}
end
structure Script(h:AH)(d:D)(ns:List Int):Prop where
 form:(∃n,d=.ref n/\h[n]?=some (.fz (ns.map D.int)))\/d=.kl (ns.map D.int)
theorem lg{K:W.Frag}{mg:Str->Option Value}{ρ:List Addr}{H:Hp}:∀(ns:List Int),RelDs K mg ρ H (ns.map D.int) (ns.map V.int)
 | []=>.nil
 |_::r=>.cons (.int _) (lg r)
def AR{P:Program}{w:World}{K:W.Frag}{mg:Str->Option Value}{base:Heap}{x y:Str}{k:Nat}{S:Fn}(C:Callee P w K mg base x k [y] (spD K mg 1 S))
 (hS:∀(d:D) (h:AH) (ns:List Int),ns.length<=63->Script h d ns->∃h',S [d] h=.ok (.bl true) h'):Callee P w K mg base x k [y] (λvs H Q _=>∃(a:Addr) (ns:List Int),vs=[.ref a]/\pK H/\SqL K H a (ns.map V.int)/\ns.length<=63/\∀H',Q (.bl true) H'):=by
 refine C.imp λvs H Q E ⟨a,ns,e,hO,hq,hl,q⟩=>?_
 subst e
 rcases hq with (hq |⟨o,hq⟩) |hq
 ·rcases hO a with z |⟨o,xs,z⟩ <;> rw[hq] at z <;> cases z
 ·obtain⟨h',e⟩:=hS (.ref 0) [.fz (ns.map D.int)] ns hl ⟨.inl ⟨0,rfl,rfl⟩⟩
  refine⟨[a],[.fz (ns.map D.int)],[.ref 0],⟨rfl,by simp,λn b ob e1 e2=>?_⟩,.cons (.ref rfl) .nil,rfl,?_⟩
  ·cases n with
   |zero=>cases e1;cases e2;exact⟨o,_,hq,lg ns⟩
   |succ n=>simp at e1
  ·rw[e]
   exact λρ' H' l' w' v rv=>by cases rv;exact q H'
 ·obtain⟨h',e⟩:=hS (.kl (ns.map D.int)) [] ns hl ⟨.inr rfl⟩
  refine⟨[],[],[.kl (ns.map D.int)],⟨rfl,by simp,λn b ob e1 e2=>by simp at e1⟩,.cons (.kl hq (lg ns)) .nil,rfl,?_⟩
  rw[e]
  exact λρ' H' l' w' v rv=>by cases rv;exact q H'
def walk_lawD{l:W.OpenLaw}{q:Program}{loose:List Str}{XP:(Str->Option Value)->Heap->Prop}{YP:World->Heap->Prop}{d:DefRec}{K:Params->W.Frag}{x:Str}{k:Nat}(hn:l.most=some 63)(hdf:d.params.defaults=[])(hr:Room k callerA)
 (hY:∀(w:World) (h:Heap),YP w h->(K w.params).In h)
 (F:∀(w:World) (mg:Str->Option Value) (h:Heap),(K w.params).In h->h.Ns mainGlobals mg->∀base:Heap,(K w.params).In base->base.Ns mainGlobals mg->Callee l.prog w (K w.params) mg base d.name k [x] (λvs H Q _=>∃(a:Addr) (ns:List Int),vs=[.ref a]/\pK H/\SqL (K w.params) H a (ns.map V.int)/\ns.length<=63/\∀H',Q (.bl true) H'))
 (D:∀(w:World) (mg:Str->Option Value) (h:Heap),(K w.params).In h->h.Ns mainGlobals mg->∃st,Def (K w.params) mg d.name st/\∀(kV doc pm:Value) (an:Option Addr) (cdv ct:Value) (us:List Value),us.length=1->bindArgs (W.fnOf d.name d.name (dU st) (bT st) (ay st) .none kV doc pm an cdv ct) ⟨us,[]⟩=pure ([x].zip us)):
 W.WalkO q loose XP YP l.row.toRowW d [] (λf vs=>PySem.call f vs):=by
 refine L2.walk_of (n:=63) (k:=k) (x:=x) (CX:=λw=>CX1 l.prog w) (sp:=λw=>λvs H Q _=>∃(a:Addr) (ns:List Int),vs=[.ref a]/\pK H/\SqL (K w.params) H a (ns.map V.int)/\ns.length<=63/\∀H',Q (.bl true) H') hn (by decide) hdf hr hY (λw mg fa h KX G hmg=>?_) (λ_ _ a ns hl hO hS=>⟨a,ns,rfl,hO,hS,hl,λ_=>rfl⟩) λ_ _ _ _ _ ⟨_,_,_,_,_,_,_,_,_,z⟩=>z
 obtain⟨st,Dd,hbind⟩:=D w mg h KX G
 obtain⟨f,fd,Ff,m⟩:=Dd.ex
 have e:=hmg.symm.trans m
 cases e
 obtain⟨oc,od,kV,doc,pm,an,cdv,ct,osl,rfl,lk,hcd⟩:=Ff.ex
 refine⟨_,λs u=>.of_eq (hbind kV doc pm an cdv ct [u] rfl),λbase kb nb=>?_⟩
 obtain⟨f',fd',F',m',kp',b',oc',od',osl',lk'⟩:=(F w mg h KX G base kb nb).ex
 rw[m] at m'
 cases m'
 rw[lk] at lk'
 cases lk'
 exact F'
end L2
namespace L2
open PySem PySem.Spec PyProof.Rows
mutual
inductive Bel(N:Nat):D->Prop where
 |non:Bel N .non
 |bl (b:Bool):Bel N (.bl b)
 |int (i:Int):Bel N (.int i)
 |str (x:Str):Bel N (.str x)
 |ty (n:String):Bel N (.ty n)
 |glb (x:Str):Bel N (.glb x)
 |exc (x:Str):Bel N (.exc x)
 |tup {ds:List D} (r:Bels N ds):Bel N (.tup ds)
 |ref {n:Nat} (h:n<N):Bel N (.ref n)
 |kl {ds:List D} (r:Bels N ds):Bel N (.kl ds)
inductive Bels(N:Nat):List D->Prop where
 |nil:Bels N []
 |cons {d:D}{ds:List D} (r:Bel N d) (rr:Bels N ds):Bels N (d::ds)
end
def Ba(N:Nat):Ob->Prop
 |.lst xs=>Bels N xs
 |.fz xs=>Bels N xs
 |.dct kvs=>Bels N (kvs.map (·.2))
 |_=>True
section
variable{K:W.Frag}{mg:Str->Option Value}{ρ ρ1 ρ2:List Addr}{H H1:Hp}{h:AH}
end
inductive Rf(h:AH):R D->R D->Prop where
 |stuck (r:R D):Rf h r .stuck
 |eq (r:R D):Rf h r r
 |val {d:D}{h2 g:AH} (hl:h2.length=h.length) (ho:∀(n:Nat) (o:Ob),h2[n]?=some o->h[n]?=some o\/Ba h.length o) (hd:Bel h.length d):Rf h (.ok d (h2++g)) (.ok d h2)
 |exc {c:Str}{h2 g:AH} (hl:h2.length=h.length) (ho:∀(n:Nat) (o:Ob),h2[n]?=some o->h[n]?=some o\/Ba h.length o):Rf h (.exc c (h2++g)) (.exc c h2)
 |lst {m:Nat}{h1 h2:AH}{ys:List D} (hl:h2.length=h.length) (ho:∀(n:Nat) (o:Ob),h2[n]?=some o->h[n]?=some o\/Ba h.length o) (hs:∀(n:Nat) (o:Ob),h2[n]?=some o->h1[n]?=some o) (em:h1[m]?=some (.lst ys)) (hm:h.length<=m) (hy:Bels h.length ys):Rf h (.ok (.ref m) h1) (.ok (.ref h.length) (h2++[.lst ys]))
section
variable{K:W.Frag}{mg:Str->Option Value}{ρ:List Addr}{H:Hp}{h:AH}
end
end L2
namespace L2
open PySem PySem.Spec PyProof.Rows
def xa:D->D->AH->R D:=gOr (gI λi j=>.int (i+j)) ny
def B2:D->D->AH->R D:=gI λi j=>.int (i-j)
def CMulA(i j:Int):Prop:=CT i j\/CMul i j
def BJ:D->D->AH->R D:=gIc CMulA λi j=>.int (i*j)
def Ar:D->D->AH->R D:=gIc CDivB λi j=>.int (i.fdiv j)
def AQ:D->D->AH->R D:=gIc (λ_ j=>j≠0) λi j=>.int (i.fmod j)
def BH:D->D->AH->R D:=gIc pI λi j=>.int (i^j.toNat)
def gLt:D->D->AH->R D:=gI λi j=>.bl (decide (i<j))
def gGt:D->D->AH->R D:=gI λi j=>.bl (decide (j<i))
def gGe:D->D->AH->R D:=gI λi j=>.bl (decide (j<=i))
def xh:D->AH->R D:=λx h=>match x with
 |.int i=>.ok (.int (-i)) h
 |_=>.stuck
def xt(n:Nat)(S:Fn)(A:MA):ME:=eFn (λds h=>if ds.length=n then S ds h else .stuck) A
section
variable{K:W.Frag}{mg:Str->Option Value}{X:Cx}
def bf(h:X.K=K):OpR X (binaryOp .Add) (λx y H Q=>rI0 (λi j=>.int (i+j)) x y H Q\/(pO x y H Q\/(mG K x y H Q\/mD K x y H Q))):=Hq.or (catK h)
def FQ:OpD K mg (λx y H Q=>rI0 (λi j=>.int (i+j)) x y H Q\/(pO x y H Q\/(mG K x y H Q\/mD K x y H Q))) xa:=(lK λ_ _ _ _=>.int _).or Ea
def Gn:OpD K mg (rI0 λi j=>.int (i-j)) B2:=lK λ_ _ _ _=>.int _
def eg:OpR X (binaryOp .Mult) (rI CMulA λi j=>.int (i*j)):=by
 intro pins s σ H x y v u Q I rx ry h
 obtain⟨i,j,e1,e2,hc,q⟩:=h
 rcases hc with hc |hc
 ·exact ER pins s σ H x y v u Q I rx ry ⟨i,j,e1,e2,hc,q⟩
 ·exact H0 pins s σ H x y v u Q I rx ry ⟨i,j,e1,e2,hc,q⟩
def Jt:OpD K mg (rI CMulA λi j=>.int (i*j)) BJ:=qX λ_ _ _ _=>.int _
def Iz:OpD K mg (rI CDivB λi j=>.int (i.fdiv j)) Ar:=qX λ_ _ _ _=>.int _
def ID:OpD K mg (rI (λ_ j=>j≠0) λi j=>.int (i.fmod j)) AQ:=qX λ_ _ _ _=>.int _
def HF:OpD K mg (rI pI λi j=>.int (i^j.toNat)) BH:=qX λ_ _ _ _=>.int _
def KQ:OpD K mg (rI0 λi j=>.bl (decide (i<j))) gLt:=lK λ_ _ _ _=>.bl _
def LY:OpD K mg (rI0 λi j=>.bl (decide (j<i))) gGt:=lK λ_ _ _ _=>.bl _
def Me:OpD K mg (rI0 λi j=>.bl (decide (j<=i))) gGe:=lK λ_ _ _ _=>.bl _
def Gj:UnD K mg (rU λi=>.int (-i)) xh:=λρ h H dx x Q E w rx p=>by
 unfold xh at p
 split at p
 ·cases rx;exact⟨_,rfl,aJ w (.int _) p⟩
 ·exact p.elim
def C7:IpD K mg (ipI λi j=>i+j) (gI λi j=>.int (i+j)):=λρ h H dx dy x y Q E w rx ry p=>by
 unfold gI at p
 split at p
 ·cases rx;cases ry;exact⟨_,_,rfl,rfl,aJ w (.int _) p⟩
 ·exact p.elim
variable{ES:St->XK}{e:Expr}{es:List Expr}{A:MA}{pos:Pos}
def Cf(C:Callee X.prog X.w X.K X.mg X.base x k ps (spD K mg n S))(hr:Room k X.A)(hg:Gl X x)(hx:oa X ES)(ha:DA K mg X ES (e::es) A)
 (hdb:(x==("__debug__" : Str))=false:=by decide) (he:starEach (e::es) X.env=(false,eval e X.env)::starEach es X.env:=by rfl) (hpl:(backTo pos (starEach es X.env)).any (·.1)=false:=by rfl):
 DE K mg X ES (.Call (.Name x p) (e::es) [] pos) (xt n S A):=Fh C hr hg hx ha hdb he hpl
end
section
variable{ae:AE}{h:AH}
@[simp] theorem gF(a:α)(h:AH)(f:α->AH->R β):(R.ok a h).bind f=f a h:=rfl
end
end L2
namespace L2
open PySem PySem.Spec PyProof.Rows
def ju(h1:pd.canLay0=true)(h2:pd.depth<=160):shp pd=true:=by
 unfold shp
 rw[h1,OI h2];rfl
def Sm(n:Nat)(x:Int):Prop:=x.natAbs<2^n
def Sm.mono(h:Sm n x)(l:n<=m):Sm m x:=Ox h (Qd (by omega) l)
def Sm.mul(h:Sm n x)(k:Sm m y):Sm (n+m) (x*y):=by
 unfold Sm at *
 rw[O5,Qj]
 exact Nat.mul_lt_mul'' h k
def Sm.bits(h:Sm n x):Builtin.Int.intBits x<=n:=intBits_le_iff.mpr h
def Sm.of_le(h:Sm n y)(l:x.natAbs<=y.natAbs):Sm n x:=P2 l h
def CMulA.of(h:Sm n x)(k:Sm m y)(hn:n<=100000)(hm:m<=100000):CMulA x y:=.inl ⟨Ow h.bits hn,Ow k.bits hm⟩
def CMulA.left(h:-(2^64)<x)(k:x<2^64):CMulA x y:=.inr (.inl ⟨h,k⟩)
def CMulA.right(h:-(2^64)<y)(k:y<2^64):CMulA x y:=.inr (.inr ⟨h,k⟩)
def CDivB.of(h0:y≠0)(h:Sm 8000 y):CDivB x y:=⟨h0,h.bits⟩
structure Sz(n:Nat)(q:Rat):Prop where
 top:Sm n q.num
 bot:Sm n (q.den:Int)
def zy{a b:Int}(hb:b≠0):((a:Rat)/(b:Rat)).num*b=a*((a:Rat)/(b:Rat)).den:=by
 have h2:=Rat.num_divInt_den ((a:Rat)/(b:Rat))
 have h3:Rat.divInt ((a:Rat)/(b:Rat)).num (((a:Rat)/(b:Rat)).den:Int)=Rat.divInt a b:=by rw[h2,Rat.divInt_eq_div]
 exact (Rat.divInt_eq_divInt_iff (by have:=((a:Rat)/(b:Rat)).den_nz;omega) hb).mp h3
def vK(q:Rat):Int.gcd q.num q.den=1:=by
 have:=q.reduced
 exact this
def ou(hb:b≠0):Fr.T a b=((a:Rat)/(b:Rat)).num/\Fr.B a b=(((a:Rat)/(b:Rat)).den:Int):=by
 refine Fr.uniq (Fr.B_pos hb) (by have:=((a:Rat)/(b:Rat)).den_pos;omega) (Fr.low hb) (vK _) ?_
 have h1:=Fr.cross (a:=a) hb
 have h2:=zy (a:=a) hb
 generalize ((a:Rat)/(b:Rat)).num=n at *
 generalize (((a:Rat)/(b:Rat)).den:Int)=d at *
 generalize Fr.T a b=x at *
 generalize Fr.B a b=y at *
 have h3:(x*d)*b=(n*y)*b:=by
  calc x*d*b=(x*b)*d:=by rw[Qm]
   _=a*y*d:=by rw[h1]
   _=(a*d)*y:=by rw[Qm]
   _=n*b*y:=by rw[h2]
   _=n*y*b:=by rw[Qm]
 exact Qf hb h3
def xk{a b:Int}(hb:b≠0):((a:Rat)/(b:Rat)).num.natAbs<=a.natAbs:=by
 have h:=(ou (a:=a) hb).1
 rw[<- h]
 have h1:=Fr.T_mul (a:=a) hb
 have h2:=Fr.dv_ne (a:=a) hb
 have h3:(Fr.T a b).natAbs*(Fr.dv a b).natAbs=a.natAbs:=by rw[<- O5,h1]
 have h4:1<=(Fr.dv a b).natAbs:=by omega
 calc (Fr.T a b).natAbs=(Fr.T a b).natAbs*1:=by omega
  _<=(Fr.T a b).natAbs*(Fr.dv a b).natAbs:=PY _ h4
  _=a.natAbs:=h3
def xF{a b:Int}(hb:b≠0):((((a:Rat)/(b:Rat)).den:Int)).natAbs<=b.natAbs:=by
 have h:=(ou (a:=a) hb).2
 rw[<- h]
 have h1:=Fr.B_mul (a:=a) hb
 have h2:=Fr.dv_ne (a:=a) hb
 have h3:(Fr.B a b).natAbs*(Fr.dv a b).natAbs=b.natAbs:=by rw[<- O5,h1]
 have h4:1<=(Fr.dv a b).natAbs:=by omega
 calc (Fr.B a b).natAbs=(Fr.B a b).natAbs*1:=by omega
  _<=(Fr.B a b).natAbs*(Fr.dv a b).natAbs:=PY _ h4
  _=b.natAbs:=h3
def Sz.div(hb:b≠0)(ha:Sm n a)(hb':Sm m b)(k:Nat)(h1:n<=k)(h2:m<=k):Sz k ((a:Rat)/(b:Rat)):=
 ⟨(ha.of_le (xk hb)).mono h1,(hb'.of_le (xF hb)).mono h2⟩
def fm(q:Rat):(q.den:Int)≠0:=by have:=q.den_nz;omega
def j0(q:Rat):q=(q.num:Rat)/((q.den:Int):Rat):=by
 have:=Rat.num_divInt_den q
 rw[Rat.divInt_eq_div] at this
 exact this.symm
def nX{b:Int}(h:b≠0):(b:Rat)≠0:=by
 intro z
 exact h (by exact_mod_cast z)
def Dn(p q:Rat):p+q=((p.num*q.den+q.num*p.den:Int):Rat)/((p.den*q.den:Int):Rat):=by
 have h1:=nX (fm p)
 have h2:=nX (fm q)
 conv=>lhs;rw[j0 p,j0 q]
 simp only[QP,Ph]
 grind
def vI(p q:Rat):p*q=((p.num*q.num:Int):Rat)/((p.den*q.den:Int):Rat):=by
 have h1:=nX (fm p)
 have h2:=nX (fm q)
 conv=>lhs;rw[j0 p,j0 q]
 simp only[Ph]
 grind
def Sz.mul(hp:Sz n p)(hq:Sz m q):Sz (n+m) (p*q):=by
 rw[vI]
 exact Sz.div (by have:=fm p;have:=fm q;exact QI ‹_› ‹_›) (hp.top.mul hq.top) (hp.bot.mul hq.bot) _ (by omega) (by omega)
def vL{q:Rat}:0<q.num ↔ 0<q:=by
 have h1:=Rat.num_nonneg (q:=q)
 have h2:=Rat.num_eq_zero (q:=q)
 constructor
 ·intro h
  refine Rat.lt_of_le_of_ne (h1.mp (by omega)) λz=>?_
  have:=h2.mpr z.symm
  omega
 ·intro h
  have h3:=h1.mpr (Rat.le_of_lt h)
  have h4:q.num≠0:=λz=>(Rat.ne_of_lt h) (h2.mp z).symm
  omega
section
variable(ae:AE)(h:AH)
end
theorem nT:∀{ws:List Int},(∀w∈ws,0<=w)->0<=ws.sum
 | [],_=>Int.le_refl _
 |
  w::ws,h=>by
  have:=h w (Of ..)
  have:=nT (ws:=ws) λv hv=>h v (Od _ hv)
  rw[OU];omega
def Vl(mg:Str->Option Value)(c:Cl)(u:Value):Prop:=match c with
 |.b n=>u=.type n
 |.o x=>mg x=some u
def J7{K:W.Frag}{mg:Str->Option Value}{c d:Cl}{tu cu t v:Value}{b:Bool}(e:W.kitOne K tu cu=some b)(hc:Vl mg c tu)(hd:Vl mg d cu)(h1:ClV mg c t)(h2:ClV mg d v):W.kitOne K t v=some b:=by
 have f:∀{c:Cl}{u t:Value},Vl mg c u->ClV mg c t->u=t:=by
  intro c u t h1 h2
  cases c with
  |b n=>exact (show u=_ from h1).trans (show t=_ from h2).symm
  |
   o x=>
   obtain⟨a,rfl,m⟩:=h2
   have h1':mg x=some u:=h1
   rw[m] at h1'
   exact (OE h1').symm
 rw[<- f hc h1,<- f hd h2]
 exact e
def BM{K:W.Frag}{mg:Str->Option Value}:KitsOk K mg []:=⟨λp hp=>(nomatch hp),λp hp=>(nomatch hp)⟩
def aF{K:W.Frag}{mg:Str->Option Value}{c d:Cl}{tu cu:Value}{b:Bool}{kt:kj}(e:W.kitOne K tu cu=some b)(hc:Vl mg c tu)(hd:Vl mg d cu)(hx:∀x C,c=.o x->mg x=some (.ref C)->XCls K C)(r:KitsOk K mg kt):KitsOk K mg ((c,d,b)::kt):=
 ⟨λp hp t v h1 h2=>by
  rcases Oy.mp hp with rfl |hp
  ·exact J7 e hc hd h1 h2
  ·exact r.one p hp t v h1 h2,λp hp x C e' m=>by
  rcases Oy.mp hp with rfl |hp
  ·exact hx x C e' m
  ·exact r.xc p hp x C e' m⟩
def aZ{K:W.Frag}{mg:Str->Option Value}{n:String}:∀x C,Cl.b n=.o x->mg x=some (.ref C)->XCls K C:=λ_ _ e=>nomatch e
def Ii{K:W.Frag}{h:Heap}{mg:Str->Option Value}{x:Str}{i:Int}{t:Tok}(X:K.In h)(G:h.Ns mainGlobals mg)(e:W.nsIn K mainGlobals x=some (some (.int i t))):GC K mg x (.int i):=
 ⟨_,.int i,QF X G e,⟨t,rfl⟩,λ_ _=>.int i⟩
def I0{K:W.Frag}{h:Heap}{mg:Str->Option Value}{x:Str}{a:Addr}{dd:Option Addr}{its:Array Value}{n:Nat}{sl:Array (Option Value)}{vs:List V}{ds:List D}(X:K.In h)(G:h.Ns mainGlobals mg)(e:W.nsIn K mainGlobals x=some (some (.ref a)))
 (l:K.lookup a=some ⟨.type "tuple",dd,.seq its n,sl⟩) (hs:its.size<=sizeLine) (hv:Vals vs its.toList) (hr:∀ρ H,RelDs K mg ρ H ds vs):GC K mg x (.tup ds):=
 ⟨_,.ref a,QF X G e,rfl,λρ H=>.tup (.inr ⟨_,its,n,l,rfl,rfl,hs,hv⟩) (hr ρ H)⟩
end L2
namespace L2
open PySem PySem.Spec PyProof.Rows
def AI{P:Program}{w:World}{H:Hp}(h:Heap)(hb:sysModules<h.objs.size):ObjOk P w H (h.push { cls:=.type "dict",data:=.dict #[] }) h.objs.size (.dK []):=
 ⟨OO _,OB.mpr (Ne.symm (OM hb)),[],.nil,Heap.DictOf.new h⟩
def Inv.big{X:Cx}{pins:List (Addr×Obj)}{σ:St}{H:Hp}{s:Shared}(I:Inv X pins σ H s):sysModules<s.heap.objs.size:=by
 have h:mainGlobals<s.heap.objs.size:=(I.mod.glob.keeps I.bk).lt
 exact QM (by decide) h
def Ho:TE:=λ_ H Q=>∀p,H p=none->Q (.ref p) (upd H p (.dK []))
def eD0:ME:=λ_ h=>.ok (.ref h.length) (h++[.dct []])
section
variable{K:W.Frag}{mg:Str->Option Value}{X:Cx}{ES:St->XK}{pos:Pos}
def Ck:PE X (.Dict [] [] pos) Ho:=λpins s σ H Q I h=>
 wpAny_Dict_empty ⟨.ref s.heap.objs.size,_,I.laid (a:=s.heap.objs.size) (o:=.dK []) (t':=s.toks) (λ_ _ q=>Oo _ q) (Og _) (AI s.heap I.big),rfl,h _ (I.hok.fresh (Og _))⟩
def KG:DE K mg X ES (.Dict [] [] pos) eD0:=PE.imp Ck λσ H Q ⟨ρ,h,ae,w,re,q⟩ p hp=>by
 have l:Le ρ H (ρ++[p]) (upd H p (.dK [])):=(eu hp).trans l9
 refine q (ρ++[p]) _ l (w.alloc hp ⟨[],b0,rfl,.nil⟩) _ (.ref ?_)
 rw[<- w.len,OC (Og _),PD]
 rfl
end
end L2
namespace L2
open PySem PySem.Spec PyProof.Rows
variable{K:W.Frag}{mg:Str->Option Value}
end L2
namespace L2
open PySem PySem.Spec PyProof.Rows
section
variable{K:W.Frag}{mg:Str->Option Value}{X:Cx}{ES:St->XK}{e:Expr}{es:List Expr}{A:MA}{pos:Pos}
end
end L2
namespace L2
open PySem PySem.Spec PyProof.Rows
section
variable{K:W.Frag}{mg:Str->Option Value}{X:Cx}{ES:St->XK}{e a b c o lo hi:Expr}{F G L U:ME}{pos p2:Pos}{ρ:List Addr}{H:Hp}{h:AH}{ae:AE}
end
end L2
namespace L2
open PySem PySem.Spec PyProof.Rows
section
variable{κ:Type}[DecidableEq κ]
def gM(kvs:List (κ×V))(k:κ):Option V:=(kvs.find? λkv=>decide (kv.1=k)).map (·.2)
def fL(kvs:List (κ×V))(k:κ)(v:V):List (κ×V):=
 if (kvs.any λkv=>decide (kv.1=k))=true then kvs.map (λkv=>if kv.1=k then (kv.1,v) else kv) else kvs++[(k,v)]
def m9{p:κ×V}{r:List (κ×V)}{k:κ}(e:p.1=k):gM (p::r) k=some p.2:=by simp [gM,OZ,e]
def nz{p:κ×V}{r:List (κ×V)}{k:κ}(e:¬ p.1=k):gM (p::r) k=gM r k:=by simp [gM,OZ,e]
theorem uw(k:κ):∀kvs:List (κ×V),(kvs.any λkv=>decide (kv.1=k))=(gM kvs k).isSome
 | []=>rfl
 |
  p::r=>by
  rw[Pd]
  by_cases e:p.1=k
  ·simp only[m9 e,OI e,Bool.true_or,Option.isSome_some]
  ·rw[nz e,OA e,Bool.false_or];exact uw k r
def mP(kvs:List (κ×V))(k:κ)(v:V):(fL kvs k v).length<=kvs.length+1:=by
 unfold fL
 split
 ·rw[N_];omega
 ·rw[Oh,Oq,OG];omega
def RelO.isSome_eq(r:RelO o u):o.isSome=u.isSome:=by
 cases o with
 |none=>cases u with
  |none=>rfl
  |some _=>exact (show False from r).elim
 |some _=>cases u with
  |none=>exact (show False from r).elim
  |some _=>rfl
def KV.val(r:KV kvs vs)(k:κ):RelO (gM kvs k) (valueAt vs k):=by
 unfold KV at r
 induction r with
 |nil=>exact True.intro
 |
  @cons p q ps qs h t ih=>
  obtain⟨h1,h2⟩:=h
  by_cases e:p.1=k
  ·have e':q.1=k:=h1.symm.trans e
   have b:valueAt (q::qs) k=some q.2:=by simp [valueAt,OZ,e']
   rw[m9 e,b];exact h2
  ·have e':¬ q.1=k:=λz=>e (h1.trans z)
   have b:valueAt (q::qs) k=valueAt qs k:=by simp [valueAt,OZ,e']
   rw[nz e,b];exact ih
def KV.any(r:KV kvs vs)(k:κ):(kvs.any λkv=>decide (kv.1=k))=vs.any λkv=>decide (kv.1=k):=by
 unfold KV at r
 induction r with
 |nil=>rfl
 |cons h t ih=>rw[Pd,Pd,ih,h.1]
def KV.repl(r:KV kvs vs)(k:κ)(ry:RelV y u):
 KV (kvs.map λkv=>if kv.1=k then (kv.1,y) else kv) (vs.map λkv=>if kv.1=k then (kv.1,u) else kv):=by
 unfold KV at r ⊢
 induction r with
 |nil=>exact .nil
 |
  @cons p q ps qs h t ih=>
  rw[Oi,Oi]
  refine .cons ?_ ih
  obtain⟨h1,h2⟩:=h
  by_cases e:p.1=k
  ·rw[if_pos e,if_pos (h1.symm.trans e)];exact⟨h1,ry⟩
  ·rw[if_neg e,if_neg (λz=>e (h1.trans z))];exact⟨h1,h2⟩
def KV.put(r:KV kvs vs)(k:κ)(ry:RelV y u):KV (fL kvs k y) (stored vs k u):=by
 unfold fL stored
 rw[r.any k]
 by_cases e:(vs.any λkv=>decide (kv.1=k))=true
 ·rw[if_pos e,if_pos e];exact r.repl k ry
 ·rw[if_neg e,if_neg e];exact Paired.snoc r ⟨rfl,ry⟩
def KV.length(r:KV kvs vs):kvs.length=vs.length:=QW r
end
def xg(r:RelV (kV k) u):(cE P w).is k u=true:=by
 cases k with
 |inl i=>obtain⟨t,e⟩:=(show ∃t,u=Value.int i t from r);subst e;exact uJ P w i t
 |inr x=>obtain⟨t,e⟩:=(show ∃t,u=Value.str x t from r);subst e;exact uN P w x t
theorem qw:∀{ks:List Key}{us:List Value},Vals (ks.map kV) us->ItemsAre (cE P w) ks us
 | [],_,r=>by rw[OL] at r;cases r;exact .nil
 |
  k::ks,_,r=>by
  rw[Oi] at r
  cases r with
  |cons h t=>exact .cons (xg h) (qw t)
abbrev KT(H:Hp):List (List Key×V)->List (List Key×Addr×Value)->Prop:=Paired λp q=>p.1=q.1/\H q.2.1=some (.tup (p.1.map kV))/\RelV p.2 q.2.2
def KT.val(r:KT H kvs xs)(k:List Key):RelO (gM kvs k) ((atKey xs k).map (·.2)):=by
 induction r with
 |nil=>exact True.intro
 |
  @cons p q ps qs h t ih=>
  obtain⟨h1,_,h2⟩:=h
  by_cases e:p.1=k
  ·have e':q.1=k:=h1.symm.trans e
   have b:atKey (q::qs) k=some q.2:=by simp [atKey,OZ,e']
   rw[m9 e,b];exact h2
  ·have e':¬ q.1=k:=λz=>e (h1.trans z)
   have b:atKey (q::qs) k=atKey qs k:=by simp [atKey,OZ,e']
   rw[nz e,b];exact ih
def KT.repl(r:KT H kvs xs)(k:List Key)(ry:RelV y u):
 KT H (kvs.map λkv=>if kv.1=k then (kv.1,y) else kv) (xs.map (putAt k u)):=by
 induction r with
 |nil=>exact .nil
 |
  @cons p q ps qs h t ih=>
  rw[Oi,Oi]
  refine .cons ?_ ih
  obtain⟨h1,h2,h3⟩:=h
  unfold putAt
  by_cases e:p.1=k
  ·rw[if_pos e,if_pos (h1.symm.trans e)];exact⟨h1,h2,ry⟩
  ·rw[if_neg e,if_neg (λz=>e (h1.trans z))];exact⟨h1,h2,h3⟩
def KT.put(r:KT H kvs xs)(k:List Key)(hb:H b=some (.tup (k.map kV)))(ry:RelV y u):
 KT H (fL kvs k y) (storedH xs k b u):=by
 have e:(kvs.any λkv=>decide (kv.1=k))=(atKey xs k).isSome:=by
  rw[uw,(r.val k).isSome_eq,Option.isSome_map]
 unfold fL storedH
 rw[e]
 by_cases q:(atKey xs k).isSome=true
 ·rw[if_pos q,if_pos q];exact r.repl k ry
 ·rw[if_neg q,if_neg q];exact Paired.snoc r ⟨rfl,hb,ry⟩
def KT.keeps(r:KT H kvs xs)(ht:∀b ys,H b=some (.tup ys)->H' b=some (.tup ys)):KT H' kvs xs:=
 Paired.mapP r λ_ _ z=>⟨z.1,ht _ _ z.2.1,z.2.2⟩
section
variable{P:Program}{w:World}{H:Hp}{h:Heap}{a:Addr}
def CS(ok:HOk P w H h)(e:Rd H a u):ObjOk P w H h a u:=e.ok ok
def vZ(ok:HOk P w H h)(e:Rd H a (.dK kvs)):kvs.length<=sizeLine/\(a==sysModules)=false/\∃vs,KV kvs vs/\h.DictOf (cE P w) a vs:=
 show ObjOk P w H h a (.dK kvs) from CS ok e
def LU(ok:HOk P w H h)(e:H a=some (.dK kvs)):kvs.length<=sizeLine/\(a==sysModules)=false/\∃vs,KV kvs vs/\h.DictOf (cE P w) a vs:=vZ ok (.inl e)
def tM(ok:HOk P w H h)(e:H a=some (.tup (ks.map kV))):(tupleKind (cE P w)).is h ks a:=by
 obtain⟨_,its,r,o,h1,h2,n,h3⟩:=(show ObjOk P w H h a (.tup (ks.map kV)) from ok a _ e)
 exact⟨o,its.toArray,n,h1,h2,h3,by simpa using qw r⟩
def xK(ok:HOk P w H h)(e:Rd H a (.dT kvs)):kvs.length<=sizeLine/\(a==sysModules)=false/\
 ∃xs,KT H kvs xs/\h.DictOfH (tupleKind (cE P w)) a xs:=by
 obtain⟨z,y,xs,r,o,es,ep,h1,h2,h3,h4,h5⟩:=(show ObjOk P w H h a (.dT kvs) from CS ok e)
 refine⟨z,y,xs,r,o,es,ep,h1,h2,h3,h4,λx hx=>?_,h5⟩
 have all:∀{l:List (List Key×V)}{m:List (List Key×Addr×Value)},KT H l m->∀x∈m,(tupleKind (cE P w)).is h x.1 x.2.1:=by
  intro l m q
  induction q with
  |nil=>intro x hx;exact nomatch hx
  |
   @cons p q ps qs hq t ih=>
   intro x hx
   rcases Oy.mp hx with e |hx
   ·subst e
    exact tM ok (by rw[<- hq.1];exact hq.2.1)
   ·exact ih x hx
 exact all r x hx
def Lq(ok:HOk P w H h)(e:H a=some (.dT kvs)):kvs.length<=sizeLine/\(a==sysModules)=false/\
 ∃xs,KT H kvs xs/\h.DictOfH (tupleKind (cE P w)) a xs:=xK ok (.inl e)
end
def DGet(H:Hp)(a:Addr)(y:V)(r:Option V):Prop:=
 (∃kvs k,Rd H a (.dK kvs)/\y=kV k/\r=gM kvs k)\/∃kvs k b,Rd H a (.dT kvs)/\y=.ref b/\H b=some (.tup (k.map kV))/\r=gM kvs k
def DPut(H:Hp)(a:Addr)(y v:V)(H':Hp):Prop:=
 (∃kvs k,H a=some (.dK kvs)/\y=kV k/\kvs.length<sizeLine/\H'=upd H a (.dK (fL kvs k v)))\/
 ∃kvs k b,H a=some (.dT kvs)/\y=.ref b/\H b=some (.tup (k.map kV))/\kvs.length<sizeLine/\H'=upd H a (.dT (fL kvs k v))
def DGet.k{H:Hp}{a:Addr}{kvs:List (Key×V)}{k:Key}(e:H a=some (.dK kvs)):DGet H a (kV k) (gM kvs k):=.inl ⟨kvs,k,.inl e,rfl,rfl⟩
def DPut.k{H:Hp}{a:Addr}{kvs:List (Key×V)}{k:Key}{v:V}(e:H a=some (.dK kvs))(hl:kvs.length<sizeLine):DPut H a (kV k) v (upd H a (.dK (fL kvs k v))):=.inl ⟨kvs,k,e,rfl,hl,rfl⟩
section
variable{X:Cx}{pins:List (Addr×Obj)}{σ:St}{H:Hp}{s:Shared}{a:Addr}{y v:V}{u r:Value}{o:Option V}{A:Around}{E:Value->Shared->Prop}
def zI(hu:A.units+1<cLine)(I:Inv X pins σ H s)(g:DGet H a y (some v))(ry:RelV y u)(h:∀w' s',Inv X pins σ H s'->RelV v w'->Q w' s'):
 wpAny (model X.prog X.w) A (getItem (.ref a) u) Q E s:=by
 rcases g with ⟨kvs,k,e,ey,l⟩ |⟨kvs,k,b,e,ey,eb,l⟩
 ·subst ey
  obtain⟨z,hd,vs,rel,dd⟩:=vZ I.hok e
  obtain⟨w',hw,rw'⟩:=RelO.some_of (v:=v) (o:=valueAt vs k) (by rw[l];exact rel.val k)
  exact wpAny_getItem_of (xg ry) dd.mapOf hw (h w' _ (I.tok _) rw')
 ·subst ey
  cases (show u=Value.ref b from ry)
  obtain⟨z,hd,xs,rel,dd⟩:=xK I.hok e
  obtain⟨w',hw,rw'⟩:=RelO.some_of (v:=v) (o:=(atKey xs k).map (·.2)) (by rw[l];exact rel.val k)
  obtain⟨p,hp,hp2⟩:=OJ.mp hw
  refine wpAny_getItem_heap (tupleKind_room_in1 hu) (tM I.hok eb) dd hp ?_
  rw[hp2]
  exact h w' _ (I.tok _) rw'
def uV(I:Inv X pins σ H s)(mu:Mut (H a))(hs:Heap.SameBut a s.heap h')(he:∃q,h'.get? a=some q)(new:ObjOk X.prog X.w (upd H a ob) h' a ob):
 Inv X pins σ (upd H a ob) { s with heap:=h',toks:=t' }:=
 I.write (x:=a) (e:=a) mu (.inl rfl) (λb q hb z=>(hs.2 b hb).trans z) he new
def Gr(z:kvs.length<=sizeLine)(hd:(a==sysModules)=false)(rel:KV kvs vs)(dd:h'.DictOf (cE P w) a vs):
 ObjOk P w H' h' a (.dK kvs):=⟨z,hd,vs,rel,dd⟩
def yW(hu:A.units+1<cLine)(I:Inv X pins σ H s)(g:DPut H a y v H')(ry:RelV y u)(rv:RelV v r)(h:∀s',Inv X pins σ H' s'->Q () s'):
 wpAny (model X.prog X.w) A (setItem (.ref a) u r) Q E s:=by
 rcases g with ⟨kvs,k,e,ey,l,eH⟩ |⟨kvs,k,b,e,ey,eb,l,eH⟩
 ·subst ey eH
  obtain⟨z,hd,vs,rel,dd⟩:=LU I.hok e
  have hz:vs.length<=sizeLine:=by rw[<- rel.length];exact z
  have hl:(fL kvs k v).length<=sizeLine:=by have:=mP kvs k v;omega
  refine wpAny_setItem_pairs (hsz:=hz) (xg ry) dd λh' dd' hs=>h _ ?_
  have he:∃q,h'.get? a=some q:=let ⟨q,_,_,hq,_⟩:=dd';⟨q,hq⟩
  exact uV I (by rw[e];exact True.intro) hs he (Gr hl hd (rel.put k rv) dd')
 ·subst ey eH
  cases (show u=Value.ref b from ry)
  obtain⟨z,hd,xs,rel,dd⟩:=Lq I.hok e
  have hz:xs.length<=sizeLine:=by rw[<- QW rel];exact z
  have hl:(fL kvs k v).length<=sizeLine:=by have:=mP kvs k v;omega
  refine wpAny_setItem_heap (hsz:=hz) (tupleKind_room_in1 hu) (tM I.hok eb) dd λh' dd' hs=>h _ ?_
  obtain⟨q,es,ep,hq,h2,h3,h4,_,h5⟩:=dd'
  refine uV I (by rw[e];exact True.intro) hs ⟨q,hq⟩ ⟨hl,hd,_,(rel.put k eb rv).keeps λc ys ec=>?_,q,es,ep,hq,h2,h3,h4,h5⟩
  rw[aQ (K6 ec e (λz=>nomatch z))]
  exact ec
end
section
variable{X:Cx}{pins:List (Addr×Obj)}{σ:St}{H:Hp}{s:Shared}{a:Addr}{kvs:List (Key×V)}{k:Key}{u:Value}{A:Around}{E:Value->Shared->Prop}
end
def xM(i:Expr):Prop:=∀ov iv,subscripted i false ov iv=operate [ov,iv] (getItem ov iv)
def C8{prog:Program}{w:World}{A:Around}{E:Value->Shared->Prop}{s:Shared}{env:Env}{value io:Expr}{pos:Pos}{T id:String}{Q:Value->Shared->Prop}
 (hl:typeLookup (.type T) "__getitem__"=pure (some (.builtin id))) (hs:xM io)
 (h:wpAny (model prog w) A (eval value env) (λo s₁=>wpAny (model prog w) A (eval io env) (λi s₂=>s₂.TypeIs o T/\wpAny (model prog w) A (getItem o i) Q E s₂) E s₁) E s):
 wpAny (model prog w) A (eval (.Subscript value io pos) env) Q E s:=by
 refine Subscript_ (OX h (λo s₁ h₁=>OX h₁ (λi s₂ h₂=>?_) λ_ _ x=>x) λ_ _ x=>x)
 obtain⟨hT,h₂⟩:=h₂
 unfold subscriptTail
 refine Oa ?_
 rw[getitemInPython_of_ne hT.not_modules]
 refine Oa (wpAny_specialOf hT hl ?_)
 have ii:wpAny (model prog w) A (subscripted io false o i) (λr s₃=>wpAny (model prog w) A (letTemporaryGo value o r >>= λ_=>pure r) Q E s₃) E s₂:=by
  rw[hs o i]
  exact wpAny_operating (OX h₂ (λr s₃ h₃=>Oa (wpAny_letTemporaryGo (Ou h₃))) λ_ _ x=>x)
 first
  |exact Ou (Oa ii)
  |exact Oa (Ou (Oa ii))
  |exact Oa ii
def uH(I:Inv X pins σ H s)(g:DGet H a y o):s.TypeIs (.ref a) "dict":=by
 rcases g with ⟨kvs,k,e,_,_⟩ |⟨kvs,k,b,e,_,_,_⟩
 ·obtain⟨_,_,vs,_,dd⟩:=vZ I.hok e
  exact dd.typeIs
 ·obtain⟨_,_,xs,_,dd⟩:=xK I.hok e
  exact dd.typeIs
def Lw(td ty:TE):TE:=λσ H Q=>td σ H λx H1=>ty σ H1 λy H2=>∃a v,x=.ref a/\DGet H2 a y (some v)/\Q v H2
section
variable{X:Cx}{o i e value:Expr}{pos pos' tpos:Pos}{td ty tv:TE}
def EG(hu:X.A.units+1<cLine)(ho:PE X o td)(hi:PE X i ty)(hs:xM i):PE X (.Subscript o i pos) (Lw td ty):=by
 intro pins s σ H Q I h
 refine C8 PySem.F.slot_dict_getitem.lookup hs (thn (ho pins s σ H _ I h) λu s1 ⟨x,H1,I1,rx,q1⟩=>thn (hi pins s1 σ H1 _ I1 q1) λiv s2 ⟨y,H2,I2,ry,a,v,ex,g,q2⟩=>?_)
 subst ex
 obtain rfl:u=Value.ref a:=rx
 exact⟨uH I2 g,zI hu I2 g ry λw' s3 I3 rw'=>⟨v,H2,I3,rw',q2⟩⟩
end
section
variable{X:Cx}{pos:Pos}
end
structure M1(X:Cx)(o:Expr)(m:Str)(apos:Pos)(e:Expr)(cpos:Pos):Prop where
 base:attributeBase o m X.env (eval o X.env)=eval o X.env
 few:((backTo cpos (starEach [e] X.env)).all (λx=>!x.1)&&(backToKw cpos (keywordEach [] X.env)).all (λx=>x.1.isSome)
  && decide (([e]:List Expr).length+([]:List Keyword).length+(if ([]:List Keyword).isEmpty then 0 else 1)<30))=true
 line:(apos.endLine==cpos.line)=true
 trees:backTo cpos (starEach [e] X.env)=[(false,eval e X.env)]
structure M2(X:Cx)(o:Expr)(m:Str)(apos:Pos)(e f:Expr)(cpos:Pos):Prop where
 base:attributeBase o m X.env (eval o X.env)=eval o X.env
 few:((backTo cpos (starEach [e,f] X.env)).all (λx=>!x.1)&&(backToKw cpos (keywordEach [] X.env)).all (λx=>x.1.isSome)
  && decide (([e,f]:List Expr).length+([]:List Keyword).length+(if ([]:List Keyword).isEmpty then 0 else 1)<30))=true
 line:(apos.endLine==cpos.line)=true
 trees:backTo cpos (starEach [e,f] X.env)=[(false,eval e X.env),(false,eval f X.env)]
section
variable{X:Cx}{pins:List (Addr×Obj)}{σ:St}{H:Hp}{s:Shared}{a:Addr}{y d:V}{u r:Value}{o:Option V}{A:Around}{E:Value->Shared->Prop}
end
section
variable{X:Cx}{o e f:Expr}{apos cpos:Pos}{td ty tx:TE}
end
section
variable{X:Cx}{pins:List (Addr×Obj)}{σ:St}{H:Hp}{s:Shared}{a:Addr}{kvs:List (Key×V)}{A:Around}{E:Value->Shared->Prop}
end
section
variable{X:Cx}{pins:List (Addr×Obj)}{σ:St}{H:Hp}{s:Shared}{a:Addr}{y:V}{u:Value}{A:Around}{E:Value->Shared->Prop}
end
end L2
namespace L2
open PySem PySem.Spec PyProof.Rows
section
variable{prog:Program}{w:World}{A:Around}{E:Value->Shared->Prop}{s:Shared}
end
end L2
namespace L2
open PySem PySem.Spec PyProof.Rows
section
variable[DecidableEq κ]
def lkD(kvs:List (κ×α))(k:κ):Option α:=(kvs.find? λkv=>decide (kv.1=k)).map (·.2)
def dS(kvs:List (κ×α))(k:κ)(v:α):List (κ×α):=if (kvs.any λkv=>decide (kv.1=k))=true then kvs.map λkv=>if kv.1=k then (kv.1,v) else kv else kvs++[(k,v)]
end
section
variable{K:W.Frag}{mg:Str->Option Value}{ρ:List Addr}{H:Hp}
def Eb:∀{kvs:List (Key×D)}{ws:List (Key×V)},ws.map (·.1)=kvs.map (·.1)->RelDs K mg ρ H (kvs.map (·.2)) (ws.map (·.2))->lkD kvs k=some d->∃v,gM ws k=some v/\RelD K mg ρ H d v:=by
 intro kvs
 induction kvs with
 |nil=>intro ws e r q;cases q
 |
  cons p kvs ih=>
  intro ws e r q
  cases ws with
  |nil=>cases e
  |
   cons w ws=>
   obtain⟨k1,d1⟩:=p
   obtain⟨k2,v2⟩:=w
   rw[Oi,Oi] at e
   injection e with e1 e2
   dsimp only at e1
   subst e1
   cases r with
   |
    cons r rr=>
    unfold lkD at q
    unfold gM
    rw[OZ] at q ⊢
    dsimp only at q ⊢
    by_cases hk:k2=k
    ·rw[OI hk] at q ⊢
     cases q
     exact⟨v2,rfl,r⟩
    ·rw[OA hk] at q ⊢
     exact ih e2 rr q
def tU[DecidableEq κ]:∀{kvs:List (κ×α)}{ws:List (κ×β)},ws.map (·.1)=kvs.map (·.1)->(ws.any λkv=>decide (kv.1=k))=kvs.any λkv=>decide (kv.1=k):=by
 intro kvs
 induction kvs with
 |
  nil=>
  intro ws e
  cases ws with
  |nil=>rfl
  |cons _ _=>cases e
 |
  cons p kvs ih=>
  intro ws e
  cases ws with
  |nil=>cases e
  |
   cons w ws=>
   rw[Oi,Oi] at e
   injection e with e1 e2
   rw[Pd,Pd,ih e2,e1]
def BB{k:Key}{d:D}{v:V}(rd:RelD K mg ρ H d v){kvs:List (Key×D)}{ws:List (Key×V)}(e:ws.map (·.1)=kvs.map (·.1))(r:RelDs K mg ρ H (kvs.map (·.2)) (ws.map (·.2))):(fL ws k v).map (·.1)=(dS kvs k d).map (·.1)/\RelDs K mg ρ H ((dS kvs k d).map (·.2)) ((fL ws k v).map (·.2)):=by
 unfold fL dS
 rw[tU e]
 by_cases hc:(kvs.any λkv=>decide (kv.1=k))=true
 ·rw[if_pos hc,if_pos hc]
  clear hc
  induction kvs generalizing ws with
  |
   nil=>
   cases ws with
   |nil=>exact⟨rfl,.nil⟩
   |cons _ _=>cases e
  |
   cons p kvs ih=>
   cases ws with
   |nil=>cases e
   |
    cons w ws=>
    obtain⟨k1,d1⟩:=p
    obtain⟨k2,v2⟩:=w
    rw[Oi,Oi] at e
    injection e with e1 e2
    dsimp only at e1
    subst e1
    cases r with
    |
     cons r rr=>
     obtain⟨h1,h2⟩:=ih e2 rr
     simp only[Oi]
     by_cases hk:k2=k
     ·rw[if_pos hk,if_pos hk]
      exact⟨by rw[h1],.cons rd h2⟩
     ·rw[if_neg hk,if_neg hk]
      exact⟨by rw[h1],.cons r h2⟩
 ·rw[if_neg hc,if_neg hc,OQ,OQ,OQ,OQ,e]
  exact⟨rfl,r.append (.cons rd .nil)⟩
def xy:wc:=λo i v H Q=>∃a H4,o=.ref a/\DPut H a i v H4/\Q H4
variable{X:Cx}{ES:St->XK}{a b:Expr}{F G:ME}{pos:Pos}
def A4(hu:X.A.units+1<cLine):sF X xy:=λpins s σ H o i v ov iv u Q I ro ri rv ⟨a,H4,eo,g,q⟩=>by
 subst eo
 obtain rfl:ov=Value.ref a:=ro
 exact yW hu I g ri rv λs4 I4=>⟨H4,I4,q⟩
end
section
variable{X:Cx}
end
section
variable{K:W.Frag}{mg:Str->Option Value}
end
section
variable{K:W.Frag}{mg:Str->Option Value}{X:Cx}{ES:St->XK}{o:Expr}{F:ME}{pos p2:Pos}
end
end L2
namespace L2
open PySem PySem.Spec PySem.Calls PyProof.Rows
section
variable{X:Cx}{K:W.Frag}{mg:Str->Option Value}{ES:St->XK}{es:List Expr}{gs:MGs}{pos:Pos}
end
end L2
namespace L2
open PySem PySem.Spec PySem.Calls PyProof.Rows
section
variable{X:Cx}{K:W.Frag}{mg:Str->Option Value}{ES:St->XK}{a:Expr}{A:MA}{pos q2 p1 p2:Pos}
end
end L2
namespace L2
open PySem PySem.Spec PySem.Calls PyProof.Rows
inductive EntOk(w:World):List DictEntry->List (Str×Int)->Prop
 |nil:EntOk w [] []
 |cons {e:DictEntry}{es:List DictEntry}{k:Str}{i:Int}{t t':Tok}{kvs:List (Str×Int)} (h:e.hash=hashStr w k) (hk:e.key=.str k t) (hv:e.val=.int i t') (r:EntOk w es kvs):EntOk w (e::es) ((k,i)::kvs)
section
variable{X:Cx}{K:W.Frag}{mg:Str->Option Value}{w:World}{n:Str}{kvs:List (Str×Int)}
end
end L2
namespace L2
open PySem
end L2
namespace L2
open PySem PySem.Spec PySem.Calls PyProof.Rows
section
variable{X:Cx}{K:W.Frag}{mg:Str->Option Value}
end
end L2
namespace L2
open PySem PySem.Spec PySem.Calls PyProof.Rows
structure RoomU(k:Nat)(A:Around):Prop where
 dp:A.depth+3*k+5<recursionLimit
 un:A.units+16*k+200<cLine
structure FnOkU(P:Program)(w:World)(K:W.Frag)(mg:Str->Option Value)(base:Heap)(CX:CXT)(k:Nat)(f:Addr)(fd:FuncData)(ps:List Str)(sp:Sp):Prop where
 len:∀vs H Q E,sp vs H Q E->vs.length=ps.length
 run:∀(A:Around) (outer:List Env) (s:Shared) (H:Hp) (args:Args) (us:List Value) (vs:List V) (Q:VK) (E:XK),RoomU k A->Env0 P w K mg base A outer s H->BindsTo s fd args (ps.zip us)->Vals vs us->sp vs H Q E->
  codeAny (model P w) A (.call (.ref f) args) (CR CX outer P w H s Q E) s
section
variable{P:Program}{w:World}{K:W.Frag}{mg:Str->Option Value}{base:Heap}{x:Str}{st:Stmt}{k:Nat}{ps N:List Str}{sp:Sp}
structure CalleeU(P:Program)(w:World)(K:W.Frag)(mg:Str->Option Value)(base:Heap)(x:Str)(k:Nat)(ps:List Str)(sp:Sp):Prop where
 ex:∃f fd,FnOkU P w K mg base (CX1 P w) k f fd ps sp/\mg x=some (.ref f)/\W.keepIn K (.ref f)=true/\Binds K fd ps []/\∃oc od osl,K.lookup f=some ⟨oc,od,.func fd,osl⟩
variable{F:MS}
end
section
variable{X:Cx}{K:W.Frag}{mg:Str->Option Value}{ES:St->XK}{e:Expr}{es:List Expr}{A:MA}{pos:Pos}
end
end L2
namespace L2
open PySem PySem.Spec PyProof.Rows
section
variable{X:Cx}
def pR:V->List V->Hp->VK->Prop:=λx vs H Q=>∃l xs i y,x=.ref l/\vs=[.int i,y]/\H l=some (.lst xs)/\0<=i/\i<=(xs.length:Nat)/\xs.length<sizeLine/\Q .non (upd H l (.lst (xs.take i.toNat++y::xs.drop i.toNat)))
def yh:MtM X "list.insert" pR:=by
 intro pins s σ H x vs v us Q I rx rv h
 obtain⟨l,xs,i,y,rfl,rfl,hH,h0,h1,hz,q⟩:=h
 cases rx
 obtain⟨u1,u2,rfl,ru1,ru2⟩:=og rv
 obtain⟨t,rfl⟩:=ru1
 obtain⟨z,its,n,r,hl,e⟩:=I.lstM hH
 have hs:sizeLine=16777216:=rfl
 have hf:Builtin.List.listFitsIndex i=true:=fitsIndex_both (by omega) (by omega)
 refine call_meets PySem.F.slot_list_insert ⟨_,e,rfl⟩ PySem.F.entry_list_insert (PySem.F.args_list_insert_3 _ _ _) (AutoSeq1.list_insert_list_int_val_1 l its.toArray n i t u2 (by rw[hf];decide) (by rw[Om];omega)) ⟨e,?_⟩
 refine⟨.non,_,I.lset (its':=its.take i.toNat++u2::its.drop i.toNat) hH e ?_ ((r.take _).append (.cons ru2 (r.drop _))) ?_,rfl,q⟩
 ·show (have k:=if i<0 then (i+(its.toArray.size:Int)).toNat else min i.toNat its.toArray.size;(its.toArray.extract 0 k).push u2++its.toArray.extract k)=_
  rw[if_neg (by omega),Om,QN (by omega)]
  apply Array.ext'
  simp [Pz]
 ·simp only[Oh,Oq,Pk,Qb]
  omega
inductive Lsts(H:Hp):List V->List (List V)->Prop where
 |nil:Lsts H [] []
 |cons {a:Addr}{xs:List V}{vs:List V}{xss:List (List V)} (e:H a=some (.lst xs)) (r:Lsts H vs xss):Lsts H (.ref a::vs) (xs::xss)
end
section
variable{K:W.Frag}{mg:Str->Option Value}
def mH:D->List D->AH->R D:=λx ds h=>iG h x λn xs=>match ds with
 | [.int i,d]=>if 0<=i/\i<=(xs.length:Nat)/\xs.length<16777216 then .ok .non (h.set n (.lst (xs.take i.toNat++d::xs.drop i.toNat))) else .stuck
 |_=>.stuck
def yA:MtD K mg pR mH:=λρ h H dx ds x vs Q E w rx rs p=>by
 obtain⟨n,xs,a,us,rfl,e,ea,rfl,h1,h2,p⟩:=jq w rx p
 split at p
 ·cases
   rs with
  |
   cons r rs=>
   cases rs with
   |
    cons r2 rs=>
    cases rs
    cases r
    split at p
    ·rename_i hb
     rw[h2.len] at hb
     exact⟨a,us,_,_,rfl,rfl,h1,hb.1,hb.2.1,hb.2.2,kC w ea h1 ((h2.take _).append (.cons r2 (h2.drop _))) .non p⟩
    ·exact p.elim
 ·exact p.elim
end
end L2
namespace L2
open PySem PySem.Spec PyProof.Rows
section
variable{X:Cx}{K:W.Frag}{mg:Str->Option Value}
def uz:D->D->AH->R D:=λx y h=>match x,y with
 |
  .str z,.int i=>if z.length<=16777216 then match atI z.cps.toList i with
   |some c=>.ok (.str ⟨#[c]⟩) h
   |none=>.stuck
  else .stuck
 |_,_=>.stuck
def Eu:OpD K mg A1 uz:=λρ h H dx dy x y Q E w rx ry p=>by
 unfold uz at p
 split at p
 ·cases rx
  cases ry
  split at p
  ·rename_i hz
   split at p
   ·rename_i c e
    exact⟨_,_,c,rfl,rfl,hz,e,aJ w (.str _) p⟩
   ·exact p.elim
  ·exact p.elim
 ·exact p.elim
def v8:R2:=λx y H Q=>∃z i,x=.str z/\y=.int i/\z.length<=16/\0<=i/\i<=1000/\Q (.str (Txt.mul z i)) H
def ET:OpR X (binaryOp .Mult) v8:=by
 intro pins s σ H x y v u Q I rx ry h
 obtain⟨z,i,rfl,rfl,hz,h0,h1,q⟩:=h
 obtain⟨t,rfl⟩:=rx
 obtain⟨t',rfl⟩:=ry
 exact W.KXi.mul rfl hz (by omega) (by omega) λt'' k _ _=>⟨.str (Txt.mul z i),H,I.tok _,⟨_,rfl⟩,q⟩
def oi:D->D->AH->R D:=λx y h=>match x,y with
 |.str z,.int i=>if z.length<=16/\0<=i/\i<=1000 then .ok (.str (Txt.mul z i)) h else .stuck
 |_,_=>.stuck
def AS:OpD K mg v8 oi:=λρ h H dx dy x y Q E w rx ry p=>by
 unfold oi at p
 split at p
 ·cases rx
  cases ry
  split at p
  ·rename_i hz
   exact⟨_,_,rfl,rfl,hz.1,hz.2.1,hz.2.2,aJ w (.str _) p⟩
  ·exact p.elim
 ·exact p.elim
end
end L2
namespace L2
open PySem PySem.Spec PyProof.Rows
section
variable{X:Cx}
def L4:List V->Hp->VK->Prop:=λxs H Q=>xs=[]/\∀l,H l=none->Q (.ref l) (upd H l (.set (λ_=>false) 0))
def rS:R2:=λx y H Q=>∃i a S n,x=.int i/\y=.ref a/\H a=some (.set S n)/\Q (.bl (S i)) H
def BD:OpR X (compareOp .In) rS:=by
 intro pins s σ H x y v u Q I rx ry h
 obtain⟨i,a,S,n,rfl,rfl,hH,q⟩:=h
 obtain⟨t,rfl⟩:=rx
 cases ry
 have hS:s.heap.SetOf (intKind X.prog X.w) a S n:=I.hok a _ hH
 exact wpAny_inSet_of (intKind_is _ _ i t) rfl hS ⟨.bl (S i),H,I.tok _,rfl,q⟩
def u4:V->List V->Hp->VK->Prop:=λx vs H Q=>∃a i S n,x=.ref a/\vs=[.int i]/\H a=some (.set S n)/\n<4000/\Q .non (upd H a (.set (λk=>S k || decide (k=i)) (if S i then n else n+1)))
def zF:MtM X "set.add" u4:=by
 intro pins s σ H x vs v us Q I rx rv h
 obtain⟨a,i,S,n,rfl,rfl,hH,hn,q⟩:=h
 cases rx
 obtain⟨u,rfl,ru⟩:=rv.one
 obtain⟨t,rfl⟩:=ru
 have hS:s.heap.SetOf (intKind X.prog X.w) a S n:=I.hok a _ hH
 refine call_set_add (intKind_is _ _ i t) rfl hS (by unfold scanBound;omega) λh' sb hS'=>?_
 refine⟨.non,_,I.write (x:=a) (e:=a) (by rw[hH];exact trivial) (.inl rfl) (λb o hb e=>(sb.2 b hb).trans e) ?_ (show ObjOk X.prog X.w _ h' a (.set (λk=>S k || decide (k=i)) (if S i then n else n+1)) from hS'),rfl,q⟩
 obtain⟨o,_,_,_,e,_⟩:=hS'
 exact⟨o,e⟩
def uK:CallR X (.builtin "len") (λxs H Q=>∃a S n,xs=[.ref a]/\H a=some (.set S n)/\Q (.int (n:Nat)) H):=by
 intro pins s σ H xs us Q I r h
 obtain⟨a,S,n,rfl,hH,q⟩:=h
 obtain⟨u,rfl,ru⟩:=g0 r
 cases ru
 have hS:s.heap.SetOf (intKind X.prog X.w) a S n:=I.hok a _ hH
 obtain⟨o,es,ep,t,e,hex,hd,_,_,hb,hf,rfl⟩:=hS
 refine call_len_set e hex hd hf (by unfold scanBound at hb;omega) ⟨.int (es.size:Nat),H,I.tok _,⟨_,rfl⟩,q⟩
def yJ:CallR X (.type "set") L4:=by
 intro pins s σ H xs us Q I r h
 obtain⟨rfl,q⟩:=h
 cases r
 refine call_set_0 λled=>?_
 refine⟨.ref s.heap.objs.size,_,I.laid (t':=s.toks) (λb o e=>Oo _ e) (Og _) (show ObjOk X.prog X.w _ _ _ (.set (λ_=>false) 0) from ?_),rfl,q _ (I.hok.fresh (Og _))⟩
 obtain⟨h1,es,ep,tt,h2,h3,h4,h5,h6⟩:=setObjOf_fresh (knd:=intKind X.prog X.w) led
 exact⟨_,es,ep,tt,OD _ rfl,h1,h2,h3,h4,by rw[h5];decide,h6,h5⟩
end
section
variable{K:W.Frag}{mg:Str->Option Value}{X:Cx}{ES:St->XK}{o e:Expr}{es:List Expr}{F:ME}{A:MA}{pos:Pos}
def xf:ME:=λ_ h=>.ok (.ref h.length) (h++[.set []])
def ur:D->D->AH->R D:=λx y h=>match x,y with
 |.int i,.ref n=>match h[n]? with
  |some (.set xs)=>.ok (.bl (decide (i∈xs))) h
  |_=>.stuck
 |_,_=>.stuck
def n9:Fn:=λds h=>match ds with
 | [.ref n]=>match h[n]? with
  |some (.set xs)=>.ok (.int (xs.length:Nat)) h
  |_=>.stuck
 |_=>.stuck
def fC(xs:List Int)(i:Int):List Int:=if i∈xs then xs else i::xs
def sQ:D->List D->AH->R D:=λx ds h=>match x,ds with
 |.ref n,[.int i]=>match h[n]? with
  |some (.set xs)=>if xs.length<4000 then .ok .non (h.set n (.set (fC xs i))) else .stuck
  |_=>.stuck
 |_,_=>.stuck
def wA(h:AH):D->Bool
 |.ref n=>match h[n]? with
  |some (.set _)=>true
  |_=>false
 |_=>false
def eMS(F:ME)(A:MA):ME:=λae h=>(F ae h).bind λx h1=>if wA h1 x=true then (A ae h1).bind λds h2=>sQ x ds h2 else .stuck
def Ey:OpD K mg rS ur:=λρ h H dx dy x y Q E w rx ry p=>by
 unfold ur at p
 split at p
 ·cases rx
  cases ry with
  |
   ref ea=>
   split at p
   ·rename_i xs e
    obtain⟨_,h1⟩:=w.ob _ _ _ ea e
    exact⟨_,_,_,_,rfl,rfl,h1,aJ w (.bl _) p⟩
   ·exact p.elim
 ·exact p.elim
def EB:bG K mg (λxs H Q=>∃a S n,xs=[.ref a]/\H a=some (.set S n)/\Q (.int (n:Nat)) H) n9:=λρ h H ds vs Q E w rs p=>by
 unfold n9 at p
 split at p
 ·cases
   rs with
  |
   cons r rs=>
   cases rs
   cases r with
   |
    ref ea=>
    split at p
    ·rename_i xs e
     obtain⟨_,h1⟩:=w.ob _ _ _ ea e
     exact⟨_,_,_,rfl,h1,aJ w (.int _) p⟩
    ·exact p.elim
 ·exact p.elim
def IC:MtD K mg u4 sQ:=λρ h H dx ds x vs Q E w rx rs p=>by
 unfold sQ at p
 split at p
 ·rename_i n i
  cases rx with
  |
   ref ea=>
   cases rs with
   |
    cons r rs=>
    cases rs
    cases r
    split at p
    ·rename_i xs e
     split at p
     ·rename_i hl
      obtain⟨nd,h1⟩:=w.ob _ _ _ ea e
      refine⟨_,_,_,_,rfl,rfl,h1,hl,?_⟩
      have e2:HO.set (λk=>decide (k∈xs) || decide (k=i)) (if decide (i∈xs)=true then xs.length else xs.length+1)=.set (λk=>decide (k∈fC xs i)) (fC xs i).length:=by
       unfold fC
       by_cases hi:i∈xs
       ·rw[if_pos (OI hi),if_pos hi]
        congr 1
        funext k
        by_cases hk:k∈xs
        ·rw[OI hk];rfl
        ·rw[OA hk,OA (show ¬ k=i from λz=>hk (by rw[z];exact hi))];rfl
       ·rw[if_neg (by rw[OA hi];exact Ol),if_neg hi]
        congr 1
        funext k
        rw[Bool.eq_iff_iff,Bool.or_eq_true,decide_eq_true_iff,decide_eq_true_iff,decide_eq_true_iff,Oy]
        exact Or.comm
      rw[e2]
      have l:Le ρ H ρ (upd H _ (.set (λk=>decide (k∈fC xs i)) (fC xs i).length)):=nU h1 CM
      refine p ρ _ l (w.write ea h1 CM ⟨?_,b0⟩) .non .non
      unfold fC
      split
      ·exact nd
      ·rename_i hi;exact P1.mpr ⟨hi,nd⟩
     ·exact p.elim
    ·exact p.elim
 ·exact p.elim
def Dk(hg:Gl X x)(hm:mg x=none)(hv:bootBuiltins x=some (.type "set"))(hk:X.mg=mg:=by rfl)(hn:x ≠ "__name__":=by decide)(hdb:(x==("__debug__" : Str))=false:=by decide):DE K mg X ES (.Call (.Name x p0) [] [] pos) xf:=by
 subst hk
 refine PE.imp (wC yJ hg hm hv hn hdb) λσ H Q q_=>q_.el λρ h ae w re p=>⟨rfl,λl hl=>?_⟩
 have le:Le ρ H (ρ++[l]) (upd H l (.set (λ_=>false) 0)):=(eu hl).trans l9
 refine p (ρ++[l]) _ le (w.alloc hl ⟨List.nodup_nil,?_⟩) _ (.ref ?_)
 ·rw[b0]
  congr 1
 ·rw[<- w.len,OC (Og _),PD]
  rfl
def Kt(hK:X.K=K)(ho:DE K mg X ES o F)(ha:DA K mg X ES (e::es) A)
 (dL:attributeBase o "add" X.env (eval o X.env)=eval o X.env:=by rfl)
 (hfew:((backTo cpos (starEach (e::es) X.env)).all (λx=>!x.1)&&(backToKw cpos (keywordEach [] X.env)).all (λx=>x.1.isSome)
  && decide ((e::es).length+([]:List Keyword).length+(if ([]:List Keyword).isEmpty then 0 else 1)<30))=true:=by rfl)
 (ge:(apos.endLine==cpos.line)=true:=by rfl) (hs:starEach (e::es) X.env=(false,eval e X.env)::starEach es X.env:=by rfl) (ci:(backTo cpos (starEach es X.env)).any (·.1)=false:=by rfl):
 DE K mg X ES (.Call (.Attribute o "add" apos) (e::es) [] cpos) (eMS F A):=by
 subst hK
 refine PE.imp (CB PySem.F.plainAttrs_set PySem.F.slot_set_add PySem.F.type_set_add zF ho ha dL hfew ge hs ci) λσ H Q q_=>q_.el λρ h ae w re p=>⟨ρ,h,ae,w,re,p.bind.imp λdx h1 ρ1 H1 l1 w1 p1 x rx=>?_⟩
 split at p1
 ·rename_i hl
  have ty:tyV X.K "set" x H1:=by
   cases rx with
   |
    ref ea=>
    unfold wA at hl
    dsimp only at hl
    split at hl
    ·rename_i xs q
     obtain⟨_,hh⟩:=w1.ob _ _ _ ea q
     exact .inr (.inr (.inr ⟨rfl,_,_,hh⟩))
    ·cases hl
   |_=>cases hl
  exact⟨ty,ρ1,h1,ae,w1,re.mono l1,p1.bind.imp λds h2 ρ2 H2 l2 w2 p2 vs rs=>IC ρ2 h2 H2 dx ds x vs Q _ w2 (rx.mono l2) rs p2⟩
 ·exact p1.elim
end
end L2
namespace L2
open PySem PySem.Spec PyProof.Rows
section
variable{K:W.Frag}{mg:Str->Option Value}
def sE:D->D->AH->R D:=λx y h=>match x with
 |.ref n=>(match y with
  |.int k=>(match h[n]? with
   |some (.dct kvs)=>(match lkD kvs (.inl k) with
    |some d=>.ok d h
    |none=>.stuck)
   |_=>.stuck)
  |_=>.stuck)
 |_=>.stuck
def wDI(o i v:D)(h:AH):R Unit:=match o with
 |.ref n=>(match i with
  |.int k=>(match h[n]? with
   |some (.dct kvs)=>if kvs.length<16777216 then .ok () (h.set n (.dct (dS kvs (.inl k) v))) else .stuck
   |_=>.stuck)
  |_=>.stuck)
 |_=>.stuck
variable{X:Cx}{ES:St->XK}{a b:Expr}{F G:ME}{pos:Pos}
def Be:oP K mg xy wDI:=λρ h H do_ di dv o i v Q E w ro ri rv p=>by
 unfold wDI at p
 split at p
 ·split
   at p
  ·split
    at p
   ·rename_i n k _ kvs e
    split at p
    ·rename_i hl
     cases ro with
     |
      ref ea=>
      cases ri
      obtain⟨ws,h1,h2,h3⟩:=w.ob _ _ _ ea e
      have bi:ws.length=kvs.length:=by have:=Pb List.length h2;simpa using this
      have l:Le ρ H ρ (upd H _ (.dK (fL ws (.inl k) v))):=nU h1 dKNo
      obtain⟨k1,k2⟩:=BB (k:=.inl k) rv h2 h3
      exact⟨_,_,rfl,DPut.k (k:=.inl k) h1 (by rw[bi];exact hl),p ρ _ l (w.write ea h1 dKNo ⟨_,b0,k1,k2.mono l⟩)⟩
    ·exact p.elim
   ·exact p.elim
  ·exact p.elim
 ·exact p.elim
def B0(hu:X.A.units+1<cLine)(ha:DE K mg X ES a F)(hb:DE K mg X ES b G)(hs:xM b):DE K mg X ES (.Subscript a b pos) (eOp sE F G):=PE.imp (EG hu ha hb hs) λσ H Q q_=>q_.el λρ h ae w re p=>⟨ρ,h,ae,w,re,p.bind.imp λdx h1 ρ1 H1 l1 w1 p1 x rx=>⟨ρ1,h1,ae,w1,re.mono l1,p1.bind.imp λdy h2 ρ2 H2 l2 w2 p2 y ry=>by
 have rx2:=rx.mono l2
 unfold sE at p2
 split at p2
 ·split
   at p2
  ·split
    at p2
   ·rename_i n k _ kvs e
    split at p2
    ·rename_i d q
     cases rx2 with
     |
      ref ea=>
      cases ry
      obtain⟨ws,k1,k2,k3⟩:=w2.ob _ _ _ ea e
      obtain⟨v,q1,rv⟩:=Eb k2 k3 q
      refine⟨_,v,rfl,?_,aJ w2 rv p2⟩
      rw[<- q1]
      exact DGet.k (k:=.inl k) k1
    ·exact p2.elim
   ·exact p2.elim
  ·exact p2.elim
 ·exact p2.elim⟩⟩
end
section
variable{X:Cx}{K:W.Frag}{mg:Str->Option Value}
def mY(K:W.Frag):V->List V->Hp->VK->Prop:=λx vs H Q=>∃l b xs zs,x=.ref l/\vs=[.ref b]/\H l=some (.lst xs)/\SqT K H b zs/\xs.length+zs.length<=sizeLine/\Q .non (upd H l (.lst (xs++zs)))
def En(l:Addr)(xs:Array Value)(n:Nat)(b:Addr)(ys:Array Value)(n2:Nat)(dd:Option Addr)(ss:Array (Option Value))(z0:¬(!xs.isEmpty&&Builtin.List.listTooLong (xs.size+ys.size))=true)(z1:xs.size<=sizeLine)(z2:xs.size+ys.size<=sizeLine+1):
 Meets (Builtin.«list.extend» ⟨[.ref l,.ref b],[]⟩) (λ_ R s=>s.heap.get? l=some { cls:=.type "list",dict:=none,data:=.seq xs n,slots:=#[] }/\s.heap.get? b=some { cls:=.type "tuple",dict:=dd,data:=.seq ys n2,slots:=ss }/\R (.ok (.ret Value.none)) { s with heap:=s.heap.update l (Obj.mapSeq λx=>x++ys),toks:=s.toks }):=
 .of_wp λprog w A R s h=>by
  obtain⟨hp,g,d,tk,os⟩:=s
  obtain⟨el,eb,h⟩:=h
  have e1:=PySem.AutoSeq1.idx_int
  have e2:=PySem.F.sub_tuple_tuple
  have e3:=PySem.F.sub_list_list
  have e4:=PySem.F.sub_tuple_list
  have e5:=PySem.F.sub_list_tuple
  have zz:(xs++ys).size<=sizeLine+1:=by rw[Array.size_append];exact z2
  wp_walk using (wpAny_updateSeq el rfl (hz:=z1) (_hz':=zz)),wpAny_loadPart' el,wpAny_loadPart' eb
  exact⟨_,rfl,h⟩
def kq(hK:X.K=K):MtM X "list.extend" (mY K):=by
 subst hK
 intro pins s σ H x vs v us Q I rx rv h
 obtain⟨l,b,xs,zs,rfl,rfl,hH,hB,hz,q⟩:=h
 cases rx
 obtain⟨u,rfl,ru⟩:=rv.one
 cases ru
 obtain⟨z,its,n,r,hl,e⟩:=I.lstM hH
 obtain⟨its2,r2,⟨⟨oc,od,oda,os⟩,e2,ec,n2,ed⟩,z2⟩:=I.tuple hB
 dsimp only at ec ed
 subst ec ed
 have hl2:=r2.length
 have hsz:its.toArray.size+its2.toArray.size<=sizeLine:=by rw[Om,Om];omega
 have hlong:¬ (!its.toArray.isEmpty&&Builtin.List.listTooLong (its.toArray.size+its2.toArray.size))=true:=by
  rw[Ae hsz,Bool.and_false]
  exact Ol
 refine call_meets PR ⟨_,e,rfl⟩ PySem.F.entry_list_extend (PySem.F.args_list_extend_2 _ _)
  (En l its.toArray n b its2.toArray n2 od os hlong (by rw[Om];omega) (by omega)) ⟨e,e2,?_⟩
 refine⟨.non,_,I.lset (its':=its++its2) hH e (by simp) (r.append r2) ?_,rfl,q⟩
 rw[Oh]
 omega
def k8:D->List D->AH->R D:=λx ds h=>iG h x λn xs=>match ds with
 | [.tup ys]=>if xs.length+ys.length<=16777216 then .ok .non (h.set n (.lst (xs++ys))) else .stuck
 |_=>.stuck
def wg:MtD K mg (mY K) k8:=λρ h H dx ds x vs Q E w rx rs p=>by
 obtain⟨n,xs,a,us,rfl,e,ea,rfl,h1,h2,p⟩:=jq w rx p
 split at p
 ·cases rs with
  |
   cons r rs=>
   cases rs
   split at p
   ·rename_i hb
    cases r with
    |tup hq rr=>exact⟨a,_,us,_,rfl,rfl,h1,hq,by rw[<- h2.len,<- rr.len];exact hb,kC w ea h1 (h2.append rr) .non p⟩
   ·exact p.elim
 ·exact p.elim
end
end L2
namespace L2
open PySem PySem.Spec PyProof.Rows
section
variable{X:Cx}{e st:Expr}{te tst:TE}{pos p2:Pos}
def tRev(K:W.Frag)(te tst:TE):TE:=λσ H Q=>te σ H λx H1=>tst σ H1 λy H2=>y=.int (-1)/\∃a xs,x=.ref a/\SqL K H2 a xs/\∀p,H2 p=none->Q (.ref p) (upd H2 p (.lst xs.reverse))
def Iy(he:PE X e te)(hst:PE X st tst):PE X (.Subscript e (.Slice none none (some st) p2) pos) (tRev X.K te tst):=by
 intro pins s σ H Q I h
 refine Subscript_ (thn (he pins s σ H _ I h) λv s1 ⟨x,H1,I1,r1,q1⟩=>?_)
 refine wpAny_Slice ?_
 rw[evalPart_none]
 refine Ou ?_
 refine Ou ?_
 rw[evalPart_some]
 refine thn (hst pins s1 σ H1 _ I1 q1) λu s2 ⟨y,H2,I2,r2,q2⟩=>?_
 obtain⟨rfl,a,xs,rfl,hq,q⟩:=q2
 obtain⟨t,rfl⟩:=r2
 cases r1
 have I3:Inv X pins σ H2 { s2 with heap:=s2.heap.push { cls:=.type "slice",data:=.fields #[.none,.none,.int (-1) t] } }:=I2.kept (t':=s2.toks) λb ob q=>Oo _ q
 obtain⟨its,rv,pl,hz⟩:=I3.list hq
 have hl:=rv.length
 have hs:(s2.heap.push { cls:=.type "slice",data:=.fields #[.none,.none,.int (-1) t] }).IsSliceOf s2.heap.objs.size .none .none (.int (-1) t):=Heap.IsSliceOf.new ..
 show wpAny (model X.prog X.w) X.A (subscriptTail e (.Slice none none (some st) p2) (.ref a) (.ref s2.heap.objs.size)) (EP X pins σ Q) X.xe { s2 with heap:=s2.heap.push { cls:=.type "slice",data:=.fields #[.none,.none,.int (-1) t] } }
 refine tail_any (ops:=[.ref a,.ref s2.heap.objs.size]) pl.isList.typeIs slot_list_getitem.lookup ?_ (by with_unfolding_all rfl)
 refine wpAny_getItem_list_slice pl.isList hs .none .none (.int (-1) t) (by decide) ?_ (by rw[Om];omega)
 rw[W.krv_pick]
 refine⟨.ref _,_,I3.lnew (t':=s2.toks) (ys:=xs.reverse) rv.reverse (by rw[List.length_reverse];exact hz),rfl,q _ I3.fresh⟩
end
section
variable{K:W.Frag}{mg:Str->Option Value}{X:Cx}{ES:St->XK}{e st:Expr}{F G:ME}{pos p2:Pos}
def r9:D->D->AH->R D:=λx y h=>match x,y with
 |
  .ref n,.int i=>if i=-1 then match bj h n with
   |some xs=>.ok (.ref h.length) (h++[.lst xs.reverse])
   |none=>.stuck
  else .stuck
 |_,_=>.stuck
def IH(hK:X.K=K)(he:DE K mg X ES e F)(hs:DE K mg X ES st G):DE K mg X ES (.Subscript e (.Slice none none (some st) p2) pos) (eOp r9 F G):=by
 subst hK
 refine PE.imp (Iy he hs) λσ H Q q_=>q_.el λρ h ae w re p=>⟨ρ,h,ae,w,re,p.bind.imp λdx h1 ρ1 H1 l1 w1 p1 x rx=>⟨ρ1,h1,ae,w1,re.mono l1,p1.bind.imp λdy h2 ρ2 H2 l2 w2 p2 y ry=>?_⟩⟩
 have rx2:=rx.mono l2
 unfold r9 at p2
 split at p2
 ·rename_i n i
  split at p2
  ·rename_i hi
   split at p2
   ·rename_i xs q
    cases ry
    cases rx2 with
    |
     ref ea=>
     obtain⟨vs,q1,q2⟩:=cB w2 ea q
     exact⟨by rw[hi],_,vs,rfl,q1,λl hl=>fM w2 q2.reverse hl p2⟩
   ·exact p2.elim
  ·exact p2.elim
 ·exact p2.elim
end
end L2
namespace L2
open PySem PySem.Spec PyProof.Rows
section
variable{X:Cx}{K:W.Frag}{mg:Str->Option Value}
end
end L2
namespace L3
open PySem PySem.Spec PyProof.Rows L2
set_option genInjectivity true in
inductive Val where
 |non |bl (b:Bool) |int (i:Int) |str (x:Str) |ty (n:String) |glb (x:Str) |exc (x:Str)
 |tup (xs:List Val) |lst (xs:List Val) |kl (xs:List Val) |dct (kvs:List (Key×Val)) |set (xs:List Int)
 deriving Inhabited
mutual
inductive Rd(P:Nat->Prop)(h:AH):D->Val->Prop where
 |non:Rd P h .non .non
 |bl (b:Bool):Rd P h (.bl b) (.bl b)
 |int (i:Int):Rd P h (.int i) (.int i)
 |str (x:Str):Rd P h (.str x) (.str x)
 |ty (n:String):Rd P h (.ty n) (.ty n)
 |glb (x:Str):Rd P h (.glb x) (.glb x)
 |exc (x:Str):Rd P h (.exc x) (.exc x)
 |tup {ds:List D}{vs:List Val} (r:Rds P h ds vs):Rd P h (.tup ds) (.tup vs)
 |kl {ds:List D}{vs:List Val} (r:Rds P h ds vs):Rd P h (.kl ds) (.kl vs)
 |cell {n:Nat}{o:Ob}{v:Val} (p:P n) (e:h[n]?=some o) (r:Rc P h o v):Rd P h (.ref n) v
inductive Rc(P:Nat->Prop)(h:AH):Ob->Val->Prop where
 |lst {ds:List D}{vs:List Val} (r:Rds P h ds vs):Rc P h (.lst ds) (.lst vs)
 |fz {ds:List D}{vs:List Val} (r:Rds P h ds vs):Rc P h (.fz ds) (.kl vs)
 |dct {ws:List (Key×D)}{us:List (Key×Val)} (r:Rk P h ws us):Rc P h (.dct ws) (.dct us)
 |set (xs:List Int):Rc P h (.set xs) (.set xs)
inductive Rds(P:Nat->Prop)(h:AH):List D->List Val->Prop where
 |nil:Rds P h [] []
 |cons {d:D}{v:Val}{ds:List D}{vs:List Val} (r:Rd P h d v) (rr:Rds P h ds vs):Rds P h (d::ds) (v::vs)
inductive Rk(P:Nat->Prop)(h:AH):List (Key×D)->List (Key×Val)->Prop where
 |nil:Rk P h [] []
 |cons {k:Key}{d:D}{v:Val}{ds:List (Key×D)}{vs:List (Key×Val)} (r:Rd P h d v) (rr:Rk P h ds vs):Rk P h ((k,d)::ds) ((k,v)::vs)
end
section
variable{P P':Nat->Prop}{h h':AH}
abbrev Mov(P P':Nat->Prop)(h h':AH):Prop:=∀n o,P n->h[n]?=some o->P' n/\h'[n]?=some o
def Rd.mono(m:Mov P P' h h')(r:Rd P h d v):Rd P' h' d v:=@Rd.rec P h (λd v _=>Rd P' h' d v) (λo v _=>Rc P' h' o v) (λds vs _=>Rds P' h' ds vs) (λws us _=>Rk P' h' ws us) .non (λb=>.bl b) (λi=>.int i) (λx=>.str x) (λn=>.ty n) (λx=>.glb x) (λx=>.exc x) (λ_ ih=>.tup ih) (λ_ ih=>.kl ih) (λp e _ ih=>.cell (m _ _ p e).1 (m _ _ p e).2 ih) (λ_ ih=>.lst ih) (λ_ ih=>.fz ih) (λ_ ih=>.dct ih) (λxs=>.set xs) .nil (λ_ _ a b=>.cons a b) .nil (λ_ _ a b=>.cons a b) d v r
def Rds.ind{M:List D->List Val->Prop}(h0:M [] [])(h1:∀{d v ds vs},Rd P h d v->Rds P h ds vs->M ds vs->M (d::ds) (v::vs)){ds:List D}{vs:List Val}(r:Rds P h ds vs):M ds vs:=by
 induction ds generalizing vs with
 |nil=>cases r;exact h0
 |
  cons d ds ih=>
  cases r with
  |cons r rr=>exact h1 r rr (ih rr)
def Rk.ind{M:List (Key×D)->List (Key×Val)->Prop}(h0:M [] [])(h1:∀{k d v ds vs},Rd P h d v->Rk P h ds vs->M ds vs->M ((k,d)::ds) ((k,v)::vs)){ds:List (Key×D)}{vs:List (Key×Val)}(r:Rk P h ds vs):M ds vs:=by
 induction ds generalizing vs with
 |nil=>cases r;exact h0
 |
  cons d ds ih=>
  cases r with
  |cons r rr=>exact h1 r rr (ih rr)
def Rds.mono(m:Mov P P' h h'){d:List D}{v:List Val}(r:Rds P h d v):Rds P' h' d v:=r.ind .nil λr _ ih=>.cons (r.mono m) ih
def Rk.mono(m:Mov P P' h h'){d:List (Key×D)}{v:List (Key×Val)}(r:Rk P h d v):Rk P' h' d v:=r.ind .nil λr _ ih=>.cons (r.mono m) ih
def Rc.mono(m:Mov P P' h h')(r:Rc P h d v):Rc P' h' d v:=by
 cases r with
 |lst r=>exact .lst (r.mono m)
 |fz r=>exact .fz (r.mono m)
 |dct r=>exact .dct (r.mono m)
 |set xs=>exact .set xs
def Rds.len{ds:List D}{vs:List Val}(r:Rds P h ds vs):ds.length=vs.length:=r.ind (M:=λds vs=>ds.length=vs.length) rfl λ_ _ ih=>Pb (· + 1) ih
def Rds.get{ds:List D}{vs:List Val}{i:Nat}{v:Val}(r:Rds P h ds vs)(e:vs[i]?=some v):∃d,ds[i]?=some d/\Rd P h d v:=
 r.ind (M:=λds vs=>∀i,vs[i]?=some v->∃d,ds[i]?=some d/\Rd P h d v) (λ_ e=>by rw[Qx] at e;cases e) (λr _ ih i e=>match i,e with
  |0,e=>by cases e;exact⟨_,rfl,r⟩
  |i+1,e=>ih i e) i e
def Rds.append{ds es:List D}{vs ws:List Val}(r:Rds P h ds vs)(q:Rds P h es ws):Rds P h (ds++es) (vs++ws):=r.ind (M:=λds vs=>Rds P h (ds++es) (vs++ws)) q λr _ ih=>.cons r ih
def Rds.take{ds:List D}{vs:List Val}(n:Nat)(r:Rds P h ds vs):Rds P h (ds.take n) (vs.take n):=
 r.ind (M:=λds vs=>∀n:Nat,Rds P h (ds.take n) (vs.take n)) (λn=>by rw[P0,P0];exact .nil) (λr _ ih n=>by cases n with |zero=>exact .nil |succ n=>exact .cons r (ih n)) n
def Rds.drop{ds:List D}{vs:List Val}(n:Nat)(r:Rds P h ds vs):Rds P h (ds.drop n) (vs.drop n):=
 r.ind (M:=λds vs=>∀n:Nat,Rds P h (ds.drop n) (vs.drop n)) (λn=>by rw[Qh,Qh];exact .nil) (λr rr ih n=>by cases n with |zero=>exact .cons r rr |succ n=>exact ih n) n
def Rds.set{d:D}{v:Val}(r:Rd P h d v){ds:List D}{vs:List Val}(i:Nat)(q:Rds P h ds vs):Rds P h (ds.set i d) (vs.set i v):=
 q.ind (M:=λds vs=>∀i:Nat,Rds P h (ds.set i d) (vs.set i v)) (λ_=>.nil) (λq qq ih i=>by cases i with |zero=>exact .cons r qq |succ i=>exact .cons q (ih i)) i
def Rds.reverse(r:Rds P h ds vs):Rds P h ds.reverse vs.reverse:=by
 induction ds generalizing vs with
 |nil=>cases r;exact .nil
 |
  cons d ds ih=>
  cases r with
  |cons q rr=>rw[Pt,Pt];exact (ih rr).append (.cons q .nil)
def ShR(P:Nat->Prop)(h:AH)(d:D)(v:Val):Prop:=Rd P h d v\/∃n o,d=.ref n/\h[n]?=some o/\Rc P h o v
inductive ShRs(P:Nat->Prop)(h:AH):List D->List Val->Prop where
 |nil:ShRs P h [] []
 |cons {d:D}{v:Val}{ds:List D}{vs:List Val} (r:ShR P h d v) (rr:ShRs P h ds vs):ShRs P h (d::ds) (v::vs)
def Val.items:Val->Option (List Val)
 |.tup xs=>some xs
 |.lst xs=>some xs
 |.kl xs=>some xs
 |_=>none
def ShR.int(r:ShR P h d (.int i)):d=.int i:=by
 rcases r with r |⟨n,o,rfl,e,r⟩
 ·cases r with
  |int=>rfl
  |cell p e r=>cases r
 ·cases r
def ShR.str(r:ShR P h d (.str i)):d=.str i:=by
 rcases r with r |⟨n,o,rfl,e,r⟩
 ·cases r with
  |str=>rfl
  |cell p e r=>cases r
 ·cases r
def ShR.bl(r:ShR P h d (.bl i)):d=.bl i:=by
 rcases r with r |⟨n,o,rfl,e,r⟩
 ·cases r with
  |bl=>rfl
  |cell p e r=>cases r
 ·cases r
def ShR.non(r:ShR P h d .non):d=.non:=by
 rcases r with r |⟨n,o,rfl,e,r⟩
 ·cases r with
  |non=>rfl
  |cell p e r=>cases r
 ·cases r
def ShR.exc(r:ShR P h d (.exc x)):d=.exc x:=by
 rcases r with r |⟨n,o,rfl,e,r⟩
 ·cases r with
  |exc=>rfl
  |cell p e r=>cases r
 ·cases r
def ShR.ty(r:ShR P h d (.ty x)):d=.ty x:=by
 rcases r with r |⟨n,o,rfl,e,r⟩
 ·cases r with
  |ty=>rfl
  |cell p e r=>cases r
 ·cases r
def ShR.glb(r:ShR P h d (.glb x)):d=.glb x:=by
 rcases r with r |⟨n,o,rfl,e,r⟩
 ·cases r with
  |glb=>rfl
  |cell p e r=>cases r
 ·cases r
def ShR.tup(r:ShR P h d (.tup vs)):∃ds,d=.tup ds/\Rds P h ds vs:=by
 rcases r with r |⟨n,o,rfl,e,r⟩
 ·cases r with
  |tup r=>exact⟨_,rfl,r⟩
  |cell p e r=>cases r
 ·cases r
def Rc.seq(e:h[n]?=some o)(r:Rc P h o (.lst vs)):∃ds,h[n]?=some (.lst ds)/\bj h n=some ds/\Rds P h ds vs:=by
 cases r with
 |lst r=>exact⟨_,e,by unfold bj;rw[e],r⟩
def ShR.lst(r:ShR P h d (.lst vs)):∃n ds,d=.ref n/\h[n]?=some (.lst ds)/\bj h n=some ds/\Rds P h ds vs:=by
 rcases r with r |⟨n,o,rfl,e,r⟩
 ·cases r with
  |
   cell p e r=>
   obtain⟨ds,q,r⟩:=Rc.seq e r
   exact⟨_,ds,rfl,q,r⟩
 ·obtain⟨ds,q,r⟩:=Rc.seq e r
  exact⟨_,ds,rfl,q,r⟩
def ShR.kl(r:ShR P h d (.kl vs)):∃ds,Rds P h ds vs/\(d=.kl ds\/∃n,d=.ref n/\bj h n=some ds):=by
 rcases r with r |⟨n,o,rfl,e,r⟩
 ·cases r with
  |kl r=>exact⟨_,r,.inl rfl⟩
  |cell p e r=>cases r with |fz r=>exact⟨_,r,.inr ⟨_,rfl,by unfold bj;rw[e]⟩⟩
 ·cases r with |fz r=>exact⟨_,r,.inr ⟨_,rfl,by unfold bj;rw[e]⟩⟩
def ShR.set(r:ShR P h d (.set xs)):∃n,d=.ref n/\h[n]?=some (.set xs):=by
 rcases r with r |⟨n,o,rfl,e,r⟩
 ·cases r with
  |cell p e r=>cases r;exact⟨_,rfl,e⟩
 ·cases r;exact⟨_,rfl,e⟩
def ShR.dct(r:ShR P h d (.dct us)):∃n ws,d=.ref n/\h[n]?=some (.dct ws)/\Rk P h ws us:=by
 rcases r with r |⟨n,o,rfl,e,r⟩
 ·cases r with
  |cell p e r=>cases r with |dct r=>exact⟨_,_,rfl,e,r⟩
 ·cases r with |dct r=>exact⟨_,_,rfl,e,r⟩
def ShR.items(r:ShR P h d v)(e:v.items=some vs):∃ds,df h d=some ds/\Rds P h ds vs:=by
 cases v with
 |tup xs=>cases e;obtain⟨ds,rfl,q⟩:=r.tup;exact⟨ds,rfl,q⟩
 |lst xs=>cases e;obtain⟨n,ds,rfl,_,e,q⟩:=r.lst;exact⟨ds,e,q⟩
 |
  kl xs=>
  cases e
  obtain⟨ds,q,rfl |⟨n,rfl,e⟩⟩:=r.kl
  ·exact⟨ds,rfl,q⟩
  ·exact⟨ds,e,q⟩
 |_=>cases e
end
inductive Sl where
 |no |sh (v:Val) |ow (v:Val) |mu (v:Val) |lo (v:Val) |lm (v:Val)
 deriving Inhabited
abbrev E3:=List Sl
def Sl.val:Sl->Option Val
 |.no=>none
 |.sh v=>some v
 |.ow v=>some v
 |.mu v=>some v
 |.lo v=>some v
 |.lm v=>some v
def Sl.mt:Sl->Bool
 |.ow _=>true
 |.mu _=>true
 |_=>false
def Sl.lk:Sl->Bool
 |.lo _=>true
 |.lm _=>true
 |_=>false
abbrev Ns:=List (Option Nat)
def Oc(X:Nat->Prop)(ns:Ns)(n:Nat):Prop:=¬ X n/\some n∉ns
def cF:Ob->Prop
 |.fz _=>False
 |.any=>False
 |_=>True
def SlR(P:Nat->Prop)(h0:Nat)(n:Option (Option Nat))(d:Option (Option D))(h:AH):Sl->Prop
 |.no=>n=some none
 |.sh v=>n=some none/\∃x,d=some (some x)/\Rd P h x v
 |.ow v=>∃m o,n=some (some m)/\d=some (some (.ref m))/\h0<=m/\h[m]?=some o/\cF o/\Rc P h o v
 |.lo v=>∃m o,n=some (some m)/\d=some (some (.ref m))/\h0<=m/\h[m]?=some o/\cF o/\Rc P h o v
 |.mu v=>∃m o,n=some (some m)/\d=some (some (.ref m))/\h[m]?=some o/\cF o/\Rc P h o v
 |.lm v=>∃m o,n=some (some m)/\d=some (some (.ref m))/\h[m]?=some o/\cF o/\Rc P h o v
structure Sat(X:Nat->Prop)(h0:Nat)(ns:Ns)(e:E3)(ae:AE)(h:AH):Prop where
 l1:ae.length=e.length
 l2:ns.length=e.length
 lh:h0<=h.length
 xl:∀(n:Nat),X n->n<h.length
 inj:∀(i j n:Nat),ns[i]?=some (some n)->ns[j]?=some (some n)->i=j
 nx:∀(i n:Nat),ns[i]?=some (some n)->¬ X n
 sl:∀(i:Nat) (s:Sl),e[i]?=some s->SlR (Oc X ns) h0 (ns[i]?) (ae[i]?) h s
def Mt(ns:Ns)(e:E3)(n:Nat):Prop:=∃(i:Nat) (s:Sl),ns[i]?=some (some n)/\e[i]?=some s/\s.mt=true
structure Stp(ns:Ns)(e:E3)(h:AH)(ns':Ns)(e':E3)(h':AH):Prop where
 len:h.length<=h'.length
 keep:∀(m:Nat) (o:Ob),h[m]?=some o->¬ Mt ns e m->h'[m]?=some o
 nw:∀(i n:Nat),ns'[i]?=some (some n)->ns[i]?=some (some n)\/h.length<=n
 lk:∀(i:Nat) (s:Sl),e[i]?=some s->s.lk=true->e'[i]?=some s/\ns'[i]?=ns[i]?
 lk':∀(i:Nat) (s:Sl),e'[i]?=some s->s.lk=true->e[i]?=some s/\ns'[i]?=ns[i]?
 mu:∀(i:Nat) (v:Val),e'[i]?=some (.mu v)->∃u,e[i]?=some (.mu u)/\ns'[i]?=ns[i]?
 mu':∀(i:Nat) (u:Val),e[i]?=some (.mu u)->∃v,e'[i]?=some (.mu v)/\ns'[i]?=ns[i]?
section
variable{X:Nat->Prop}{h0:Nat}{ns ns' ns1 gl:Ns}{e e' e1 e2:E3}{ae:AE}{h h' h1 h2:AH}
def bp:some n∈ns ↔ ∃i:Nat,ns[i]?=some (some n):=by
 constructor
 ·intro m;exact QK m
 ·rintro⟨i,e⟩;exact O4 e
def Sat.own(S:Sat X h0 ns e ae h){i n:Nat}(q:ns[i]?=some (some n)):∃s v o,e[i]?=some s/\(s.mt=true\/s.lk=true)/\s.val=some v/\ae[i]?=some (some (.ref n))/\h[n]?=some o/\cF o/\Rc (Oc X ns) h o v:=by
 have hi:i<e.length:=by rw[<- S.l2];exact (Oe.mp q).1
 have hs:=S.sl i e[i] (Ov hi)
 refine⟨e[i],?_⟩
 have he:=Ov hi
 generalize e[i]=s at *
 rw[q] at hs
 cases s with
 |no=>cases hs
 |sh v=>cases hs.1
 |ow v=>obtain⟨m,o,e1,e2,_,e3,e4,e5⟩:=hs;cases e1;exact⟨v,o,he,.inl rfl,rfl,e2,e3,e4,e5⟩
 |lo v=>obtain⟨m,o,e1,e2,_,e3,e4,e5⟩:=hs;cases e1;exact⟨v,o,he,.inr rfl,rfl,e2,e3,e4,e5⟩
 |mu v=>obtain⟨m,o,e1,e2,e3,e4,e5⟩:=hs;cases e1;exact⟨v,o,he,.inl rfl,rfl,e2,e3,e4,e5⟩
 |lm v=>obtain⟨m,o,e1,e2,e3,e4,e5⟩:=hs;cases e1;exact⟨v,o,he,.inr rfl,rfl,e2,e3,e4,e5⟩
def Stp.refl:Stp ns e h ns e h:=⟨Og _,λ_ _ q _=>q,λ_ _ q=>.inl q,λ_ _ q _=>⟨q,rfl⟩,λ_ _ q _=>⟨q,rfl⟩,λ_ _ q=>⟨_,q,rfl⟩,λ_ _ q=>⟨_,q,rfl⟩⟩
def Stp.trans(S:Sat X h0 ns e ae h)(a:Stp ns e h ns1 e1 h1)(b:Stp ns1 e1 h1 gl e2 h2):Stp ns e h gl e2 h2:=by
 refine⟨Ow a.len b.len,λm o q hm=>?_,λi n q=>?_,λi s q hl=>?_,λi s q hl=>?_,λi v q=>?_,λi v q=>?_⟩
 ·refine b.keep m o (a.keep m o q hm) λ⟨i,s,z1,z2,z3⟩=>hm ?_
  have hlt:=(Oe.mp q).1
  rcases a.nw i m z1 with z |z
  ·obtain⟨s0,v,o',q1,q2,_⟩:=S.own z
   rcases q2 with q2 |q2
   ·exact⟨i,s0,z,q1,q2⟩
   ·have:=(a.lk i s0 q1 q2).1
    rw[z2] at this
    cases this
    exfalso
    cases s <;> first |cases z3;done |cases q2;done
  ·omega
 ·rcases b.nw i n q with z |z
  ·exact a.nw i n z
  ·exact .inr (Ow a.len z)
 ·obtain⟨q1,q2⟩:=a.lk i s q hl
  obtain⟨q3,q4⟩:=b.lk i s q1 hl
  exact⟨q3,q4.trans q2⟩
 ·obtain⟨q1,q2⟩:=b.lk' i s q hl
  obtain⟨q3,q4⟩:=a.lk' i s q1 hl
  exact⟨q3,q2.trans q4⟩
 ·obtain⟨u,q1,q2⟩:=b.mu i v q
  obtain⟨u',q3,q4⟩:=a.mu i u q1
  exact⟨u',q3,q2.trans q4⟩
 ·obtain⟨u,q1,q2⟩:=a.mu' i v q
  obtain⟨u',q3,q4⟩:=b.mu' i u q1
  exact⟨u',q3,q4.trans q2⟩
def Stp.mov(S:Sat X h0 ns e ae h)(a:Stp ns e h ns1 e1 h1):Mov (Oc X ns) (Oc X ns1) h h1:=λn o p q=>by
 have hlt:=(Oe.mp q).1
 have hm:¬ Mt ns e n:=λ⟨i,s,z,_⟩=>p.2 (bp.mpr ⟨i,z⟩)
 refine⟨⟨p.1,λz=>?_⟩,a.keep n o q hm⟩
 obtain⟨i,z⟩:=bp.mp z
 rcases a.nw i n z with z |z
 ·exact p.2 (bp.mpr ⟨i,z⟩)
 ·omega
def bZ(q:h[n]?=some o):n<h.length:=(Oe.mp q).1
def fS{n:Nat}{o:Ob}{g:AH}(q:h[n]?=some o):(h++g)[n]?=some o:=by rw[OF (bZ q)];exact q
def DC:(h++[o])[h.length]?=some o:=by rw[OC (Og _),PD];rfl
def SlR.mono(m:Mov P P' h h')(k:∀j o,n=some (some j)->h[j]?=some o->h'[j]?=some o)(r:SlR P h0 n d h s):SlR P' h0 n d h' s:=by
 cases s with
 |no=>exact r
 |sh v=>obtain⟨q,x,q1,q2⟩:=r;exact⟨q,x,q1,q2.mono m⟩
 |ow v=>obtain⟨j,o,q1,q2,q3,q4,q5,q6⟩:=r;exact⟨j,o,q1,q2,q3,k j o q1 q4,q5,q6.mono m⟩
 |lo v=>obtain⟨j,o,q1,q2,q3,q4,q5,q6⟩:=r;exact⟨j,o,q1,q2,q3,k j o q1 q4,q5,q6.mono m⟩
 |mu v=>obtain⟨j,o,q1,q2,q4,q5,q6⟩:=r;exact⟨j,o,q1,q2,k j o q1 q4,q5,q6.mono m⟩
 |lm v=>obtain⟨j,o,q1,q2,q4,q5,q6⟩:=r;exact⟨j,o,q1,q2,k j o q1 q4,q5,q6.mono m⟩
def Xn(X:Nat->Prop)(n:Nat):Nat->Prop:=λm=>X m\/m=n
def Sat.grow(S:Sat X h0 ns e ae h)(o:Ob):Sat (Xn X h.length) h0 ns e ae (h++[o]):=by
 have mv:Mov (Oc X ns) (Oc (Xn X h.length) ns) h (h++[o]):=λn o' p q=>⟨⟨λz=>by
  rcases z with z |z
  ·exact p.1 z
  ·have:=bZ q;omega,p.2⟩,fS q⟩
 refine⟨S.l1,S.l2,by rw[Oh];have:=S.lh;omega,λn z=>?_,S.inj,λi n q z=>?_,λi s q=>(S.sl i s q).mono mv λj o' _ q'=>fS q'⟩
 ·rw[Oh]
  rcases z with z |z
  ·have:=S.xl n z;omega
  ·subst z;show h.length<h.length+1;omega
 ·rcases z with z |z
  ·exact S.nx i n q z
  ·obtain⟨_,_,_,_,_,_,_,q',_⟩:=S.own q
   have:=bZ q';omega
def Sat.weak(S:Sat Y h0 ns e ae h)(hx:∀n,X n->Y n):Sat X h0 ns e ae h:=
 ⟨S.l1,S.l2,S.lh,λn z=>S.xl n (hx n z),S.inj,λi n q z=>S.nx i n q (hx n z),λi s q=>(S.sl i s q).mono (λn o p q=>⟨⟨λz=>p.1 (hx n z),p.2⟩,q⟩) λ_ _ _ q=>q⟩
def Stp.grow(o:Ob):Stp ns e h ns e (h++[o]):=⟨by rw[Oh];omega,λ_ _ q _=>fS q,λ_ _ q=>.inl q,λ_ _ q _=>⟨q,rfl⟩,λ_ _ q _=>⟨q,rfl⟩,λ_ _ q=>⟨_,q,rfl⟩,λ_ _ q=>⟨_,q,rfl⟩⟩
end
end L3
namespace L3
open PySem PySem.Spec PyProof.Rows L2
section
variable{X:Nat->Prop}{h0:Nat}{ns ns':Ns}{e e':E3}{ae:AE}{h h' hs:AH}
def bS{α:Type}{l:List α}{i j:Nat}{a b:α}(hi:i<l.length)(q:(l.set i a)[j]?=some b):(j=i/\b=a)\/(j≠i/\l[j]?=some b):=by
 rw[Qy] at q
 by_cases z:i=j
 ·subst z
  rw[if_pos rfl,if_pos hi] at q
  exact .inl ⟨rfl,(OE q).symm⟩
 ·rw[if_neg z] at q
  exact .inr ⟨λy=>z y.symm,q⟩
def bU{α:Type}{l:List α}{i:Nat}{a:α}(hi:i<l.length):(l.set i a)[i]?=some a:=by rw[Qy,if_pos rfl,if_pos hi]
def bF{α:Type}{l:List α}{i j:Nat}{a:α}(hi:j≠i):(l.set i a)[j]?=l[j]?:=by rw[Qa (λy=>hi y.symm)]
def eS(p:Oc X ns n):Oc X (ns.set i none) n:=⟨p.1,λz=>by
 rcases Pn z with z |z
 ·exact p.2 z
 ·cases z⟩
def Sat.putN(S:Sat X h0 ns e ae h)(hi:i<e.length)(q:SlR (Oc X (ns.set i none)) h0 (some none) (some d) h s):Sat X h0 (ns.set i none) (e.set i s) (ae.set i d) h:=by
 have hn:i<ns.length:=by rw[S.l2];exact hi
 have ha:i<ae.length:=by rw[S.l1];exact hi
 refine⟨by rw[Oz,Oz];exact S.l1,by rw[Oz,Oz];exact S.l2,S.lh,S.xl,λj k n q1 q2=>?_,λj n q1=>?_,λj s' q1=>?_⟩
 ·rcases bS hn q1 with ⟨_,z⟩ |⟨_,z⟩
  ·cases z
  rcases bS hn q2 with ⟨_,y⟩ |⟨_,y⟩
  ·cases y
  exact S.inj j k n z y
 ·rcases bS hn q1 with ⟨_,z⟩ |⟨_,z⟩
  ·cases z
  exact S.nx j n z
 ·rcases bS hi q1 with ⟨rfl,rfl⟩ |⟨z,q2⟩
  ·rw[bU hn,bU ha];exact q
  ·rw[bF z,bF z]
   exact (S.sl j s' q2).mono (λn o p q=>⟨eS p,q⟩) λ_ _ _ q=>q
def Sat.putN'(S:Sat X h0 ns e ae h)(hi:i<e.length)(q:SlR (Oc X (ns.set i none)) h0 (some none) (ae[i]?) h s):Sat X h0 (ns.set i none) (e.set i s) ae h:=by
 have ha:i<ae.length:=by rw[S.l1];exact hi
 have:=S.putN hi (s:=s) (d:=ae[i]) (by rw[Ov ha] at q;exact q)
 rw[List.set_getElem_self] at this
 exact this
def Sat.putO(S:Sat (Xn X n) h0 ns e ae h)(hx:¬ X n)(hi:i<e.length)(hn0:h0<=n)(eo:h[n]?=some o)(hf:cF o)(r:Rc (Oc (Xn X n) ns) h o v):Sat X h0 (ns.set i (some n)) (e.set i (.ow v)) (ae.set i (some (.ref n))) h:=by
 have hn:i<ns.length:=by rw[S.l2];exact hi
 have ha:i<ae.length:=by rw[S.l1];exact hi
 have nn:∀j:Nat,ns[j]?≠some (some n):=λj q=>S.nx j n q (.inr rfl)
 have mv:Mov (Oc (Xn X n) ns) (Oc X (ns.set i (some n))) h h:=λm o' p q=>⟨⟨λz=>p.1 (.inl z),λz=>by
  rcases Pn z with z |z
  ·exact p.2 z
  ·cases z;exact p.1 (.inr rfl)⟩,q⟩
 refine⟨by rw[Oz,Oz];exact S.l1,by rw[Oz,Oz];exact S.l2,S.lh,λm z=>S.xl m (.inl z),λj k m q1 q2=>?_,λj m q1 z=>?_,λj s' q1=>?_⟩
 ·rcases bS hn q1 with ⟨z1,z⟩ |⟨z1,z⟩ <;> rcases bS hn q2 with ⟨y1,y⟩ |⟨y1,y⟩
  ·rw[z1,y1]
  ·cases z;exact absurd y (nn k)
  ·cases y;exact absurd z (nn j)
  ·exact S.inj j k m z y
 ·rcases bS hn q1 with ⟨_,y⟩ |⟨_,y⟩
  ·cases y;exact hx z
  ·exact S.nx j m y (.inl z)
 ·rcases bS hi q1 with ⟨rfl,rfl⟩ |⟨z,q2⟩
  ·rw[bU hn,bU ha];exact⟨n,o,rfl,rfl,hn0,eo,hf,r.mono mv⟩
  ·rw[bF z,bF z]
   exact (S.sl j s' q2).mono mv λ_ _ _ q=>q
def Sl.pl:Sl->Bool
 |.no=>true
 |.sh _=>true
 |.ow _=>true
 |_=>false
def Stp.put(A:Stp ns0 e0 hs ns e h)(hi:i<e.length)(hx:∀n,x=some n->hs.length<=n)(q0:e[i]?=some s0)(p0:s0.pl=true)(p:s.pl=true)(l2:ns.length=e.length):Stp ns0 e0 hs (ns.set i x) (e.set i s) h:=by
 have hn:i<ns.length:=by rw[l2];exact hi
 refine⟨A.len,A.keep,λj n q=>?_,λj s' q hl=>?_,λj s' q hl=>?_,λj v q=>?_,λj v q=>?_⟩
 ·rcases bS hn q with ⟨_,z⟩ |⟨_,z⟩
  ·exact .inr (hx n z.symm)
  ·exact A.nw j n z
 ·obtain⟨q1,q2⟩:=A.lk j s' q hl
  have z:j≠i:=λz=>by
   subst z
   rw[q0] at q1;cases q1
   cases s0 <;> first |cases p0;done |cases hl;done
  rw[bF z,bF z];exact⟨q1,q2⟩
 ·rcases bS hi q with ⟨_,z⟩ |⟨z,q1⟩
  ·subst z;cases s' <;> first |cases p;done |cases hl;done
  ·rw[bF z];exact A.lk' j s' q1 hl
 ·rcases bS hi q with ⟨_,z⟩ |⟨z,q1⟩
  ·subst z;cases p
  ·rw[bF z];exact A.mu j v q1
 ·obtain⟨u,q1,q2⟩:=A.mu' j v q
  have z:j≠i:=λz=>by
   subst z
   rw[q0] at q1;cases q1;cases p0
  exact⟨u,by rw[bF z];exact q1,by rw[bF z];exact q2⟩
end
inductive Tm where
 |val (v:Val) |new (v:Val) |bor (i:Nat)
inductive R3(α:Type) where
 |ok (a:α) (e:E3) |exc (c:Str) (e:E3) |stuck
def R3.bind{α β:Type}(r:R3 α)(f:α->E3->R3 β):R3 β:=match r with
 |.ok a e=>f a e
 |.exc c e=>.exc c e
 |.stuck=>.stuck
abbrev ME3:=E3->R3 Tm
abbrev MT3:=E3->R3 Bool
abbrev MA3:=E3->R3 (List Tm)
def Po{δ α:Type}(X:Nat->Prop)(h0:Nat)(ns:Ns)(e:E3)(ae:AE)(h:AH)(rel:Ns->E3->AH->δ->α->Prop)(r2:R δ):R3 α->Prop
 |.stuck=>True
 |.ok t e'=>∃d h' ns',r2=.ok d h'/\Stp ns e h ns' e' h'/\Sat X h0 ns' e' ae h'/\rel ns' e' h' d t
 |.exc c e'=>∃h' ns',r2=.exc c h'/\Stp ns e h ns' e' h'/\Sat X h0 ns' e' ae h'
def relE(X:Nat->Prop)(h0 L:Nat)(ae:AE)(ns:Ns)(e:E3)(h:AH)(d:D):Tm->Prop
 |.val v=>Rd (Oc X ns) h d v
 |.new v=>∃n o,d=.ref n/\L<=n/\¬ X n/\h[n]?=some o/\cF o/\Sat (Xn X n) h0 ns e ae h/\Rc (Oc (Xn X n) ns) h o v
 |.bor i=>ae[i]?=some (some d)
def relT(_:Ns)(_:E3)(_:AH)(b c:Bool):Prop:=b=c
inductive TsR(X:Nat->Prop)(ns:Ns)(ae:AE)(h:AH):List D->List Tm->Prop where
 |nil:TsR X ns ae h [] []
 |val {d:D}{v:Val}{ds:List D}{ts:List Tm} (r:Rd (Oc X ns) h d v) (rr:TsR X ns ae h ds ts):TsR X ns ae h (d::ds) (.val v::ts)
 |bor {d:D}{i:Nat}{ds:List D}{ts:List Tm} (q:ae[i]?=some (some d)) (rr:TsR X ns ae h ds ts):TsR X ns ae h (d::ds) (.bor i::ts)
def relA(X:Nat->Prop)(ae:AE)(ns:Ns)(_:E3)(h:AH)(ds:List D)(ts:List Tm):Prop:=TsR X ns ae h ds ts
def RE(F:ME)(G:ME3):Prop:=∀X h0 L ns e ae h,Sat X h0 ns e ae h->L<=h.length->Po X h0 ns e ae h (relE X h0 L ae) (F ae h) (G e)
def RT(F:MT)(G:MT3):Prop:=∀X h0 ns e ae h,Sat X h0 ns e ae h->Po X h0 ns e ae h relT (F ae h) (G e)
def RA(F:MA)(G:MA3):Prop:=∀X h0 ns e ae h,Sat X h0 ns e ae h->Po X h0 ns e ae h (relA X ae) (F ae h) (G e)
section
variable{X:Nat->Prop}{h0 L:Nat}{ns ns':Ns}{e e':E3}{ae:AE}{h h':AH}
def Po.bind(S:Sat X h0 ns e ae h)(p:Po X h0 ns e ae h rel r2 r3)
 (k:∀d t h' ns' e',Stp ns e h ns' e' h'->Sat X h0 ns' e' ae h'->rel ns' e' h' d t->Po X h0 ns' e' ae h' rel' (f2 d h') (f3 t e')):Po X h0 ns e ae h rel' (r2.bind f2) (r3.bind f3):=by
 cases r3 with
 |stuck=>trivial
 |exc c e'=>obtain⟨h',ns',q,q1,q2⟩:=p;subst q;exact⟨h',ns',rfl,q1,q2⟩
 |
  ok t e'=>
  obtain⟨d,h',ns',q,q1,q2,q3⟩:=p
  subst q
  have:=k d t h' ns' e' q1 q2 q3
  show Po X h0 ns e ae h rel' (f2 d h') (f3 t e')
  generalize f3 t e'=r at *
  cases r with
  |stuck=>trivial
  |exc c e2=>obtain⟨h2,gl,y,y1,y2⟩:=this;exact⟨h2,gl,y,q1.trans S y1,y2⟩
  |ok t2 e2=>obtain⟨d2,h2,gl,y,y1,y2,y3⟩:=this;exact⟨d2,h2,gl,y,q1.trans S y1,y2,y3⟩
def Po.ret(S:Sat X h0 ns e ae h)(q:rel ns e h d t):Po X h0 ns e ae h rel (.ok d h) (.ok t e):=⟨d,h,ns,rfl,.refl,S,q⟩
def TsR.stp(S:Sat X h0 ns e ae h)(a:Stp ns e h ns' e' h')(r:TsR X ns ae h ds ts):TsR X ns' ae h' ds ts:=by
 induction r with
 |nil=>exact .nil
 |val r _ ih=>exact .val (r.mono (a.mov S)) ih
 |bor q _ ih=>exact .bor q ih
def rs(e:E3):Tm->Option Val
 |.val v=>some v
 |.new v=>some v
 |.bor i=>(e[i]?).bind Sl.val
def Sat.bor(S:Sat X h0 ns e ae h){i:Nat}{d:D}{v:Val}(q:ae[i]?=some (some d))(r:(e[i]?).bind Sl.val=some v):ShR (Oc X ns) h d v:=by
 cases z:e[i]? with
 |none=>rw[z] at r;cases r
 |
  some s=>
  rw[z] at r
  have y:=S.sl i s z
  rw[q] at y
  have r':s.val=some v:=r
  cases s with
  |no=>cases r'
  |sh u=>cases r';obtain⟨_,x,e1,e2⟩:=y;cases e1;exact .inl e2
  |ow u=>cases r';obtain⟨m,o,_,e2,_,e3,_,e4⟩:=y;cases e2;exact .inr ⟨m,o,rfl,e3,e4⟩
  |lo u=>cases r';obtain⟨m,o,_,e2,_,e3,_,e4⟩:=y;cases e2;exact .inr ⟨m,o,rfl,e3,e4⟩
  |mu u=>cases r';obtain⟨m,o,_,e2,e3,_,e4⟩:=y;cases e2;exact .inr ⟨m,o,rfl,e3,e4⟩
  |lm u=>cases r';obtain⟨m,o,_,e2,e3,_,e4⟩:=y;cases e2;exact .inr ⟨m,o,rfl,e3,e4⟩
def relE.new(r:relE X h0 L ae ns e h d (.new v)):Rd (Oc X ns) h d v:=by
 obtain⟨n,o,rfl,_,hx,eo,_,S,rc⟩:=r
 exact .cell ⟨hx,λz=>by obtain⟨i,z⟩:=bp.mp z;exact S.nx i n z (.inr rfl)⟩ eo (rc.mono λm o p q=>⟨⟨λz=>p.1 (.inl z),p.2⟩,q⟩)
def relE.sh{d:D}{t:Tm}{v:Val}(S:Sat X h0 ns e ae h)(r:relE X h0 L ae ns e h d t)(q:rs e t=some v):ShR (Oc X ns) h d v:=by
 cases t with
 |val u=>cases q;exact .inl r
 |new u=>cases q;exact .inl r.new
 |bor i=>exact S.bor r q
def relE.stp(S:Sat X h0 ns e ae h)(a:Stp ns e h ns' e' h')(r:relE X h0 L ae ns e h d t)(hn:∀v,t ≠ .new v):relE X h0 L ae ns' e' h' d t:=by
 cases t with
 |val u=>exact Rd.mono (a.mov S) r
 |new u=>exact absurd rfl (hn u)
 |bor i=>exact r
def Tm.drop:Tm->Tm
 |.new v=>.val v
 |t=>t
def relE.drop(r:relE X h0 L ae ns e h d t):relE X h0 L ae ns e h d t.drop/\∀v,t.drop ≠ .new v:=by
 cases t with
 |val u=>exact⟨r,λ_ z=>nomatch z⟩
 |new u=>exact⟨r.new,λ_ z=>nomatch z⟩
 |bor i=>exact⟨r,λ_ z=>nomatch z⟩
def rss(e:E3):List Tm->Option (List Val)
 | []=>some []
 |t::ts=>match rs e t,rss e ts with
  |some v,some vs=>some (v::vs)
  |_,_=>none
def TsR.sh{ds:List D}{ts:List Tm}{vs:List Val}(S:Sat X h0 ns e ae h)(r:TsR X ns ae h ds ts)(q:rss e ts=some vs):ShRs (Oc X ns) h ds vs:=by
 induction r generalizing vs with
 |nil=>cases q;exact .nil
 |
  val r _ ih=>
  unfold rss at q
  split at q
  ·rename_i e1 e2;cases q;cases e1;exact .cons (.inl r) (ih e2)
  ·cases q
 |
  bor q' _ ih=>
  unfold rss at q
  split at q
  ·rename_i e1 e2;cases q;exact .cons (S.bor q' e1) (ih e2)
  ·cases q
end
inductive Bv where
 |val (v:Val) |new (v:Val) |stuck
def BvR(P:Nat->Prop)(h:AH)(r:R D):Bv->Prop
 |.val v=>∃d,r=.ok d h/\Rd P h d v
 |.new v=>∃o,r=.ok (.ref h.length) (h++[o])/\cF o/\Rc P h o v
 |.stuck=>True
def Bv.at(b:Bv)(e:E3):R3 Tm:=match b with
 |.val v=>.ok (.val v) e
 |.new v=>.ok (.new v) e
 |.stuck=>.stuck
def BvR.po(S:Sat X h0 ns e ae h)(hl:L<=h.length)(q:BvR (Oc X ns) h r b):Po X h0 ns e ae h (relE X h0 L ae) r (b.at e):=by
 cases b with
 |stuck=>trivial
 |val v=>obtain⟨d,rfl,r⟩:=q;exact Po.ret S r
 |
  new v=>
  obtain⟨o,rfl,hf,r⟩:=q
  have S':=S.grow o
  refine⟨_,_,ns,rfl,.grow o,S'.weak λn z=>.inl z,h.length,o,rfl,hl,λz=>?_,DC,hf,S',r.mono λn o' p q=>⟨⟨λz=>?_,p.2⟩,fS q⟩⟩
  ·have:=S.xl _ z;omega
  ·rcases z with z |z
   ·exact p.1 z
   ·have:=bZ q;omega
def RU(g2:D->AH->R D)(g3:Val->Bv):Prop:=∀P h d v,ShR P h d v->BvR P h (g2 d h) (g3 v)
def RO(g2:D->D->AH->R D)(g3:Val->Val->Bv):Prop:=∀P h d1 d2 v1 v2,ShR P h d1 v1->ShR P h d2 v2->BvR P h (g2 d1 d2 h) (g3 v1 v2)
def RFn(g2:Fn)(g3:List Val->Bv):Prop:=∀P h ds vs,ShRs P h ds vs->BvR P h (g2 ds h) (g3 vs)
def BQ(i:Nat):ME3:=λe=>match e[i]? with
 |some (.sh v)=>.ok (.val v) e
 |some .no=>.stuck
 |some _=>.ok (.bor i) e
 |none=>.stuck
def vC(v:Val):ME3:=λe=>.ok (.val v) e
def vUn(g:Val->Bv)(F:ME3):ME3:=λe=>(F e).bind λt e1=>match rs e1 t with
 |some v=>(g v).at e1
 |none=>.stuck
def vOp(g:Val->Val->Bv)(F G:ME3):ME3:=λe=>(F e).bind λt1 e1=>(G e1).bind λt2 e2=>match rs e2 t1.drop,rs e2 t2 with
 |some v1,some v2=>(g v1 v2).at e2
 |_,_=>.stuck
def o1:MA3:=λe=>.ok [] e
def CW(F:ME3)(A:MA3):MA3:=λe=>(F e).bind λt e1=>(A e1).bind λts e2=>.ok (t.drop::ts) e2
def vFn(g:List Val->Bv)(A:MA3):ME3:=λe=>(A e).bind λts e1=>match rss e1 ts with
 |some vs=>(g vs).at e1
 |none=>.stuck
def cW(e:E3):Tm->Option (E3×Val)
 |.val v=>some (e,v)
 |.new v=>some (e,v)
 |.bor i=>match e[i]? with
  |some (.sh v)=>some (e,v)
  |some (.ow v)=>some (e.set i (.sh v),v)
  |_=>none
def dem(e:E3):List Tm->Option (E3×List Val)
 | []=>some (e,[])
 |t::ts=>match cW e t with
  |some (e1,v)=>match dem e1 ts with
   |some (e2,vs)=>some (e2,v::vs)
   |none=>none
  |none=>none
def vTup(A:MA3):ME3:=λe=>(A e).bind λts e1=>match dem e1 ts with
 |some (e2,vs)=>if vs.length<=16777216 then .ok (.val (.tup vs)) e2 else .stuck
 |none=>.stuck
def vLst(A:MA3):ME3:=λe=>(A e).bind λts e1=>match dem e1 ts with
 |some (e2,vs)=>if vs.length<=16777216 then .ok (.new (.lst vs)) e2 else .stuck
 |none=>.stuck
def bOf:Option Val->Option Bool
 |some (.bl b)=>some b
 |_=>none
def vAnd(F G:ME3):ME3:=λe=>(F e).bind λt e1=>match bOf (rs e1 t) with
 |some true=>G e1
 |some false=>.ok (.val (.bl false)) e1
 |none=>.stuck
def vNot(F:ME3):ME3:=λe=>(F e).bind λt e1=>match bOf (rs e1 t) with
 |some b=>.ok (.val (.bl (!b))) e1
 |none=>.stuck
def vIf(c:MT3)(F G:ME3):ME3:=λe=>(c e).bind λb e1=>if b=true then F e1 else G e1
def cOf(F:ME3):MT3:=λe=>(F e).bind λt e1=>match bOf (rs e1 t) with
 |some b=>.ok b e1
 |none=>.stuck
def cAn(c d:MT3):MT3:=λe=>(c e).bind λb e1=>if b=true then d e1 else .ok false e1
def cO(c d:MT3):MT3:=λe=>(c e).bind λb e1=>if b=true then .ok true e1 else d e1
def cNo(c:MT3):MT3:=λe=>(c e).bind λb e1=>.ok (!b) e1
def cY:MT3:=λe=>.ok true e
def mR:Val->Option Bool
 |.non=>some false
 |.bl b=>some b
 |.int i=>some (i != 0)
 |.tup xs=>some (!xs.isEmpty)
 |.lst xs=>some (!xs.isEmpty)
 |.kl xs=>some (!xs.isEmpty)
 |_=>none
def cTr(F:ME3):MT3:=λe=>(F e).bind λt e1=>match (rs e1 t).bind mR with
 |some b=>.ok b e1
 |none=>.stuck
section
variable{F G:ME}{F3 G3:ME3}{A:MA}{A3:MA3}{c d:MT}{c3 d3:MT3}
def Jw(i:Nat):RE (a9 i) (BQ i):=λX h0 L ns e ae h S hl=>by
 unfold BQ
 cases q:e[i]? with
 |none=>trivial
 |
  some s=>
  have y:=S.sl i s q
  cases s with
  |no=>trivial
  |sh v=>obtain⟨_,x,e1,e2⟩:=y;unfold a9;rw[e1];exact Po.ret S e2
  |ow v=>obtain⟨m,o,_,e2,_⟩:=y;unfold a9;rw[e2];exact Po.ret S e2
  |lo v=>obtain⟨m,o,_,e2,_⟩:=y;unfold a9;rw[e2];exact Po.ret S e2
  |mu v=>obtain⟨m,o,_,e2,_⟩:=y;unfold a9;rw[e2];exact Po.ret S e2
  |lm v=>obtain⟨m,o,_,e2,_⟩:=y;unfold a9;rw[e2];exact Po.ret S e2
def tN{d:D}{v:Val}(r:∀P h,Rd P h d v):RE (eC d) (vC v):=λX h0 L ns e ae h S hl=>Po.ret S (r _ _)
def L6(hg:RU g g3)(hF:RE F F3):RE (eUn g F) (vUn g3 F3):=λX h0 L ns e ae h S hl=>
 Po.bind S (hF X h0 L ns e ae h S hl) λd t h1 ns1 e1 a1 S1 r1=>by
  try dsimp only
  split
  ·rename_i v q
   exact BvR.po S1 (Ow hl a1.len) (hg _ _ _ _ (r1.sh S1 q))
  ·trivial
def KH(hg:RO g g3)(hF:RE F F3)(hG:RE G G3):RE (eOp g F G) (vOp g3 F3 G3):=λX h0 L ns e ae h S hl=>
 Po.bind S (hF X h0 L ns e ae h S hl) λd1 t1 h1 ns1 e1 a1 S1 r1=>Po.bind S1 (hG X h0 L ns1 e1 ae h1 S1 (Ow hl a1.len)) λd2 t2 h2 gl e2 a2 S2 r2=>by
  try dsimp only
  split
  ·rename_i v1 v2 q1 q2
   obtain⟨r1',hn⟩:=r1.drop
   exact BvR.po S2 (Ow hl (Ow a1.len a2.len)) (hg _ _ _ _ _ _ ((r1'.stp S1 a2 hn).sh S2 q1) (r2.sh S2 q2))
  ·trivial
def yD:RA fD o1:=λX h0 ns e ae h S=>Po.ret S .nil
def E4(hF:RE F F3)(hA:RA A A3):RA (eW F A) (CW F3 A3):=λX h0 ns e ae h S=>
 Po.bind S (hF X h0 0 ns e ae h S (OO _)) λd1 t1 h1 ns1 e1 a1 S1 r1=>Po.bind S1 (hA X h0 ns1 e1 ae h1 S1) λds ts h2 gl e2 a2 S2 r2=>by
  obtain⟨r1',hn⟩:=r1.drop
  have r3:=r1'.stp S1 a2 hn
  refine Po.ret S2 ?_
  show TsR X gl ae h2 (d1::ds) (t1.drop::ts)
  generalize t1.drop=t at *
  cases t with
  |val v=>exact .val r3 r2
  |new v=>exact absurd rfl (hn v)
  |bor i=>exact .bor r3 r2
def JY(hg:RFn g g3)(hA:RA A A3):RE (eFn g A) (vFn g3 A3):=λX h0 L ns e ae h S hl=>
 Po.bind S (hA X h0 ns e ae h S) λds ts h1 ns1 e1 a1 S1 r1=>by
  try dsimp only
  split
  ·rename_i vs q
   exact BvR.po S1 (Ow hl a1.len) (hg _ _ _ _ (TsR.sh S1 r1 q))
  ·trivial
def GQ(S:Sat X h0 ns e ae h)(q:e[i]?=some (.ow v)):∃n,ae[i]?=some (some (.ref n))/\Sat X h0 (ns.set i none) (e.set i (.sh v)) ae h/\Stp ns e h (ns.set i none) (e.set i (.sh v)) h/\Rd (Oc X (ns.set i none)) h (.ref n) v:=by
 obtain⟨n,o,q1,q2,_,q3,_,q4⟩:=S.sl i _ q
 have hi:=(Oe.mp q).1
 have hn:i<ns.length:=by rw[S.l2];exact hi
 have r:Rd (Oc X (ns.set i none)) h (.ref n) v:=.cell ⟨S.nx i n q1,λz=>by
  obtain⟨j,z⟩:=bp.mp z
  rcases bS hn z with ⟨_,y⟩ |⟨y,z⟩
  ·cases y
  ·exact y (S.inj j i n z q1)⟩ q3 (q4.mono λm o p q=>⟨eS p,q⟩)
 exact⟨n,q2,S.putN' hi ⟨rfl,_,q2,r⟩,Stp.refl.put (x:=none) hi (λ_ z=>by cases z) q rfl rfl S.l2,r⟩
def gJ{X:Nat->Prop}{h0 L:Nat}{ns:Ns}{e e':E3}{ae:AE}{h:AH}{d:D}{t:Tm}{v:Val}(S:Sat X h0 ns e ae h)(r:relE X h0 L ae ns e h d t)(q:cW e t=some (e',v)):∃ns',Sat X h0 ns' e' ae h/\Stp ns e h ns' e' h/\Rd (Oc X ns') h d v:=by
 cases t with
 |val u=>cases q;exact⟨ns,S,.refl,r⟩
 |new u=>cases q;exact⟨ns,S,.refl,r.new⟩
 |
  bor i=>
  unfold cW at q
  dsimp only at q
  have r':ae[i]?=some (some d):=r
  split at q
  ·rename_i u q1;cases q
   obtain⟨_,x,e1,e2⟩:=S.sl i _ q1
   rw[r'] at e1;cases e1
   exact⟨ns,S,.refl,e2⟩
  ·rename_i u q1;cases q
   obtain⟨n,e1,S',a',e2⟩:=GQ S q1
   rw[r'] at e1;cases e1
   exact⟨_,S',a',e2⟩
  ·cases q
def ke:∀{ds:List D}{vs:List Val}{ns:Ns}{e e':E3},Sat X h0 ns e ae h->TsR X ns ae h ds ts->dem e ts=some (e',vs)->∃ns',Sat X h0 ns' e' ae h/\Stp ns e h ns' e' h/\Rds (Oc X ns') h ds vs:=by
 induction ts with
 |nil=>intro ds vs ns e e' S r q;cases r;cases q;exact⟨ns,S,.refl,.nil⟩
 |
  cons t ts ih=>
  intro ds vs ns e e' S r q
  unfold dem at q
  split at q
  ·rename_i e1 v q1
   split at q
   ·rename_i e2 vs' q2
    cases q
    have hr:∃d ds',ds=d::ds'/\relE X h0 0 ae ns e h d t/\TsR X ns ae h ds' ts:=by
     cases r with
     |val r rr=>exact⟨_,_,rfl,r,rr⟩
     |bor r rr=>exact⟨_,_,rfl,r,rr⟩
    obtain⟨d,ds',rfl,hr⟩:=hr
    obtain⟨ns1,S1,a1,r1⟩:=gJ S hr.1 q1
    obtain⟨gl,S2,a2,r2⟩:=ih S1 (hr.2.stp S a1) q2
    exact⟨gl,S2,a1.trans S a2,.cons (r1.mono (a2.mov S1)) r2⟩
   ·cases q
  ·cases q
def Jj(hA:RA A A3):RE (eFn nY A) (vTup A3):=λX h0 L ns e ae h S hl=>
 Po.bind S (hA X h0 ns e ae h S) λds ts h1 ns1 e1 a1 S1 r1=>by
  try dsimp only
  split
  ·rename_i e2 vs q
   split
   ·rename_i hv
    obtain⟨gl,S2,a2,r2⟩:=ke S1 r1 q
    exact⟨.tup ds,h1,gl,by unfold nY;rw[if_pos (by rw[r2.len];exact hv)],a2,S2,.tup r2⟩
   ·trivial
  ·trivial
def HR(hA:RA A A3):RE (eFn b9 A) (vLst A3):=λX h0 L ns e ae h S hl=>
 Po.bind S (hA X h0 ns e ae h S) λds ts h1 ns1 e1 a1 S1 r1=>by
  try dsimp only
  split
  ·rename_i e2 vs q
   split
   ·rename_i hv
    obtain⟨gl,S2,a2,r2⟩:=ke S1 r1 q
    have p:=BvR.po (r:=b9 ds h1) (b:=.new (.lst vs)) S2 (Ow hl a1.len) ⟨.lst ds,by unfold b9;rw[if_pos (by rw[r2.len];exact hv)],trivial,.lst r2⟩
    obtain⟨d,h',ns',y,y1,y2,y3⟩:=p
    exact⟨d,h',ns',y,a2.trans S1 y1,y2,y3⟩
   ·trivial
  ·trivial
def nN(S1:Sat X h0 ns1 e1 ae h1)(r1:relE X h0 L ae ns1 e1 h1 d1 t1)(q:bOf (rs e1 t1)=some b):d1=.bl b:=by
 unfold bOf at q
 split at q
 ·rename_i b' q';cases q;exact (r1.sh S1 q').bl
 ·cases q
def Hu(hF:RE F F3)(hG:RE G G3):RE (Av F G) (vAnd F3 G3):=λX h0 L ns e ae h S hl=>
 Po.bind S (hF X h0 L ns e ae h S hl) λd1 t1 h1 ns1 e1 a1 S1 r1=>by
  try dsimp only
  split
  ·rename_i q;rw[nN S1 r1 q];exact hG X h0 L ns1 e1 ae h1 S1 (Ow hl a1.len)
  ·rename_i q;rw[nN S1 r1 q];exact Po.ret S1 (.bl false)
  ·trivial
def GU(hF:RE F F3):RE (A0 F) (vNot F3):=λX h0 L ns e ae h S hl=>
 Po.bind S (hF X h0 L ns e ae h S hl) λd1 t1 h1 ns1 e1 a1 S1 r1=>by
  try dsimp only
  split
  ·rename_i q;rw[nN S1 r1 q];exact Po.ret S1 (.bl _)
  ·trivial
def KW(hc:RT c c3)(hF:RE F F3)(hG:RE G G3):RE (eIf c F G) (vIf c3 F3 G3):=λX h0 L ns e ae h S hl=>
 Po.bind S (hc X h0 ns e ae h S) λb b' h1 ns1 e1 a1 S1 r1=>by
  cases r1
  try dsimp only
  split
  ·exact hF X h0 L ns1 e1 ae h1 S1 (Ow hl a1.len)
  ·exact hG X h0 L ns1 e1 ae h1 S1 (Ow hl a1.len)
def Lz(hF:RE F F3):RT (tOf F) (cOf F3):=λX h0 ns e ae h S=>
 Po.bind S (hF X h0 0 ns e ae h S (OO _)) λd1 t1 h1 ns1 e1 a1 S1 r1=>by
  try dsimp only
  split
  ·rename_i q;rw[nN S1 r1 q];exact Po.ret S1 rfl
  ·trivial
def Lp(hc:RT c c3)(hd:RT d d3):RT (tAn c d) (cAn c3 d3):=λX h0 ns e ae h S=>
 Po.bind S (hc X h0 ns e ae h S) λb b' h1 ns1 e1 a1 S1 r1=>by
  cases r1
  try dsimp only
  split
  ·exact hd X h0 ns1 e1 ae h1 S1
  ·exact Po.ret S1 rfl
def rt_o(hc:RT c c3)(hd:RT d d3):RT (tO c d) (cO c3 d3):=λX h0 ns e ae h S=>
 Po.bind S (hc X h0 ns e ae h S) λb b' h1 ns1 e1 a1 S1 r1=>by
  cases r1
  try dsimp only
  split
  ·exact Po.ret S1 rfl
  ·exact hd X h0 ns1 e1 ae h1 S1
def JG(hc:RT c c3):RT (tNo c) (cNo c3):=λX h0 ns e ae h S=>
 Po.bind S (hc X h0 ns e ae h S) λb b' h1 ns1 e1 a1 S1 r1=>by
  cases r1
  exact Po.ret S1 rfl
def rt_y:RT tY cY:=λX h0 ns e ae h S=>Po.ret S rfl
def Dc{P:Nat->Prop}{h:AH}{d:D}{v:Val}{b:Bool}(r:ShR P h d v)(q:mR v=some b):rM d h=.ok b h:=by
 have emp:∀{ds:List D}{vs:List Val},Rds P h ds vs->ds.isEmpty=vs.isEmpty:=λr=>by cases r <;> rfl
 cases v with
 |non=>cases q;rw[r.non];rfl
 |bl b=>cases q;rw[r.bl];rfl
 |int i=>cases q;rw[r.int];rfl
 |tup xs=>cases q;obtain⟨ds,rfl,r2⟩:=r.tup;show R.ok (!ds.isEmpty) h=_;rw[emp r2]
 |
  lst xs=>
  cases q
  obtain⟨n,ds,rfl,_,e1,r1⟩:=r.lst
  rw[<- emp r1]
  unfold rM df;dsimp only;rw[e1]
 |
  kl xs=>
  cases q
  obtain⟨ds,r2,rfl |⟨n,rfl,e1⟩⟩:=r.kl
  ·show R.ok (!ds.isEmpty) h=_;rw[emp r2]
  ·rw[<- emp r2]
   unfold rM df;dsimp only;rw[e1]
 |_=>cases q
def K3(hF:RE F F3):RT (tTr F) (cTr F3):=λX h0 ns e ae h S=>
 Po.bind S (hF X h0 0 ns e ae h S (OO _)) λd1 t1 h1 ns1 e1 a1 S1 r1=>by
  try dsimp only
  split
  ·rename_i b q
   obtain⟨v,q1,q2⟩:=OP.mp q
   rw[Dc (r1.sh S1 q1) q2]
   exact Po.ret S1 rfl
  ·trivial
end
end L3
namespace L3
open PySem PySem.Spec PyProof.Rows L2
inductive Rt where
 |val (v:Val) |new (v:Val) |par (i:Nat)
inductive SR3 where
 |nx (e:E3) |rt (r:Rt) (e:E3) |bk (e:E3) |ct (e:E3) |exc (c:Str) (e:E3) |stuck
abbrev MS3:=E3->SR3
def RtR(X:Nat->Prop)(h0:Nat)(ns:Ns)(e:E3)(ae:AE)(h:AH)(d:D):Rt->Prop
 |.val v=>Sat X h0 ns e ae h/\Rd (Oc X ns) h d v
 |.new v=>∃n o,d=.ref n/\h0<=n/\¬ X n/\h[n]?=some o/\cF o/\Sat (Xn X n) h0 ns e ae h/\Rc (Oc (Xn X n) ns) h o v
 |.par i=>Sat X h0 ns e ae h/\ae[i]?=some (some d)/\∃v,e[i]?=some (.mu v)
def PoS(X:Nat->Prop)(h0:Nat)(ns:Ns)(e:E3)(h:AH)(r2:SR):SR3->Prop
 |.stuck=>True
 |.nx e'=>∃be h' ns',r2=.nx be h'/\Stp ns e h ns' e' h'/\Sat X h0 ns' e' be h'
 |.bk e'=>∃be h' ns',r2=.bk be h'/\Stp ns e h ns' e' h'/\Sat X h0 ns' e' be h'
 |.ct e'=>∃be h' ns',r2=.ct be h'/\Stp ns e h ns' e' h'/\Sat X h0 ns' e' be h'
 |.exc c e'=>∃be h' ns',r2=.exc c be h'/\Stp ns e h ns' e' h'/\Sat X h0 ns' e' be h'
 |.rt r e'=>∃d be h' ns',r2=.rt d h'/\Stp ns e h ns' e' h'/\RtR X h0 ns' e' be h' d r
def RS(F:MS)(G:MS3):Prop:=∀X h0 ns e ae h,Sat X h0 ns e ae h->PoS X h0 ns e h (F ae h) (G e)
def R3.toS{α:Type}(r:R3 α)(f:α->E3->SR3):SR3:=match r with
 |.ok a e=>f a e
 |.exc c e=>.exc c e
 |.stuck=>.stuck
def SR3.then(r:SR3)(f:E3->SR3):SR3:=match r with
 |.nx e=>f e
 |r=>r
section
variable{X:Nat->Prop}{h0 L:Nat}{ns ns1 ns':Ns}{e e1 e':E3}{ae:AE}{h h1 h':AH}
def PoS.after(S:Sat X h0 ns e ae h)(a:Stp ns e h ns1 e1 h1)(p:PoS X h0 ns1 e1 h1 r2 r3):PoS X h0 ns e h r2 r3:=by
 cases r3 with
 |stuck=>trivial
 |nx e'=>obtain⟨be,h',ns',q,q1,q2⟩:=p;exact⟨be,h',ns',q,a.trans S q1,q2⟩
 |bk e'=>obtain⟨be,h',ns',q,q1,q2⟩:=p;exact⟨be,h',ns',q,a.trans S q1,q2⟩
 |ct e'=>obtain⟨be,h',ns',q,q1,q2⟩:=p;exact⟨be,h',ns',q,a.trans S q1,q2⟩
 |exc c e'=>obtain⟨be,h',ns',q,q1,q2⟩:=p;exact⟨be,h',ns',q,a.trans S q1,q2⟩
 |rt r e'=>obtain⟨d,be,h',ns',q,q1,q2⟩:=p;exact⟨d,be,h',ns',q,a.trans S q1,q2⟩
def PoS.toS(p:Po X h0 ns e ae h rel r2 r3)
 (k:∀d t h' ns' e',Stp ns e h ns' e' h'->Sat X h0 ns' e' ae h'->rel ns' e' h' d t->PoS X h0 ns e h (f2 d h') (f3 t e')):PoS X h0 ns e h (r2.toS ae f2) (r3.toS f3):=by
 cases r3 with
 |stuck=>trivial
 |exc c e'=>obtain⟨h',ns',rfl,q1,q2⟩:=p;exact⟨ae,h',ns',rfl,q1,q2⟩
 |ok t e'=>obtain⟨d,h',ns',rfl,q1,q2,q3⟩:=p;exact k d t h' ns' e' q1 q2 q3
def PoS.nx(a:Stp ns e h ns' e' h')(S:Sat X h0 ns' e' be h'):PoS X h0 ns e h (.nx be h') (.nx e'):=⟨be,h',ns',rfl,a,S⟩
end
def wNx:MS3:=λe=>.nx e
def Cv:MS3:=λe=>.rt (.val .non) e
def wSeq(F G:MS3):MS3:=λe=>(F e).then G
def CU(F:ME3):MS3:=λe=>(F e).toS λ_ e1=>.nx e1
def wIf(c:MT3)(F G:MS3):MS3:=λe=>(c e).toS λb e1=>if b=true then F e1 else G e1
def oR(t:Tm)(e:E3):SR3:=match t with
 |.val v=>.rt (.val v) e
 |.new v=>.rt (.new v) e
 |.bor i=>match e[i]? with
  |some (.sh v)=>.rt (.val v) e
  |some (.ow v)=>.rt (.new v) (e.set i .no)
  |some (.mu _)=>.rt (.par i) e
  |_=>.stuck
def wRet(F:ME3):MS3:=λe=>(F e).toS oR
def jQ(o:Bool)(i:Nat)(t:Tm)(e:E3):SR3:=match e[i]? with
 |some s0=>if s0.pl=true then (match t with
  |.val v=>.nx (e.set i (.sh v))
  |.new v=>.nx (e.set i (if o=true then .ow v else .sh v))
  |.bor j=>match cW e (.bor j) with
   |some (e2,v)=>.nx (e2.set i (.sh v))
   |none=>.stuck) else .stuck
 |none=>.stuck
def wAsg(o:Bool)(i:Nat)(F:ME3):MS3:=λe=>(F e).toS (jQ o i)
abbrev MG3:=Val->E3->Option E3
abbrev lZ:=List Val->E3->Option E3
def pN(i:Nat):MG3:=λv e=>match e[i]? with
 |some s=>if s.pl=true then some (e.set i (.sh v)) else none
 |none=>none
def psN:lZ:=λvs e=>match vs with
 | []=>some e
 |_=>none
def psC(g:MG3)(u:lZ):lZ:=λvs e=>match vs with
 |v::r=>(g v e).bind λe1=>u r e1
 | []=>none
def pT(n:Nat)(u:lZ):MG3:=λv e=>match v with
 |.tup vs=>if vs.length=n then u vs e else none
 |_=>none
def Cp(F:ME3)(g:MG3):MS3:=λe=>(F e).toS λt e1=>match cW e1 t with
 |some (e2,v)=>match g v e2 with
  |some e3=>.nx e3
  |none=>.stuck
 |none=>.stuck
def wPar(i j:Nat)(A:MA3):MS3:=λe=>(A e).toS λts e1=>match dem e1 ts with
 |some (e2,[v,u])=>match (pN i v e2).bind (pN j u) with
  |some e3=>.nx e3
  |none=>.stuck
 |_=>.stuck
def Aj(i:Nat)(g:Val->Val->Bv)(F:ME3):MS3:=λe=>match e[i]? with
 |some (.sh x)=>(F e).toS λt e1=>match rs e1 t with
  |some y=>match g x y with
   |.val z=>match pN i z e1 with
    |some e2=>.nx e2
    |none=>.stuck
   |_=>.stuck
  |none=>.stuck
 |_=>.stuck
def zG(c:Str)(A:MA3):MS3:=λe=>(A e).toS λts e1=>if ts.length<=16777216 then .exc c e1 else .stuck
def RG(g2:MG)(g3:MG3):Prop:=∀X h0 ns e ae h d v e',Sat X h0 ns e ae h->Rd (Oc X ns) h d v->g3 v e=some e'->∃be ns',g2 d ae h=.ok be h/\Sat X h0 ns' e' be h/\Stp ns e h ns' e' h
def RGs(g2:MGs)(g3:lZ):Prop:=∀X h0 ns e ae h ds vs e',Sat X h0 ns e ae h->Rds (Oc X ns) h ds vs->g3 vs e=some e'->∃be ns',g2 ds ae h=.ok be h/\Sat X h0 ns' e' be h/\Stp ns e h ns' e' h
section
variable{F G:ME}{F3 G3:ME3}{A:MA}{A3:MA3}{c d:MT}{c3 d3:MT3}{U V:MS}{U3 V3:MS3}{g:MG}{g3:MG3}{gs:MGs}{gs3:lZ}
def JJ:RS sNx wNx:=λX h0 ns e ae h S=>.nx .refl S
def EZ:RS wd Cv:=λX h0 ns e ae h S=>⟨.non,ae,h,ns,rfl,.refl,S,.non⟩
def Jm(hU:RS U U3)(hV:RS V V3):RS (iY U V) (wSeq U3 V3):=λX h0 ns e ae h S=>by
 have p:=hU X h0 ns e ae h S
 show PoS X h0 ns e h ((U ae h).then V) ((U3 e).then V3)
 generalize U3 e=r at *
 cases r with
 |stuck=>trivial
 |nx e'=>obtain⟨be,h',ns',q,q1,q2⟩:=p;rw[q];exact PoS.after S q1 (hV X h0 ns' e' be h' q2)
 |bk e'=>obtain⟨be,h',ns',q,q1,q2⟩:=p;rw[q];exact⟨be,h',ns',rfl,q1,q2⟩
 |ct e'=>obtain⟨be,h',ns',q,q1,q2⟩:=p;rw[q];exact⟨be,h',ns',rfl,q1,q2⟩
 |exc c e'=>obtain⟨be,h',ns',q,q1,q2⟩:=p;rw[q];exact⟨be,h',ns',rfl,q1,q2⟩
 |rt r e'=>obtain⟨d,be,h',ns',q,q1,q2⟩:=p;rw[q];exact⟨d,be,h',ns',rfl,q1,q2⟩
def Fg(hF:RE F F3):RS (iO F) (CU F3):=λX h0 ns e ae h S=>PoS.toS (hF X h0 0 ns e ae h S (OO _)) λd t h1 ns1 e1 a1 S1 r1=>.nx a1 S1
def Kk(hc:RT c c3)(hU:RS U U3)(hV:RS V V3):RS (sIf c U V) (wIf c3 U3 V3):=λX h0 ns e ae h S=>PoS.toS (hc X h0 ns e ae h S) λb b' h1 ns1 e1 a1 S1 r1=>by
 cases r1
 try dsimp only
 split
 ·exact PoS.after S a1 (hU X h0 ns1 e1 ae h1 S1)
 ·exact PoS.after S a1 (hV X h0 ns1 e1 ae h1 S1)
def IX(hF:RE F F3):RS (BO F) (wRet F3):=λX h0 ns e ae h S=>PoS.toS (hF X h0 h0 ns e ae h S S.lh) λd t h1 ns1 e1 a1 S1 r1=>by
 cases t with
 |val v=>exact⟨d,ae,h1,ns1,rfl,a1,S1,r1⟩
 |new v=>obtain⟨n,o,q⟩:=r1;exact⟨d,ae,h1,ns1,rfl,a1,n,o,q⟩
 |
  bor i=>
  unfold oR
  dsimp only
  have r':ae[i]?=some (some d):=r1
  split
  ·rename_i v q
   obtain⟨_,x,e1',e2⟩:=S1.sl i _ q
   rw[r'] at e1';cases e1'
   exact⟨d,ae,h1,ns1,rfl,a1,S1,e2⟩
  ·rename_i v q
   obtain⟨n,o,q1,q2,q3,q4,q5,q6⟩:=S1.sl i _ q
   rw[r'] at q2;cases q2
   have hi:=(Oe.mp q).1
   have hn:i<ns1.length:=by rw[S1.l2];exact hi
   have mv:Mov (Oc X ns1) (Oc (Xn X n) (ns1.set i none)) h1 h1:=λm o' p q'=>⟨⟨λz=>by
    rcases z with z |rfl
    ·exact p.1 z
    ·exact p.2 (bp.mpr ⟨i,q1⟩),(eS p).2⟩,q'⟩
   have S2:=S1.putN' hi (s:=.no) rfl
   refine⟨.ref n,ae,h1,ns1.set i none,rfl,a1.put (x:=none) hi (λ_ z=>by cases z) q rfl rfl S1.l2,n,o,rfl,q3,S1.nx i n q1,q4,q5,⟨S2.l1,S2.l2,S2.lh,λm z=>?_,S2.inj,λj m qj z=>?_,λj s qj=>?_⟩,q6.mono mv⟩
   ·rcases z with z |rfl
    ·exact S2.xl m z
    ·exact bZ q4
   ·rcases z with z |rfl
    ·exact S2.nx j m qj z
    ·rcases bS hn qj with ⟨_,y⟩ |⟨y,z⟩
     ·cases y
     ·exact y (S1.inj j i _ z q1)
   ·rcases bS hi qj with ⟨rfl,rfl⟩ |⟨z,qj'⟩
    ·rw[bU hn];rfl
    ·rw[bF z]
     exact (S1.sl j s qj').mono mv λ_ _ _ q=>q
  ·rename_i v q
   exact⟨d,ae,h1,ns1,rfl,a1,S1,r',v,q⟩
  ·trivial
def HK(o:Bool)(i:Nat)(hF:RE F F3):RS (iz F (gN i)) (wAsg o i F3):=λX h0 ns e ae h S=>PoS.toS (hF X h0 h.length ns e ae h S (Og _)) λd t h1 ns1 e1 a1 S1 r1=>by
 show PoS X h0 ns e h (.nx (ae.set i (some d)) h1) (jQ o i t e1)
 unfold jQ
 split
 ·rename_i s0 q0
  split
  ·rename_i p0
   have hi:=(Oe.mp q0).1
   cases t with
   |val v=>exact .nx (a1.put (x:=none) (s:=.sh v) hi (λ_ z=>by cases z) q0 p0 rfl S1.l2) (S1.putN hi ⟨rfl,d,rfl,Rd.mono (λm o p q=>⟨eS p,q⟩) r1⟩)
   |
    new v=>
    try dsimp only
    split
    ·obtain⟨n,ob,rfl,q1,q2,q3,q4,q5,q6⟩:=r1
     exact .nx (a1.put (x:=some n) (s:=.ow v) hi (λm z=>by cases z;exact q1) q0 p0 rfl S1.l2) (Sat.putO q5 q2 hi (Ow S.lh q1) q3 q4 q6)
    ·exact .nx (a1.put (x:=none) (s:=.sh v) hi (λ_ z=>by cases z) q0 p0 rfl S1.l2) (S1.putN hi ⟨rfl,d,rfl,Rd.mono (λm o p q=>⟨eS p,q⟩) r1.new⟩)
   |
    bor j=>
    try dsimp only
    split
    ·rename_i e2 v q2
     obtain⟨gl,S2,a2,r2⟩:=gJ S1 r1 q2
     have hq:∃s2,e2[i]?=some s2/\s2.pl=true:=by
      unfold cW at q2
      dsimp only at q2
      split at q2
      ·cases q2;exact⟨s0,q0,p0⟩
      ·rename_i u q3
       cases q2
       by_cases z:i=j
       ·subst z;exact⟨_,bU hi,rfl⟩
       ·exact⟨s0,by rw[bF z];exact q0,p0⟩
      ·cases q2
     obtain⟨s2,hq1,hq2⟩:=hq
     have hi2:=(Oe.mp hq1).1
     exact .nx ((a1.trans S a2).put (x:=none) (s:=.sh v) hi2 (λ_ z=>by cases z) hq1 hq2 rfl S2.l2) (S2.putN hi2 ⟨rfl,d,rfl,Rd.mono (λm o p q=>⟨eS p,q⟩) r2⟩)
    ·trivial
  ·trivial
 ·trivial
def ue(i:Nat):RG (gN i) (pN i):=λX h0 ns e ae h d v e' S r q=>by
 unfold pN at q
 split at q
 ·rename_i s q0
  split at q
  ·rename_i p0
   cases q
   have hi:=(Oe.mp q0).1
   exact⟨_,ns.set i none,rfl,S.putN hi ⟨rfl,d,rfl,Rd.mono (λm o p q=>⟨eS p,q⟩) r⟩,Stp.refl.put (x:=none) (s:=.sh v) hi (λ_ z=>by cases z) q0 p0 rfl S.l2⟩
  ·cases q
 ·cases q
def Km:RGs gsN psN:=λX h0 ns e ae h ds vs e' S r q=>by
 cases r with
 |nil=>cases q;exact⟨ae,ns,rfl,S,.refl⟩
 |cons _ _=>cases q
def KY(hg:RG g g3)(hs:RGs gs gs3):RGs (gsC g gs) (psC g3 gs3):=λX h0 ns e ae h ds vs e' S r q=>by
 cases r with
 |nil=>cases q
 |
  cons r rr=>
  obtain⟨e1,q1,q2⟩:=OP.mp q
  obtain⟨ae1,ns1,p1,S1,a1⟩:=hg _ _ _ _ _ _ _ _ _ S r q1
  obtain⟨ae2,gl,p2,S2,a2⟩:=hs _ _ _ _ _ _ _ _ _ S1 (rr.mono (a1.mov S)) q2
  refine⟨ae2,gl,?_,S2,a1.trans S a2⟩
  unfold gsC;dsimp only;rw[p1];exact p2
def rg_t(n:Nat)(hs:RGs gs gs3):RG (gT λds ae h=>if ds.length=n then gs ds ae h else .stuck) (pT n gs3):=λX h0 ns e ae h d v e' S r q=>by
 unfold pT at q
 split at q
 ·split at q
  ·rename_i hn
   obtain⟨ds,rfl,r2⟩:=ShR.tup (.inl r)
   obtain⟨ae1,ns1,p1,S1,a1⟩:=hs _ _ _ _ _ _ _ _ _ S r2 q
   refine⟨ae1,ns1,?_,S1,a1⟩
   unfold gT;dsimp only;rw[if_pos (by rw[r2.len];exact hn)];exact p1
  ·cases q
 ·cases q
def G1(hg:RG g g3):RG (λd ae h=>noX (g d ae h)) g3:=λX h0 ns e ae h d v e' S r q=>by
 obtain⟨ae1,ns1,p1,S1,a1⟩:=hg _ _ _ _ _ _ _ _ _ S r q
 exact⟨ae1,ns1,by dsimp only;rw[p1];rfl,S1,a1⟩
def EJ(hF:RE F F3)(hg:RG g g3):RS (iz F g) (Cp F3 g3):=λX h0 ns e ae h S=>PoS.toS (hF X h0 0 ns e ae h S (OO _)) λd t h1 ns1 e1 a1 S1 r1=>by
 try dsimp only
 split
 ·rename_i e2 v q
  obtain⟨gl,S2,a2,r2⟩:=gJ S1 r1 q
  split
  ·rename_i e3 q3
   obtain⟨ae3,ns3,p3,S3,a3⟩:=hg _ _ _ _ _ _ _ _ _ S2 r2 q3
   rw[p3]
   exact .nx ((a1.trans S a2).trans S a3) S3
  ·trivial
 ·trivial
def Ip(i j:Nat)(hA:RA A A3):RS (Cj i j A) (wPar i j A3):=λX h0 ns e ae h S=>PoS.toS (hA X h0 ns e ae h S) λds ts h1 ns1 e1 a1 S1 r1=>by
 try dsimp only
 cases q:dem e1 ts with
 |none=>trivial
 |
  some w=>
  obtain⟨e2,vs⟩:=w
  obtain⟨gl,S2,a2,r2⟩:=ke S1 r1 q
  match vs,ds,r2 with
  | [],_,_=>trivial
  | [_],_,_=>trivial
  |_::_::_::_,_,_=>trivial
  |
   [v,u],[d,d'],r2=>
   dsimp only
   split
   ·rename_i e3 q3
    obtain⟨e4,q4,q5⟩:=OP.mp q3
    cases r2 with
    |
     cons r rr=>
     cases rr with
     |
      cons r' rr=>
      obtain⟨ae3,ns3,p3,S3,a3⟩:=ue i _ _ _ _ _ _ _ _ _ S2 r q4
      obtain⟨ae4,ns4,p4,S4,a4⟩:=ue j _ _ _ _ _ _ _ _ _ S3 (r'.mono (a3.mov S2)) q5
      have z3:ae3=ae.set i (some d):=by have:=p3;unfold gN at this;cases this;rfl
      have z4:ae4=ae3.set j (some d'):=by have:=p4;unfold gN at this;cases this;rfl
      subst z4 z3
      exact .nx (((a1.trans S a2).trans S a3).trans S a4) S4
   ·trivial
def Fu(i:Nat)(hg:RO gg gg3)(hF:RE F F3):RS (tf i gg F) (Aj i gg3 F3):=λX h0 ns e ae h S=>by
 unfold Aj
 split
 ·rename_i x q0
  obtain⟨_,dx,e1,r0⟩:=S.sl i _ q0
  unfold tf
  rw[e1]
  refine PoS.toS (hF X h0 0 ns e ae h S (OO _)) λd t h1 ns1 e1 a1 S1 r1=>?_
  try dsimp only
  split
  ·rename_i y q1
   have b:=hg _ _ _ _ _ _ (.inl (r0.mono (a1.mov S))) (r1.sh S1 q1)
   split
   ·rename_i z q2
    rw[q2] at b
    obtain⟨dz,p1,r2⟩:=b
    split
    ·rename_i e2 q3
     rw[p1]
     obtain⟨ae3,ns3,p3,S3,a3⟩:=ue i _ _ _ _ _ _ _ _ _ S1 r2 q3
     have z3:ae3=ae.set i (some dz):=by have:=p3;unfold gN at this;cases this;rfl
     subst z3
     exact .nx (a1.trans S a3) S3
    ·trivial
   ·trivial
  ·trivial
 ·trivial
def TsR.len(r:TsR X ns ae h ds ts):ds.length=ts.length:=by
 induction r with
 |nil=>rfl
 |val _ _ ih=>rw[Oq,Oq,ih]
 |bor _ _ ih=>rw[Oq,Oq,ih]
def Cc(x:Str)(hA:RA A A3):RS (uf x A) (zG x A3):=λX h0 ns e ae h S=>PoS.toS (hA X h0 ns e ae h S) λds ts h1 ns1 e1 a1 S1 r1=>by
 try dsimp only
 by_cases hl:ts.length<=16777216
 ·rw[if_pos hl,if_pos (by rw[TsR.len r1];exact hl)]
  exact⟨ae,h1,ns1,rfl,a1,S1⟩
 ·rw[if_neg hl];trivial
end
def Sl.re(s:Sl)(u:Val):Sl:=match s with
 |.ow _=>.ow u
 |.mu _=>.mu u
 |s=>s
def Sl.mv:Sl->Option Val
 |.ow v=>some v
 |.mu v=>some v
 |_=>none
section
variable{X:Nat->Prop}{h0 L:Nat}{ns ns1 ns':Ns}{e e1 e':E3}{ae:AE}{h h1 h':AH}
def Sat.write(S:Sat X h0 ns e ae h)(q:e[i]?=some s)(hm:s.mv=some u):∃n o,ae[i]?=some (some (.ref n))/\h[n]?=some o/\cF o/\Rc (Oc X ns) h o u/\
 ∀o' u',cF o'->Rc (Oc X ns) h o' u'->Mov (Oc X ns) (Oc X ns) h (h.set n o')/\Sat X h0 ns (e.set i (s.re u')) ae (h.set n o')/\Stp ns e h ns (e.set i (s.re u')) (h.set n o'):=by
 have hi:=(Oe.mp q).1
 have key:∃n o,ns[i]?=some (some n)/\ae[i]?=some (some (.ref n))/\h[n]?=some o/\cF o/\Rc (Oc X ns) h o u/\s.mt=true/\(∀o' u',cF o'->Rc (Oc X ns) (h.set n o') o' u'->SlR (Oc X ns) h0 (some (some n)) (some (some (.ref n))) (h.set n o') (s.re u')):=by
  have y:=S.sl i s q
  cases s with
  |ow v=>cases hm;obtain⟨n,o,q1,q2,q3,q4,q5,q6⟩:=y;exact⟨n,o,q1,q2,q4,q5,q6,rfl,λo' u' hf r=>⟨n,o',rfl,rfl,q3,bU (bZ q4),hf,r⟩⟩
  |mu v=>cases hm;obtain⟨n,o,q1,q2,q4,q5,q6⟩:=y;exact⟨n,o,q1,q2,q4,q5,q6,rfl,λo' u' hf r=>⟨n,o',rfl,rfl,bU (bZ q4),hf,r⟩⟩
  |_=>cases hm
 obtain⟨n,o,k1,k2,k3,k4,k5,k6,k7⟩:=key
 refine⟨n,o,k2,k3,k4,k5,λo' u' hf r=>?_⟩
 have mv:Mov (Oc X ns) (Oc X ns) h (h.set n o'):=λm ob p q'=>⟨p,by
  have:m≠n:=λz=>p.2 (bp.mpr ⟨i,by rw[z];exact k1⟩)
  rw[bF this];exact q'⟩
 refine⟨mv,⟨by rw[Oz];exact S.l1,by rw[Oz];exact S.l2,by rw[Oz];exact S.lh,λm z=>by rw[Oz];exact S.xl m z,S.inj,S.nx,λj s' qj=>?_⟩,?_⟩
 ·rcases bS hi qj with ⟨rfl,rfl⟩ |⟨z,qj'⟩
  ·rw[k1,k2];exact k7 o' u' hf (r.mono mv)
  ·refine (S.sl j s' qj').mono mv λm ob qm qo=>?_
   have:m≠n:=λy=>by subst y;exact z (S.inj j i m qm k1)
   rw[bF this];exact qo
 ·refine⟨by rw[Oz];exact Og _,λm ob qm hM=>?_,λ_ _ q=>.inl q,λj s' qj hl=>?_,λj s' qj hl=>?_,λj v qj=>?_,λj v qj=>?_⟩
  ·have:m≠n:=λy=>by subst y;exact hM ⟨i,s,k1,q,k6⟩
   rw[bF this];exact qm
  ·have z:j≠i:=λz=>by subst z;rw[q] at qj;cases qj;cases s <;> first |cases hl;done |cases k6;done
   rw[bF z];exact⟨qj,rfl⟩
  ·rcases bS hi qj with ⟨_,y⟩ |⟨z,qj'⟩
   ·subst y;cases s <;> first |cases hl;done |cases k6;done
   ·exact⟨qj',rfl⟩
  ·rcases bS hi qj with ⟨rfl,y⟩ |⟨z,qj'⟩
   ·cases s with
    |mu w=>exact⟨w,q,rfl⟩
    |ow w=>cases y
    |_=>cases k6
   ·exact⟨v,qj',rfl⟩
  ·by_cases z:j=i
   ·subst z;rw[q] at qj;cases qj;exact⟨u',bU hi,rfl⟩
   ·exact⟨v,by rw[bF z];exact qj,rfl⟩
end
def v7(w2:D->D->D->AH->R Unit)(w3:Val->Val->Val->Option Val):Prop:=∀P h n o u di vi d v u',¬ P n->h[n]?=some o->cF o->Rc P h o u->ShR P h di vi->Rd P h d v->w3 u vi v=some u'->∃o',w2 (.ref n) di d h=.ok () (h.set n o')/\cF o'/\Rc P h o' u'
def wSet(i:Nat)(G:ME3)(F:ME3)(w:Val->Val->Val->Option Val):MS3:=λe=>(F e).toS λt e1=>match (e1[i]?).bind Sl.mv with
 |none=>.stuck
 |some _=>(G e1).toS λt2 e2=>match rs e2 t2 with
  |none=>.stuck
  |some vi=>match cW e2 t.drop with
   |none=>.stuck
   |some (e3,v)=>match e3[i]? with
    |none=>.stuck
    |some s=>match s.mv with
     |none=>.stuck
     |some u=>match w u vi v with
      |some u'=>.nx (e3.set i (s.re u'))
      |none=>.stuck
def RM(m2:D->List D->AH->R D)(m3:Val->List Val->Option (Val×Val)):Prop:=∀P h n o u ds vs u' v,h[n]?=some o->cF o->Rc P h o u->Rds P h ds vs->m3 u vs=some (u',v)->kH h (.ref n)=true/\∃o' d,m2 (.ref n) ds h=.ok d (h.set n o')/\cF o'/\Rc P h o' u'/\Rd P h d v
def kO:Val->Bool
 |.lst _=>true
 |_=>false
def nq(i:Nat)(m:Val->List Val->Option (Val×Val))(A:MA3):ME3:=λe=>match e[i]? with
 |some s=>if (s.mv.map kO)=some true then (A e).bind λts e1=>match dem e1 ts with
  |some (e2,vs)=>match e2[i]? with
   |some s2=>match s2.mv with
    |some u=>match m u vs with
     |some (u',v)=>.ok (.val v) (e2.set i (s2.re u'))
     |none=>.stuck
    |none=>.stuck
   |none=>.stuck
  |none=>.stuck else .stuck
 |none=>.stuck
section
variable{F G:ME}{F3 G3:ME3}{A:MA}{A3:MA3}
def Ee{X:Nat->Prop}{h0:Nat}{ns:Ns}{e:E3}{ae:AE}{h:AH}(S:Sat X h0 ns e ae h){i:Nat}{u:Val}(q:(e[i]?).bind Sl.mv=some u):∃n o,ae[i]?=some (some (.ref n))/\h[n]?=some o/\cF o/\Rc (Oc X ns) h o u:=by
 obtain⟨s,q1,q2⟩:=OP.mp q
 obtain⟨n,o,k1,k2,k3,k4,_⟩:=S.write q1 q2
 exact⟨n,o,k1,k2,k3,k4⟩
def HY(i:Nat)(hw:v7 w2 w3)(hG:RE G G3)(hF:RE F F3):RS (iz F (gS (a9 i) G w2)) (wSet i G3 F3 w3):=λX h0 ns e ae h S=>PoS.toS (hF X h0 0 ns e ae h S (OO _)) λd t h1 ns1 e1 a1 S1 r1=>by
 try dsimp only
 cases qm:(e1[i]?).bind Sl.mv with
 |none=>trivial
 |
  some u0=>
  obtain⟨n0,o0,b1,b2,b3,b4⟩:=Ee S1 qm
  have L2e:∀h',(gS (a9 i) G w2 d ae h').toS ae (λbe h2=>SR.nx be h2)=(G ae h').toS ae λdi h2=>(w2 (.ref n0) di d h2).toS ae λ_ h3=>.nx ae h3:=λh'=>by
   unfold gS a9
   rw[b1]
   simp only[gF]
   cases G ae h' with
   |
    ok di h2=>
    simp only[gF]
    show _=(w2 (.ref n0) di d h2).toS ae λ_ h3=>.nx ae h3
    cases w2 (.ref n0) di d h2 <;> rfl
   |exc c h2=>rfl
   |stuck=>rfl
  rw[L2e]
  refine PoS.after S a1 (PoS.toS (hG X h0 0 ns1 e1 ae h1 S1 (OO _)) λdi t2 h2 gl e2 a2 S2 r2=>?_)
  try dsimp only
  cases qi:rs e2 t2 with
  |none=>trivial
  |
   some vi=>
   try dsimp only
   cases qd:cW e2 t.drop with
   |none=>trivial
   |
    some w=>
    obtain⟨e3,v⟩:=w
    try dsimp only
    obtain⟨r1',hn⟩:=r1.drop
    have r3:=r1'.stp S1 a2 hn
    have si:=r2.sh S2 qi
    obtain⟨ns3,S3,a3,r4⟩:=gJ S2 r3 qd
    have si3:ShR (Oc X ns3) h2 di vi:=by
     rcases si with z |⟨n,o,z1,z2,z3⟩
     ·exact .inl (z.mono (a3.mov S2))
     ·exact .inr ⟨n,o,z1,z2,z3.mono (a3.mov S2)⟩
    cases q3:e3[i]? with
    |none=>trivial
    |
     some s=>
     try dsimp only
     cases q4:s.mv with
     |none=>trivial
     |
      some u=>
      try dsimp only
      cases q5:w3 u vi v with
      |none=>trivial
      |
       some u'=>
       obtain⟨n,o,k1,k2,k3,k4,k5⟩:=S3.write q3 q4
       rw[b1] at k1;cases k1
       have nP:¬ Oc X ns3 n0:=λp=>by
        have z1:=((k5 (.lst []) (.lst []) trivial (.lst .nil)).1 _ _ p k2).2
        have z2:=((k5 (.lst [.non]) (.lst [.non]) trivial (.lst (.cons .non .nil))).1 _ _ p k2).2
        rw[bU (bZ k2)] at z1 z2
        rw[<- z2] at z1
        cases z1
       obtain⟨o',p1,p2,p3⟩:=hw _ _ _ _ _ _ _ _ _ _ nP k2 k3 k4 si3 r4 q5
       obtain⟨mv,S4,a4⟩:=k5 o' u' p2 p3
       rw[p1]
       exact .nx ((a2.trans S1 a3).trans S1 a4) S4
def yN(i:Nat)(hm:RM m2 m3)(hA:RA A A3):RE (eM m2 (a9 i) A) (nq i m3 A3):=λX h0 L ns e ae h S hl=>by
 unfold nq
 cases q0:e[i]? with
 |none=>trivial
 |
  some s0=>
  dsimp only
  split
  ·rename_i hz
   obtain⟨u0,z1,z2⟩:=OJ.mp hz
   obtain⟨n0,o0,b1,b2,b3,b4,_⟩:=S.write q0 z1
   have hL:kH h (.ref n0)=true:=by
    cases u0 with
    |lst xs=>obtain⟨ds,_,e1,_⟩:=Rc.seq b2 b4;show (bj h n0).isSome=true;rw[e1];rfl
    |_=>cases z2
   have L2e:eM m2 (a9 i) A ae h=(A ae h).bind λds h2=>m2 (.ref n0) ds h2:=by
    unfold eM a9
    rw[b1]
    simp only[gF,hL,Pl]
   rw[L2e]
   refine Po.bind S (hA X h0 ns e ae h S) λds ts h1 ns1 e1 a1 S1 r1=>?_
   try dsimp only
   cases q1:dem e1 ts with
   |none=>trivial
   |
    some w=>
    obtain⟨e2,vs⟩:=w
    try dsimp only
    obtain⟨gl,S2,a2,r2⟩:=ke S1 r1 q1
    cases q2:e2[i]? with
    |none=>trivial
    |
     some s2=>
     try dsimp only
     cases q3:s2.mv with
     |none=>trivial
     |
      some u=>
      try dsimp only
      cases q4:m3 u vs with
      |none=>trivial
      |
       some w=>
       obtain⟨u',v⟩:=w
       obtain⟨n,o,k1,k2,k3,k4,k5⟩:=S2.write q2 q3
       rw[b1] at k1;cases k1
       obtain⟨_,o',d,p1,p2,p3,p4⟩:=hm _ _ _ _ _ _ _ _ _ k2 k3 k4 r2 q4
       obtain⟨mv,S4,a4⟩:=k5 o' u' p2 p3
       exact⟨d,_,gl,p1,a2.trans S1 a4,S4,p4.mono mv⟩
  ·trivial
def EN(i:Nat)(hm:RM m2 m3):RE (eM0 m2 (a9 i)) (nq i m3 o1):=by
 have:=yN i hm yD
 intro X h0 L ns e ae h S hl
 have p:=this X h0 L ns e ae h S hl
 have e1:eM m2 (a9 i) fD ae h=eM0 m2 (a9 i) ae h:=by
  unfold eM eM0 fD
  rfl
 rw[e1] at p
 exact p
end
end L3
namespace L3
open PySem PySem.Spec PyProof.Rows L2
def km:Sl->Sl
 |.ow v=>.lo v
 |.mu v=>.lm v
 |s=>s
def md:Sl->Sl
 |.lo v=>.ow v
 |.lm v=>.mu v
 |s=>s
def lock(e:E3)(k:Nat):E3:=match e[k]? with
 |some s=>e.set k (km s)
 |none=>e
def unlock(e:E3)(k:Nat):E3:=match e[k]? with
 |some s=>e.set k (md s)
 |none=>e
def lockO(e:E3):Option Nat->E3
 |some k=>lock e k
 |none=>e
def fR(e:E3):Option Nat->E3
 |some k=>unlock e k
 |none=>e
section
variable{X:Nat->Prop}{h0 L:Nat}{ns ns1 ns':Ns}{e e1 e':E3}{ae be:AE}{h h1 h':AH}
def SlR.lock(r:SlR P h0 n d h s):SlR P h0 n d h (km s):=by cases s <;> exact r
def SlR.unlock(r:SlR P h0 n d h s):SlR P h0 n d h (md s):=by cases s <;> exact r
def Sat.lock(S:Sat X h0 ns e ae h)(k:Nat):Sat X h0 ns (lock e k) ae h:=by
 unfold L3.lock
 split
 ·rename_i s q
  have hi:=(Oe.mp q).1
  refine⟨by rw[Oz];exact S.l1,by rw[Oz];exact S.l2,S.lh,S.xl,S.inj,S.nx,λj s' qj=>?_⟩
  rcases bS hi qj with ⟨rfl,rfl⟩ |⟨z,qj'⟩
  ·exact (S.sl j s q).lock
  ·exact S.sl j s' qj'
 ·exact S
def Sat.unlock(S:Sat X h0 ns e ae h)(k:Nat):Sat X h0 ns (unlock e k) ae h:=by
 unfold L3.unlock
 split
 ·rename_i s q
  have hi:=(Oe.mp q).1
  refine⟨by rw[Oz];exact S.l1,by rw[Oz];exact S.l2,S.lh,S.xl,S.inj,S.nx,λj s' qj=>?_⟩
  rcases bS hi qj with ⟨rfl,rfl⟩ |⟨z,qj'⟩
  ·exact (S.sl j s q).unlock
  ·exact S.sl j s' qj'
 ·exact S
def kg(z:j≠k):(lock e k)[j]?=e[j]?:=by
 unfold lock;split
 ·rw[bF z]
 ·rfl
def hZ(z:j≠k):(unlock e k)[j]?=e[j]?:=by
 unfold unlock;split
 ·rw[bF z]
 ·rfl
def pb(q:e[k]?=some s):(lock e k)[k]?=some (km s):=by
 unfold lock;rw[q];exact bU (Oe.mp q).1
def jw(q:e[k]?=some s):(unlock e k)[k]?=some (md s):=by
 unfold unlock;rw[q];exact bU (Oe.mp q).1
def Stp.unlock(q:e[k]?=some s)(hs:s.mt=true)(a:Stp ns (L3.lock e k) h ns' e' h'):Stp ns e h ns' (L3.unlock e' k) h':=by
 have hl:(km s).lk=true:=by cases s <;> first |rfl |cases hs
 have hu:md (km s)=s:=by cases s <;> first |rfl |cases hs
 obtain⟨qk,nk⟩:=a.lk k _ (pb q) hl
 refine⟨a.len,λm o qm hM=>a.keep m o qm λ⟨j,s',z1,z2,z3⟩=>hM ?_,a.nw,λj s' qj hj=>?_,λj s' qj hj=>?_,λj v qj=>?_,λj v qj=>?_⟩
 ·by_cases z:j=k
  ·subst z;exact⟨j,s,z1,q,hs⟩
  ·rw[kg z] at z2;exact⟨j,s',z1,z2,z3⟩
 ·have z:j≠k:=λz=>by subst z;rw[q] at qj;cases qj;cases s <;> first |cases hs;done |cases hj;done
  rw[hZ z]
  exact a.lk j s' (by rw[kg z];exact qj) hj
 ·have z:j≠k:=λz=>by
   subst z
   rw[jw qk,hu] at qj;cases qj;cases s <;> first |cases hs;done |cases hj;done
  rw[hZ z] at qj
  obtain⟨y1,y2⟩:=a.lk' j s' qj hj
  rw[kg z] at y1
  exact⟨y1,y2⟩
 ·by_cases z:j=k
  ·subst z;rw[jw qk,hu] at qj;cases qj;exact⟨v,q,nk⟩
  ·rw[hZ z] at qj
   obtain⟨u,y1,y2⟩:=a.mu j v qj
   rw[kg z] at y1
   exact⟨u,y1,y2⟩
 ·by_cases z:j=k
  ·subst z;rw[q] at qj;cases qj;exact⟨v,by rw[jw qk,hu],nk⟩
  ·obtain⟨u,y1,y2⟩:=a.mu' j v (by rw[kg z];exact qj)
   exact⟨u,by rw[hZ z];exact y1,y2⟩
end
abbrev MI3:=E3->R3 (List Val×Option Nat)
def Stay(X:Nat->Prop)(ns:Ns)(k:Option Nat)(h h':AH):Prop:=∀(m:Nat) (o:Ob),h[m]?=some o->(Oc X ns m\/∃j:Nat,k=some j/\ns[j]?=some (some m))->h'[m]?=some o
def uc(X:Nat->Prop)(ns:Ns)(e:E3)(h:AH)(it:AIt)(p:List Val×Option Nat):Prop:=
 Rds (Oc X ns) h it.items p.1/\(∀h',Stay X ns p.2 h h'->it.guard h')/\∀k:Nat,p.2=some k->∃s,e[k]?=some s/\s.mt=true
def RI(I:MI)(J:MI3):Prop:=∀X h0 ns e ae h,Sat X h0 ns e ae h->Po X h0 ns e ae h (uc X) (I ae h) (J e)
def jA:Val->Option (List Val)
 |.tup xs=>some xs
 |.lst xs=>some xs
 |_=>none
def gA(t:Tm)(e:E3):Option (List Val×Option Nat):=match t with
 |.val v=>(jA v).map λxs=>(xs,none)
 |.new v=>(jA v).map λxs=>(xs,none)
 |.bor k=>match e[k]? with
  |some (.sh v)=>(jA v).map λxs=>(xs,none)
  |some (.ow (.lst xs))=>some (xs,some k)
  |some (.mu (.lst xs))=>some (xs,some k)
  |_=>none
def CG(F:ME3):MI3:=λe=>(F e).bind λt e1=>match gA t e1 with
 |some p=>.ok p e1
 |none=>.stuck
def CC(A:MA3):MI3:=λe=>(A e).bind λts e1=>match ts with
 | [t,u]=>(match gA t e1,gA u e1 with
  |some (xs,k),some (ys,none)=>.ok (List.zipWith (λx y=>.tup [x,y]) xs ys,k) e1
  |_,_=>.stuck)
 |_=>.stuck
def xG(lo:Int)(k:Nat):List Val:=(List.range k).map λi=>Val.int (lo+(i:Nat))
structure RgB(j:Int):Prop where
 lo:-(2^62)<=j
 hi:j<2^62
def iA:List Val->Option (List Val)
 | [.int j]=>@ite _ (RgB j) (Classical.propDecidable _) (some (xG 0 j.toNat)) none
 |_=>none
def AL(f:List Val->Option (List Val))(A:MA3):MI3:=λe=>(A e).bind λts e1=>match (rss e1 ts).bind f with
 |some xs=>.ok (xs,none) e1
 |none=>.stuck
section
variable{F:ME}{F3:ME3}{A:MA}{A3:MA3}
def vV(S:Sat X h0 ns e ae h)(r:Rd (Oc X ns) h d v)(q:jA v=some xs):∃it,iF d h=some it/\uc X ns e h it (xs,none):=by
 cases v with
 |
  tup ys=>
  cases q
  obtain⟨ds,rfl,r2⟩:=ShR.tup (.inl r)
  exact⟨_,rfl,r2,λ_ _=>trivial,λ_ z=>nomatch z⟩
 |
  lst ys=>
  cases q
  cases r with
  |
   cell p eo rc=>
   rename_i n o
   obtain⟨ds,_,e1,r1⟩:=Rc.seq eo rc
   refine⟨.lst n ds,by unfold iF;dsimp only;rw[e1];rfl,r1,λh' st=>?_,λ_ z=>nomatch z⟩
   show bj h' n=some ds
   have:=st n o eo (.inl p)
   unfold bj at e1 ⊢
   rw[eo] at e1
   rw[this];exact e1
 |_=>cases q
def uj(S:Sat X h0 ns e ae h)(r:relE X h0 L ae ns e h d t)(q:gA t e=some p):∃it,iF d h=some it/\uc X ns e h it p:=by
 cases t with
 |val v=>obtain⟨xs,q1,rfl⟩:=OJ.mp q;exact vV S r q1
 |new v=>obtain⟨xs,q1,rfl⟩:=OJ.mp q;exact vV S r.new q1
 |
  bor k=>
  have r':ae[k]?=some (some d):=r
  have own:∀{s xs},e[k]?=some s->s.mv=some (.lst xs)->∃it,iF d h=some it/\uc X ns e h it (xs,some k):=λ{s xs} q qm=>by
   have hns:∃n,ns[k]?=some (some n)/\ae[k]?=some (some (.ref n)):=by
    have y:=S.sl k s q
    cases s with
    |ow v=>obtain⟨n,o,y1,y2,_⟩:=y;exact⟨n,y1,y2⟩
    |mu v=>obtain⟨n,o,y1,y2,_⟩:=y;exact⟨n,y1,y2⟩
    |_=>cases qm
   obtain⟨n,y1,y2⟩:=hns
   obtain⟨n',o,k1,k2,k3,k4,_⟩:=S.write q qm
   rw[y2] at k1;cases k1
   rw[r'] at y2;cases y2
   obtain⟨ds,_,e2,r2⟩:=Rc.seq k2 k4
   refine⟨.lst n ds,by unfold iF;dsimp only;rw[e2];rfl,r2,λh' st=>?_,λj z=>?_⟩
   ·show bj h' n=some ds
    have:=st n o k2 (.inr ⟨k,rfl,y1⟩)
    unfold bj at e2 ⊢
    rw[k2] at e2
    rw[this];exact e2
   ·cases z;exact⟨s,q,by cases s <;> first |rfl |cases qm⟩
  unfold gA at q
  dsimp only at q
  split at q
  ·rename_i v qs
   obtain⟨_,x,e2,r2⟩:=S.sl k _ qs
   rw[r'] at e2;cases e2
   obtain⟨xs,q1,rfl⟩:=OJ.mp q
   exact vV S r2 q1
  ·rename_i xs qs;cases q;exact own qs rfl
  ·rename_i xs qs;cases q;exact own qs rfl
  ·cases q
def Bz(d:D)(h:AH):R AIt:=match d with
 |.tup xs=>.ok (.tup xs) h
 |.ref n=>match bj h n with
  |some xs=>.ok (.lst n xs) h
  |none=>.stuck
 |_=>.stuck
def DU(q:iF d h=some it):Bz d h=.ok it h:=by
 cases d with
 |tup xs=>cases q;rfl
 |
  ref n=>
  obtain⟨xs,y1,rfl⟩:=OJ.mp (show (bj h n).map (AIt.lst n)=some it from q)
  unfold Bz;dsimp only;rw[y1]
 |_=>cases q
def FU(hF:RE F F3):RI (AB F) (CG F3):=λX h0 ns e ae h S=>
 Po.bind S (hF X h0 0 ns e ae h S (OO _)) λd t h1 ns1 e1 a1 S1 r1=>by
  show Po X h0 ns1 e1 ae h1 (uc X) (Bz d h1) _
  cases q:gA t e1 with
  |none=>trivial
  |
   some p=>
   dsimp only
   obtain⟨it,q1,q2⟩:=uj S1 r1 q
   exact⟨it,h1,ns1,DU q1,.refl,S1,q2⟩
def E6(r:Rds P h ds vs)(q:Rds P h es us):Rds P h (List.zipWith (λx y=>D.tup [x,y]) ds es) (List.zipWith (λx y=>Val.tup [x,y]) vs us):=
 r.ind (M:=λds vs=>∀{es:List D}{us:List Val},Rds P h es us->Rds P h (List.zipWith (λx y=>D.tup [x,y]) ds es) (List.zipWith (λx y=>Val.tup [x,y]) vs us)) (λ_=>.nil) (λr _ ih _ _ q=>by
  cases q with
  |nil=>exact .nil
  |cons q qq=>exact .cons (.tup (.cons r (.cons q .nil))) (ih qq)) q
def tsr1(r:TsR X ns ae h ds [t]):∃d,ds=[d]/\relE X h0 0 ae ns e h d t:=by
 cases r with
 |val r rr=>cases rr;exact⟨_,rfl,r⟩
 |bor r rr=>cases rr;exact⟨_,rfl,r⟩
def tsr2(r:TsR X ns ae h ds [t,u]):∃d d',ds=[d,d']/\relE X h0 0 ae ns e h d t/\relE X h0 0 ae ns e h d' u:=by
 cases r with
 |val r rr=>obtain⟨d',rfl,r'⟩:=tsr1 (h0:=h0) (e:=e) rr;exact⟨_,_,rfl,r,r'⟩
 |bor r rr=>obtain⟨d',rfl,r'⟩:=tsr1 (h0:=h0) (e:=e) rr;exact⟨_,_,rfl,r,r'⟩
def Fz(hA:RA A A3):RI (BK A) (CC A3):=λX h0 ns e ae h S=>
 Po.bind
  S (hA X h0 ns e ae h S) λds ts h1 ns1 e1 a1 S1 r1=>by
  match ts,r1 with
  | [],_=>trivial
  | [_],_=>trivial
  |_::_::_::_,_=>trivial
  |
   [t,u],r1=>
   obtain⟨d,d',rfl,r2,r3⟩:=tsr2 (h0:=h0) (e:=e1) r1
   dsimp only
   cases q:gA t e1 with
   |none=>trivial
   |
    some p=>
    obtain⟨xs,k⟩:=p
    cases q':gA u e1 with
    |none=>trivial
    |
     some p'=>
     obtain⟨ys,k'⟩:=p'
     cases k' with
     |some _=>trivial
     |
      none=>
      obtain⟨it,q1,q2,q3,q4⟩:=uj S1 r2 q
      obtain⟨it',q1',q2',q3',q4'⟩:=uj S1 r3 q'
      rw[q1,q1']
      exact⟨.zip it it',h1,ns1,rfl,.refl,S1,E6 q2 q2',λh' st=>⟨q3 h' st,q3' h' λm o hm hc=>st m o hm (hc.elim .inl λ⟨_,z,_⟩=>nomatch z)⟩,q4⟩
def EO(lo:Int)(k:Nat):Rds P h (AIt.rng lo k).items (xG lo k):=by
 show Rds P h ((List.range k).map λi=>D.int (lo+(i:Nat))) ((List.range k).map λi=>Val.int (lo+(i:Nat)))
 generalize List.range k=l
 induction l with
 |nil=>exact .nil
 |cons i l ih=>exact .cons (.int _) ih
def gQ(r:ShRs P h ds [v]):∃d,ds=[d]/\ShR P h d v:=by
 cases r with |cons r rr=>cases rr;exact⟨_,rfl,r⟩
def v5(r:ShRs P h ds [v,u]):∃d d',ds=[d,d']/\ShR P h d v/\ShR P h d' u:=by
 cases r with |cons r rr=>cases rr with |cons r' rr=>cases rr;exact⟨_,_,rfl,r,r'⟩
def Ly(hf:∀P h ds vs xs,ShRs P h ds vs->f3 vs=some xs->∃lo k,f2 ds h=.ok (.rng lo k) h/\xs=xG lo k)(hA:RA A A3):RI (λae h=>(A ae h).bind f2) (AL f3 A3):=λX h0 ns e ae h S=>
 Po.bind S (hA X h0 ns e ae h S) λds ts h1 ns1 e1 a1 S1 r1=>by
  try dsimp only
  split
  ·rename_i xs q
   obtain⟨vs,q1,q2⟩:=OP.mp q
   obtain⟨lo,k,p1,rfl⟩:=hf _ _ _ _ _ (TsR.sh S1 r1 q1) q2
   rw[p1]
   exact Po.ret S1 ⟨EO _ _,λ_ _=>trivial,λ_ z=>nomatch z⟩
  ·trivial
def Fl(hA:RA A A3):RI (Aq A) (AL iA A3):=Ly (f2:=λds h1=>match ds with
 | [.int j]=>if -(2^62)<=j/\j<2^62 then .ok (.rng 0 j.toNat) h1 else .stuck
 |
  _=>.stuck) (λP h ds vs xs r q=>by
  unfold iA at q
  split at q
  ·split at q
   ·rename_i hb
    cases q
    obtain⟨d,rfl,r2⟩:=gQ r
    obtain rfl:=r2.int
    exact⟨_,_,by dsimp only;rw[if_pos ⟨hb.lo,hb.hi⟩],rfl⟩
   ·cases q
  ·cases q) hA
end
def SR3.loop(r:SR3)(f:E3->SR3):SR3:=match r with
 |.nx e=>f e
 |.ct e=>f e
 |.bk e=>.nx e
 |.rt d e=>.rt d e
 |.exc c e=>.exc c e
 |.stuck=>.stuck
def ff(g:MG3)(B:MS3):List Val->MS3
 | [],e=>.nx e
 |v::vs,e=>match g v e with
  |some e1=>(B e1).loop (ff g B vs)
  |none=>.stuck
def SR3.unl(k:Option Nat)(r:SR3):SR3:=match r with
 |.nx e=>.nx (fR e k)
 |.ct e=>.ct (fR e k)
 |.bk e=>.bk (fR e k)
 |.rt d e=>.rt d (fR e k)
 |.exc c e=>.exc c (fR e k)
 |.stuck=>.stuck
def wFor(I:MI3)(g:MG3)(B:MS3):MS3:=λe=>(I e).toS λp e1=>(ff g B p.1 (lockO e1 p.2)).unl p.2
section
variable{I:MI}{I3:MI3}{g:MG}{g3:MG3}{B:MS}{B3:MS3}{c:MT}{c3:MT3}{F:ME}{F3:ME3}
def PoS.loop{X:Nat->Prop}{h0:Nat}{ns:Ns}{e:E3}{ae:AE}{h:AH}{r2:SR}{r3:SR3}{f2:AE->AH->SR}{f3:E3->SR3}(p:PoS X h0 ns e h r2 r3)
 (k:∀be h' ns' e',Stp ns e h ns' e' h'->Sat X h0 ns' e' be h'->PoS X h0 ns e h (f2 be h') (f3 e')):PoS X h0 ns e h (r2.loop f2) (r3.loop f3):=by
 cases r3 with
 |stuck=>trivial
 |nx e'=>obtain⟨be,h',ns',q,q1,q2⟩:=p;rw[q];exact k be h' ns' e' q1 q2
 |ct e'=>obtain⟨be,h',ns',q,q1,q2⟩:=p;rw[q];exact k be h' ns' e' q1 q2
 |bk e'=>obtain⟨be,h',ns',q,q1,q2⟩:=p;rw[q];exact⟨be,h',ns',rfl,q1,q2⟩
 |exc c e'=>obtain⟨be,h',ns',q,q1,q2⟩:=p;rw[q];exact⟨be,h',ns',rfl,q1,q2⟩
 |rt r e'=>obtain⟨d,be,h',ns',q,q1,q2⟩:=p;rw[q];exact⟨d,be,h',ns',rfl,q1,q2⟩
def DJ(S:Sat X h0 ns e ae h)(hk:∀j:Nat,k=some j->∃s,e[j]?=some s/\s.mt=true)(a:Stp ns (lockO e k) h ns' e' h'):Stay X ns k h h':=λm o q hm=>by
 refine a.keep m o q λ⟨i,s,z1,z2,z3⟩=>?_
 rcases hm with hm |⟨j,rfl,hj⟩
 ·exact hm.2 (bp.mpr ⟨i,z1⟩)
 ·have:i=j:=S.inj i j m z1 hj
  subst this
  obtain⟨s',y1,y2⟩:=hk i rfl
  have:(lockO e (some i))[i]?=some (km s'):=pb y1
  rw[this] at z2;cases z2
  cases s' <;> first |cases y2;done |cases z3;done
def PoS.unl(hk:∀j:Nat,k=some j->∃s,e[j]?=some s/\s.mt=true)(p:PoS X h0 ns (lockO e k) h r2 r3):PoS X h0 ns e h r2 (r3.unl k):=by
 cases k with
 |none=>cases r3 <;> exact p
 |
  some j=>
  obtain⟨s,y1,y2⟩:=hk j rfl
  cases r3 with
  |stuck=>trivial
  |nx e'=>obtain⟨be,h',ns',q,q1,q2⟩:=p;exact⟨be,h',ns',q,q1.unlock y1 y2,q2.unlock j⟩
  |ct e'=>obtain⟨be,h',ns',q,q1,q2⟩:=p;exact⟨be,h',ns',q,q1.unlock y1 y2,q2.unlock j⟩
  |bk e'=>obtain⟨be,h',ns',q,q1,q2⟩:=p;exact⟨be,h',ns',q,q1.unlock y1 y2,q2.unlock j⟩
  |exc c e'=>obtain⟨be,h',ns',q,q1,q2⟩:=p;exact⟨be,h',ns',q,q1.unlock y1 y2,q2.unlock j⟩
  |
   rt r e'=>
   obtain⟨d,be,h',ns',q,q1,q2⟩:=p
   refine⟨d,be,h',ns',q,q1.unlock y1 y2,?_⟩
   cases r with
   |val v=>exact⟨q2.1.unlock j,q2.2⟩
   |new v=>obtain⟨n,o,z1,z2,z3,z4,z5,z6,z7⟩:=q2;exact⟨n,o,z1,z2,z3,z4,z5,z6.unlock j,z7⟩
   |
    par i=>
    obtain⟨z1,z2,v,z3⟩:=q2
    refine⟨z1.unlock j,z2,v,?_⟩
    by_cases z:i=j
    ·subst z;exact jw z3
    ·exact (hZ z).trans z3
def Sat.lockO(S:Sat X h0 ns e ae h)(k:Option Nat):Sat X h0 ns (lockO e k) ae h:=by
 cases k with
 |none=>exact S
 |some k=>exact S.lock k
def EM{X:Nat->Prop}{h0:Nat}{ns:Ns}{e:E3}{ae:AE}{h:AH}{G:AH->Prop}(S:Sat X h0 ns e ae h)(hg:RG g g3)(hB:RS B B3)(hG:∀ns' e' h',Stp ns e h ns' e' h'->G h'):
 ∀{ds:List D}{vs:List Val},Rds (Oc X ns) h ds vs->∀{ns1:Ns}{e1:E3}{ae1:AE}{h1:AH},Stp ns e h ns1 e1 h1->Sat X h0 ns1 e1 ae1 h1->PoS X h0 ns e h (gz G g B ds ae1 h1) (ff g3 B3 vs e1):=by
 intro ds
 induction ds with
 |
  nil=>
  intro vs r ns1 e1 ae1 h1 a1 S1
  cases r
  unfold gz
  rw[if_pos (hG _ _ _ a1)]
  exact .nx a1 S1
 |
  cons d0 ds ih=>
  intro vs r ns1 e1 ae1 h1 a1 S1
  cases r with
  |
   cons r rr=>
   unfold gz ff
   rw[if_pos (hG _ _ _ a1)]
   split
   ·rename_i e2 q
    obtain⟨ae2,gl,p2,S2,a2⟩:=hg _ _ _ _ _ _ _ _ _ S1 (r.mono (a1.mov S)) q
    rw[p2]
    have a12:=a1.trans S a2
    show PoS X h0 ns e h ((B ae2 h1).loop _) _
    refine PoS.loop (ae:=ae) (PoS.after S a12 (hB X h0 gl e2 ae2 h1 S2)) λae3 h3 ns3 e3 a3 S3=>ih rr a3 S3
   ·trivial
def Fv(hI:RI I I3)(hg:RG g g3)(hB:RS B B3):RS (pE I g B) (wFor I3 g3 B3):=λX h0 ns e ae h S=>PoS.toS (hI X h0 ns e ae h S) λit p h1 ns1 e1 a1 S1 r1=>by
 obtain⟨r2,gd,hk⟩:=r1
 refine PoS.after S a1 (PoS.unl hk ?_)
 have S2:=S1.lockO p.2
 exact EM S2 hg hB (λns' e' h' a=>gd h' (DJ S1 hk a)) r2 .refl S2
def whV(c:MT3)(B:MS3):Nat->MS3
 |0,_=>.stuck
 |k+1,e=>(c e).toS λb e1=>if b=true then (B e1).loop (whV c B k) else .nx e1
open Classical in
def wWh(c:MT3)(B:MS3):MS3:=λe=>if q:∃k,whV c B k e ≠ .stuck then whV c B q.choose e else .stuck
theorem m8{c:MT3}{B:MS3}:∀{k:Nat}{e:E3},whV c B k e ≠ .stuck->whV c B (k+1) e=whV c B k e
 |0,_,q=>absurd rfl q
 |
  k+1,e,q=>by
  have e1:whV c B (k+2) e=(c e).toS λb e1=>if b=true then (B e1).loop (whV c B (k+1)) else .nx e1:=rfl
  have e2:whV c B (k+1) e=(c e).toS λb e1=>if b=true then (B e1).loop (whV c B k) else .nx e1:=rfl
  rw[e2] at q
  rw[e1,e2]
  cases r:c e with
  |exc _ _=>rfl
  |stuck=>rfl
  |
   ok b h1=>
   rw[r] at q
   cases b with
   |false=>rfl
   |
    true=>
    have q':(B h1).loop (whV c B k) ≠ .stuck:=q
    show (B h1).loop (whV c B (k+1))=(B h1).loop (whV c B k)
    cases s:B h1 with
    |nx a2=>rw[s] at q';exact m8 q'
    |ct a2=>rw[s] at q';exact m8 q'
    |_=>rfl
def yK{c:MT3}{B:MS3}{k j:Nat}{e:E3}(q:whV c B k e ≠ .stuck)(hj:k<=j):whV c B j e=whV c B k e:=by
 induction hj with
 |refl=>rfl
 |step _ ih=>rw[m8 (by rw[ih];exact q),ih]
def oG{c:MT3}{B:MS3}{k:Nat}{e:E3}(q:whV c B k e ≠ .stuck):wWh c B e=whV c B k e:=by
 have hq:∃k,whV c B k e ≠ .stuck:=⟨k,q⟩
 unfold wWh
 rw[dif_pos hq]
 rcases Nat.le_total hq.choose k with z |z
 ·exact (yK hq.choose_spec z).symm
 ·exact yK q z
def B5(c:MT3)(B:MS3)(e:E3):wWh c B e=(c e).toS λb e1=>if b=true then (B e1).loop (wWh c B) else .nx e1:=by
 by_cases q:∃k,whV c B k e ≠ .stuck
 ·obtain⟨k,q⟩:=q
  rw[oG q]
  cases k with
  |zero=>exact absurd rfl q
  |
   succ k=>
   have e2:whV c B (k+1) e=(c e).toS λb e1=>if b=true then (B e1).loop (whV c B k) else .nx e1:=rfl
   rw[e2] at q ⊢
   cases r:c e with
   |exc _ _=>rfl
   |stuck=>rfl
   |
    ok b h1=>
    rw[r] at q
    cases b with
    |false=>rfl
    |
     true=>
     have q':(B h1).loop (whV c B k) ≠ .stuck:=q
     show (B h1).loop (whV c B k)=(B h1).loop (wWh c B)
     cases s:B h1 with
     |nx a2=>rw[s] at q';exact (oG q').symm
     |ct a2=>rw[s] at q';exact (oG q').symm
     |_=>rfl
 ·have e0:wWh c B e=.stuck:=by unfold wWh;rw[dif_neg q]
  rw[e0]
  have hs:∀k,whV c B (k+1) e=.stuck:=λk=>Qk λz=>q ⟨_,z⟩
  cases r:c e with
  |stuck=>rfl
  |
   exc c' h'=>
   have:=hs 0
   unfold whV at this
   rw[r] at this
   cases this
  |
   ok b h1=>
   cases b with
   |
    false=>
    have:=hs 0
    unfold whV at this
    rw[r] at this
    cases this
   |
    true=>
    have h2:∀k,(B h1).loop (whV c B k)=.stuck:=λk=>by
     have:=hs k
     unfold whV at this
     rw[r] at this
     exact this
    show SR3.stuck=(B h1).loop (wWh c B)
    have lim:∀a2,(∀k,whV c B k a2=.stuck)->wWh c B a2=.stuck:=λa2 z=>by
     unfold wWh
     rw[dif_neg (λ⟨k,y⟩=>y (z k))]
    cases s:B h1 with
    |nx a2=>rw[s] at h2;exact (lim a2 h2).symm
    |ct a2=>rw[s] at h2;exact (lim a2 h2).symm
    |stuck=>rfl
    |_=>have:=h2 0;rw[s] at this;cases this
def Gg(p:PoS X h0 ns e h r2 r3)(q:r3 ≠ .stuck):r2 ≠ .stuck:=by
 cases r3 with
 |stuck=>exact absurd rfl q
 |nx e'=>obtain⟨be,h',ns',z,_⟩:=p;rw[z];intro y;cases y
 |ct e'=>obtain⟨be,h',ns',z,_⟩:=p;rw[z];intro y;cases y
 |bk e'=>obtain⟨be,h',ns',z,_⟩:=p;rw[z];intro y;cases y
 |exc c e'=>obtain⟨be,h',ns',z,_⟩:=p;rw[z];intro y;cases y
 |rt r e'=>obtain⟨d,be,h',ns',z,_⟩:=p;rw[z];intro y;cases y
theorem zN(hc:RT c c3)(hB:RS B B3):∀(k:Nat) (X:Nat->Prop) (h0:Nat) (ns:Ns) (e:E3) (ae:AE) (h:AH),Sat X h0 ns e ae h->PoS X h0 ns e h (whN c B k ae h) (whV c3 B3 k e)
 |0,_,_,_,_,_,_,_=>trivial
 |
  k+1,X,h0,ns,e,ae,h,S=>by
  refine PoS.toS (hc X h0 ns e ae h S) λb b' h1 ns1 e1 a1 S1 r1=>?_
  cases r1
  try dsimp only
  split
  ·exact PoS.after S a1 (PoS.loop (ae:=ae) (hB X h0 ns1 e1 ae h1 S1) λae2 h2 gl e2 a2 S2=>PoS.after S1 a2 (zN hc hB k X h0 gl e2 ae2 h2 S2))
  ·exact .nx a1 S1
def J6(hc:RT c c3)(hB:RS B B3):RS (sWh c B) (wWh c3 B3):=λX h0 ns e ae h S=>by
 by_cases q:∃k,whV c3 B3 k e ≠ .stuck
 ·obtain⟨k,q⟩:=q
  rw[oG q]
  have p:=zN hc hB k X h0 ns e ae h S
  rw[yX (Gg p q)]
  exact p
 ·unfold wWh;rw[dif_neg q];trivial
end
end L3
namespace L3
open PySem PySem.Spec PyProof.Rows L2
def gv(o:Option Nat)(s:Sl)(e:E3):E3:=match o,s with
 |some i,.mu v=>(match e[i]? with
  |some t=>e.set i (t.re v)
  |none=>e)
 |_,_=>e
def bN:List (Option Nat)->E3->E3->E3
 |o::sub,s::inner,e=>bN sub inner (gv o s e)
 |_,_,e=>e
def u3(hn:∀v,o=some i->s=.mu v->False):(gv o s e)[i]?=e[i]?:=by
 unfold gv
 split
 ·rename_i i' v
  split
  ·rename_i t q
   by_cases z:i=i'
   ·subst z;exact (hn v rfl rfl).elim
   ·rw[bF z]
  ·rfl
 ·rfl
theorem oV:∀{sub:List (Option Nat)}{e2 e:E3}{i:Nat},(∀(j:Nat) v,sub[j]?=some (some i)->e2[j]?=some (.mu v)->False)->(bN sub e2 e)[i]?=e[i]?
 | [],_,_,_,_=>rfl
 |_::_,[],_,_,_=>rfl
 |
  o::sub,s::e2,e,i,hn=>by
  show (bN sub e2 (gv o s e))[i]?=_
  rw[oV (λj v q1 q2=>hn (j+1) v (by simpa using q1) (by simpa using q2))]
  exact u3 λv z1 z2=>hn 0 v (by rw[z1];rfl) (by rw[z2];rfl)
theorem vF:∀{sub:List (Option Nat)}{e2 e:E3}{i j:Nat}{v:Val},(∀(j k:Nat) i,sub[j]?=some (some i)->sub[k]?=some (some i)->j=k)->sub[j]?=some (some i)->e2[j]?=some (.mu v)->(bN sub e2 e)[i]?=(e[i]?).map (Sl.re · v)
 | [],_,_,_,j,_,_,q,_=>by simp at q
 |_::_,[],_,_,j,_,_,_,q=>by simp at q
 |
  o::sub,s::e2,e,i,0,v,hj,q1,q2=>by
  have z1:o=some i:=by simpa using q1
  have z2:s=.mu v:=by simpa using q2
  subst z1 z2
  show (bN sub e2 (gv (some i) (.mu v) e))[i]?=_
  rw[oV (λk u y1 _=>by have:=hj 0 (k+1) i rfl (by simpa using y1);omega)]
  unfold gv
  dsimp only
  split
  ·rename_i t q;rw[bU (Oe.mp q).1,q];rfl
  ·rename_i q;rw[q];rfl
 |
  o::sub,s::e2,e,i,j+1,v,hj,q1,q2=>by
  show (bN sub e2 (gv o s e))[i]?=_
  have q1':sub[j]?=some (some i):=by simpa using q1
  rw[vF (λa b c y1 y2=>by have:=hj (a+1) (b+1) c (by simpa using y1) (by simpa using y2);omega) q1' (by simpa using q2)]
  rw[u3 λv z1 _=>by have:=hj 0 (j+1) i (by rw[z1];rfl) q1;omega]
def cH(sub:List (Option Nat))(ns:Ns):Ns:=sub.map λo=>o.bind λi=>(ns[i]?).bind id
def cZ{sub:List (Option Nat)}{ns:Ns}{j n:Nat}(q:(cH sub ns)[j]?=some (some n)):∃i,sub[j]?=some (some i)/\ns[i]?=some (some n):=by
 unfold cH at q
 rw[OH] at q
 cases z:sub[j]? with
 |none=>rw[z] at q;cases q
 |
  some o=>
  rw[z] at q
  cases o with
  |none=>cases q
  |
   some i=>
   refine⟨i,rfl,?_⟩
   have q':(ns[i]?).bind id=some n:=OE q
   cases y:ns[i]? with
   |none=>rw[y] at q';cases q'
   |some w=>rw[y] at q';have:w=some n:=q';rw[this]
def C5{sub:List (Option Nat)}{ns:Ns}{j i:Nat}{w:Option Nat}(q:sub[j]?=some (some i))(q2:ns[i]?=some w):(cH sub ns)[j]?=some w:=by
 unfold cH
 rw[OH,q]
 show some ((ns[i]?).bind id)=some w
 rw[q2];rfl
structure Lnk(sub:List (Option Nat))(e ei:E3):Prop where
 inj:∀(j k:Nat) (i:Nat),sub[j]?=some (some i)->sub[k]?=some (some i)->j=k
 mu:∀(j:Nat) (v:Val),ei[j]?=some (.mu v)->∃(i:Nat) (s:Sl),sub[j]?=some (some i)/\e[i]?=some s/\s.mt=true
 mt:∀(j:Nat) (s:Sl),ei[j]?=some s->s.mt=true->∃v,s=.mu v
def Sat.back(S:Sat X h0 ns e ae h)(K:Lnk sub e ei)(a:Stp (cH sub ns) ei h gl e2 h2)
 (hY:∀n,Y n->n<h2.length/\(X n\/h.length<=n)) (hXY:∀n,X n->Y n)
 (hc:∀(j:Nat) v n,e2[j]?=some (.mu v)->gl[j]?=some (some n)->∃o,h2[n]?=some o/\cF o/\Rc (Oc Y ns) h2 o v):Sat Y h0 ns (bN sub e2 e) ae h2/\Stp ns e h ns (bN sub e2 e) h2:=by
 have hM:∀n,Mt (cH sub ns) ei n->Mt ns e n:=λn ⟨j,s,z1,z2,z3⟩=>by
  obtain⟨v,rfl⟩:=K.mt j s z2 z3
  obtain⟨i,s',y1,y2,y3⟩:=K.mu j v z2
  obtain⟨i',y4,y5⟩:=cZ z1
  rw[y1] at y4;cases y4
  exact⟨i,s',y5,y2,y3⟩
 have mv:Mov (Oc X ns) (Oc Y ns) h h2:=λn o p q=>⟨⟨λz=>by
  rcases (hY n z).2 with z |z
  ·exact p.1 z
  ·have:=bZ q;omega,p.2⟩,a.keep n o q λz=>by
   obtain⟨j,s,z1,_⟩:=z
   obtain⟨i,_,y⟩:=cZ z1
   exact p.2 (bp.mpr ⟨i,y⟩)⟩
 have key:∀i:Nat,(∃(j:Nat) (v:Val) (s:Sl),sub[j]?=some (some i)/\e2[j]?=some (.mu v)/\e[i]?=some s/\s.mt=true/\(bN sub e2 e)[i]?=some (s.re v)/\gl[j]?=ns[i]?)\/((∀n,ns[i]?=some (some n)->¬ Mt (cH sub ns) ei n)/\(bN sub e2 e)[i]?=e[i]?):=λi=>by
  by_cases hx:∃(j:Nat) (v:Val),sub[j]?=some (some i)/\e2[j]?=some (.mu v)
  ·obtain⟨j,v,q1,q2⟩:=hx
   obtain⟨u,q3,q4⟩:=a.mu j v q2
   obtain⟨i',s,y1,y2,y3⟩:=K.mu j u q3
   rw[q1] at y1;cases y1
   refine .inl ⟨j,v,s,q1,q2,y2,y3,by rw[vF K.inj q1 q2,y2];rfl,?_⟩
   rw[q4]
   have hl:i<ns.length:=by rw[S.l2];exact (Oe.mp y2).1
   rw[Ov hl]
   exact C5 q1 (Ov hl)
  ·refine .inr ⟨λn q ⟨j,s,z1,z2,z3⟩=>hx ?_,oV λj v y1 y2=>hx ⟨j,v,y1,y2⟩⟩
   obtain⟨v,rfl⟩:=K.mt j s z2 z3
   obtain⟨i',y4,y5⟩:=cZ z1
   have:i'=i:=S.inj i' i n y5 q
   subst this
   obtain⟨v',y6,_⟩:=a.mu' j v z2
   exact⟨j,v',y4,y6⟩
 have lenB:(bN sub e2 e).length=e.length:=by
  clear key hc a K S hY hXY hM mv
  induction sub generalizing e2 e with
  |nil=>rfl
  |
   cons o sub ih=>
   cases e2 with
   |nil=>rfl
   |
    cons s e2=>
    show (bN sub e2 (gv o s e)).length=_
    rw[ih]
    unfold gv
    split
    ·split
     ·rw[Oz]
     ·rfl
    ·rfl
 refine⟨⟨by rw[lenB];exact S.l1,by rw[lenB];exact S.l2,Ow S.lh a.len,λn z=>(hY n z).1,S.inj,λi n q z=>?_,λi s q=>?_⟩,⟨a.len,λm o q hm=>a.keep m o q λz=>hm (hM m z),λ_ _ q=>.inl q,λi s q hl=>?_,λi s q hl=>?_,λi v q=>?_,λi v q=>?_⟩⟩
 ·rcases (hY n z).2 with z |z
  ·exact S.nx i n q z
  ·obtain⟨_,_,_,_,_,_,_,q',_⟩:=S.own q
   have:=bZ q';omega
 ·rcases key i with ⟨j,v,s0,k1,k2,k3,k4,k5,k6⟩ |⟨k1,k2⟩
  ·rw[k5] at q;cases q
   have y:=S.sl i s0 k3
   cases s0 with
   |
    ow u=>
    obtain⟨n,o,y1,y2,y3,_⟩:=y
    obtain⟨o',z1,z2,z3⟩:=hc j v n k2 (by rw[k6];exact y1)
    exact⟨n,o',y1,y2,y3,z1,z2,z3⟩
   |
    mu u=>
    obtain⟨n,o,y1,y2,_⟩:=y
    obtain⟨o',z1,z2,z3⟩:=hc j v n k2 (by rw[k6];exact y1)
    exact⟨n,o',y1,y2,z1,z2,z3⟩
   |_=>cases k4
  ·rw[k2] at q
   exact (S.sl i s q).mono mv λn o q1 q2=>a.keep n o q2 (k1 n q1)
 ·rcases key i with ⟨j,v,s0,k1,k2,k3,k4,k5,k6⟩ |⟨k1,k2⟩
  ·rw[k3] at q;cases q;cases s <;> first |cases hl;done |cases k4;done
  ·rw[k2];exact⟨q,rfl⟩
 ·rcases key i with ⟨j,v,s0,k1,k2,k3,k4,k5,k6⟩ |⟨k1,k2⟩
  ·rw[k5] at q;cases q;cases s0 <;> first |cases hl;done |cases k4;done
  ·rw[k2] at q;exact⟨q,rfl⟩
 ·rcases key i with ⟨j,u,s0,k1,k2,k3,k4,k5,k6⟩ |⟨k1,k2⟩
  ·rw[k5] at q
   cases s0 with
   |mu w=>exact⟨w,k3,rfl⟩
   |ow w=>cases q
   |_=>cases k4
  ·rw[k2] at q;exact⟨v,q,rfl⟩
 ·rcases key i with ⟨j,u,s0,k1,k2,k3,k4,k5,k6⟩ |⟨k1,k2⟩
  ·rw[k3] at q;cases q;exact⟨u,k5,rfl⟩
  ·exact⟨v,by rw[k2];exact q,rfl⟩
def inS:Sl->Sl
 |.ow v=>.mu v
 |.lo v=>.lm v
 |s=>s
def cA(sub:List (Option Nat))(e:E3):E3:=sub.map λo=>match o with
 |none=>.no
 |some i=>match e[i]? with
  |some s=>inS s
  |none=>.no
def lcV(g:MG3)(c:MT3)(F:ME3):List Val->List Val->E3->R3 (List Val)
 | [],acc,e=>.ok acc e
 |v::vs,acc,e=>if acc.length<16777216 then (match g v e with
  |none=>.stuck
  |some e1=>(c e1).bind λb e2=>if b=true then (F e2).bind λt e3=>(match cW e3 t with
   |some (e4,y)=>lcV g c F vs (acc++[y]) e4
   |none=>.stuck) else lcV g c F vs acc e2) else .stuck
def vLC(I:MI3)(sub:List (Option Nat))(g:MG3)(c:MT3)(F:ME3):ME3:=λe=>(I e).bind λp e1=>match lcV g c F p.1 [] (cA sub (lockO e1 p.2)) with
 |.ok ys e2=>if ys.length<=16777216 then .ok (.new (.lst ys)) (fR (bN sub e2 (lockO e1 p.2)) p.2) else .stuck
 |_=>.stuck
def oF(sub:List (Option Nat)):Prop:=∀(j k:Nat) (i:Nat),sub[j]?=some (some i)->sub[k]?=some (some i)->j=k
def zo(h:(sub.filterMap id).Nodup):oF sub:=by
 induction sub with
 |nil=>intro j k i q;simp at q
 |
  cons o sub ih=>
  have im:(sub.filterMap id).Nodup:=by
   cases o with
   |none=>simpa using h
   |some i=>rw[Pw] at h;simp at h;exact h.2
  have hno:∀(i k:Nat),o=some i->sub[k]?=some (some i)->False:=λi k z q=>by
   subst z
   rw[Pw] at h
   simp at h
   exact h.1 (O4 q)
  intro j k i q1 q2
  cases j with
  |
   zero=>
   cases k with
   |zero=>rfl
   |succ k=>exact (hno i k (by simpa using q1) (by simpa using q2)).elim
  |
   succ j=>
   cases k with
   |zero=>exact (hno i j (by simpa using q2) (by simpa using q1)).elim
   |succ k=>exact Pb (· + 1) (ih im j k i (by simpa using q1) (by simpa using q2))
def Xin(X:Nat->Prop)(ns:Ns)(sub:List (Option Nat))(n:Nat):Prop:=X n\/(some n∈ns/\some n∉cH sub ns)
def nu(q:some n∈cH sub ns):some n∈ns:=by
 obtain⟨j,q⟩:=bp.mp q
 obtain⟨i,_,q2⟩:=cZ q
 exact bp.mpr ⟨i,q2⟩
def ko{sub:List (Option Nat)}{e:E3}{j:Nat}{s:Sl}(q:(cA sub e)[j]?=some s):(sub[j]?=some none/\s=.no)\/(∃i,sub[j]?=some (some i)/\((e[i]?=none/\s=.no)\/∃t,e[i]?=some t/\s=inS t)):=by
 unfold cA at q
 rw[OH] at q
 cases z:sub[j]? with
 |none=>rw[z] at q;cases q
 |
  some o=>
  rw[z] at q
  cases o with
  |none=>cases q;exact .inl ⟨rfl,rfl⟩
  |
   some i=>
   refine .inr ⟨i,rfl,?_⟩
   have q':=OE q
   dsimp only at q'
   cases y:e[i]? with
   |none=>rw[y] at q';exact .inl ⟨rfl,q'.symm⟩
   |some t=>rw[y] at q';exact .inr ⟨t,rfl,q'.symm⟩
def Sat.inner(S:Sat X h0 ns e ae h)(hs:oF sub):Sat (Xin X ns sub) h0 (cH sub ns) (cA sub e) (kF sub ae) h:=by
 refine⟨by unfold kF cA;rw[N_,N_],by unfold cH cA;rw[N_,N_],S.lh,λn z=>?_,λj k n q1 q2=>?_,λj n q z=>?_,λj s q=>?_⟩
 ·rcases z with z |⟨z,_⟩
  ·exact S.xl n z
  ·obtain⟨i,z⟩:=bp.mp z
   obtain⟨_,_,_,_,_,_,_,q',_⟩:=S.own z
   exact bZ q'
 ·obtain⟨i,y1,y2⟩:=cZ q1
  obtain⟨i',y3,y4⟩:=cZ q2
  have:=S.inj i i' n y2 y4
  subst this
  exact hs j k i y1 y3
 ·rcases z with z |⟨_,z⟩
  ·obtain⟨i,y1,y2⟩:=cZ q
   exact S.nx i n y2 z
  ·exact z (bp.mpr ⟨j,q⟩)
 ·have mv:Mov (Oc X ns) (Oc (Xin X ns sub) (cH sub ns)) h h:=λn o p q=>⟨⟨λz=>by
   rcases z with z |⟨z,_⟩
   ·exact p.1 z
   ·exact p.2 z,λz=>p.2 (nu z)⟩,q⟩
  have hj:∀{o},sub[j]?=some o->(cH sub ns)[j]?=some (o.bind λi=>(ns[i]?).bind id)/\(kF sub ae)[j]?=some (o.bind λi=>(ae[i]?).bind id):=λ{o} z=>by
   unfold cH kF
   rw[OH,OH,z]
   exact⟨rfl,rfl⟩
  rcases ko q with ⟨z,rfl⟩ |⟨i,z,⟨y,rfl⟩ |⟨t,y,rfl⟩⟩
  ·rw[(hj z).1];rfl
  ·rw[(hj z).1]
   show some ((ns[i]?).bind id)=some none
   have:ns[i]?=none:=by
    rw[Pm] at y ⊢
    rw[S.l2];exact y
   rw[this];rfl
  ·have k:=(S.sl i t y).mono mv λ_ _ _ q=>q
   rw[(hj z).1,(hj z).2]
   show SlR _ h0 (some ((ns[i]?).bind id)) (some ((ae[i]?).bind id)) h (inS t)
   have w1:∀x,ns[i]?=some x->some ((ns[i]?).bind id)=some x:=λx q=>by rw[q];rfl
   have w2:∀x,ae[i]?=some x->some ((ae[i]?).bind id)=some x:=λx q=>by rw[q];rfl
   cases t with
   |no=>rw[w1 _ k];rfl
   |sh v=>obtain⟨k1,x,k2,k3⟩:=k;rw[w1 _ k1,w2 _ k2];exact⟨rfl,x,rfl,k3⟩
   |ow v=>obtain⟨m,o,k1,k2,_,k3⟩:=k;rw[w1 _ k1,w2 _ k2];exact⟨m,o,rfl,rfl,k3⟩
   |lo v=>obtain⟨m,o,k1,k2,_,k3⟩:=k;rw[w1 _ k1,w2 _ k2];exact⟨m,o,rfl,rfl,k3⟩
   |mu v=>obtain⟨m,o,k1,k2,k3⟩:=k;rw[w1 _ k1,w2 _ k2];exact⟨m,o,rfl,rfl,k3⟩
   |lm v=>obtain⟨m,o,k1,k2,k3⟩:=k;rw[w1 _ k1,w2 _ k2];exact⟨m,o,rfl,rfl,k3⟩
def uY(hs:oF sub):Lnk sub e (cA sub e):=by
 refine⟨hs,λj v q=>?_,λj s q hm=>?_⟩
 ·rcases ko q with ⟨_,z⟩ |⟨i,z,⟨_,y⟩ |⟨t,y,y2⟩⟩
  ·cases z
  ·cases y
  ·refine⟨i,t,z,y,?_⟩
   cases t <;> first |rfl |cases y2
 ·rcases ko q with ⟨_,z⟩ |⟨i,z,⟨_,y⟩ |⟨t,y,y2⟩⟩
  ·subst z;cases hm
  ·subst y;cases hm
  ·subst y2
   cases t with
   |ow v=>exact⟨v,rfl⟩
   |mu v=>exact⟨v,rfl⟩
   |_=>cases hm
section
variable{I:MI}{I3:MI3}{g:MG}{g3:MG3}{c:MT}{c3:MT3}{F:ME}{F3:ME3}
def H9(S:Sat X h0 ns e ae h)(hg:RG g g3)(hc:RT c c3)(hF:RE F F3)(hG:∀ns' e' h',Stp ns e h ns' e' h'->G h'):
 ∀
  {ds:List D}{vs:List Val},Rds (Oc X ns) h ds vs->∀{acc:List D}{accv:List Val}{ns1:Ns}{e1:E3}{ae1:AE}{h1:AH},Stp ns e h ns1 e1 h1->Sat X h0 ns1 e1 ae1 h1->Rds (Oc X ns1) h1 acc accv->lcV g3 c3 F3 vs accv e1=.ok ys e2->
  ∃dy h2 gl ae2,lcL G g c F ds acc ae1 h1=.ok dy h2/\Stp ns e h gl e2 h2/\Sat X h0 gl e2 ae2 h2/\Rds (Oc X gl) h2 dy ys:=by
 intro ds
 induction ds with
 |
  nil=>
  intro vs r acc accv ns1 e1 ae1 h1 a1 S1 ra q
  cases r
  unfold lcL
  rw[if_pos (hG _ _ _ a1)]
  cases q
  exact⟨acc,h1,ns1,ae1,rfl,a1,S1,ra⟩
 |
  cons d0 ds ih=>
  intro vs r acc accv ns1 e1 ae1 h1 a1 S1 ra q
  cases r with
  |
   cons r rr=>
   rename_i v vs
   unfold lcV at q
   unfold lcL
   by_cases hl:accv.length<16777216
   ·rw[if_pos hl] at q
    rw[if_pos ⟨hG _ _ _ a1,by rw[ra.len];exact hl⟩]
    cases q1:g3 v e1 with
    |none=>rw[q1] at q;cases q
    |
     some e3=>
     rw[q1] at q
     dsimp only at q
     obtain⟨ae3,ns3,p3,S3,a3⟩:=hg _ _ _ _ _ _ _ _ _ S1 (r.mono (a1.mov S)) q1
     rw[p3,gF]
     have a13:=a1.trans S a3
     have pc:=hc X h0 ns3 e3 ae3 h1 S3
     cases q4:c3 e3 with
     |stuck=>rw[q4] at q;cases q
     |exc _ _=>rw[q4] at q;cases q
     |
      ok b e4=>
      rw[q4] at q pc
      obtain⟨b',h4,ns4,p4,a4,S4,rfl⟩:=pc
      rw[p4,gF]
      have a14:=a13.trans S a4
      have ra4:=(ra.mono (a3.mov S1)).mono (a4.mov S3)
      have q':(if b'=true then (F3 e4).bind λt e3=>(match cW e3 t with
       |some (e4,y)=>lcV g3 c3 F3 _ (accv++[y]) e4
       |none=>.stuck) else lcV g3 c3 F3 _ accv e4)=.ok ys e2:=q
      by_cases hb:b'=true
      ·rw[if_pos hb] at q' ⊢
       have pF:=hF X h0 0 ns4 e4 ae3 h4 S4 (OO _)
       cases q5:F3 e4 with
       |stuck=>rw[q5] at q';cases q'
       |exc _ _=>rw[q5] at q';cases q'
       |
        ok t e5=>
        rw[q5] at q' pF
        obtain⟨d5,h5,ns5,p5,a5,S5,r5⟩:=pF
        rw[p5,gF]
        have q'':(match cW e5 t with
         |some (e4,y)=>lcV g3 c3 F3 _ (accv++[y]) e4
         |none=>.stuck)=.ok ys e2:=q'
        cases q6:cW e5 t with
        |none=>rw[q6] at q'';cases q''
        |
         some w=>
         obtain⟨e6,y⟩:=w
         rw[q6] at q''
         obtain⟨ns6,S6,a6,r6⟩:=gJ S5 r5 q6
         exact ih rr ((a14.trans S a5).trans S a6) S6 (((ra4.mono (a5.mov S4)).mono (a6.mov S5)).append (.cons r6 .nil)) q''
      ·rw[if_neg hb] at q' ⊢
       exact ih rr a14 S4 ra4 q'
   ·rw[if_neg hl] at q;cases q
def LS(hs:(sub.filterMap id).Nodup)(hI:RI I I3)(hg:RG g g3)(hc:RT c c3)(hF:RE F F3):RE (eLC I sub g c F) (vLC I3 sub g3 c3 F3):=λX h0 L ns e ae h S hl=>
 Po.bind
  S (hI X h0 ns e ae h S) λit p h1 ns1 e1 a1 S1 r1=>by
  try dsimp only
  obtain⟨r2,gd,hk⟩:=r1
  have hs':=zo hs
  have S2:=S1.lockO p.2
  have S3:=S2.inner hs'
  cases q:lcV g3 c3 F3 p.1 [] (cA sub (lockO e1 p.2)) with
  |stuck=>trivial
  |exc _ _=>trivial
  |
   ok ys e2=>
   dsimp only
   split
   ·rename_i hy
    have gd':∀ns' e' h',Stp (cH sub ns1) (cA sub (lockO e1 p.2)) h1 ns' e' h'->it.guard h':=λns' e' h' a=>gd h' λm o qm hm=>a.keep m o qm λ⟨j,s,z1,z2,z3⟩=>by
     obtain⟨i,y1,y2⟩:=cZ z1
     rcases hm with hm |⟨k,hk1,hk2⟩
     ·exact hm.2 (bp.mpr ⟨i,y2⟩)
     ·have:i=k:=S1.inj i k m y2 hk2
      subst this
      obtain⟨s',w1,w2⟩:=hk i hk1
      rcases ko z2 with ⟨z,_⟩ |⟨i',z,y⟩
      ·rw[y1] at z;cases z
      ·rw[y1] at z;cases z
       have hl:(lockO e1 p.2)[i]?=some (km s'):=by rw[hk1];exact pb w1
       rcases y with ⟨y,_⟩ |⟨t,y,rfl⟩
       ·rw[hl] at y;cases y
       ·rw[hl] at y;cases y
        cases s' <;> first |cases w2;done |cases z3;done
    have mvi:Mov (Oc X ns1) (Oc (Xin X ns1 sub) (cH sub ns1)) h1 h1:=λn o p q=>⟨⟨λz=>by
     rcases z with z |⟨z,_⟩
     ·exact p.1 z
     ·exact p.2 z,λz=>p.2 (nu z)⟩,q⟩
    obtain⟨dy,h2,gl,ae2,p2,a2,S4,r4⟩:=H9 (G:=it.guard) S3 hg hc hF gd' (r2.mono mvi) .refl S3 .nil q
    have k3:∀n,Oc (Xin X ns1 sub) gl n->Oc X ns1 n:=λn z=>⟨λy=>z.1 (.inl y),λy=>by
     by_cases w:some n∈cH sub ns1
     ·obtain⟨j,w⟩:=bp.mp w
      obtain⟨s,v,o,b1,b2,_⟩:=S3.own w
      rcases b2 with b2 |b2
      ·obtain⟨v',rfl⟩:=(uY (e:=lockO e1 p.2) hs').mt j s b1 b2
       obtain⟨u,c1,c2⟩:=a2.mu' j v' b1
       exact z.2 (bp.mpr ⟨j,by rw[c2];exact w⟩)
      ·obtain⟨c1,c2⟩:=a2.lk j s b1 b2
       exact z.2 (bp.mpr ⟨j,by rw[c2];exact w⟩)
     ·exact z.1 (.inr ⟨y,w⟩)⟩
    have bk:=S2.back (Y:=X) (uY hs') a2 (λn z=>⟨Ox (S2.xl n z) a2.len,.inl z⟩) (λ_ z=>z) λj v n q1 q2=>by
     obtain⟨s,u,o,b1,b2,b3,b4,b5,b6,b7⟩:=S4.own q2
     rw[q1] at b1;cases b1
     cases b3
     exact⟨o,b5,b6,b7.mono λm o' z y=>⟨k3 m z,y⟩⟩
    obtain⟨S5,a5⟩:=bk
    have r5:Rds (Oc X ns1) h2 dy ys:=r4.mono λm o' z y=>⟨k3 m z,y⟩
    have ii:∀(e':E3),Sat X h0 ns1 e' ae h2->Stp ns1 e1 h1 ns1 e' h2->Po X h0 ns1 e1 ae h1 (relE X h0 L ae) ((noX (lcL it.guard g c F it.items [] (kF sub ae) h1)).bind b9) (.ok (.new (.lst ys)) e'):=λe' S6 a6=>by
     rw[p2]
     have pp:=BvR.po (L:=L) (r:=b9 dy h2) (b:=.new (.lst ys)) S6 (Ow hl (Ow a1.len a6.len)) ⟨.lst dy,by unfold b9;rw[if_pos (by rw[r5.len];exact hy)],trivial,.lst r5⟩
     obtain⟨d,h',ns',y,y1,y2,y3⟩:=pp
     exact⟨d,h',ns',y,a6.trans S1 y1,y2,y3⟩
    cases hp:p.2 with
    |
     none=>
     rw[hp] at S5 a5
     exact ii _ S5 a5
    |
     some k=>
     rw[hp] at S5 a5
     obtain⟨s,w1,w2⟩:=hk k hp
     exact ii _ (S5.unlock k) (a5.unlock w1 w2)
   ·trivial
end
end L3
namespace L3
open PySem PySem.Spec PyProof.Rows L2
inductive R3F where
 |ok (r:Rt) (mv:List Val) |exc (c:Str) (mv:List Val) |stuck
abbrev Fn3:=List Val->R3F
def sl1(b:Bool)(v:Val):Sl:=if b=true then .mu v else .sh v
def sls(ms:List Bool)(vs:List Val):E3:=List.zipWith sl1 ms vs
def aX:List Bool->List Val->E3
 |true::ms,v::vs=>.mu v::aX ms vs
 |true::ms,[]=>.no::aX ms []
 |false::ms,vs=>.no::aX ms vs
 | [],_=>[]
def muV:List Bool->E3->Option (List Val)
 |true::ms,.mu v::e=>(muV ms e).map (v :: ·)
 |true::_,_=>none
 |false::ms,_::e=>muV ms e
 |false::_,[]=>none
 | [],_=>some []
def RFp(X:Nat->Prop)(ps:Ns)(ms:List Bool)(vs:List Val)(ds:List D)(h:AH)(r2:R D):R3F->Prop
 |.stuck=>True
 |.ok r mv=>∃d h',r2=.ok d h'/\Stp ps (sls ms vs) h ps (aX ms mv) h'/\RtR X h.length ps (aX ms mv) (ds.map some) h' d r
 |.exc c mv=>∃h',r2=.exc c h'/\Stp ps (sls ms vs) h ps (aX ms mv) h'/\Sat X h.length ps (aX ms mv) (ds.map some) h'
def RF(ms:List Bool)(G2:Fn)(G3:Fn3):Prop:=∀X ps ds vs h,vs.length=ms.length->Sat X h.length ps (sls ms vs) (ds.map some) h->RFp X ps ms vs ds h (G2 ds h) (G3 vs)
def fnV(ms:List Bool)(N:Nat)(F:MS3):Fn3:=λvs=>if vs.length=ms.length then (match F (sls ms vs++List.replicate (N-vs.length) .no) with
 |.nx e=>(match muV ms e with |some mv=>.ok (.val .non) mv |none=>.stuck)
 |.rt r e=>(match muV ms e with |some mv=>.ok r mv |none=>.stuck)
 |.exc c e=>(match muV ms e with |some mv=>.exc c mv |none=>.stuck)
 |_=>.stuck) else .stuck
def fO{ms:List Bool}{vs:List Val}{i:Nat}{s:Sl}(q:(sls ms vs)[i]?=some s):∃b v,ms[i]?=some b/\vs[i]?=some v/\s=sl1 b v:=by
 unfold sls at q
 rw[PJ] at q
 cases h1:ms[i]? with
 |none=>rw[h1] at q;cases q
 |
  some b=>
  cases h2:vs[i]? with
  |none=>rw[h1,h2] at q;cases q
  |some v=>rw[h1,h2] at q;cases q;exact⟨b,v,rfl,rfl,rfl⟩
theorem jh:∀{ms:List Bool}{e:E3}{mv:List Val}{i:Nat}{s:Sl},muV ms e=some mv->(aX ms mv)[i]?=some s->(ms[i]?=some false/\s=.no)\/(ms[i]?=some true/\∃v,e[i]?=some (.mu v)/\s=.mu v)
 | [],_,_,_,_,_,q=>by unfold aX at q;simp at q
 |
  true::ms,.mu v::e,mv,i,s,q,q2=>by
  obtain⟨mv',z1,z2⟩:=OJ.mp (show (muV ms e).map (v :: ·)=some mv from q)
  subst z2
  cases i with
  |zero=>
   right;have:Sl.mu v=s:=by simpa [aX] using q2
   subst this;exact⟨rfl,v,rfl,rfl⟩
  |
   succ i=>
   have:=jh (i:=i) (s:=s) z1 (by simpa [aX] using q2)
   simpa using this
 |true::ms,[],mv,i,s,q,q2=>by cases q
 |true::ms,.no::e,mv,i,s,q,q2=>by cases q
 |true::ms,.sh v::e,mv,i,s,q,q2=>by cases q
 |true::ms,.ow v::e,mv,i,s,q,q2=>by cases q
 |true::ms,.lo v::e,mv,i,s,q,q2=>by cases q
 |true::ms,.lm v::e,mv,i,s,q,q2=>by cases q
 |false::ms,[],mv,i,s,q,q2=>by cases q
 |
  false::ms,t::e,mv,i,s,q,q2=>by
  cases i with
  |zero=>
   left;have:Sl.no=s:=by simpa [aX] using q2
   exact⟨rfl,this.symm⟩
  |
   succ i=>
   have:=jh (i:=i) (s:=s) (show muV ms e=some mv from q) (by simpa [aX] using q2)
   simpa using this
theorem oT:∀{ms:List Bool}{e:E3}{mv:List Val}{i:Nat},muV ms e=some mv->ms[i]?=some true->∃v,e[i]?=some (.mu v)/\(aX ms mv)[i]?=some (.mu v)
 | [],_,_,i,_,q=>by simp at q
 |
  true::ms,.mu v::e,mv,i,q,q2=>by
  obtain⟨mv',z1,z2⟩:=OJ.mp (show (muV ms e).map (v :: ·)=some mv from q)
  subst z2
  cases i with
  |zero=>exact⟨v,rfl,rfl⟩
  |
   succ i=>
   obtain⟨u,y1,y2⟩:=oT (i:=i) z1 (by simpa using q2)
   exact⟨u,by simpa using y1,by simpa [aX] using y2⟩
 |true::ms,[],mv,i,q,q2=>by cases q
 |true::ms,.no::e,mv,i,q,q2=>by cases q
 |true::ms,.sh v::e,mv,i,q,q2=>by cases q
 |true::ms,.ow v::e,mv,i,q,q2=>by cases q
 |true::ms,.lo v::e,mv,i,q,q2=>by cases q
 |true::ms,.lm v::e,mv,i,q,q2=>by cases q
 |false::ms,[],mv,i,q,q2=>by cases q
 |
  false::ms,t::e,mv,i,q,q2=>by
  cases i with
  |zero=>simp at q2
  |
   succ i=>
   obtain⟨u,y1,y2⟩:=oT (i:=i) (show muV ms e=some mv from q) (by simpa using q2)
   exact⟨u,by simpa using y1,by simpa [aX] using y2⟩
theorem iU:∀{ms:List Bool}{mv:List Val},(aX ms mv).length=ms.length
 | [],_=>rfl
 |true::ms,v::mv=>by show (aX ms mv).length+1=ms.length+1;rw[iU]
 |true::ms,[]=>by show (aX ms []).length+1=ms.length+1;rw[iU]
 |false::ms,mv=>by show (aX ms mv).length+1=ms.length+1;rw[iU]
def Cs(hF:RS F F3):RF ms (fnD N F) (fnV ms N F3):=λX ps ds vs h hl S=>by
 unfold fnV
 rw[if_pos hl]
 have lS:(sls ms vs).length=vs.length:=by unfold sls;rw[PX];omega
 have lD:ds.length=vs.length:=by have:=S.l1;rw[N_] at this;omega
 have lP:ps.length=vs.length:=by have:=S.l2;omega
 have S1
  : Sat X h.length (ps++List.replicate (N-vs.length) none) (sls ms vs++List.replicate (N-vs.length) .no) (ds.map some++List.replicate (N-vs.length) none) h:=by
  have mns:∀n,some n∈ps++List.replicate (N-vs.length) (none:Option Nat) ↔ some n∈ps:=λn=>by
   rw[O0]
   constructor
   ·rintro (z |z)
    ·exact z
    ·have:=List.eq_of_mem_replicate z;cases this
   ·exact .inl
  have gns:∀{i n:Nat},(ps++List.replicate (N-vs.length) (none:Option Nat))[i]?=some (some n)->ps[i]?=some (some n):=λ{i n} q=>by
   rw[QJ] at q
   split at q
   ·exact q
   ·rw[O3] at q;split at q <;> cases q
  refine⟨?_,?_,S.lh,S.xl,λi j n q1 q2=>S.inj i j n (gns q1) (gns q2),λi n q=>S.nx i n (gns q),λi s q=>?_⟩
  ·rw[Oh,Oh,O9,O9,S.l1]
  ·rw[Oh,Oh,O9,O9,S.l2]
  ·rw[QJ] at q
   split at q
   ·rename_i hi
    have k:=S.sl i s q
    rw[OF (by omega),OF (by rw[N_];omega)]
    exact k.mono (λn o p q=>⟨⟨p.1,λz=>p.2 ((mns n).mp z)⟩,q⟩) λ_ _ _ q=>q
   ·rename_i hi
    rw[O3] at q
    split at q
    ·cases q
     rw[OC (by omega),O3,if_pos (by omega)]
     rfl
    ·cases q
 have p:=hF _ _ _ _ _ _ S1
 have e2:fnD N F ds h=match F (ds.map some++List.replicate (N-vs.length) none) h with
  |.nx _ h'=>.ok .non h'
  |.rt d h'=>.ok d h'
  |.exc c _ h'=>.exc c h'
  |_=>.stuck:=by rw[<- lD];rfl
 rw[e2]
 have ii:∀(Y:Nat->Prop) (ns':Ns) (e':E3) (be:AE) (h':AH) (mv:List Val),(∀n,X n->Y n)->Stp (ps++List.replicate (N-vs.length) none) (sls ms vs++List.replicate (N-vs.length) .no) h ns' e' h'->Sat Y h.length ns' e' be h'->muV ms e'=some mv->
  Stp ps (sls ms vs) h ps (aX ms mv) h'/\Sat Y h.length ps (aX ms mv) (ds.map some) h'/\∀n,Oc Y ns' n->Oc Y ps n:=by
  intro Y ns' e' be h' mv hXY a S2 qm
  have kmu:∀{i:Nat},ms[i]?=some true->∃v u n o,e'[i]?=some (.mu v)/\(aX ms mv)[i]?=some (.mu v)/\(sls ms vs)[i]?=some (.mu u)/\ns'[i]?=ps[i]?/\ps[i]?=some (some n)/\(ds.map some)[i]?=some (some (.ref n))/\h'[n]?=some o/\cF o/\Rc (Oc Y ns') h' o v:=by
   intro i hi
   obtain⟨v,y1,y2⟩:=oT qm hi
   have hil:i<ms.length:=(Oe.mp hi).1
   obtain⟨u,y3,y4⟩:=a.mu i v y1
   rw[OF (by omega)] at y3 y4
   obtain⟨n,o,z1,z2,_⟩:=S.sl i _ y3
   obtain⟨n',o',w1,w2,w3,w4,w5⟩:=S2.sl i _ y1
   rw[y4,z1] at w1;cases w1
   exact⟨v,u,n,o',y1,y2,y3,y4,z1,z2,w3,w4,w5⟩
  have kown:∀{i n:Nat},ps[i]?=some (some n)->ms[i]?=some true:=λ{i n} q=>by
   obtain⟨s,v,o,z1,z2,_⟩:=S.own q
   obtain⟨b,u,y1,_,y2⟩:=fO z1
   cases b with
   |true=>exact y1
   |false=>subst y2;rcases z2 with z2 |z2 <;> cases z2
  have koc:∀n,Oc Y ns' n->Oc Y ps n:=λn z=>⟨z.1,λy=>by
   obtain⟨i,y⟩:=bp.mp y
   obtain⟨v,u,n',o,_,_,_,k1,k2,_⟩:=kmu (kown y)
   exact z.2 (bp.mpr ⟨i,by rw[k1];exact y⟩)⟩
  refine⟨⟨a.len,λm o q hm=>a.keep m o q λ⟨i,s,z1,z2,z3⟩=>hm ?_,λ_ _ q=>.inl q,λi s q hl'=>?_,λi s q hl'=>?_,λi v q=>?_,λi v q=>?_⟩,⟨?_,?_,Ow (Og _) a.len,S2.xl,S.inj,λi n q z=>?_,λi s q=>?_⟩,koc⟩
  ·rw[QJ] at z1
   split at z1
   ·rename_i hi
    rw[OF (by omega)] at z2
    exact⟨i,s,z1,z2,z3⟩
   ·rw[O3] at z1;split at z1 <;> cases z1
  ·obtain⟨b,u,_,_,y⟩:=fO q
   subst y
   cases b <;> cases hl'
  ·rcases jh qm q with ⟨_,z⟩ |⟨_,v,_,z⟩ <;> subst z <;> cases hl'
  ·rcases jh qm q with ⟨_,z⟩ |⟨z,_⟩
   ·cases z
   ·obtain⟨v',u,n,o,_,_,k1,_⟩:=kmu z
    exact⟨u,k1,rfl⟩
  ·obtain⟨b,u,y1,_,y2⟩:=fO q
   cases b with
   |false=>cases y2
   |
    true=>
    obtain⟨v',u,n,o,_,k0,k1,_⟩:=kmu y1
    exact⟨v',k0,rfl⟩
  ·rw[N_,iU];omega
  ·rw[iU];omega
  ·obtain⟨v,u,n',o,_,_,_,k1,k2,_⟩:=kmu (kown q)
   exact S2.nx i n (by rw[k1];exact q) z
  ·rcases jh qm q with ⟨z,rfl⟩ |⟨z,v,z2,rfl⟩
   ·have hil:i<ms.length:=(Oe.mp z).1
    have hi:i<(sls ms vs).length:=by omega
    obtain⟨b,u,y1,_,y2⟩:=fO (Ov hi)
    rw[z] at y1;cases y1
    have k:=S.sl i _ (Ov hi)
    rw[y2] at k
    exact k.1
   ·obtain⟨v',u,n,o,k0,_,_,k1,k2,k3,k4,k5,k6⟩:=kmu z
    rw[z2] at k0;cases k0
    exact⟨n,o,k2,k3,k4,k5,k6.mono λm o' y q=>⟨koc m y,q⟩⟩
 generalize F3 (sls ms vs++List.replicate (N-vs.length) .no)=r3 at *
 cases r3 with
 |stuck=>trivial
 |bk _=>trivial
 |ct _=>trivial
 |
  nx e'=>
  obtain⟨be,h',ns',q,a,S2⟩:=p
  rw[q]
  dsimp only
  cases qm:muV ms e' with
  |none=>trivial
  |
   some mv=>
   obtain⟨a3,S3,koc⟩:=ii X ns' e' be h' mv (λ_ z=>z) a S2 qm
   exact⟨.non,h',rfl,a3,S3,.non⟩
 |
  exc c e'=>
  obtain⟨be,h',ns',q,a,S2⟩:=p
  rw[q]
  dsimp only
  cases qm:muV ms e' with
  |none=>trivial
  |
   some mv=>
   obtain⟨a3,S3,koc⟩:=ii X ns' e' be h' mv (λ_ z=>z) a S2 qm
   exact⟨h',rfl,a3,S3⟩
 |
  rt r e'=>
  obtain⟨d,be,h',ns',q,a,rr⟩:=p
  rw[q]
  dsimp only
  cases qm:muV ms e' with
  |none=>trivial
  |
   some mv=>
   cases r with
   |
    val v=>
    obtain⟨a3,S3,koc⟩:=ii X ns' e' be h' mv (λ_ z=>z) a rr.1 qm
    exact⟨d,h',rfl,a3,S3,rr.2.mono λm o y q=>⟨koc m y,q⟩⟩
   |
    new v=>
    obtain⟨n,o,z1,z2,z3,z4,z5,z6,z7⟩:=rr
    obtain⟨a3,S3,koc⟩:=ii (Xn X n) ns' e' be h' mv (λ_ z=>.inl z) a z6 qm
    exact⟨d,h',rfl,a3,n,o,z1,z2,z3,z4,z5,S3,z7.mono λm o y q=>⟨koc m y,q⟩⟩
   |
    par i=>
    obtain⟨R1,R2,v,R3⟩:=rr
    obtain⟨a3,S3,koc⟩:=ii X ns' e' be h' mv (λ_ z=>z) a R1 qm
    obtain⟨u,k1,k2⟩:=a.mu i v R3
    have hi:i<(sls ms vs).length:=by
     apply Decidable.byContradiction
     intro hi
     rw[OC (by omega),O3] at k1
     split at k1 <;> cases k1
    rw[OF hi] at k1
    rw[OF (by rw[S.l2];exact hi)] at k2
    obtain⟨m,o,w1,w2,_⟩:=S.sl i _ k1
    obtain⟨m',o',x1,x2,_⟩:=R1.sl i _ R3
    rw[k2,w1] at x1;cases x1
    rw[R2] at x2;cases x2
    obtain⟨v',y,_⟩:=a3.mu' i u k1
    exact⟨_,h',rfl,a3,S3,w2,v',y⟩
def jT(i:Nat):List Tm->Bool
 |.bor j::ts=>(i==j) || jT i ts
 |_::ts=>jT i ts
 | []=>false
def oI(i:Nat):List Bool->List Tm->Bool
 |true::ms,.bor j::ts=>(i==j) || oI i ms ts
 |_::ms,_::ts=>oI i ms ts
 |_,_=>false
def okA(e:E3):List Bool->List Tm->Bool
 |true::ms,.bor i::ts=>((e[i]?).bind Sl.mv).isSome && !(jT i ts)&&okA e ms ts
 |true::_,_::_=>false
 |false::ms,.bor i::ts=>!(oI i ms ts)&&okA e ms ts
 |false::ms,_::ts=>okA e ms ts
 | [],[]=>true
 |_,_=>false
def oJ(b:Bool)(t:Tm):Option Nat:=match b,t with
 |true,.bor i=>some i
 |_,_=>none
def cG(ms:List Bool)(ts:List Tm):List (Option Nat):=List.zipWith oJ ms ts
def bu(e:E3):List Bool->List Tm->List Nat
 |false::ms,.bor i::ts=>(match e[i]? with
  |some (.sh _)=>bu e ms ts
  |_=>i::bu e ms ts)
 |_::ms,_::ts=>bu e ms ts
 |_,_=>[]
mutual
def a8:Val->Bool
 |.tup xs=>cx xs
 |.lst _=>false
 |.kl _=>false
 |.dct _=>false
 |.set _=>false
 |_=>true
def cx:List Val->Bool
 | []=>true
 |v::vs=>a8 v&&cx vs
end
def nS:List (Key×Val)->Bool
 | []=>true
 |(_,v)::vs=>a8 v&&nS vs
def d6:Val->Bool
 |.lst xs=>cx xs
 |.dct xs=>nS xs
 |.set _=>true
 |_=>false
def mf:Rt->Bool
 |.val v=>a8 v
 |.new v=>d6 v
 |.par _=>true
def pz(e:E3):List Nat->Option E3
 | []=>some e
 |i::is=>match cW e (.bor i) with
  |some (e1,_)=>pz e1 is
  |none=>none
def Rt.tm(ts:List Tm):Rt->Tm
 |.val v=>.val v
 |.new v=>.new v
 |.par i=>(ts[i]?).getD (.val .non)
def CD(ms:List Bool)(G:Fn3)(A:MA3):ME3:=λe=>(A e).bind λts e1=>match rss e1 ts with
 |none=>.stuck
 |some vs=>if okA e1 ms ts=true then (match G vs with
  |.stuck=>.stuck
  |.ok r mv=>if (bu e1 ms ts).isEmpty || (mf r&&mv.all d6) then .ok (r.tm ts) (bN (cG ms ts) (aX ms mv) e1) else (match pz e1 (bu e1 ms ts) with
   |some e2=>.ok (r.tm ts) (bN (cG ms ts) (aX ms mv) e2)
   |none=>.stuck)
  |.exc c mv=>if (bu e1 ms ts).isEmpty || mv.all d6 then .exc c (bN (cG ms ts) (aX ms mv) e1) else .stuck) else .stuck
section
variable{P P':Nat->Prop}{h h':AH}
def Rd.flat(f:a8 v=true)(r:Rd P h d v):Rd P' h' d v:=
 @Rd.rec P h (λd v _=>a8 v=true->Rd P' h' d v) (λo v _=>a8 v=true->Rd P' h' .non v) (λds vs _=>cx vs=true->Rds P' h' ds vs) (λws us _=>True) (λ_=>.non) (λb _=>.bl b) (λi _=>.int i) (λx _=>.str x) (λn _=>.ty n) (λx _=>.glb x) (λx _=>.exc x) (λ_ ih f=>.tup (ih f)) (λ_ _ f=>absurd f Ol) (λ_ _ r _ f=>by cases r <;> exact absurd f Ol) (λ_ _ f=>absurd f Ol) (λ_ _ f=>absurd f Ol) (λ_ _ f=>absurd f Ol) (λ_ f=>absurd f Ol) (λ_=>.nil) (λ_ _ a b f=>.cons (a (Oj .. ▸ f).1) (b (Oj .. ▸ f).2)) trivial (λ_ _ _ _=>trivial) d v r f
def Rds.flat(f:cx v=true)(r:Rds P h d v):Rds P' h' d v:=
 r.ind (M:=λds vs=>cx vs=true->Rds P' h' ds vs) (λ_=>.nil) (λr _ ih f=>by
  rw[cx,Oj] at f
  exact .cons (Rd.flat f.1 r) (ih f.2)) f
def Rk.flat(f:nS v=true)(r:Rk P h d v):Rk P' h' d v:=
 r.ind (M:=λds vs=>nS vs=true->Rk P' h' ds vs) (λ_=>.nil) (λr _ ih f=>by
  rw[nS,Oj] at f
  exact .cons (Rd.flat f.1 r) (ih f.2)) f
def Rc.flat(f:d6 v=true)(r:Rc P h o v):Rc P' h' o v:=by
 cases r with
 |lst r=>exact .lst (Rds.flat (by simpa [d6] using f) r)
 |fz r=>simp [d6] at f
 |dct r=>exact .dct (Rk.flat (by simpa [d6] using f) r)
 |set xs=>exact .set xs
end
theorem pA:∀{ts:List Tm}{k:Nat},ts[k]?=some (.bor i)->jT i ts=true
 | [],_,q=>by simp at q
 |
  t::ts,0,q=>by
  have:t=.bor i:=by simpa using q
  subst this;simp [jT]
 |
  t::ts,k+1,q=>by
  have:=pA (ts:=ts) (k:=k) (by simpa using q)
  cases t <;> simp [jT,this]
theorem vT:∀{ms:List Bool}{ts:List Tm}{k:Nat},ms[k]?=some true->ts[k]?=some (.bor i)->oI i ms ts=true
 | [],_,_,q,_=>by simp at q
 |_::_,[],_,_,q=>by simp at q
 |
  b::ms,t::ts,0,q1,q=>by
  have:t=.bor i:=by simpa using q
  have:b=true:=by simpa using q1
  subst_vars;simp [oI]
 |
  b::ms,t::ts,k+1,q1,q=>by
  have:=vT (ms:=ms) (ts:=ts) (k:=k) (by simpa using q1) (by simpa using q)
  cases b <;> cases t <;> simp [oI,this]
theorem mm:∀{ms:List Bool}{ts:List Tm}{k:Nat},okA e ms ts=true->ms[k]?=some true->∃i,ts[k]?=some (.bor i)/\∃u,(e[i]?).bind Sl.mv=some u
 | [],_,_,_,q=>by simp at q
 |b::ms,[],_,o,_=>by cases b <;> simp [okA] at o
 |
  b::ms,t::ts,0,o,q=>by
  have:b=true:=by simpa using q
  subst this
  cases t with
  |
   bor i=>
   simp only[okA,Oj] at o
   exact⟨i,rfl,ON.mp o.1.1⟩
  |_=>simp [okA] at o
 |
  b::ms,t::ts,k+1,o,q=>by
  have o':okA e ms ts=true:=by
   cases b <;> cases t <;> simp only[okA,Oj] at o <;> first |exact o.2 |exact o |(simp at o;done)
  obtain⟨i,y⟩:=mm (k:=k) o' (by simpa using q)
  exact⟨i,by simpa using y⟩
theorem j3:∀{ms:List Bool}{ts:List Tm}{k j i:Nat},okA e ms ts=true->ms[k]?=some true->ts[k]?=some (.bor i)->ts[j]?=some (.bor i)->j=k
 | [],_,_,_,_,_,q,_,_=>by simp at q
 |b::ms,[],_,_,_,o,_,_,_=>by cases b <;> simp [okA] at o
 |b::ms,t::ts,0,0,i,o,q1,q2,q3=>rfl
 |
  b::ms,t::ts,0,j+1,i,o,q1,q2,q3=>by
  have h1:b=true:=by simpa using q1
  have h2:t=.bor i:=by simpa using q2
  subst h1 h2
  simp only[okA,Oj] at o
  have:=pA (i:=i) (ts:=ts) (k:=j) (by simpa using q3)
  rw[this] at o
  simp at o
 |
  b::ms,t::ts,k+1,0,i,o,q1,q2,q3=>by
  have h2:t=.bor i:=by simpa using q3
  subst h2
  have hm:=vT (i:=i) (ms:=ms) (ts:=ts) (k:=k) (by simpa using q1) (by simpa using q2)
  have hb:=pA (i:=i) (ts:=ts) (k:=k) (by simpa using q2)
  cases b <;> simp [okA,hm,hb] at o
 |
  b::ms,t::ts,k+1,j+1,i,o,q1,q2,q3=>by
  have o':okA e ms ts=true:=by
   cases b <;> cases t <;> simp only[okA,Oj] at o <;> first |exact o.2 |exact o |(simp at o;done)
  exact Pb (· + 1) (j3 (k:=k) (j:=j) (i:=i) o' (by simpa using q1) (by simpa using q2) (by simpa using q3))
theorem kd:∀{ms:List Bool}{ts:List Tm},okA e ms ts=true->ms.length=ts.length
 | [],[],_=>rfl
 | [],_::_,o=>by simp [okA] at o
 |b::ms,[],o=>by cases b <;> simp [okA] at o
 |
  b::ms,t::ts,o=>by
  have o':okA e ms ts=true:=by
   cases b <;> cases t <;> simp only[okA,Oj] at o <;> first |exact o.2 |exact o |(simp at o;done)
  exact Pb (· + 1) (kd o')
theorem nt:∀{ms:List Bool}{ts:List Tm}{k i:Nat},ms[k]?=some false->ts[k]?=some (.bor i)->(∀v,e[i]?≠some (.sh v))->i∈bu e ms ts
 | [],_,_,_,q,_,_=>by simp at q
 |_::_,[],_,_,_,q,_=>by simp at q
 |
  b::ms,t::ts,0,i,q1,q2,hn=>by
  have h1:b=false:=by simpa using q1
  have h2:t=.bor i:=by simpa using q2
  subst h1 h2
  unfold bu
  split
  ·rename_i v q;exact absurd q (hn v)
  ·exact Of ..
 |
  b::ms,t::ts,k+1,i,q1,q2,hn=>by
  have ih:=nt (ms:=ms) (ts:=ts) (k:=k) (by simpa using q1) (by simpa using q2) hn
  cases b <;> cases t <;> simp only[bu] <;> first |exact ih |(split;exact ih;exact Od _ ih)
def fG{ms:List Bool}{ts:List Tm}{k i:Nat}(q:(cG ms ts)[k]?=some (some i)):ms[k]?=some true/\ts[k]?=some (.bor i):=by
 unfold cG at q
 rw[PJ] at q
 cases h1:ms[k]? with
 |none=>rw[h1] at q;cases q
 |
  some b=>
  cases h2:ts[k]? with
  |none=>rw[h1,h2] at q;cases q
  |
   some t=>
   rw[h1,h2] at q
   have q':oJ b t=some i:=OE q
   cases b <;> cases t <;> first |(cases q';done) |(cases q';exact⟨rfl,rfl⟩)
def DX{ms:List Bool}{ts:List Tm}{k i:Nat}(q1:ms[k]?=some true)(q2:ts[k]?=some (.bor i)):(cG ms ts)[k]?=some (some i):=by
 unfold cG
 rw[PJ,q1,q2];rfl
theorem vO:∀{ts:List Tm}{vs:List Val}{k:Nat}{v:Val},rss e ts=some vs->vs[k]?=some v->∃t,ts[k]?=some t/\rs e t=some v
 | [],_,_,_,q,q2=>by cases q;simp at q2
 |
  t::ts,vs,k,v,q,q2=>by
  unfold rss at q
  split at q
  ·rename_i u us e1 e2
   cases q
   cases k with
   |zero=>
    have:u=v:=by simpa using q2
    subst this;exact⟨t,rfl,e1⟩
   |
    succ k=>
    obtain⟨t',y1,y2⟩:=vO (k:=k) e2 (by simpa using q2)
    exact⟨t',by simpa using y1,y2⟩
  ·cases q
theorem l8:∀{ts:List Tm}{vs:List Val},rss e ts=some vs->vs.length=ts.length
 | [],_,q=>by cases q;rfl
 |
  t::ts,vs,q=>by
  unfold rss at q
  split at q
  ·rename_i u us e1 e2;cases q;exact Pb (· + 1) (l8 e2)
  ·cases q
theorem TsR.get:∀{ds:List D}{ts:List Tm}{k:Nat}{t:Tm},TsR X ns ae h ds ts->ts[k]?=some t->∃d,ds[k]?=some d/\((∃v,t=.val v/\Rd (Oc X ns) h d v)\/∃i,t=.bor i/\ae[i]?=some (some d))
 |_,_,_,_,.nil,q=>by simp at q
 |_,_,0,_,.val r rr,q=>by have:=(by simpa using q:Tm.val _=_);subst this;exact⟨_,rfl,.inl ⟨_,rfl,r⟩⟩
 |_,_,0,_,.bor r rr,q=>by have:=(by simpa using q:Tm.bor _=_);subst this;exact⟨_,rfl,.inr ⟨_,rfl,r⟩⟩
 |_,_,k+1,t,.val r rr,q=>by obtain⟨d,y⟩:=rr.get (k:=k) (by simpa using q);exact⟨d,by simpa using y⟩
 |_,_,k+1,t,.bor r rr,q=>by obtain⟨d,y⟩:=rr.get (k:=k) (by simpa using q);exact⟨d,by simpa using y⟩
def Xc(X:Nat->Prop)(ns:Ns)(e:E3)(ms:List Bool)(ts:List Tm)(n:Nat):Prop:=(X n\/some n∈ns)/\some n∉cH (cG ms ts) ns/\∀i∈bu e ms ts,ns[i]?≠some (some n)
def tX(S:Sat X h0 ns e ae h)(rt:TsR X ns ae h ds ts)(qv:rss e ts=some vs)(ok:okA e ms ts=true):
 Sat (Xc X ns e ms ts) h.length (cH (cG ms ts) ns) (sls ms vs) (ds.map some) h:=by
 have l1:=kd ok
 have l2:=l8 qv
 have l3:=TsR.len rt
 have hs:oF (cG ms ts):=λj k i q1 q2=>j3 ok (fG q2).1 (fG q2).2 (fG q1).2
 have mv:Mov (Oc X ns) (Oc (Xc X ns e ms ts) (cH (cG ms ts) ns)) h h:=λn o p q=>⟨⟨λz=>by
  rcases z.1 with z |z
  ·exact p.1 z
  ·exact p.2 z,λz=>p.2 (nu z)⟩,q⟩
 refine⟨?_,?_,Og _,λn z=>?_,λj k n q1 q2=>?_,λj n q z=>z.2.1 (bp.mpr ⟨j,q⟩),λk s q=>?_⟩
 ·unfold sls;rw[N_,PX];omega
 ·unfold cH cG sls;rw[N_,PX,PX];omega
 ·rcases z.1 with z |z
  ·exact S.xl n z
  ·obtain⟨i,z⟩:=bp.mp z
   obtain⟨_,_,_,_,_,_,_,q',_⟩:=S.own z
   exact bZ q'
 ·obtain⟨i,y1,y2⟩:=cZ q1
  obtain⟨i',y3,y4⟩:=cZ q2
  have:=S.inj i i' n y2 y4
  subst this
  exact hs j k i y1 y3
 ·obtain⟨b,v,
   q1,q2,rfl⟩:=fO q
  obtain⟨t,q3,q4⟩:=vO qv q2
  obtain⟨d,q5,q6⟩:=rt.get q3
  have qd:(ds.map some)[k]?=some (some d):=by rw[OH,q5];rfl
  rw[qd]
  have qn:(cH (cG ms ts) ns)[k]?=some ((oJ b t).bind λi=>(ns[i]?).bind id):=by
   unfold cH cG
   rw[OH,PJ,q1,q3];rfl
  rw[qn]
  cases b with
  |
   true=>
   obtain⟨i,y1,u,y2⟩:=mm ok q1
   rw[q3] at y1;cases y1
   have q4':(e[i]?).bind Sl.val=some v:=q4
   obtain⟨s,z1,z2⟩:=OP.mp y2
   rw[z1] at q4'
   have hv:s.val=some v:=q4'
   have huv:u=v:=by cases s <;> first |cases z2;done |(cases z2;cases hv;rfl)
   subst huv
   have hns:∃n,ns[i]?=some (some n):=by
    have y:=S.sl i s z1
    cases s with
    |ow v=>obtain⟨n,o,y1,_⟩:=y;exact⟨n,y1⟩
    |mu v=>obtain⟨n,o,y1,_⟩:=y;exact⟨n,y1⟩
    |_=>cases z2
   obtain⟨n,hn⟩:=hns
   obtain⟨n',o,k1,k2,k3,k4,_⟩:=S.write z1 z2
   rcases q6 with ⟨_,z,_⟩ |⟨i',z,q6⟩
   ·cases z
   ·cases z
    rw[q6] at k1;cases k1
    obtain⟨_,_,_,_,_,_,w,_⟩:=S.own hn
    rw[q6] at w;cases w
    exact⟨n,o,by show some ((ns[i]?).bind id)=_;rw[hn];rfl,rfl,k2,k3,k4.mono mv⟩
  |
   false=>
   refine⟨by cases t <;> rfl,d,rfl,?_⟩
   rcases q6 with ⟨u,rfl,q6⟩ |⟨i,rfl,q6⟩
   ·cases q4;exact q6.mono mv
   ·have q4':(
     e[i]?).bind Sl.val=some v:=q4
    rcases S.bor q6 q4' with z |⟨n,o,rfl,z1,z2⟩
    ·exact z.mono mv
    ·refine .cell ⟨λy=>?_,λy=>?_⟩ z1 (z2.mono mv)
     ·
      by_cases hsh:∃w,e[i]?=some (.sh w)
      ·obtain⟨w,hsh⟩:=hsh
       obtain⟨_,x,w1,w2⟩:=S.sl i _ hsh
       rw[q6] at w1;cases w1
       cases w2 with
       |cell p _ _=>rcases y.1 with y |y;exact p.1 y;exact p.2 y
      ·have hl:=nt q1 q3 λw z=>hsh ⟨w,z⟩
       cases w:ns[i]? with
       |
        none=>
        have hi:i<e.length:=by
         cases z:e[i]? with
         |none=>rw[z] at q4';cases q4'
         |some _=>exact (Oe.mp z).1
        rw[Pm,S.l2] at w
        omega
       |
        some w'=>
        cases w' with
        |
         none=>
         cases z:e[i]? with
         |none=>rw[z] at q4';cases q4'
         |
          some s=>
          have k:=S.sl i s z
          rw[w] at k
          cases s with
          |no=>rw[z] at q4';cases q4'
          |sh w=>exact hsh ⟨w,z⟩
          |ow w=>obtain⟨_,_,k,_⟩:=k;cases k
          |lo w=>obtain⟨_,_,k,_⟩:=k;cases k
          |mu w=>obtain⟨_,_,k,_⟩:=k;cases k
          |lm w=>obtain⟨_,_,k,_⟩:=k;cases k
        |
         some n'=>
         obtain⟨_,_,_,_,_,_,w2,_⟩:=S.own w
         rw[q6] at w2;cases w2
         exact y.2.2 i hl w
     ·obtain⟨j,y⟩:=bp.mp y
      obtain⟨i',y1,y2⟩:=cZ y
      obtain⟨y3,y4⟩:=fG y1
      obtain⟨_,_,_,_,_,_,w2,_⟩:=S.own y2
      have:i'
       = i:=by
       cases w:ns[i]? with
       |
        none=>
        have hi:i<e.length:=by
         cases z:e[i]? with
         |none=>rw[z] at q4';cases q4'
         |some _=>exact (Oe.mp z).1
        rw[Pm,S.l2] at w
        omega
       |
        some w'=>
        cases w' with
        |
         some n'=>
         obtain⟨_,_,_,_,_,_,w3,_⟩:=S.own w
         rw[q6] at w3;cases w3
         exact S.inj i' i n y2 w
        |
         none=>
         cases z:e[i]? with
         |none=>rw[z] at q4';cases q4'
         |
          some s=>
          have k:=S.sl i s z
          rw[w,q6] at k
          cases s with
          |no=>rw[z] at q4';cases q4'
          |
           sh w=>
           obtain⟨_,x,k1,k2⟩:=k
           cases k1
           cases k2 with
           |cell p _ _=>exact (p.2 (bp.mpr ⟨i',y2⟩)).elim
          |ow w=>obtain⟨_,_,k,_⟩:=k;cases k
          |lo w=>obtain⟨_,_,k,_⟩:=k;cases k
          |mu w=>obtain⟨_,_,k,_⟩:=k;cases k
          |lm w=>obtain⟨_,_,k,_⟩:=k;cases k
      subst this
      have:=j3 ok y3 y4 q3
      subst this
      rw[q1] at y3;cases y3
end L3
namespace L3
open PySem PySem.Spec PyProof.Rows L2
theorem fH:∀{ms:List Bool}{mv:List Val}{j:Nat}{v:Val},(aX ms mv)[j]?=some (.mu v)->v∈mv
 | [],_,_,_,q=>by simp [aX] at q
 |true::ms,u::mv,0,v,q=>by
  have:Sl.mu u=.mu v:=by simpa [aX] using q
  cases this;exact Of ..
 |true::ms,u::mv,j+1,v,q=>Od _ (fH (ms:=ms) (mv:=mv) (j:=j) (by simpa [aX] using q))
 |true::ms,[],0,v,q=>by simp [aX] at q
 |true::ms,[],j+1,v,q=>fH (ms:=ms) (mv:=[]) (j:=j) (by simpa [aX] using q)
 |false::ms,mv,0,v,q=>by simp [aX] at q
 |false::ms,mv,j+1,v,q=>fH (ms:=ms) (mv:=mv) (j:=j) (by simpa [aX] using q)
theorem m6:∀{ms:List Bool}{ts:List Tm}{i:Nat},i∈bu e ms ts->∃k:Nat,ms[k]?=some false/\ts[k]?=some (.bor i)
 | [],_,_,q=>by simp [bu] at q
 |_::_,[],_,q=>by simp [bu] at q
 |
  b::ms,t::ts,i,q=>by
  have up:i∈bu e ms ts->∃k:Nat,(b::ms)[k]?=some false/\(t::ts)[k]?=some (.bor i):=λz=>by
   obtain⟨k,y1,y2⟩:=m6 z
   exact⟨k+1,by simpa using y1,by simpa using y2⟩
  cases b <;> cases t <;> simp only[bu] at q <;> first |exact up q |skip
  split at q
  ·exact up q
  ·rcases Oy.mp q with rfl |q
   ·exact⟨0,rfl,rfl⟩
   ·exact up q
def DP(q:cW e (.bor i)=some (e1,v)):(∀j,j≠i->e1[j]?=e[j]?)/\e1[i]?=some (.sh v)/\(e[i]?).bind Sl.val=some v:=by
 unfold cW at q
 dsimp only at q
 split at q
 ·rename_i u q1;cases q;exact⟨λ_ _=>rfl,q1,by rw[q1];rfl⟩
 ·rename_i u q1;cases q;exact⟨λj z=>bF z,bU (Oe.mp q1).1,by rw[q1];rfl⟩
 ·cases q
theorem rG:∀{is:List Nat}{ns:Ns}{e e2:E3},Sat X h0 ns e ae h->(∀i∈is,∃d,ae[i]?=some (some d))->pz e is=some e2->∃gl,Sat X h0 gl e2 ae h/\Stp ns e h gl e2 h/\(∀i,i∉is->e2[i]?=e[i]?)/\(∀i∈is,∃v,e2[i]?=some (.sh v))/\∀i:Nat,(e2[i]?).bind Sl.val=(e[i]?).bind Sl.val
 | [],ns,e,e2,S,_,q=>by cases q;exact⟨ns,S,.refl,λ_ _=>rfl,(λ_ z=>by cases z),λ_=>rfl⟩
 |
  i::is,ns,e,e2,S,hd,q=>by
  unfold pz at q
  split at q
  ·rename_i e1 v q1
   obtain⟨d,hd0⟩:=hd i (Of ..)
   obtain⟨ns1,S1,a1,r1⟩:=gJ (L:=0) (t:=.bor i) S hd0 q1
   obtain⟨gl,S2,a2,k1,k2,k3⟩:=rG S1 (λj z=>hd j (Od _ z)) q
   obtain⟨y1,y2,y3⟩:=DP q1
   refine⟨gl,S2,a1.trans S a2,λj hj=>?_,λj hj=>?_,λj=>?_⟩
   ·rw[Oy,not_or] at hj
    rw[k1 j hj.2,y1 j hj.1]
   ·by_cases z:j∈is
    ·exact k2 j z
    ·rcases Oy.mp hj with rfl |hj
     ·exact⟨v,by rw[k1 j z];exact y2⟩
     ·exact absurd hj z
   ·rw[k3 j]
    by_cases z:j=i
    ·subst z;rw[y2,y3];rfl
    ·rw[y1 j z]
  ·cases q
theorem pZ:∀{ms:List Bool}{ts:List Tm},(∀(k i:Nat),ms[k]?=some true->ts[k]?=some (.bor i)->e2[i]?=e[i]?)->okA e ms ts=true->okA e2 ms ts=true
 | [],[],_,o=>rfl
 | [],_::_,_,o=>by simp [okA] at o
 |b::ms,[],_,o=>by cases b <;> simp [okA] at o
 |
  b::ms,t::ts,hk,o=>by
  have o':okA e ms ts=true:=by
   cases b <;> cases t <;> simp only[okA,Oj] at o <;> first |exact o.2 |exact o |(simp at o;done)
  have ih:=pZ (λk i q1 q2=>hk (k+1) i (by simpa using q1) (by simpa using q2)) o'
  cases b with
  |false=>cases t <;> simp only[okA,Oj] at o ⊢ <;> first |exact⟨o.1,ih⟩ |exact ih
  |
   true=>
   cases t with
   |
    bor i=>
    simp only[okA,Oj] at o ⊢
    rw[hk 0 i rfl rfl]
    exact⟨o.1,ih⟩
   |_=>simp [okA] at o
theorem se:∀{ms:List Bool}{ts:List Tm},(∀(k i:Nat),ms[k]?=some false->ts[k]?=some (.bor i)->∃v,e[i]?=some (.sh v))->bu e ms ts=[]
 | [],_,_=>by simp [bu]
 |_::_,[],_=>by simp [bu]
 |
  b::ms,t::ts,hk=>by
  have ih:=se (λk i q1 q2=>hk (k+1) i (by simpa using q1) (by simpa using q2))
  cases b <;> cases t <;> simp only[bu] <;> first |exact ih |skip
  rename_i i
  obtain⟨v,q⟩:=hk 0 i rfl rfl
  rw[q];exact ih
theorem pX(hv:∀i:Nat,(e2[i]?).bind Sl.val=(e[i]?).bind Sl.val):∀(ts:List Tm),rss e2 ts=rss e ts
 | []=>rfl
 |
  t::ts=>by
  unfold rss
  rw[pX hv ts]
  have:rs e2 t=rs e t:=by
   cases t with
   |bor i=>exact hv i
   |_=>rfl
  rw[this]
def so(ok:okA e ms ts=true):Lnk (cG ms ts) e (sls ms vs):=by
 refine⟨λj k i q1 q2=>j3 ok (fG q2).1 (fG q2).2 (fG q1).2,λj v q=>?_,λj s q hm=>?_⟩
 ·obtain⟨b,u,q1,_,q2⟩:=fO q
  cases b with
  |false=>cases q2
  |
   true=>
   obtain⟨i,y1,w,y2⟩:=mm ok q1
   obtain⟨s,z1,z2⟩:=OP.mp y2
   exact⟨i,s,DX q1 y1,z1,by cases s <;> first |rfl |cases z2⟩
 ·obtain⟨b,u,q1,_,q2⟩:=fO q
  cases b with
  |false=>subst q2;cases hm
  |true=>exact⟨u,q2⟩
section
variable{X:Nat->Prop}{h0 L:Nat}{ns:Ns}{e:E3}{ae:AE}{h:AH}{ms:List Bool}{ts:List Tm}{ds:List D}{vs:List Val}{S2:Fn}{G3:Fn3}
def j6(Y:Nat->Prop)(hY:∀n,Y n->X n\/Y n)(hl:bu e ms ts=[])(z:¬ Xc X ns e ms ts n)(z2:some n∉cH (cG ms ts) ns):Oc X ns n:=by
 refine⟨λy=>z ⟨.inl y,z2,λi hi=>by rw[hl] at hi;cases hi⟩,λy=>z ⟨.inr y,z2,λi hi=>by rw[hl] at hi;cases hi⟩⟩
def u9(S:Sat X h0 ns e ae h)(hL:L<=h.length)(rt:TsR X ns ae h ds ts)(qv:rss e ts=some vs)(ok:okA e ms ts=true)(hG:RF ms S2 G3)(q:G3 vs=.ok r mv)(hf:bu e ms ts=[]\/(mf r=true/\mv.all d6=true)):
 Po X h0 ns e ae h (relE X h0 L ae) (S2 ds h) (.ok (r.tm ts) (bN (cG ms ts) (aX ms mv) e)):=by
 have p:=hG _ _ ds vs h (by rw[l8 qv,kd ok]) (tX S rt qv ok)
 rw[q] at p
 obtain⟨d,h',p1,a,rr⟩:=p
 have K:=so (vs:=vs) ok
 have xcl:∀n,X n->n<h.length:=S.xl
 cases r with
 |
  val v=>
  obtain⟨S3,rv⟩:=rr
  obtain⟨S4,a4⟩:=S.back (Y:=X) K a (λn z=>⟨Ox (xcl n z) a.len,.inl z⟩) (λ_ z=>z) λj w n q1 q2=>by
   obtain⟨s,u,o,b1,b2,b3,b4,b5,b6,b7⟩:=S3.own q2
   rw[q1] at b1;cases b1;cases b3
   rcases hf with hf |hf
   ·exact⟨o,b5,b6,b7.mono λm o' z y=>⟨j6 X (λ_ z=>.inl z) hf z.1 z.2,y⟩⟩
   ·exact⟨o,b5,b6,b7.flat (OV.mp hf.2 w (fH q1))⟩
  refine⟨d,h',ns,p1,a4,S4,?_⟩
  rcases hf with hf |hf
  ·exact rv.mono λm o' z y=>⟨j6 X (λ_ z=>.inl z) hf z.1 z.2,y⟩
  ·exact rv.flat hf.1
 |
  new v=>
  obtain⟨n,o,z1,z2,z3,z4,z5,S3,z7⟩:=rr
  have hnx:¬ X n:=λy=>by have:=xcl n y;omega
  have kk:∀m,Oc (Xn (Xc X ns e ms ts) n) (cH (cG ms ts) ns) m->bu e ms ts=[]->Oc (Xn X n) ns m:=λm z hf=>by
   have:=j6 X (λ_ z=>.inl z) hf (λy=>z.1 (.inl y)) z.2
   exact⟨λy=>by
    rcases y with y |y
    ·exact this.1 y
    ·exact z.1 (.inr y),this.2⟩
  obtain⟨S4,a4⟩:=S.back (Y:=Xn X n) K a (λm z=>by
   rcases z with z |rfl
   ·exact⟨Ox (xcl m z) a.len,.inl z⟩
   ·exact⟨bZ z4,.inr z2⟩) (λ_ z=>.inl z) λj w n' q1 q2=>by
   obtain⟨s,u,o,b1,b2,b3,b4,b5,b6,b7⟩:=S3.own q2
   rw[q1] at b1;cases b1;cases b3
   rcases hf with hf |hf
   ·exact⟨o,b5,b6,b7.mono λm o' z y=>⟨kk m z hf,y⟩⟩
   ·exact⟨o,b5,b6,b7.flat (OV.mp hf.2 w (fH q1))⟩
  refine⟨d,h',ns,p1,a4,S4.weak λ_ z=>.inl z,n,o,z1,Ow hL z2,hnx,z4,z5,S4,?_⟩
  rcases hf with hf |hf
  ·exact z7.mono λm o' z y=>⟨kk m z hf,y⟩
  ·exact z7.flat hf.1
 |
  par i=>
  obtain⟨S3,w1,w,w2⟩:=rr
  obtain⟨S4,a4⟩:=S.back (Y:=X) K a (λn z=>⟨Ox (xcl n z) a.len,.inl z⟩) (λ_ z=>z) λj w n q1 q2=>by
   obtain⟨s,u,o,b1,b2,b3,b4,b5,b6,b7⟩:=S3.own q2
   rw[q1] at b1;cases b1;cases b3
   rcases hf with hf |hf
   ·exact⟨o,b5,b6,b7.mono λm o' z y=>⟨j6 X (λ_ z=>.inl z) hf z.1 z.2,y⟩⟩
   ·exact⟨o,b5,b6,b7.flat (OV.mp hf.2 w (fH q1))⟩
  refine⟨d,h',ns,p1,a4,S4,?_⟩
  obtain⟨u,x1,_⟩:=a.mu i w w2
  obtain⟨b,u',x2,_,x3⟩:=fO x1
  cases b with
  |false=>cases x3
  |
   true=>
   obtain⟨k,y1,_⟩:=mm ok x2
   obtain⟨d',y2,z⟩:=rt.get y1
   have e1:(Rt.par i).tm ts=.bor k:=by show (ts[i]?).getD _=_;rw[y1];rfl
   rw[e1]
   rcases z with ⟨_,z,_⟩ |⟨j,z,z2⟩
   ·cases z
   ·cases z
    rw[OH,y2] at w1
    cases w1
    exact z2
def BV(S:Sat X h0 ns e ae h)(rt:TsR X ns ae h ds ts)(qv:rss e ts=some vs)(ok:okA e ms ts=true)(hG:RF ms S2 G3)(q:G3 vs=.exc c mv)(hf:bu e ms ts=[]\/mv.all d6=true):
 Po X h0 ns e ae h (relE X h0 L ae) (S2 ds h) (.exc c (bN (cG ms ts) (aX ms mv) e)):=by
 have p:=hG _ _ ds vs h (by rw[l8 qv,kd ok]) (tX S rt qv ok)
 rw[q] at p
 obtain⟨h',p1,a,S3⟩:=p
 have K:=so (vs:=vs) ok
 obtain⟨S4,a4⟩:=S.back (Y:=X) K a (λn z=>⟨Ox (S.xl n z) a.len,.inl z⟩) (λ_ z=>z) λj w n q1 q2=>by
  obtain⟨s,u,o,b1,b2,b3,b4,b5,b6,b7⟩:=S3.own q2
  rw[q1] at b1;cases b1;cases b3
  rcases hf with hf |hf
  ·exact⟨o,b5,b6,b7.mono λm o' z y=>⟨j6 X (λ_ z=>.inl z) hf z.1 z.2,y⟩⟩
  ·exact⟨o,b5,b6,b7.flat (OV.mp hf w (fH q1))⟩
 exact⟨h',ns,p1,a4,S4⟩
def E1(hn:n=ms.length)(hG:RF ms S2 G3)(hA:RA A A3):RE (xt n S2 A) (CD ms G3 A3):=λX h0 L ns e ae h S hl=>
 Po.bind
  S (hA X h0 ns e ae h S) λds ts h1 ns1 e1 a1 S1 r1=>by
  try dsimp only
  cases qv:rss e1 ts with
  |none=>trivial
  |
   some vs=>
   dsimp only
   by_cases ok:okA e1 ms ts=true
   ·rw[if_pos ok]
    have bi:ds.length=n:=by rw[hn,kd ok];exact TsR.len r1
    rw[if_pos bi]
    have hL:L<=h1.length:=Ow hl a1.len
    cases q:G3 vs with
    |stuck=>trivial
    |
     exc c mv=>
     dsimp only
     by_cases hf:((bu e1 ms ts).isEmpty || mv.all d6)=true
     ·rw[if_pos hf]
      refine BV S1 r1 qv ok hG q ?_
      rw[Bool.or_eq_true] at hf
      rcases hf with hf |hf
      ·exact .inl (List.isEmpty_iff.mp hf)
      ·exact .inr hf
     ·rw[if_neg hf];trivial
    |
     ok r mv=>
     dsimp only
     by_cases hf:((bu e1 ms ts).isEmpty || (mf r&&mv.all d6))=true
     ·rw[if_pos hf]
      refine u9 S1 hL r1 qv ok hG q ?_
      rw[Bool.or_eq_true,Oj] at hf
      rcases hf with hf |hf
      ·exact .inl (List.isEmpty_iff.mp hf)
      ·exact .inr hf
     ·rw[if_neg hf]
      cases qd:pz e1 (bu e1 ms ts) with
      |none=>trivial
      |
       some e2=>
       dsimp only
       obtain⟨gl,S2',a2,k1,k2,k3⟩:=rG S1 (λi hi=>by
        obtain⟨k,_,y⟩:=m6 hi
        obtain⟨d,_,z⟩:=r1.get y
        rcases z with ⟨_,z,_⟩ |⟨j,z,z2⟩
        ·cases z
        ·cases z;exact⟨d,z2⟩) qd
       have ok2:okA e2 ms ts=true:=pZ (λk i q1 q2=>k1 i λz=>by
        obtain⟨k',y1,y2⟩:=m6 z
        have:=j3 ok q1 q2 y2
        subst this
        rw[q1] at y1;cases y1) ok
       have ln:bu e2 ms ts=[]:=se λk i q1 q2=>by
        by_cases z:i∈bu e1 ms ts
        ·exact k2 i z
        ·rw[k1 i z]
         exact Qk λw=>z (nt q1 q2 λv y=>w ⟨v,y⟩)
       have pp:=u9 (L:=L) S2' hL (r1.stp S1 a2) (by rw[pX k3];exact qv) ok2 hG q (.inl ln)
       obtain⟨d,h',ns',y,y1,y2,y3⟩:=pp
       exact⟨d,h',ns',y,a2.trans S1 y1,y2,y3⟩
   ·rw[if_neg ok];trivial
end
def RMv(m2:D->List D->AH->R D)(m3:Val->List Val->Bv):Prop:=∀P h d v ds vs,ShR P h d v->kO v=true->ShRs P h ds vs->BvR P h (m2 d ds h) (m3 v vs)
end L3
namespace L3
open PySem PySem.Spec PyProof.Rows L2
def aI(f:Int->Int->Val):Val->Val->Bv:=λx y=>match x,y with
 |.int i,.int j=>.val (f i j)
 |_,_=>.stuck
open Classical in
def aIc(C:Int->Int->Prop)(f:Int->Int->Val):Val->Val->Bv:=λx y=>match x,y with
 |.int i,.int j=>if C i j then .val (f i j) else .stuck
 |_,_=>.stuck
def xp:Val->Val->Bv:=λx y=>match x,y with
 |.lst xs,.lst ys=>if xs.length+ys.length<=16777216 then .new (.lst (xs++ys)) else .stuck
 |.tup xs,.tup ys=>if xs.length+ys.length<=16777216 then .val (.tup (xs++ys)) else .stuck
 |_,_=>.stuck
def Cg:Val->Val->Bv:=λx y=>match x,y with
 |.int i,.int j=>.val (.int (i+j))
 |x,y=>xp x y
def aMin:=aI λi j=>.int (i-j)
def wa:=aIc CMulA λi j=>.int (i*j)
def wH:=aIc CDivB λi j=>.int (i.fdiv j)
def wJ:=aIc (λ_ j=>j≠0) λi j=>.int (i.fmod j)
def wR:=aIc pI λi j=>.int (i^j.toNat)
def aLt:=aI λi j=>.bl (decide (i<j))
def aGt:=aI λi j=>.bl (decide (j<i))
def aGe:=aI λi j=>.bl (decide (j<=i))
def B7:Val->Bv:=λx=>match x with
 |.int i=>.val (.int (-i))
 |_=>.stuck
def aIx:Val->Val->Bv:=λx y=>match x.items,y with
 |some xs,.int i=>(match atI xs i with
  |some v=>.val v
  |none=>.stuck)
 |_,_=>.stuck
section
def ub(hr:∀i j P h,Rd P h (f2 i j) (f3 i j)):RO (gI f2) (aI f3):=λP h d1 d2 v1 v2 r1 r2=>by
 unfold aI
 split
 ·obtain rfl:=r1.int;obtain rfl:=r2.int;exact⟨_,rfl,hr _ _ P h⟩
 ·trivial
def qZ(hr:∀i j P h,Rd P h (f2 i j) (f3 i j)):RO (gIc C f2) (aIc C f3):=λP h d1 d2 v1 v2 r1 r2=>by
 unfold aIc
 split
 ·obtain rfl:=r1.int;obtain rfl:=r2.int
  split
  ·rename_i hc;exact⟨_,by unfold gIc;dsimp only;rw[if_pos hc],hr _ _ P h⟩
  ·trivial
 ·trivial
def FT:RO ny xp:=λP h d1 d2 v1 v2 r1 r2=>by
 unfold xp
 split
 ·obtain⟨n,ds,rfl,e1,_,q1⟩:=r1.lst
  obtain⟨m,es,rfl,e2,_,q2⟩:=r2.lst
  split
  ·rename_i hl
   exact⟨.lst (ds++es),by unfold ny;dsimp only;rw[e1,e2];dsimp only;rw[if_pos (by rw[q1.len,q2.len];exact hl)],trivial,.lst (q1.append q2)⟩
  ·trivial
 ·obtain⟨ds,rfl,q1⟩:=r1.tup
  obtain⟨es,rfl,q2⟩:=r2.tup
  split
  ·rename_i hl
   exact⟨_,by unfold ny;dsimp only;rw[if_pos (by rw[q1.len,q2.len];exact hl)],.tup (q1.append q2)⟩
  ·trivial
 ·trivial
def Fo:RO xa Cg:=λP h d1 d2 v1 v2 r1 r2=>by
 unfold Cg
 split
 ·obtain rfl:=r1.int;obtain rfl:=r2.int;exact⟨_,rfl,.int _⟩
 ·rename_i hn
  have k:=FT P h d1 d2 v1 v2 r1 r2
  have e:xa d1 d2 h=ny d1 d2 h\/xp v1 v2=.stuck:=by
   cases v1 <;> first |(right;rfl) |(left;skip)
   ·obtain⟨ds,rfl,_⟩:=r1.tup;rfl
   ·obtain⟨n,ds,rfl,_⟩:=r1.lst;rfl
  rcases e with e |e
  ·rw[e];exact k
  ·rw[e];trivial
def G5:RO B2 aMin:=ub λ_ _ _ _=>.int _
def Fw:RO BJ wa:=qZ λ_ _ _ _=>.int _
def Iw:RO Ar wH:=qZ λ_ _ _ _=>.int _
def FL:RO AQ wJ:=qZ λ_ _ _ _=>.int _
def Jh:RO BH wR:=qZ λ_ _ _ _=>.int _
def K7:RO gLt aLt:=ub λ_ _ _ _=>.bl _
def Lj:RO gGt aGt:=ub λ_ _ _ _=>.bl _
def KO:RO gGe aGe:=ub λ_ _ _ _=>.bl _
def Jo:RU xh B7:=λP h d v r=>by
 unfold B7
 split
 ·obtain rfl:=r.int;exact⟨_,rfl,.int _⟩
 ·trivial
def KL(r:Rds P h ds vs)(e:atI vs i=some v):∃d,atI ds i=some d/\Rd P h d v:=by
 unfold atI at e ⊢
 rw[r.len]
 cases q:ixN vs.length i with
 |none=>rw[q] at e;cases e
 |some j=>rw[q] at e;exact r.get e
def K5:RO gIx aIx:=λP h d1 d2 v1 v2 r1 r2=>by
 unfold aIx
 split
 ·rename_i xs i e1
  obtain⟨ds,e2,q⟩:=r1.items e1
  obtain rfl:=r2.int
  split
  ·rename_i v e3
   obtain⟨d,e4,q2⟩:=KL q e3
   exact⟨d,by unfold gIx;rw[e2];dsimp only;rw[e4],q2⟩
  ·trivial
 ·trivial
end
mutual
def dJ:Nat->Val->Option PyData
 |0,_=>none
 |_+1,.non=>some .none
 |_+1,.bl b=>some (.bool b)
 |_+1,.int i=>some (.int i)
 |_+1,.str x=>some (.str x)
 |k+1,.tup xs=>(fj k xs).map .tuple
 |k+1,.lst xs=>(fj k xs).map .list
 |_+1,_=>none
def fj:Nat->List Val->Option (List PyData)
 |_,[]=>some []
 |k,x::xs=>match dJ k x,fj k xs with
  |some a,some b=>some (a::b)
  |_,_=>none
end
def Bu(hk:∀d v pd,Rd P h d v->dJ k v=some pd->eY k h d=some pd):∀{ds:List D}{vs:List Val}{ps:List PyData},Rds P h ds vs->fj k vs=some ps->ds.mapM (eY k h)=some ps:=by
 intro ds
 induction ds with
 |
  nil=>
  intro vs ps r q
  cases r
  unfold fj at q
  cases q
  rfl
 |
  cons d0 ds ih=>
  intro vs ps r q
  cases r with
  |
   cons r rr=>
   unfold fj at q
   split at q
   ·rename_i a b e1 e2
    cases q
    rw[P7,hk _ _ _ r e1,ih rr e2];rfl
   ·cases q
theorem oK:∀(k:Nat) (d:D) (v:Val) (pd:PyData),ShR P h d v->dJ k v=some pd->eY k h d=some pd
 |0,_,_,_,_,q=>by unfold dJ at q;cases q
 |
  k+1,d,v,pd,r,q=>by
  have ih:∀{ds:List D}{vs:List Val}{ps:List PyData},Rds P h ds vs->fj k vs=some ps->ds.mapM (eY k h)=some ps:=Bu λd v pd r q=>oK k d v pd (.inl r) q
  cases v with
  |non=>obtain rfl:=r.non;simp only[dJ] at q;cases q;rfl
  |bl b=>obtain rfl:=r.bl;simp only[dJ] at q;cases q;rfl
  |int b=>obtain rfl:=r.int;simp only[dJ] at q;cases q;rfl
  |str b=>obtain rfl:=r.str;simp only[dJ] at q;cases q;rfl
  |
   tup xs=>
   obtain⟨ds,rfl,r2⟩:=r.tup
   simp only[dJ] at q
   obtain⟨ps,q1,rfl⟩:=OJ.mp q
   show (ds.mapM (eY k h)).map PyData.tuple=_
   rw[ih r2 q1];rfl
  |
   lst xs=>
   obtain⟨n,ds,rfl,_,e1,r2⟩:=r.lst
   simp only[dJ] at q
   obtain⟨ps,q1,rfl⟩:=OJ.mp q
   unfold eY
   rw[e1]
   show (ds.mapM (eY k h)).map PyData.list=_
   rw[ih r2 q1];rfl
  |_=>simp only[dJ] at q;cases q
def dZ(x y:Val):Option Bool:=match dJ 164 x,dJ 164 y with
 |some a,some b=>if shp a=true/\shp b=true then some (PyData.eqv a b) else none
 |_,_=>none
def aEq(neg:Bool):Val->Val->Bv:=λx y=>match dZ x y with
 |some b=>.val (.bl (if neg then !b else b))
 |none=>.stuck
def IK(r1:ShR P h d1 v1)(r2:ShR P h d2 v2)(q:dZ v1 v2=some b):tS h d1 d2=some b:=by
 unfold dZ at q
 split at q
 ·rename_i a c e1 e2
  unfold tS
  rw[oK 164 _ _ _ r1 e1,oK 164 _ _ _ r2 e2]
  exact q
 ·cases q
def CQ(neg:Bool):RO (gEq neg) (aEq neg):=λP h d1 d2 v1 v2 r1 r2=>by
 unfold aEq
 split
 ·rename_i b q
  exact⟨_,by unfold gEq;rw[IK r1 r2 q],.bl _⟩
 ·trivial
def qU:Val->Bool
 |.non=>true
 |.bl _=>true
 |.int _=>true
 |.str _=>true
 |_=>false
def xD:Val->V
 |.bl b=>.bl b
 |.int i=>.int i
 |.str x=>.str x
 |_=>.non
def eq1(x y:Val):Bool:=eqV (xD x) (xD y)
def aIn(neg:Bool):Val->Val->Bv:=λx y=>match y.items with
 |some xs=>if qU x=true/\xs.all qU=true then .val (.bl (if neg then !(xs.any λd=>eq1 d x) else xs.any λd=>eq1 d x)) else .stuck
 |none=>.stuck
def vh(r:ShR P h d v)(f:qU v=true):mj d=true/\toV d=xD v:=by
 cases v with
 |non=>obtain rfl:=r.non;exact⟨rfl,rfl⟩
 |bl b=>obtain rfl:=r.bl;exact⟨rfl,rfl⟩
 |int b=>obtain rfl:=r.int;exact⟨rfl,rfl⟩
 |str b=>obtain rfl:=r.str;exact⟨rfl,rfl⟩
 |_=>cases f
def AU(x:D)(y:Val)(hx:toV x=xD y):∀{ds:List D}{vs:List Val},Rds P h ds vs->vs.all qU=true->ds.all mj=true/\(ds.any λd=>eqF d x)=vs.any λd=>eq1 d y:=by
 intro ds
 induction ds with
 |
  nil=>
  intro vs r f
  cases r
  exact⟨rfl,rfl⟩
 |
  cons d0 ds ih=>
  intro vs r f
  cases r with
  |
   cons r rr=>
   rw[PZ,Oj] at f
   obtain⟨h1,h2⟩:=vh (.inl r) f.1
   obtain⟨h3,h4⟩:=ih rr f.2
   refine⟨by rw[PZ,h1,h3];rfl,?_⟩
   rw[Pd,Pd,h4]
   unfold eqF eq1
   rw[h2,hx]
def LZ(neg:Bool):RO (gIn neg) (aIn neg):=λP h d1 d2 v1 v2 r1 r2=>by
 unfold aIn
 split
 ·rename_i xs e
  obtain⟨ds,e2,q⟩:=r2.items e
  split
  ·rename_i hf
   obtain⟨f1,f2⟩:=vh r1 hf.1
   obtain⟨f3,f4⟩:=AU d1 v1 f2 q hf.2
   exact⟨_,by unfold gIn;rw[e2];dsimp only;rw[if_pos ⟨f1,f3⟩,f4],.bl _⟩
  ·trivial
 ·trivial
def BY(neg:Bool):Val->Val->Bv:=λx y=>match x,y with
 |.non,.non=>.val (.bl (!neg))
 |_,.non=>.val (.bl neg)
 |_,_=>.stuck
def Ju(neg:Bool):RO (By neg) (BY neg):=λP h d1 d2 v1 v2 r1 r2=>by
 unfold BY
 split
 ·obtain rfl:=r1.non;obtain rfl:=r2.non;exact⟨_,rfl,.bl _⟩
 ·rename_i hn
  obtain rfl:=r2.non
  have:d1 ≠ .non:=by
   rintro rfl
   rcases r1 with r |⟨n,o,z,_⟩
   ·cases r;exact hn rfl
   ·cases z
  refine⟨_,?_,.bl neg⟩
  unfold By
  split
  ·exact absurd rfl this
  ·rfl
  ·rename_i h1 h2;exact (h1 rfl).elim
 ·trivial
def Bq:List Val->Bv:=λvs=>match vs with
 | [v]=>(match v.items with
  |some xs=>.val (.int xs.length)
  |none=>(match v with
   |.str z=>if z.length<=16777216 then .val (.int z.length) else .stuck
   |_=>.stuck))
 |_=>.stuck
def AN:List Val->Bv:=λvs=>match vs with
 | [.int i]=>.val (.int (if i<0 then -i else i))
 |_=>.stuck
def wx:List Val->Bv:=λvs=>match vs with
 | [.int i,.int j]=>.val (.int (if j>i then j else i))
 |_=>.stuck
def wX:List Val->Bv:=λvs=>match vs with
 | [.int i,.int j]=>.val (.int (if j<i then j else i))
 |_=>.stuck
def lJ:List Val->Option (List Bool)
 | []=>some []
 |.bl b::r=>(lJ r).map (b :: ·)
 |_=>none
def kK:List Val->Option (List Int)
 | []=>some []
 |.int b::r=>(kK r).map (b :: ·)
 |_=>none
def AD:List Val->Bv:=λvs=>match vs with
 | [.lst xs]=>(match lJ xs with
  |some bs=>.val (.bl (bs.all id))
  |none=>.stuck)
 |_=>.stuck
def B6:List Val->Bv:=λvs=>match vs with
 | [.lst xs]=>(match kK xs with
  |some bs=>.val (.int bs.sum)
  |none=>.stuck)
 |_=>.stuck
def wZ:List Val->Bv:=λvs=>match vs with
 | [v]=>(match v.items with
  |some xs=>.new (.lst xs)
  |none=>.stuck)
 |_=>.stuck
def sA:List Val->Bv:=λvs=>match vs with
 | [v]=>(match v.items with
  |some xs=>.val (.tup xs)
  |none=>.stuck)
 |_=>.stuck
def AZ:List Val->Bv:=λvs=>match vs with
 | [.int i]=>.val (.int i)
 | [.bl b]=>.val (.int (if b then 1 else 0))
 |_=>.stuck
def Im:RFn tT Bq:=λP h ds vs r=>by
 unfold Bq
 split
 ·obtain⟨d,hd,rr1⟩:=gQ r;subst hd;clear r;have r:=rr1
  split
  ·rename_i xs e
   obtain⟨es,e2,q⟩:=r.items e
   exact⟨_,by unfold tT;dsimp only;rw[e2],by rw[<- q.len];exact .int _⟩
  ·split
   ·rename_i z _
    obtain rfl:=r.str
    split
    ·rename_i hl;exact⟨_,by show (if z.length<=16777216 then _ else _)=_;rw[if_pos hl],.int _⟩
    ·trivial
   ·trivial
 ·trivial
def Hi:RFn vW AN:=λP h ds vs r=>by
 unfold AN
 split
 ·obtain⟨d,hd,rr1⟩:=gQ r;subst hd;clear r;have r:=rr1;obtain rfl:=r.int;exact⟨_,rfl,.int _⟩
 ·trivial
def D8:RFn rb wx:=λP h ds vs r=>by
 unfold wx
 split
 ·obtain⟨d,d',hd,rr1,r'⟩:=v5 r;subst hd;clear r;have r:=rr1;obtain rfl:=r.int;obtain rfl:=r'.int;exact⟨_,rfl,.int _⟩
 ·trivial
def EY:RFn rl wX:=λP h ds vs r=>by
 unfold wX
 split
 ·obtain⟨d,d',hd,rr1,r'⟩:=v5 r;subst hd;clear r;have r:=rr1;obtain rfl:=r.int;obtain rfl:=r'.int;exact⟨_,rfl,.int _⟩
 ·trivial
def Kf:∀{ds:List D}{vs:List Val}{bs:List Bool},Rds P h ds vs->lJ vs=some bs->jt ds=some bs:=by
 intro ds
 induction ds with
 |
  nil=>
  intro vs bs r q
  cases r
  cases q
  rfl
 |
  cons d0 ds ih=>
  intro vs bs r q
  cases r with
  |
   cons r rr=>
   rename_i v vs
   cases v with
   |
    bl b=>
    obtain rfl:=ShR.bl (.inl r)
    obtain⟨b',q1,rfl⟩:=OJ.mp (show (lJ vs).map (b :: ·)=some bs from q)
    show (jt _).map (b :: ·)=_
    rw[ih rr q1];rfl
   |_=>cases q
def G8:∀{ds:List D}{vs:List Val}{bs:List Int},Rds P h ds vs->kK vs=some bs->ij ds=some bs:=by
 intro ds
 induction ds with
 |
  nil=>
  intro vs bs r q
  cases r
  cases q
  rfl
 |
  cons d0 ds ih=>
  intro vs bs r q
  cases r with
  |
   cons r rr=>
   rename_i v vs
   cases v with
   |
    int b=>
    obtain rfl:=ShR.int (.inl r)
    obtain⟨b',q1,rfl⟩:=OJ.mp (show (kK vs).map (b :: ·)=some bs from q)
    show (ij _).map (b :: ·)=_
    rw[ih rr q1];rfl
   |_=>cases q
def G4:RFn tD AD:=λP h ds vs r=>by
 unfold AD
 split
 ·obtain⟨d,hd,rr1⟩:=gQ r;subst hd;clear r;have r:=rr1
  obtain⟨n,es,rfl,_,e1,q⟩:=r.lst
  split
  ·rename_i bs e2
   exact⟨_,by unfold tD;dsimp only;rw[e1];show (match jt es with |some bs=>_ |none=>_)=_;rw[Kf q e2],.bl _⟩
  ·trivial
 ·trivial
def GA:RFn rW B6:=λP h ds vs r=>by
 unfold B6
 split
 ·obtain⟨d,hd,rr1⟩:=gQ r;subst hd;clear r;have r:=rr1
  obtain⟨n,es,rfl,_,e1,q⟩:=r.lst
  split
  ·rename_i bs e2
   exact⟨_,by unfold rW;dsimp only;rw[e1];show (match ij es with |some bs=>_ |none=>_)=_;rw[G8 q e2],.int _⟩
  ·trivial
 ·trivial
def D5:RFn oC wZ:=λP h ds vs r=>by
 unfold wZ
 split
 ·obtain⟨d,hd,rr1⟩:=gQ r;subst hd;clear r;have r:=rr1
  split
  ·rename_i xs e
   obtain⟨es,e2,q⟩:=r.items e
   exact⟨.lst es,by unfold oC;dsimp only;rw[e2],trivial,.lst q⟩
  ·trivial
 ·trivial
def AM:RFn lV sA:=λP h ds vs r=>by
 unfold sA
 split
 ·obtain⟨d,hd,rr1⟩:=gQ r;subst hd;clear r;have r:=rr1
  split
  ·rename_i xs e
   obtain⟨es,e2,q⟩:=r.items e
   exact⟨_,by unfold lV;dsimp only;rw[e2],.tup q⟩
  ·trivial
 ·trivial
def GV:RFn xJ AZ:=λP h ds vs r=>by
 unfold AZ
 split
 ·obtain⟨d,hd,rr1⟩:=gQ r;subst hd;clear r;have r:=rr1;obtain rfl:=r.int;exact⟨_,rfl,.int _⟩
 ·obtain⟨d,hd,rr1⟩:=gQ r;subst hd;clear r;have r:=rr1;obtain rfl:=r.bl;exact⟨_,rfl,.int _⟩
 ·trivial
def tyC:Val->Option Cl
 |.non=>some (.b "NoneType")
 |.bl _=>some (.b "bool")
 |.int _=>some (.b "int")
 |.str _=>some (.b "str")
 |.tup _=>some (.b "tuple")
 |.exc x=>some (.o x)
 |.lst _=>some (.b "list")
 |.dct _=>some (.b "dict")
 |_=>none
def clV:Val->Option Cl
 |.ty n=>some (.b n)
 |.glb x=>some (.o x)
 |_=>none
def wj:List Val->Option (List Cl)
 | []=>some []
 |v::vs=>match clV v,wj vs with
  |some c,some cs=>some (c::cs)
  |_,_=>none
def Ku:Val->Option (List Cl)
 |.tup cs=>wj cs
 |v=>(clV v).map ([·])
def BA(kt:kj):List Val->Bv:=λvs=>match vs with
 | [v,c]=>(match tyC v,Ku c with
  |some t,some (c0::cr)=>(match gK kt t (c0::cr),kit kt t c0 with
   |some b,some _=>.val (.bl b)
   |_,_=>.stuck)
  |_,_=>.stuck)
 |_=>.stuck
def K4(r:ShR P h d v)(q:tyC v=some t):tyD h d=some t:=by
 cases v with
 |non=>obtain rfl:=r.non;exact q
 |bl b=>obtain rfl:=r.bl;exact q
 |int b=>obtain rfl:=r.int;exact q
 |str b=>obtain rfl:=r.str;exact q
 |exc b=>obtain rfl:=r.exc;exact q
 |tup b=>obtain⟨ds,rfl,_⟩:=r.tup;exact q
 |lst b=>obtain⟨n,ds,rfl,e,_⟩:=r.lst;unfold tyD;dsimp only;rw[e];exact q
 |dct b=>obtain⟨n,ds,rfl,e,_⟩:=r.dct;unfold tyD;dsimp only;rw[e];exact q
 |_=>cases q
def CV(r:ShR P h d v)(q:clV v=some c):clD d=some c:=by
 cases v with
 |ty b=>obtain rfl:=r.ty;exact q
 |glb b=>obtain rfl:=r.glb;exact q
 |_=>cases q
def IV:∀{ds:List D}{vs:List Val}{cs:List Cl},Rds P h ds vs->wj vs=some cs->ds.mapM clD=some cs:=by
 intro ds
 induction ds with
 |
  nil=>
  intro vs cs r q
  cases r
  cases q
  rfl
 |
  cons d0 ds ih=>
  intro vs cs r q
  cases r with
  |
   cons r rr=>
   unfold wj at q
   split at q
   ·rename_i c cs' e1 e2
    cases q
    rw[P7,CV (.inl r) e1,ih rr e2];rfl
   ·cases q
def Gz(kt:kj):RFn (uk kt) (BA kt):=λP h ds vs r=>by
 unfold BA
 split
 ·rename_i v c
  obtain⟨d,d',rfl,r1,r2⟩:=v5 r
  split
  ·rename_i t c0 cr e1 e2
   have e3:=K4 r1 e1
   split
   ·rename_i b b' e4 e5
    refine⟨.bl b,?_,.bl b⟩
    unfold uk
    dsimp only
    rw[e3]
    dsimp only
    by_cases ht:∃cs,c=.tup cs
    ·obtain⟨cs,rfl⟩:=ht
     obtain⟨es,rfl,q⟩:=r2.tup
     dsimp only
     rw[IV q e2]
     dsimp only
     rw[e4,e5]
    ·have e2':(clV c).map ([·])=some (c0::cr):=by
      cases c with
      |tup cs=>exact absurd ⟨cs,rfl⟩ ht
      |_=>exact e2
     obtain⟨cl,y1,y2⟩:=OJ.mp e2'
     cases y2
     have y3:=CV r2 y1
     have hd:∀cs,d' ≠ .tup cs:=λcs z=>by subst z;cases y3
     split
     ·rename_i cs;exact absurd rfl (hd cs)
     ·rw[y3]
      dsimp only
      have:kit kt t c0=some b:=by
       unfold gK at e4
       rw[e5] at e4 ⊢
       cases b' with
       |true=>exact e4
       |false=>unfold gK at e4;exact e4
      rw[this]
   ·trivial
  ·trivial
 ·trivial
def iB(xs:List Val)(lo hi:Option Int):List Val:=(xs.drop (HT.sIx xs.length 0 lo)).take (HT.sIx xs.length xs.length hi-HT.sIx xs.length 0 lo)
abbrev MO3:=E3->R3 (Option Int)
def zX(_:Ns)(_:E3)(_:AH)(b c:Option Int):Prop:=b=c
def ROp(F:MO)(G:MO3):Prop:=∀X h0 ns e ae h,Sat X h0 ns e ae h->Po X h0 ns e ae h zX (F ae h) (G e)
def yq:MO3:=λe=>.ok none e
def za(F:ME3):MO3:=λe=>(F e).bind λt e1=>match rs e1 t with
 |some (.int i)=>.ok (some i) e1
 |_=>.stuck
def aSl(x:Val)(lo hi:Option Int):Bv:=match x with
 |.tup xs=>if HT.sIx xs.length 0 lo=0/\HT.sIx xs.length xs.length hi=xs.length then .stuck else .val (.tup (iB xs lo hi))
 |.lst xs=>.new (.lst (iB xs lo hi))
 |.kl xs=>.new (.lst (iB xs lo hi))
 |_=>.stuck
def vSl(F:ME3)(L U:MO3):ME3:=λe=>(F e).bind λt e1=>(L e1).bind λlo e2=>(U e2).bind λhi e3=>match rs e3 t.drop with
 |some v=>(aSl v lo hi).at e3
 |none=>.stuck
def Df:ROp v3 yq:=λX h0 ns e ae h S=>Po.ret S rfl
def Du(hF:RE F F3):ROp (wM F) (za F3):=λX h0 ns e ae h S=>
 Po.bind S (hF X h0 0 ns e ae h S (OO _)) λd t h1 ns1 e1 a1 S1 r1=>by
  by_cases hq:∃i,rs e1 t=some (.int i)
  ·obtain⟨i,hq⟩:=hq
   have hd:=(r1.sh S1 hq).int
   subst hd
   show Po X h0 ns1 e1 ae h1 zX (R.ok (some i) h1) (match rs e1 t with |some (.int i)=>R3.ok (some i) e1 |_=>.stuck)
   rw[hq]
   exact Po.ret S1 rfl
  ·have:(match rs e1 t with |some (.int i)=>R3.ok (some i) e1 |_=>.stuck)=(.stuck:R3 (Option Int)):=by
    split
    ·rename_i i q;exact absurd ⟨i,q⟩ hq
    ·rfl
   show Po X h0 ns1 e1 ae h1 zX _ (match rs e1 t with |some (.int i)=>R3.ok (some i) e1 |_=>.stuck)
   rw[this];trivial
def Kj(hF:RE F F3)(hL:ROp L L3')(hU:ROp U U3):RE (eSl F L U) (vSl F3 L3' U3):=λX h0 LL ns e ae h S hl=>
 Po.bind
  S (hF X h0 LL ns e ae h S hl) λd t h1 ns1 e1 a1 S1 r1=>Po.bind S1 (hL X h0 ns1 e1 ae h1 S1) λlo lo' h2 gl e2 a2 S2 r2=>Po.bind S2 (hU X h0 gl e2 ae h2 S2) λhi hi' h3 ns3 e3 a3 S3 r3=>by
  cases r2;cases r3
  obtain⟨r1',hn⟩:=r1.drop
  have r4:=(r1'.stp S1 a2 hn).stp S2 a3 hn
  try dsimp only
  split
  ·rename_i v q
   have rr:=r4.sh S3 q
   refine BvR.po S3 (Ow hl (Ow a1.len (Ow a2.len a3.len))) ?_
   unfold aSl
   split
   ·rename_i xs
    obtain⟨ds,rfl,q1⟩:=rr.tup
    split
    ·trivial
    ·rename_i hne
     refine⟨_,by unfold gSl;dsimp only;rw[if_neg (by rw[q1.len];exact hne)],.tup ?_⟩
     unfold L2.cutD iB
     rw[q1.len]
     exact (q1.drop _).take _
   ·rename_i xs
    obtain⟨n,ds,rfl,_,e1,q1⟩:=rr.lst
    refine⟨.lst (L2.cutD ds lo hi),by unfold gSl;dsimp only;rw[e1],trivial,.lst ?_⟩
    unfold L2.cutD iB
    rw[q1.len]
    exact (q1.drop _).take _
   ·rename_i xs
    have key:∃ds,gSl d lo hi h3=.ok (.ref h3.length) (h3++[.lst (L2.cutD ds lo hi)])/\Rds (Oc X ns3) h3 ds xs:=by
     rcases rr with rr |⟨n,o,rfl,e,rr⟩
     ·cases rr with
      |kl q1=>exact⟨_,rfl,q1⟩
      |cell p e rc=>cases rc with |fz q1=>exact⟨_,by unfold gSl bj;dsimp only;rw[e],q1⟩
     ·cases rr with |fz q1=>exact⟨_,by unfold gSl bj;dsimp only;rw[e],q1⟩
    obtain⟨ds,e1,q1⟩:=key
    refine⟨.lst (L2.cutD ds lo hi),e1,trivial,.lst ?_⟩
    unfold L2.cutD iB
    rw[q1.len]
    exact (q1.drop _).take _
   ·trivial
  ·trivial
def pj:Val->List Val->Option (Val×Val):=λu vs=>match u,vs with
 |.lst xs,[v]=>if xs.length<16777216 then some (.lst (xs++[v]),.non) else none
 |_,_=>none
def tH:Val->List Val->Option (Val×Val):=λu vs=>match u,vs with
 |.lst xs,[]=>(match xs[xs.length-1]? with
  |some v=>some (.lst xs.dropLast,v)
  |none=>none)
 |_,_=>none
section
variable{P:Nat->Prop}{h:AH}
def nK(e:h[n]?=some o)(r:Rc P h o (.lst xs)):kH h (.ref n)=true/\∃ds,h[n]?=some (.lst ds)/\Rds P h ds xs/\∀f,iG h (.ref n) f=f n ds:=by
 obtain⟨ds,e1,e2,q⟩:=Rc.seq e r
 refine⟨by show (bj h n).isSome=true;rw[e2];rfl,ds,e1,q,λf=>?_⟩
 unfold iG;dsimp only;rw[e1]
def wV(r:Rds P h ds [v]):∃d,ds=[d]/\Rd P h d v:=by
 cases r with |cons r rr=>cases rr;exact⟨_,rfl,r⟩
end
def yY:RM dQ pj:=λP h n o u ds vs u' v e hf r rs q=>by
 unfold pj at q
 split at q
 ·split at q
  ·rename_i hl
   cases q
   obtain⟨q1,es,q2,q3,q4⟩:=nK e r
   obtain⟨d,rfl,rd⟩:=wV rs
   refine⟨q1,.lst (es++[d]),.non,?_,trivial,.lst (q3.append (.cons rd .nil)),.non⟩
   unfold dQ;rw[q4];dsimp only;rw[if_pos (by rw[q3.len];exact hl)]
  ·cases q
 ·cases q
def HG:RM vX tH:=λP h n o u ds vs u' v e hf r rs q=>by
 unfold tH at q
 split at q
 ·split at q
  ·rename_i w hw
   cases q
   obtain⟨q1,es,q2,q3,q4⟩:=nK e r
   cases rs
   obtain⟨d,e2,rd⟩:=q3.get hw
   refine⟨q1,.lst es.dropLast,d,?_,trivial,.lst ?_,rd⟩
   ·unfold vX;rw[q4];dsimp only;rw[q3.len,e2]
   ·rw[P6,P6,q3.len];exact q3.take _
  ·cases q
 ·cases q
def sL:Val->Val->Val->Option Val:=λu i v=>match u,i with
 |.lst xs,.int k=>(match ixN xs.length k with
  |some j=>some (.lst (xs.set j v))
  |none=>none)
 |_,_=>none
def HX:v7 wL sL:=λP h n o u di vi d v u' _ e hf r ri rd q=>by
 unfold sL at q
 split at q
 ·split at q
  ·rename_i j hj
   cases q
   obtain⟨q1,es,q2,q3,q4⟩:=nK e r
   obtain rfl:=ri.int
   refine⟨.lst (es.set j d),?_,trivial,.lst (q3.set rd j)⟩
   unfold wL;dsimp only;rw[q2];dsimp only;rw[q3.len,hj]
  ·cases q
 ·cases q
def vD0:ME3:=λe=>.ok (.new (.dct [])) e
def Lo:RE eD0 vD0:=λX h0 L ns e ae h S hl=>BvR.po (r:=eD0 ae h) (b:=.new (.dct [])) S hl ⟨.dct [],rfl,trivial,.dct .nil⟩
end L3
namespace L3
open PySem PySem.Spec PyProof.Rows L2
structure PEx where
 F:ME
 G:ME3
 ok:RE F G
structure PTs where
 F:MT
 G:MT3
 ok:RT F G
structure PAs where
 F:MA
 G:MA3
 ok:RA F G
structure PSt where
 F:MS
 G:MS3
 ok:RS F G
structure PGt where
 F:MG
 G:MG3
 ok:RG F G
structure PGs where
 F:MGs
 G:lZ
 ok:RGs F G
structure PIt where
 F:MI
 G:MI3
 ok:RI F G
structure POp where
 F:MO
 G:MO3
 ok:ROp F G
structure PO2 where
 F:D->D->AH->R D
 G:Val->Val->Bv
 ok:RO F G
structure PU1 where
 F:D->AH->R D
 G:Val->Bv
 ok:RU F G
structure PBf where
 F:Fn
 G:List Val->Bv
 ok:RFn F G
structure PMm where
 F:D->List D->AH->R D
 G:Val->List Val->Option (Val×Val)
 ok:RM F G
structure PMv where
 F:D->List D->AH->R D
 G:Val->List Val->Bv
 ok:RMv F G
structure PSe where
 F:D->D->D->AH->R Unit
 G:Val->Val->Val->Option Val
 ok:v7 F G
structure PFn where
 ms:List Bool
 F:Fn
 G:Fn3
 ok:RF ms F G
structure PFx(ms:List Bool) where
 F:Fn
 G:Fn3
 ok:RF ms F G
noncomputable section
def PFx.fn{ms:List Bool}(p:PFx ms):PFn:=⟨ms,p.F,p.G,p.ok⟩
def ah(i:Nat):PEx:=⟨a9 i,BQ i,Jw i⟩
def au(i:Int):PEx:=⟨eC (.int i),vC (.int i),tN λ_ _=>.int i⟩
def pBl(i:Bool):PEx:=⟨eC (.bl i),vC (.bl i),tN λ_ _=>.bl i⟩
def ef(i:Str):PEx:=⟨eC (.str i),vC (.str i),tN λ_ _=>.str i⟩
def pTy(i:String):PEx:=⟨eC (.ty i),vC (.ty i),tN λ_ _=>.ty i⟩
def tR(d:D)(v:Val)(r:∀P h,Rd P h d v):PEx:=⟨eC d,vC v,tN r⟩
def pUn(o:PU1)(a:PEx):PEx:=⟨eUn o.F a.F,vUn o.G a.G,L6 o.ok a.ok⟩
def pOp(o:PO2)(a b:PEx):PEx:=⟨eOp o.F a.F b.F,vOp o.G a.G b.G,KH o.ok a.ok b.ok⟩
def ao:PAs:=⟨fD,o1,yD⟩
def ag(a:PEx)(r:PAs):PAs:=⟨eW a.F r.F,CW a.G r.G,E4 a.ok r.ok⟩
def pFn(o:PBf)(a:PAs):PEx:=⟨eFn o.F a.F,vFn o.G a.G,JY o.ok a.ok⟩
def cJ(a:PAs):PEx:=⟨eFn nY a.F,vTup a.G,Jj a.ok⟩
def eB(a:PAs):PEx:=⟨eFn b9 a.F,vLst a.G,HR a.ok⟩
def ky(a b:PEx):PEx:=⟨Av a.F b.F,vAnd a.G b.G,Hu a.ok b.ok⟩
def Bh(a:PEx):PEx:=⟨A0 a.F,vNot a.G,GU a.ok⟩
def pIf(c:PTs)(a b:PEx):PEx:=⟨eIf c.F a.F b.F,vIf c.G a.G b.G,KW c.ok a.ok b.ok⟩
def qOf(a:PEx):PTs:=⟨tOf a.F,cOf a.G,Lz a.ok⟩
def qTr(a:PEx):PTs:=⟨tTr a.F,cTr a.G,K3 a.ok⟩
def qAn(a b:PTs):PTs:=⟨tAn a.F b.F,cAn a.G b.G,Lp a.ok b.ok⟩
def qO(a b:PTs):PTs:=⟨tO a.F b.F,cO a.G b.G,rt_o a.ok b.ok⟩
def qNo(a:PTs):PTs:=⟨tNo a.F,cNo a.G,JG a.ok⟩
def qY:PTs:=⟨tY,cY,rt_y⟩
def xNx:PSt:=⟨sNx,wNx,JJ⟩
def xm:PSt:=⟨wd,Cv,EZ⟩
def aV(a:PEx):PSt:=⟨BO a.F,wRet a.G,IX a.ok⟩
def cQ(a:PEx):PSt:=⟨iO a.F,CU a.G,Fg a.ok⟩
def aC(a b:PSt):PSt:=⟨iY a.F b.F,wSeq a.G b.G,Jm a.ok b.ok⟩
def xIf(c:PTs)(a b:PSt):PSt:=⟨sIf c.F a.F b.F,wIf c.G a.G b.G,Kk c.ok a.ok b.ok⟩
def aU(o:Bool)(i:Nat)(a:PEx):PSt:=⟨iz a.F (gN i),wAsg o i a.G,HK o i a.ok⟩
def gtN(i:Nat):PGt:=⟨gN i,pN i,ue i⟩
def gB:PGs:=⟨gsN,psN,Km⟩
def cC(a:PGt)(b:PGs):PGs:=⟨gsC a.F b.F,psC a.G b.G,KY a.ok b.ok⟩
def gtT(n:Nat)(a:PGs):PGt:=⟨gT λds ae h=>if ds.length=n then a.F ds ae h else .stuck,pT n a.G,rg_t n a.ok⟩
def gtX(a:PGt):PGt:=⟨λd ae h=>noX (a.F d ae h),a.G,G1 a.ok⟩
def mB(a:PEx)(g:PGt):PSt:=⟨iz a.F g.F,Cp a.G g.G,EJ a.ok g.ok⟩
def iw(i j:Nat)(a:PAs):PSt:=⟨Cj i j a.F,wPar i j a.G,Ip i j a.ok⟩
def Ah(i:Nat)(o:PO2)(a:PEx):PSt:=⟨tf i o.F a.F,Aj i o.G a.G,Fu i o.ok a.ok⟩
def f6(c:Str)(a:PAs):PSt:=⟨uf c a.F,zG c a.G,Cc c a.ok⟩
def rY(i:Nat)(w:PSe)(k a:PEx):PSt:=⟨iz a.F (gS (a9 i) k.F w.F),wSet i k.G a.G w.G,HY i w.ok k.ok a.ok⟩
def jM(i:Nat)(m:PMm)(a:PAs):PEx:=⟨eM m.F (a9 i) a.F,nq i m.G a.G,yN i m.ok a.ok⟩
def qV(i:Nat)(m:PMm):PEx:=⟨eM0 m.F (a9 i),nq i m.G o1,EN i m.ok⟩
def bY(a:PEx):PIt:=⟨AB a.F,CG a.G,FU a.ok⟩
def iP(a:PAs):PIt:=⟨Aq a.F,AL iA a.G,Fl a.ok⟩
def wB(a:PAs):PIt:=⟨BK a.F,CC a.G,Fz a.ok⟩
def iZ(i:PIt)(g:PGt)(b:PSt):PSt:=⟨pE i.F g.F b.F,wFor i.G g.G b.G,Fv i.ok g.ok b.ok⟩
def xWh(c:PTs)(b:PSt):PSt:=⟨sWh c.F b.F,wWh c.G b.G,J6 c.ok b.ok⟩
def pLC(i:PIt)(sub:List (Option Nat))(hs:(sub.filterMap id).Nodup)(g:PGt)(c:PTs)(a:PEx):PEx:=⟨eLC i.F sub g.F c.F a.F,vLC i.G sub g.G c.G a.G,LS hs i.ok g.ok c.ok a.ok⟩
def az(f:PFn)(a:PAs):PEx:=⟨xt f.ms.length f.F a.F,CD f.ms f.G a.G,E1 rfl f.ok a.ok⟩
def oN:POp:=⟨v3,yq,Df⟩
def oS(a:PEx):POp:=⟨wM a.F,za a.G,Du a.ok⟩
def pSl(a:PEx)(l u:POp):PEx:=⟨eSl a.F l.F u.F,vSl a.G l.G u.G,Kj a.ok l.ok u.ok⟩
def pD0:PEx:=⟨eD0,vD0,Lo⟩
def PFx.none(ms:List Bool)(N:Nat:=0):PFx ms:=⟨λ_ _=>.stuck,λ_=>.stuck,λ_ _ _ _ _ _ _=>trivial⟩
def PFx.of(ms:List Bool)(N:Nat)(c:PSt):PFx ms:=⟨fnD N c.F,fnV ms N c.G,Cs c.ok⟩
def fnP(ms:List Bool)(N:Nat)(c:PSt):PFn:=⟨ms,fnD N c.F,fnV ms N c.G,Cs c.ok⟩
def bz:PO2:=⟨xa,Cg,Fo⟩
def ir:PO2:=⟨B2,aMin,G5⟩
def dE:PO2:=⟨BJ,wa,Fw⟩
def ji:PO2:=⟨Ar,wH,Iw⟩
def cS:PO2:=⟨AQ,wJ,FL⟩
def gL:PO2:=⟨BH,wR,Jh⟩
def bLt:PO2:=⟨gLt,aLt,K7⟩
def bGt:PO2:=⟨gGt,aGt,Lj⟩
def bGe:PO2:=⟨gGe,aGe,KO⟩
def bIx:PO2:=⟨gIx,aIx,K5⟩
def bEq:PO2:=⟨gEq false,aEq false,CQ false⟩
def bNe:PO2:=⟨gEq true,aEq true,CQ true⟩
def bIn:PO2:=⟨gIn false,aIn false,LZ false⟩
def bIs:PO2:=⟨By false,BY false,Ju false⟩
def zY:PO2:=⟨gI λi j=>.int (i+j),aI λi j=>.int (i+j),ub λ_ _ _ _=>.int _⟩
def w9:PU1:=⟨xh,B7,Jo⟩
def dP:PBf:=⟨tT,Bq,Im⟩
def iI:PBf:=⟨vW,AN,Hi⟩
def rq:PBf:=⟨rb,wx,D8⟩
def oB:PBf:=⟨rl,wX,EY⟩
def rh:PBf:=⟨tD,AD,G4⟩
def n8:PBf:=⟨rW,B6,GA⟩
def sX:PBf:=⟨oC,wZ,D5⟩
def iS:PBf:=⟨lV,sA,AM⟩
def wU:PBf:=⟨xJ,AZ,GV⟩
def aY(kt:kj):PBf:=⟨uk kt,BA kt,Gz kt⟩
def gx:PMm:=⟨dQ,pj,yY⟩
def rf:PMm:=⟨vX,tH,HG⟩
def seL:PSe:=⟨wL,sL,HX⟩
end
theorem o9:∀(ns:List Int),Rds P h (ns.map D.int) (ns.map Val.int)
 | []=>.nil
 |_::r=>.cons (.int _) (o9 r)
def law3(p:PFn)(hm:p.ms=[false])(hG:∀ns:List Int,ns.length<=63->p.G [.kl (ns.map .int)]=.ok (.val (.bl true)) [])(d:D)(h:AH)(ns:List Int)(hl:ns.length<=63)(sc:Script h d ns):∃h',p.F [d] h=.ok (.bl true) h':=by
 have hp:=p.ok
 rw[hm] at hp
 have rd:Rd (Oc (λ_=>False) [none]) h d (.kl (ns.map .int)):=by
  rcases sc.form with ⟨n,rfl,e⟩ |rfl
  ·exact .cell ⟨λz=>z,by simp⟩ e (.fz (o9 ns))
  ·exact .kl (o9 ns)
 have S:Sat (λ_=>False) h.length [none] (sls [false] [.kl (ns.map .int)]) ([d].map some) h:=by
  refine⟨rfl,rfl,Og _,λ_ z=>z.elim,λi j n q=>?_,λi n q z=>z,λi s q=>?_⟩
  ·cases i with
   |zero=>simp at q
   |succ i=>simp at q
  ·cases i with
   |
    zero=>
    have:sl1 false (.kl (ns.map .int))=s:=by simpa [sls] using q
    subst this
    exact⟨rfl,d,rfl,rd⟩
   |succ i=>simp [sls] at q
 have:=hp _ _ [d] [.kl (ns.map .int)] h rfl S
 rw[hG ns hl] at this
 obtain⟨d',h',e,_,_,r⟩:=this
 cases r with
 |bl=>exact⟨h',e⟩
 |cell p e r=>cases r
section
variable(e:E3)
@[simp] theorem jx(a:α)(f:α->E3->R3 β):(R3.ok a e).bind f=f a e:=rfl
@[simp] theorem Kn(a:α)(f:α->E3->SR3):(R3.ok a e).toS f=f a e:=rfl
@[simp] theorem Lx(f:E3->SR3):(SR3.nx e).then f=f e:=rfl
@[simp] theorem Lb(r:Rt)(f:E3->SR3):(SR3.rt r e).then f=.rt r e:=rfl
@[simp] theorem IM(c:Str)(f:E3->SR3):(SR3.exc c e).then f=.exc c e:=rfl
@[simp] theorem rj(f:E3->SR3):(SR3.nx e).loop f=f e:=rfl
@[simp] theorem CZ(f:E3->SR3):(SR3.ct e).loop f=f e:=rfl
@[simp] theorem Mi(r:SR3):r.unl none=r:=by cases r <;> rfl
@[simp] theorem Bi:lockO e none=e:=rfl
@[simp] theorem wY:fR e none=e:=rfl
@[simp] theorem Hy(v:Val):(Bv.val v).at e=.ok (.val v) e:=rfl
@[simp] theorem Jn(v:Val):(Bv.new v).at e=.ok (.new v) e:=rfl
@[simp] theorem FG(v:Val):rs e (.val v)=some v:=rfl
@[simp] theorem JB(v:Val):rs e (.new v)=some v:=rfl
@[simp] theorem II(i:Nat):rs e (.bor i)=(e[i]?).bind Sl.val:=rfl
@[simp] theorem Fy(v:Val):(Tm.val v).drop=.val v:=rfl
@[simp] theorem FD(v:Val):(Tm.new v).drop=.val v:=rfl
@[simp] theorem GK(i:Nat):(Tm.bor i).drop=.bor i:=rfl
@[simp] theorem Dw:rss e []=some []:=rfl
@[simp] theorem Bc(t:Tm)(ts:List Tm):rss e (t::ts)=match rs e t,rss e ts with
 |some v,some vs=>some (v::vs)
 |_,_=>none:=rfl
@[simp] theorem G6(v:Val):cW e (.val v)=some (e,v):=rfl
@[simp] theorem zC:dem e []=some (e,[]):=rfl
@[simp] theorem ED(t:Tm)(ts:List Tm):dem e (t::ts)=match cW e t with
 |some (e1,v)=>match dem e1 ts with
  |some (e2,vs)=>some (e2,v::vs)
  |none=>none
 |none=>none:=rfl
@[simp] theorem GZ(b:Bool):bOf (some (.bl b))=some b:=rfl
@[simp] theorem Kz(i:Nat):(ah i).G e=match e[i]? with
 |some (.sh v)=>.ok (.val v) e
 |some .no=>.stuck
 |some _=>.ok (.bor i) e
 |none=>.stuck:=rfl
@[simp] theorem LC(i:Int):(au i).G e=.ok (.val (.int i)) e:=rfl
@[simp] theorem v_bl(i:Bool):(pBl i).G e=.ok (.val (.bl i)) e:=rfl
@[simp] theorem KC(i:Str):(ef i).G e=.ok (.val (.str i)) e:=rfl
@[simp] theorem v_ty(i:String):(pTy i).G e=.ok (.val (.ty i)) e:=rfl
@[simp] theorem v_un(o:PU1)(a:PEx):(pUn o a).G e=(a.G e).bind λt e1=>match rs e1 t with
 |some v=>(o.G v).at e1
 |none=>.stuck:=rfl
@[simp] theorem v_op(o:PO2)(a b:PEx):(pOp o a b).G e=(a.G e).bind λt1 e1=>(b.G e1).bind λt2 e2=>match rs e2 t1.drop,rs e2 t2 with
 |some v1,some v2=>(o.G v1 v2).at e2
 |_,_=>.stuck:=rfl
@[simp] theorem KI:ao.G e=.ok [] e:=rfl
@[simp] theorem HJ(a:PEx)(r:PAs):(ag a r).G e=(a.G e).bind λt e1=>(r.G e1).bind λts e2=>.ok (t.drop::ts) e2:=rfl
@[simp] theorem v_fn(o:PBf)(a:PAs):(pFn o a).G e=(a.G e).bind λts e1=>match rss e1 ts with
 |some vs=>(o.G vs).at e1
 |none=>.stuck:=rfl
@[simp] theorem Ma(a:PAs):(cJ a).G e=(a.G e).bind λts e1=>match dem e1 ts with
 |some (e2,vs)=>if vs.length<=16777216 then .ok (.val (.tup vs)) e2 else .stuck
 |none=>.stuck:=rfl
@[simp] theorem KZ(a:PAs):(eB a).G e=(a.G e).bind λts e1=>match dem e1 ts with
 |some (e2,vs)=>if vs.length<=16777216 then .ok (.new (.lst vs)) e2 else .stuck
 |none=>.stuck:=rfl
@[simp] theorem Ks(a b:PEx):(ky a b).G e=(a.G e).bind λt e1=>match bOf (rs e1 t) with
 |some true=>b.G e1
 |some false=>.ok (.val (.bl false)) e1
 |none=>.stuck:=rfl
@[simp] theorem J4(a:PEx):(Bh a).G e=(a.G e).bind λt e1=>match bOf (rs e1 t) with
 |some b=>.ok (.val (.bl (!b))) e1
 |none=>.stuck:=rfl
@[simp] theorem v_if(c:PTs)(a b:PEx):(pIf c a b).G e=(c.G e).bind λk e1=>if k=true then a.G e1 else b.G e1:=rfl
@[simp] theorem c_of(a:PEx):(qOf a).G e=(a.G e).bind λt e1=>match bOf (rs e1 t) with
 |some b=>.ok b e1
 |none=>.stuck:=rfl
@[simp] theorem c_tr(a:PEx):(qTr a).G e=(a.G e).bind λt e1=>match (rs e1 t).bind mR with
 |some b=>.ok b e1
 |none=>.stuck:=rfl
@[simp] theorem c_an(a b:PTs):(qAn a b).G e=(a.G e).bind λk e1=>if k=true then b.G e1 else .ok false e1:=rfl
@[simp] theorem c_o(a b:PTs):(qO a b).G e=(a.G e).bind λk e1=>if k=true then .ok true e1 else b.G e1:=rfl
@[simp] theorem c_no(a:PTs):(qNo a).G e=(a.G e).bind λk e1=>.ok (!k) e1:=rfl
@[simp] theorem x_nx:xNx.G e=.nx e:=rfl
@[simp] theorem Iv:xm.G e=.rt (.val .non) e:=rfl
@[simp] theorem JH(a:PEx):(aV a).G e=(a.G e).toS oR:=rfl
@[simp] theorem Er(v:Val):oR (.val v) e=.rt (.val v) e:=rfl
@[simp] theorem Eo(v:Val):oR (.new v) e=.rt (.new v) e:=rfl
@[simp] theorem DR(i:Nat):oR (.bor i) e=match e[i]? with
 |some (.sh v)=>.rt (.val v) e
 |some (.ow v)=>.rt (.new v) (e.set i .no)
 |some (.mu _)=>.rt (.par i) e
 |_=>.stuck:=rfl
@[simp] theorem Fq(a:PEx):(cQ a).G e=(a.G e).toS λ_ e1=>.nx e1:=rfl
@[simp] theorem CF(a b:PSt):(aC a b).G e=(a.G e).then b.G:=rfl
@[simp] theorem x_if(c:PTs)(a b:PSt):(xIf c a b).G e=(c.G e).toS λk e1=>if k=true then a.G e1 else b.G e1:=rfl
@[simp] theorem JP(o:Bool)(i:Nat)(a:PEx):(aU o i a).G e=(a.G e).toS (jQ o i):=rfl
@[simp] theorem Mj:Sl.no.pl=true:=rfl
@[simp] theorem J2(v:Val):(Sl.sh v).pl=true:=rfl
@[simp] theorem JX(v:Val):(Sl.ow v).pl=true:=rfl
@[simp] theorem Ex(o:Bool)(i:Nat)(v:Val):jQ o i (.val v) e=match e[i]? with
 |some s0=>if s0.pl=true then .nx (e.set i (.sh v)) else .stuck
 |none=>.stuck:=by unfold jQ;rfl
@[simp] theorem BL(i:Nat)(v:Val):jQ true i (.new v) e=match e[i]? with
 |some s0=>if s0.pl=true then .nx (e.set i (.ow v)) else .stuck
 |none=>.stuck:=by unfold jQ;rfl
@[simp] theorem Ci(i:Nat)(v:Val):jQ false i (.new v) e=match e[i]? with
 |some s0=>if s0.pl=true then .nx (e.set i (.sh v)) else .stuck
 |none=>.stuck:=by unfold jQ;rfl
@[simp] theorem g_n(i:Nat)(v:Val):(gtN i).G v e=match e[i]? with
 |some s=>if s.pl=true then some (e.set i (.sh v)) else none
 |none=>none:=rfl
@[simp] theorem g_sn:gB.G [] e=some e:=rfl
@[simp] theorem g_sc(a:PGt)(b:PGs)(v:Val)(vs:List Val):(cC a b).G (v::vs) e=(a.G v e).bind λe1=>b.G vs e1:=rfl
@[simp] theorem g_t(n:Nat)(a:PGs)(vs:List Val):(gtT n a).G (.tup vs) e=if vs.length=n then a.G vs e else none:=rfl
@[simp] theorem g_x(a:PGt)(v:Val):(gtX a).G v e=a.G v e:=rfl
@[simp] theorem Ie(a:PEx)(g:PGt):(mB a g).G e=(a.G e).toS λt e1=>match cW e1 t with
 |some (e2,v)=>match g.G v e2 with
  |some e3=>.nx e3
  |none=>.stuck
 |none=>.stuck:=rfl
@[simp] theorem J3(i j:Nat)(a:PAs):(iw i j a).G e=(a.G e).toS λts e1=>match dem e1 ts with
 |some (e2,[v,u])=>match (pN i v e2).bind (pN j u) with
  |some e3=>.nx e3
  |none=>.stuck
 |_=>.stuck:=rfl
@[simp] theorem LG(i:Nat)(v:Val):pN i v e=match e[i]? with
 |some s=>if s.pl=true then some (e.set i (.sh v)) else none
 |none=>none:=rfl
@[simp] theorem Kx(i:Nat)(o:PO2)(a:PEx):(Ah i o a).G e=match e[i]? with
 |some (.sh x)=>(a.G e).toS λt e1=>match rs e1 t with
  |some y=>match o.G x y with
   |.val z=>match pN i z e1 with
    |some e2=>.nx e2
    |none=>.stuck
   |_=>.stuck
  |none=>.stuck
 |_=>.stuck:=rfl
@[simp] theorem EV(c:Str)(a:PAs):(f6 c a).G e=(a.G e).toS λts e1=>if ts.length<=16777216 then .exc c e1 else .stuck:=rfl
@[simp] theorem JM(i:Nat)(w:PSe)(k a:PEx):(rY i w k a).G e=(a.G e).toS λt e1=>match (e1[i]?).bind Sl.mv with
 |none=>.stuck
 |some _=>(k.G e1).toS λt2 e2=>match rs e2 t2 with
  |none=>.stuck
  |some vi=>match cW e2 t.drop with
   |none=>.stuck
   |some (e3,v)=>match e3[i]? with
    |none=>.stuck
    |some s=>match s.mv with
     |none=>.stuck
     |some u=>match w.G u vi v with
      |some u'=>.nx (e3.set i (s.re u'))
      |none=>.stuck:=rfl
@[simp] theorem Lv(v:Val):(Sl.ow v).mv=some v:=rfl
@[simp] theorem Kc(v:Val):(Sl.mu v).mv=some v:=rfl
@[simp] theorem KD(v u:Val):(Sl.ow v).re u=.ow u:=rfl
@[simp] theorem LQ(v u:Val):(Sl.mu v).re u=.mu u:=rfl
@[simp] theorem Jc(v:Val):(Sl.ow v).val=some v:=rfl
@[simp] theorem FP(v:Val):(Sl.mu v).val=some v:=rfl
@[simp] theorem Ki(i:Nat)(m:PMm)(a:PAs):(jM i m a).G e=match e[i]? with
 |some s=>if (s.mv.map kO)=some true then (a.G e).bind λts e1=>match dem e1 ts with
  |some (e2,vs)=>match e2[i]? with
   |some s2=>match s2.mv with
    |some u=>match m.G u vs with
     |some (u',v)=>.ok (.val v) (e2.set i (s2.re u'))
     |none=>.stuck
    |none=>.stuck
   |none=>.stuck
  |none=>.stuck else .stuck
 |none=>.stuck:=rfl
@[simp] theorem Hs(i:Nat)(m:PMm):(qV i m).G e=match e[i]? with
 |some s=>if (s.mv.map kO)=some true then (match s.mv with
  |some u=>match m.G u [] with
   |some (u',v)=>.ok (.val v) (e.set i (s.re u'))
   |none=>.stuck
  |none=>.stuck) else .stuck
 |none=>.stuck:=by
 show nq i m.G o1 e=_
 unfold nq
 cases q:e[i]? with
 |none=>rfl
 |
  some s=>
  dsimp only
  split
  ·simp only[o1,jx,zC,q];try rfl
  ·rfl
@[simp] theorem AO(xs:List Val):kO (.lst xs)=true:=rfl
@[simp] theorem L7(a:PEx):(bY a).G e=(a.G e).bind λt e1=>match gA t e1 with
 |some p=>.ok p e1
 |none=>.stuck:=rfl
@[simp] theorem Ka(a:PAs):(wB a).G e=(a.G e).bind λts e1=>match ts with
 | [t,u]=>(match gA t e1,gA u e1 with
  |some (xs,k),some (ys,none)=>.ok (List.zipWith (λx y=>.tup [x,y]) xs ys,k) e1
  |_,_=>.stuck)
 |_=>.stuck:=rfl
@[simp] theorem Gq(v:Val):gA (.val v) e=(jA v).map λxs=>(xs,none):=rfl
@[simp] theorem FK(v:Val):gA (.new v) e=(jA v).map λxs=>(xs,none):=rfl
@[simp] theorem FJ(xs:List Val):jA (.tup xs)=some xs:=rfl
@[simp] theorem Jb(xs:List Val):jA (.lst xs)=some xs:=rfl
@[simp] theorem JN(a:PAs):(iP a).G e=(a.G e).bind λts e1=>match (rss e1 ts).bind iA with
 |some xs=>.ok (xs,none) e1
 |none=>.stuck:=rfl
@[simp] theorem Kp(i:PIt)(g:PGt)(b:PSt):(iZ i g b).G e=(i.G e).toS λp e1=>(ff g.G b.G p.1 (lockO e1 p.2)).unl p.2:=rfl
@[simp] theorem vc(g:MG3)(B:MS3):ff g B [] e=.nx e:=rfl
theorem eL(g:MG3)(B:MS3)(v:Val)(vs:List Val):ff g B (v::vs) e=match g v e with
 |some e1=>(B e1).loop (ff g B vs)
 |none=>.stuck:=rfl
def lT(c:PTs)(b:PSt):(xWh c b).G e=(c.G e).toS λk e1=>if k=true then (b.G e1).loop (xWh c b).G else .nx e1:=B5 c.G b.G e
@[simp] theorem v_lc(i:PIt)(sub:List (Option Nat))(hs:(sub.filterMap id).Nodup)(g:PGt)(c:PTs)(a:PEx):(pLC i sub hs g c a).G e=(i.G e).bind λp e1=>match lcV g.G c.G a.G p.1 [] (cA sub (lockO e1 p.2)) with
 |.ok ys e2=>if ys.length<=16777216 then .ok (.new (.lst ys)) (fR (bN sub e2 (lockO e1 p.2)) p.2) else .stuck
 |_=>.stuck:=rfl
@[simp] theorem Jq(f:PFn)(a:PAs):(az f a).G e=(a.G e).bind λts e1=>match rss e1 ts with
 |none=>.stuck
 |some vs=>if okA e1 f.ms ts=true then (match f.G vs with
  |.stuck=>.stuck
  |.ok r mv=>if (bu e1 f.ms ts).isEmpty || (mf r&&mv.all d6) then .ok (r.tm ts) (bN (cG f.ms ts) (aX f.ms mv) e1) else (match pz e1 (bu e1 f.ms ts) with
   |some e2=>.ok (r.tm ts) (bN (cG f.ms ts) (aX f.ms mv) e2)
   |none=>.stuck)
  |.exc c mv=>if (bu e1 f.ms ts).isEmpty || mv.all d6 then .exc c (bN (cG f.ms ts) (aX f.ms mv) e1) else .stuck) else .stuck:=rfl
@[simp] theorem HM(ts:List Tm)(v:Val):(Rt.val v).tm ts=.val v:=rfl
@[simp] theorem IA(ts:List Tm)(v:Val):(Rt.new v).tm ts=.new v:=rfl
@[simp] theorem o_n:oN.G e=.ok none e:=rfl
@[simp] theorem o_s(a:PEx):(oS a).G e=(a.G e).bind λt e1=>match rs e1 t with
 |some (.int i)=>.ok (some i) e1
 |_=>.stuck:=rfl
@[simp] theorem v_sl(a:PEx)(l u:POp):(pSl a l u).G e=(a.G e).bind λt e1=>(l.G e1).bind λlo e2=>(u.G e2).bind λhi e3=>match rs e3 t.drop with
 |some v=>(aSl v lo hi).at e3
 |none=>.stuck:=rfl
@[simp] theorem v_d0:pD0.G e=.ok (.new (.dct [])) e:=rfl
theorem bP(ms:List Bool)(N:Nat)(c:PSt)(vs:List Val):(fnP ms N c).G vs=if vs.length=ms.length then (match c.G (sls ms vs++List.replicate (N-vs.length) .no) with
 |.nx e=>(match muV ms e with |some mv=>.ok (.val .non) mv |none=>.stuck)
 |.rt r e=>(match muV ms e with |some mv=>.ok r mv |none=>.stuck)
 |.exc c e=>(match muV ms e with |some mv=>.exc c mv |none=>.stuck)
 |_=>.stuck) else .stuck:=rfl
theorem gR(ms:List Bool)(N:Nat)(c:PSt)(vs:List Val):(PFx.of ms N c).G vs=if vs.length=ms.length then (match c.G (sls ms vs++List.replicate (N-vs.length) .no) with
 |.nx e=>(match muV ms e with |some mv=>.ok (.val .non) mv |none=>.stuck)
 |.rt r e=>(match muV ms e with |some mv=>.ok r mv |none=>.stuck)
 |.exc c e=>(match muV ms e with |some mv=>.exc c mv |none=>.stuck)
 |_=>.stuck) else .stuck:=rfl
@[simp] theorem Li(p:PFx ms):p.fn.ms=ms:=rfl
@[simp] theorem fx_G(p:PFx ms)(vs:List Val):p.fn.G vs=p.G vs:=rfl
end
@[simp] theorem JO(i j:Int):bz.G (.int i) (.int j)=.val (.int (i+j)):=rfl
@[simp] theorem KJ(i j:Int):ir.G (.int i) (.int j)=.val (.int (i-j)):=rfl
@[simp] theorem k_lt(i j:Int):bLt.G (.int i) (.int j)=.val (.bl (decide (i<j))):=rfl
@[simp] theorem k_gt(i j:Int):bGt.G (.int i) (.int j)=.val (.bl (decide (j<i))):=rfl
@[simp] theorem k_ge(i j:Int):bGe.G (.int i) (.int j)=.val (.bl (decide (j<=i))):=rfl
@[simp] theorem Ld(i j:Int):zY.G (.int i) (.int j)=.val (.int (i+j)):=rfl
@[simp] theorem Ln(i:Int):w9.G (.int i)=.val (.int (-i)):=rfl
def fB(c:CMulA i j):dE.G (.int i) (.int j)=.val (.int (i*j)):=by show wa (.int i) (.int j)=_;unfold wa aIc;dsimp only;rw[if_pos c]
def mi(c:CDivB i j):ji.G (.int i) (.int j)=.val (.int (i.fdiv j)):=by show wH (.int i) (.int j)=_;unfold wH aIc;dsimp only;rw[if_pos c]
def gX(c:j≠0):cS.G (.int i) (.int j)=.val (.int (i.fmod j)):=by show wJ (.int i) (.int j)=_;unfold wJ aIc;dsimp only;rw[if_pos c]
def qW(c:pI i j):gL.G (.int i) (.int j)=.val (.int (i^j.toNat)):=by show wR (.int i) (.int j)=_;unfold wR aIc;dsimp only;rw[if_pos c]
@[simp] theorem k_ix(x:Val)(i:Int):bIx.G x (.int i)=match x.items with
 |some xs=>(match atI xs i with
  |some v=>.val v
  |none=>.stuck)
 |none=>.stuck:=by show aIx x (.int i)=_;unfold aIx;cases x.items <;> rfl
@[simp] theorem HD(xs:List Val):(Val.tup xs).items=some xs:=rfl
@[simp] theorem GL(xs:List Val):(Val.lst xs).items=some xs:=rfl
@[simp] theorem Mb(xs:List Val):(Val.kl xs).items=some xs:=rfl
@[simp] theorem k_eq(x y:Val):bEq.G x y=match dZ x y with
 |some b=>.val (.bl b)
 |none=>.stuck:=by show aEq false x y=_;unfold aEq;cases dZ x y <;> rfl
@[simp] theorem k_ne(x y:Val):bNe.G x y=match dZ x y with
 |some b=>.val (.bl (!b))
 |none=>.stuck:=by show aEq true x y=_;unfold aEq;cases dZ x y <;> rfl
@[simp] theorem Mc(x y:Int):dZ (.int x) (.int y)=some (x==y):=rfl
@[simp] theorem Mm(x y:Bool):dZ (.bl x) (.bl y)=some (x==y):=by cases x <;> cases y <;> rfl
def eq_str(hx:PyData.strOk x=true)(hy:PyData.strOk y=true):dZ (.str x) (.str y)=some (x==y):=by
 unfold dZ
 show (if shp (.str x)=true/\shp (.str y)=true then _ else _)=_
 rw[if_pos ⟨ju hx (OO _),ju hy (OO _)⟩]
 rfl
@[simp] theorem k_is(x:Val):bIs.G x .non=match x with
 |.non=>.val (.bl true)
 |_=>.val (.bl false):=by cases x <;> rfl
@[simp] theorem LB(v:Val):dP.G [v]=match v.items with
 |some xs=>.val (.int xs.length)
 |none=>(match v with
  |.str z=>if z.length<=16777216 then .val (.int z.length) else .stuck
  |_=>.stuck):=rfl
@[simp] theorem Kr(i:Int):iI.G [.int i]=.val (.int (if i<0 then -i else i)):=rfl
@[simp] theorem KR(i j:Int):rq.G [.int i,.int j]=.val (.int (if j>i then j else i)):=rfl
@[simp] theorem LN(i j:Int):oB.G [.int i,.int j]=.val (.int (if j<i then j else i)):=rfl
@[simp] theorem LJ(xs:List Val):rh.G [.lst xs]=match lJ xs with
 |some bs=>.val (.bl (bs.all id))
 |none=>.stuck:=rfl
@[simp] theorem KU(xs:List Val):n8.G [.lst xs]=match kK xs with
 |some bs=>.val (.int bs.sum)
 |none=>.stuck:=rfl
@[simp] theorem IT(v:Val):sX.G [v]=match v.items with
 |some xs=>.new (.lst xs)
 |none=>.stuck:=rfl
@[simp] theorem El(v:Val):iS.G [v]=match v.items with
 |some xs=>.val (.tup xs)
 |none=>.stuck:=rfl
@[simp] theorem FZ(b:Bool):wU.G [.bl b]=.val (.int (if b then 1 else 0)):=rfl
@[simp] theorem Ag(xs:List Val)(v:Val):gx.G (.lst xs) [v]=if xs.length<16777216 then some (.lst (xs++[v]),.non) else none:=rfl
@[simp] theorem qt:∀(bs:List Int),kK (bs.map Val.int)=some bs
 | []=>rfl
 |b::r=>by show (kK (r.map Val.int)).map (b :: ·)=_;rw[qt r];rfl
def yd{K:W.Frag}{mg:Str->Option Value}{X:Cx}{ES:L2.St->XK}{sts:List Stmt}:DSs K mg X ES sts (λ_ _=>.stuck):=λpins s σ H D I ⟨_,_,_,_,_,p⟩=>p.elim
end L3
namespace L3
open PySem PySem.Spec PyProof.Rows L2
section
variable(K:W.Frag)(mg:Str->Option Value)(X:Cx)(ES:L2.St->XK)
@[irreducible] def DE(e:Expr)(F:ME):Prop:=L2.DE K mg X ES e F
@[irreducible] def DT(e:Expr)(F:MT):Prop:=L2.DT K mg X ES e F
@[irreducible] def DA(es:List Expr)(F:MA):Prop:=L2.DA K mg X ES es F
@[irreducible] def DS(st:Stmt)(F:MS):Prop:=L2.DS K mg X ES st F
@[irreducible] def DSs(st:List Stmt)(F:MS):Prop:=L2.DSs K mg X ES st F
@[irreducible] def DI(tg am:Expr)(F:MI):Prop:=L2.DI K mg X ES tg am F
end
section
variable{K:W.Frag}{mg:Str->Option Value}{X:Cx}{ES:L2.St->XK}{e a b c o i tg am j':Expr}{es:List Expr}{st:Stmt}{sts sts':List Stmt}{p q r:PEx}{A:PAs}{t u:PTs}{x y:PSt}{g:PGt}{gs:PGs}{I:PIt}{pos:Pos}
def af(i:Nat){x:Str}(hN:X.N[i]?=some x:=by rfl)(hv:Vis X.env.scope x:=by first |exact Or.inl rfl |exact Or.inr (Or.inl rfl) |exact Or.inr (Or.inr rfl))(hd:(x==("__debug__" : Str))=false:=by decide)(hcd:(x==("__classdict__" : Str))=false:=by decide):DE K mg X ES (.Name x pos) (ah i).F:=by with_unfolding_all exact IJ i hN hv hd hcd
def ak{i:Int}{j:Nat}:DE K mg X ES (.Constant (.int i) j pos) (au i).F:=by with_unfolding_all exact Ha
def gU{i:Bool}{j:Nat}:DE K mg X ES (.Constant (.bool i) j pos) (pBl i).F:=by with_unfolding_all exact J1
def da{i:Str}{j:Nat}:DE K mg X ES (.Constant (.str i) j pos) (ef i).F:=by with_unfolding_all exact Je
def CY{x:Str}{d:D}{v:Val}{r:∀P h,Rd P h d v}(hg:Gl X x)(ha:GC K mg x d)(hm:X.mg=mg:=by rfl)(hd:(x==("__debug__" : Str))=false:=by decide):DE K mg X ES (.Name x pos) (tR d v r).F:=by with_unfolding_all exact KA hg ha hm hd
def dM{x:Str}{n:String}(hg:Gl X x)(hm:mg x=none)(hv:bootBuiltins x=some (.type n))(he:X.mg=mg:=by rfl)(hn:x ≠ "__name__":=by decide)(hd:(x==("__debug__" : Str))=false:=by decide):DE K mg X ES (.Name x pos) (pTy n).F:=by with_unfolding_all exact JF hg hm hv he hn hd
def aE(ho:OpR X (binaryOp op) r')(hd:OpD K mg r' k.F)(ha:DE K mg X ES a p.F)(hb:DE K mg X ES b q.F):DE K mg X ES (.BinOp a op b pos) (pOp k p q).F:=by with_unfolding_all exact JZ ho hd ha hb
def aM(hr:IxR X r')(hd:OpD K mg r' k.F)(ha:DE K mg X ES a p.F)(hb:DE K mg X ES b q.F)(hs:mI b):DE K mg X ES (.Subscript a b pos) (pOp k p q).F:=by with_unfolding_all exact Ct hr hd ha hb hs
def fo(ho:OpR X (compareOp op) r')(hd:OpD K mg r' k.F)(ha:DE K mg X ES a p.F)(hb:DE K mg X ES b q.F)(hm:behindInMarks op b=false):DE K mg X ES (.Compare a [op] [b] pos) (pOp k p q).F:=by with_unfolding_all exact Iu ho hd ha hb hm
def aW(ho:OpR X (compareOp op) r')(hd:OpD K mg r' k.F)(ha:DE K mg X ES a p.F)(hb:DE K mg X ES b q.F)(hm:behindInMarks op b=false):DT K mg X ES (.Compare a [op] [b] pos) (qOf (pOp k p q)).F:=by with_unfolding_all exact Js ho hd ha hb hm
def bQ(ha:DE K mg X ES a p.F)(he:∀db,isTrue a X.env db=(do let v <- db;standAt a.pos;holding [v] (truthy v)):=by intro _;rfl):DT K mg X ES a (qOf p).F:=by with_unfolding_all exact Ij ha he
def uo(hK:X.K=K)(ha:DE K mg X ES a p.F)(he:∀db,isTrue a X.env db=(do let v <- db;standAt a.pos;holding [v] (truthy v)):=by intro _;rfl):DT K mg X ES a (qTr p).F:=by with_unfolding_all exact BU hK ha he
def cL(ha:DT K mg X ES a t.F):DT K mg X ES (.UnaryOp .Not a pos) (qNo t).F:=by with_unfolding_all exact GG ha
def uX(ha:DT K mg X ES a t.F):DW K mg X ES (.BoolOp .And [a] pos) t.F:=by with_unfolding_all exact Ez ha
def jn(ha:DT K mg X ES a t.F):DW K mg X ES (.BoolOp .Or [a] pos) t.F:=by with_unfolding_all exact FX ha
def zP(ha:DT K mg X ES a t.F)(hb:DW K mg X ES (.BoolOp .And (b::es) pos) u.F):DW K mg X ES (.BoolOp .And (a::b::es) pos) (qAn t u).F:=by with_unfolding_all exact Hb ha hb
def gY(ha:DT K mg X ES a t.F)(hb:DW K mg X ES (.BoolOp .Or (b::es) pos) u.F):DW K mg X ES (.BoolOp .Or (a::b::es) pos) (qO t u).F:=by with_unfolding_all exact JU ha hb
def ZW.dt(h:DW K mg X ES a t.F):DT K mg X ES a t.F:=by with_unfolding_all exact DW.dt h
def ka{op}(h:DE K mg X ES a p.F):DE K mg X ES (.BoolOp op [a] pos) p.F:=by with_unfolding_all exact Jv h
def jm(ha:DE K mg X ES a p.F)(hb:DE K mg X ES (.BoolOp .And (b::es) pos) q.F):DE K mg X ES (.BoolOp .And (a::b::es) pos) (ky p q).F:=by with_unfolding_all exact Gs ha hb
def Jy(ha:DE K mg X ES a p.F):DE K mg X ES (.UnaryOp .Not a pos) (Bh p).F:=by with_unfolding_all exact FN ha
def Lh(hc:DT K mg X ES c t.F)(ha:DE K mg X ES a p.F)(hb:DE K mg X ES b q.F):DE K mg X ES (.IfExp c a b pos) (pIf t p q).F:=by with_unfolding_all exact J5 hc ha hb
def CP(ho:UnR X (unaryOp op) r')(hd:UnD K mg r' k.F)(ha:DE K mg X ES a p.F):DE K mg X ES (.UnaryOp op a pos) (pUn k p).F:=by with_unfolding_all exact Lc ho hd ha
def ai:DA K mg X ES [] ao.F:=by with_unfolding_all exact zx
def aa(ha:DE K mg X ES e p.F)(hr:DA K mg X ES es A.F)(hs:starEach (e::es) X.env=(false,eval e X.env)::starEach es X.env:=by rfl):DA K mg X ES (e::es) (ag p A).F:=by with_unfolding_all exact u6 ha hr hs
def bK{x1}(h:DA K mg X ES es A.F):DE K mg X ES (.Tuple es x1 pos) (cJ A).F:=by with_unfolding_all exact Gp h
def cP(h:DA K mg X ES es A.F):DE K mg X ES (.List es pos) (eB A).F:=by with_unfolding_all exact Hr h
def aD{id:String}{r':List V->Hp->VK->Prop}{k:PBf}{x:Str}{p0:Pos}(hc:CallR X (.builtin id) r')(hd:bG K mg r' k.F)(hg:Gl X x)(hm:mg x=none)(hv:bootBuiltins x=some (.builtin id))(ha:DA K mg X ES (e::es) A.F)(hk:X.mg=mg:=by rfl)(hn:x ≠ "__name__":=by decide)(hdb:(x==("__debug__" : Str))=false:=by decide)(he:starEach (e::es) X.env=(false,eval e X.env)::starEach es X.env:=by rfl)(hpl:(backTo pos (starEach es X.env)).any (·.1)=false:=by rfl):DE K mg X ES (.Call (.Name x p0) (e::es) [] pos) (pFn k A).F:=by with_unfolding_all exact Bn hc hd hg hm hv ha hk hn hdb he hpl
def fQ{id:String}{r':List V->Hp->VK->Prop}{k:PBf}{x:Str}{p0:Pos}(hc:CallR X (.type id) r')(hd:bG K mg r' k.F)(hg:Gl X x)(hm:mg x=none)(hv:bootBuiltins x=some (.type id))(ha:DA K mg X ES (e::es) A.F)(hk:X.mg=mg:=by rfl)(hn:x ≠ "__name__":=by decide)(hdb:(x==("__debug__" : Str))=false:=by decide)(he:starEach (e::es) X.env=(false,eval e X.env)::starEach es X.env:=by rfl)(hpl:(backTo pos (starEach es X.env)).any (·.1)=false:=by rfl):DE K mg X ES (.Call (.Name x p0) (e::es) [] pos) (pFn k A).F:=by with_unfolding_all exact yw hc hd hg hm hv ha hk hn hdb he hpl
def aw{f:PFn}{x:Str}{p0:Pos}{k n:Nat}{ps:List Str}(C:Callee X.prog X.w X.K X.mg X.base x k ps (spD K mg n f.F))(hr:Room k X.A)(hg:Gl X x)(hx:oa X ES)(ha:DA K mg X ES (e::es) A.F)(hn:f.ms.length=n:=by rfl)(hdb:(x==("__debug__" : Str))=false:=by decide)(he:starEach (e::es) X.env=(false,eval e X.env)::starEach es X.env:=by rfl)(hpl:(backTo pos (starEach es X.env)).any (·.1)=false:=by rfl):DE K mg X ES (.Call (.Name x p0) (e::es) [] pos) (az f A).F:=by
 subst hn
 with_unfolding_all exact Cf C hr hg hx ha hdb he hpl
def aP:DSs K mg X ES [] xNx.F:=by with_unfolding_all exact C1
def ax(h1:DS K mg X ES st x.F):DSs K mg X ES [st] x.F:=by with_unfolding_all exact vy h1
def ar(h1:DS K mg X ES st x.F)(h2:DSs K mg X ES sts y.F):DSs K mg X ES (st::sts) (aC x y).F:=by with_unfolding_all exact nh h1 h2
def Ef:DS K mg X ES (.Return none pos) xm.F:=by with_unfolding_all exact EC
def aG(he:DE K mg X ES e p.F):DS K mg X ES (.Return (some e) pos) (aV p).F:=by with_unfolding_all exact Gb he
def bR(he:DE K mg X ES e p.F)(hs:swapsWith e none pos.line X.env=pure false:=by rfl):DS K mg X ES (.Expr e pos) (cQ p).F:=by with_unfolding_all exact ve he hs
def a0(hc:DT K mg X ES c t.F)(ha:DSs K mg X ES sts x.F)(hb:DSs K mg X ES sts' y.F):DS K mg X ES (.If c sts sts' pos) (xIf t x y).F:=by with_unfolding_all exact J9 hc ha hb
def aH{i:Nat}{x:Str}(hN:X.N.Nodup)(hi:X.N[i]?=some x)(hx:Loc X.env.scope x)(hf:X.fn x=true\/X.env.scope.names.lookup x=some .local:=by first |exact .inl rfl |exact .inr rfl |assumption):DG K mg X ES (.Name x pos) (gtN i).F:=D1 hN hi hx hf
def gu:DGs K mg X ES [] gB.F:=EX
def bJ(h1:DG K mg X (λ_=>E0) e g.F)(h2:DGs K mg X (λ_=>E0) es gs.F)(hs:(assignEach (e::es) X.env).map (·.2)=assign e X.env::(assignEach es X.env).map (·.2):=by rfl):DGs K mg X (λ_=>E0) (e::es) (cC g gs).F:=Cb h1 h2 hs
def jj(hK:X.K=K)(hc:X.calm=true)(h:DGs K mg X (λ_=>E0) es gs.F)(hn:(assignEach es X.env).length=n:=by rfl)(hst:(assignEach es X.env).findIdx? (·.1)=none:=by rfl):DG K mg X (λ_=>E0) (.Tuple es k pos) (gtT n gs).F:=F4 hK hc h hn hst
def ZG.weak(hg:DG K mg X (λ_=>E0) e g.F):DG K mg X ES e (gtX g).F:=DG.weak hg
def mz(he:DE K mg X ES e p.F)(hg:DG K mg X ES a g.F)(hs:swapsWithSole [a] e pos.line X.env=pure false:=by rfl)(hw:swappedStores [a] e X.env=pure none:=by rfl)(h1:(assignEach [a] X.env).map (·.2)=[assign a X.env]:=by rfl):DS K mg X ES (.Assign [a] e pos) (mB p g).F:=by with_unfolding_all exact xU he hg hs hw h1
def pQ(he:DE K mg X ES e p.F)(ho:DE K mg X ES o (ah j).F)(hi:DE K mg X ES i q.F)(hs':sF X r')(hd:oP K mg r' w.F)(hs:swapsWithSole [.Subscript o i p1] e pos.line X.env=pure false:=by rfl)(hw:swappedStores [.Subscript o i p1] e X.env=pure none:=by rfl)(h1:(assignEach [.Subscript o i p1] X.env).map (·.2)=[assign (.Subscript o i p1) X.env]:=by rfl)
 (ha:∀v,assign (.Subscript o i p1) X.env v=(do
  let ov <- holding [v] (eval o X.env)
  let iv <- holding [v,ov] (eval i X.env)
  standAt p1
  holding [v,ov,iv] (setItem ov iv v)
  release [v,ov,iv] []):=by intro _;rfl):DS K mg X ES (.Assign [.Subscript o i p1] e pos) (rY j w q p).F:=by with_unfolding_all exact xU he (Fm ho hi hs' hd ha) hs hw h1
def aK{ow:Bool}{i:Nat}{x:Str}{pos':Pos}(hN:X.N.Nodup)(hi:X.N[i]?=some x)(hx:Loc X.env.scope x)(he:DE K mg X ES e p.F)(hs:swapsWith e (some (.Name x pos')) pos.line X.env=pure false:=by rfl)(hf:X.fn x=true\/X.env.scope.names.lookup x=some .local:=by first |exact .inl rfl |exact .inr rfl |assumption):DS K mg X ES (.Assign [.Name x pos'] e pos) (aU ow i p).F:=by with_unfolding_all exact GY hN hi hx he hs hf
def fq{i j:Nat}{x y:Str}{px py pt:Pos}{kt k2 pt2}(hc:X.calm=true)(hN:X.N.Nodup)(hi:X.N[i]?=some x)(hj:X.N[j]?=some y)(hij:i≠j)(hx:X.env.scope.names.lookup x=some .local)(hy:X.env.scope.names.lookup y=some .local)(ha:DA K mg X ES [a,b] A.F)(hw:swappedStores [.Tuple [.Name x px,.Name y py] kt pt] (.Tuple [a,b] k2 pt2) X.env=pure (some [x,y]))(hs:swapsWithSole [.Tuple [.Name x px,.Name y py] kt pt] (.Tuple [a,b] k2 pt2) pos.line X.env=pure false:=by rfl):DS K mg X ES (.Assign [.Tuple [.Name x px,.Name y py] kt pt] (.Tuple [a,b] k2 pt2) pos) (iw i j A).F:=by with_unfolding_all exact JA hc hN hi hj hij hx hy ha hw hs
def F8{i:Nat}{x:Str}{op:Operator}{ti:TIp}{pos':Pos}{k:PO2}(hN:X.N.Nodup)(hi:X.N[i]?=some x)(hx:Loc X.env.scope x)(he:DE K mg X ES e p.F)(ho:PIp X op ti)(hd:IpD K mg ti k.F)(hf:X.fn x=true\/X.env.scope.names.lookup x=some .local:=by first |exact .inl rfl |exact .inr rfl |assumption):DS K mg X ES (.AugAssign (.Name x pos') op e pos) (Ah i k p).F:=by with_unfolding_all exact GN hN hi hx he ho hd hf
def fK{x:Str}{C:Addr}{E:XK}{np cpos:Pos}(hc:X.calm=true)(hR:Rz X E)(hg:Gl X x)(hm:mg x=some (.ref C))(hq:W.excIn X.K C eR "ValueError.__new__"=true)(ha:DA K mg X (λ_=>E) (e::es) A.F)(hk:X.mg=mg:=by rfl)(he:starEach (e::es) X.env=(false,eval e X.env)::starEach es X.env:=by rfl)(ci:(backTo cpos (starEach es X.env)).any (·.1)=false:=by rfl)(hd:(x==("__debug__" : Str))=false:=by decide):DS K mg X (λ_=>E) (.Raise (some (.Call (.Name x np) (e::es) [] cpos)) none pos) (f6 x A).F:=by with_unfolding_all exact Ce hc hR hg hm hq ha hk he ci hd
def cM(hK:X.K=K)(he:DE K mg X ES e p.F):DI K mg X ES tg e (bY p).F:=by with_unfolding_all exact Jd hK he
def eG(hg:Gl X "range")(hm:mg "range"=none)(ha:DA K mg X ES [a] A.F)(hk:X.mg=mg:=by rfl)(hs:starEach [a] X.env=[(false,eval a X.env)]:=by rfl):DI K mg X ES tg (.Call (.Name "range" p0) [a] [] pos) (iP A).F:=by with_unfolding_all exact zA hg hm ha hk hs
def Fx(hK:X.K=K)(hg:Gl X "zip")(hm:mg "zip"=none)(ha:DA K mg X ES [a,b] A.F)(hk:X.mg=mg:=by rfl)(hs:starEach [a,b] X.env=[(false,eval a X.env),(false,eval b X.env)]:=by rfl)(hs2:starEach [b] X.env=[(false,eval b X.env)]:=by rfl):DI K mg X ES (.Tuple elts x1 tp) (.Call (.Name "zip" p0) [a,b] [] pos) (wB A).F:=by with_unfolding_all exact HL hK hg hm ha hk hs hs2
def fX(hp:PassesOwn (model X.prog X.w) X.A X.env X.xe)(hc:X.calm=true)(hi:DI K mg X ES tg am I.F)(hg:DG K mg X ES tg g.F)(hb:DSs K mg X ES sts x.F)(hs:∀x,foldedSetIterable am X.env x=pure x:=by intro _;rfl):DS K mg X ES (.For tg am sts [] pos) (iZ I g x).F:=by with_unfolding_all exact zV hp hc hi hg hb hs
def kJ(hp:PassesOwn (model X.prog X.w) X.A X.env X.xe)(hc:DT K mg X ES c t.F)(hb:DSs K mg X ES sts x.F):DS K mg X ES (.While c sts [] pos) (xWh t x).F:=by with_unfolding_all exact Az hp hc hb
def fW{scope:Scope}(M:List Str)(kn:List (Str×NameKind))(N:List Str)(sub:List (Option Nat)){hsb:(sub.filterMap id).Nodup}(hc:X.calm=true)(hi:DI K mg X ES tg am I.F)(hg:∀cl C s₂ H fp,DG K mg (bA X N scope cl C s₂ H fp) (λ_=>E0) tg g.F)(he:∀cl C s₂ H fp,DE K mg (bA X N scope cl C s₂ H fp) (λ_=>E0) j' p.F)(hM:X.N=M:=by rfl)(hkn:X.env.scope.names=kn:=by rfl)(im:jr M scope.names sub N=true:=by decide)(hk:scope.kind=.function:=by rfl)(hnc:∀x∈scope.names,x.2 ≠ .cell:=by decide)(bn:∀x∈scope.names,x.2=.local->scope.names.lookup x.1=some .local:=by decide)(hfr:lR kn scope.names=true:=by decide)(hsl:sub.length=N.length:=by rfl)(hs:∀x,foldedSetIterable am X.env x=pure x:=by intro _;rfl):DE K mg X ES (.ListComp j' [⟨tg,am,[],0⟩] scope pos) (pLC I sub hsb g qY p).F:=by with_unfolding_all exact K1 M kn N sub hc hi hg he hM hkn im hk hnc bn hfr hsl hs
def xr{ow:Bool}{px spos:Pos}{iT:Nat}{xT:Str}{scope:Scope}(M:List Str)(kn:List (Str×NameKind))(N:List Str)(sub:List (Option Nat)){hsb:(sub.filterMap id).Nodup}(hc:X.calm=true)(hN:X.N.Nodup)(hix:X.N[iT]?=some xT)(hxl:Loc X.env.scope xT)(hi:DI K mg X ES tg am I.F)(hg:∀cl C s₂ H fp,DG K mg (bA X N scope cl C s₂ H fp) (λ_=>E0) tg g.F)(he:∀cl C s₂ H fp,DE K mg (bA X N scope cl C s₂ H fp) (λ_=>E0) j' p.F)(hsw:swapsWith (.ListComp j' [⟨tg,am,[],0⟩] scope pos) (some (.Name xT px)) spos.line X.env=pure true:=by rfl)(hM:X.N=M:=by rfl)(hkn:X.env.scope.names=kn:=by rfl)(im:jr M scope.names sub N=true:=by decide)(hk:scope.kind=.function:=by rfl)(hnc:∀x∈scope.names,x.2 ≠ .cell:=by decide)(bn:∀x∈scope.names,x.2=.local->scope.names.lookup x.1=some .local:=by decide)(hfr:lR kn scope.names=true:=by decide)(hsl:sub.length=N.length:=by rfl)(hs:∀x,foldedSetIterable am X.env x=pure x:=by intro _;rfl)(hf:X.fn xT=true\/X.env.scope.names.lookup xT=some .local:=by first |exact .inl rfl |exact .inr rfl |assumption):DS K mg X ES (.Assign [.Name xT px] (.ListComp j' [⟨tg,am,[],0⟩] scope pos) spos) (aU ow iT (pLC I sub hsb g qY p)).F:=by with_unfolding_all exact K8 M kn N sub hc hN hix hxl hi hg he hsw hM hkn im hk hnc bn hfr hsl hs hf
def ik{j:Nat}{name:Str}{id:String}{apos cpos:Pos}{r':V->List V->Hp->VK->Prop}{k:PMm}(hK:X.K=K)(slot:Slot "list" name id)(hty:typeOf (.builtin id)=pure (.type "method_descriptor"))(hm:MtM X id r')(hd:MtD K mg r' k.F)(ho:DE K mg X ES o (ah j).F)(ha:DA K mg X ES (e::es) A.F)(dL:attributeBase o name X.env (eval o X.env)=eval o X.env:=by rfl)(hfew:((backTo cpos (starEach (e::es) X.env)).all (λx=>!x.1)&&(backToKw cpos (keywordEach [] X.env)).all (λx=>x.1.isSome)&&decide ((e::es).length+([]:List Keyword).length+(if ([]:List Keyword).isEmpty then 0 else 1)<30))=true:=by rfl)(ge:(apos.endLine==cpos.line)=true:=by rfl)(hs:starEach (e::es) X.env=(false,eval e X.env)::starEach es X.env:=by rfl)(ci:(backTo cpos (starEach es X.env)).any (·.1)=false:=by rfl):DE K mg X ES (.Call (.Attribute o name apos) (e::es) [] cpos) (jM j k A).F:=by with_unfolding_all exact de_m hK slot hty hm hd ho ha dL hfew ge hs ci
def vx{j:Nat}{name:Str}{id:String}{apos cpos:Pos}{r':V->List V->Hp->VK->Prop}{k:PMm}(hK:X.K=K)(slot:Slot "list" name id)(hty:typeOf (.builtin id)=pure (.type "method_descriptor"))(hm:MtM X id r')(hd:MtD K mg r' k.F)(ho:DE K mg X ES o (ah j).F)(dL:attributeBase o name X.env (eval o X.env)=eval o X.env:=by rfl)(ge:(apos.endLine==cpos.line)=true:=by rfl):DE K mg X ES (.Call (.Attribute o name apos) [] [] cpos) (qV j k).F:=by with_unfolding_all exact KN hK slot hty hm hd ho dL ge
def o7:DO K mg X ES none oN.F:=E5
def o3(he:DE K mg X ES e p.F):DO K mg X ES (some e) (oS p).F:=by with_unfolding_all exact C6 he
def nA{l u:POp}{lo hi:Option Expr}{p2:Pos}(hK:X.K=K)(he:DE K mg X ES e p.F)(hl:DO K mg X ES lo l.F)(hu:DO K mg X ES hi u.F):DE K mg X ES (.Subscript e (.Slice lo hi none p2) pos) (pSl p l u).F:=by with_unfolding_all exact Bs hK he hl hu
def LD:DE K mg X ES (.Dict [] [] pos) pD0.F:=by with_unfolding_all exact KG
def bg:OpD K mg (λx y H Q=>rI0 (λi j=>.int (i+j)) x y H Q\/(pO x y H Q\/(mG K x y H Q\/mD K x y H Q))) bz.F:=FQ
def fg:OpD K mg (rI0 λi j=>.int (i-j)) ir.F:=Gn
def ek:OpD K mg (rI CMulA λi j=>.int (i*j)) dE.F:=Jt
def kc:OpD K mg (rI CDivB λi j=>.int (i.fdiv j)) ji.F:=Iz
def eI:OpD K mg (rI (λ_ j=>j≠0) λi j=>.int (i.fmod j)) cS.F:=ID
def lW:OpD K mg (rI pI λi j=>.int (i^j.toNat)) gL.F:=HF
def xE:OpD K mg (rI0 λi j=>.bl (decide (i<j))) bLt.F:=KQ
def ox:OpD K mg (rI0 λi j=>.bl (decide (j<i))) bGt.F:=LY
def oh:OpD K mg (rI0 λi j=>.bl (decide (j<=i))) bGe.F:=Me
def aL:OpD K mg (λx y H Q=>wQ K x y H Q\/xu K x y H Q) bIx.F:=JC
def dI:OpD K mg (xH K) bEq.F:=Hg
def iJ:OpD K mg (xI K) bNe.F:=GB
def Ml:OpD K mg (rIn K false) bIn.F:=(IW false)
def dm:bG K mg (λxs H Q=>(∃p ys,xs=[.ref p]/\(SqL K H p ys\/SqT K H p ys)/\Q (.int ys.length) H)\/(∃z,xs=[.str z]/\z.length<=sizeLine/\Q (.int z.length) H)) dP.F:=Ga
def iW:bG K mg (λxs H Q=>∃i,xs=[.int i]/\Q (.int (if i<0 then -i else i)) H) iI.F:=Ic
def EE:bG K mg (λxs H Q=>∃i j,xs=[.int i,.int j]/\Q (.int (if j>i then j else i)) H) rq.F:=Dq
def vp:bG K mg (λxs H Q=>∃i j,xs=[.int i,.int j]/\Q (.int (if j<i then j else i)) H) oB.F:=E9
def xW:bG K mg (λxs H Q=>∃(a:Addr) (bs:List Bool),xs=[.ref a]/\SqL K H a (bs.map V.bl)/\Q (.bl (bs.all id)) H) rh.F:=Ib
def zL:bG K mg (λxs H Q=>∃(a:Addr) (ns:List Int),xs=[.ref a]/\SqL K H a (ns.map V.int)/\Q (.int ns.sum) H) n8.F:=Hl
def Dj:bG K mg (λxs H Q=>∃p ys,xs=[.ref p]/\(SqL K H p ys\/SqT K H p ys)/\∀l,H l=none->Q (.ref l) (upd H l (.lst ys))) sX.F:=DB
def kh:bG K mg (λxs H Q=>∃p ys,xs=[.ref p]/\((SqL K H p ys/\∀l,H l=none->Q (.ref l) (upd H l (.tup ys)))\/(SqT K H p ys/\Q (.ref p) H))) iS.F:=A8
def HQ:bG K mg (λxs H Q=>(∃i,xs=[.int i]/\Q (.int i) H)\/∃k,xs=[.bl k]/\Q (.int (if k then 1 else 0)) H) wU.F:=F9
def cK(ok:KitsOk K mg kt):bG K mg (λxs H Q=>(∃x c t v b,xs=[x,c]/\TyX K H x t/\gk c=some v/\W.kitOne K t v=some b/\Q (.bl b) H)\/
 (∃x tp cs t vs b,xs=[x,.ref tp]/\SqT K H tp cs/\TyX K H x t/\cs.mapM gk=some vs/\W.kitAny K t vs=some b/\Q (.bl b) H)) (aY kt).F:=IZ ok
def jv:MtD K mg pC gx.F:=qu
def yE:MtD K mg Cd rf.F:=Gv
def vH:oP K mg xB seL.F:=Dp
def Gh:IpD K mg (ipI λi j=>i+j) zY.F:=C7
def zm:UnD K mg (rU λi=>.int (-i)) w9.F:=Gj
variable{P:Program}{w:World}{base:Heap}{fx:Str}{fst:Stmt}{k n m:Nat}{ps N:List Str}{ms:List Bool}
def okP(D:Def K mg fx fst)(S:FnScope N ps (ay fst))
 (hb:∀(kV doc pm:Value) (an:Option Addr) (cdv ct:Value) (us:List Value),us.length=ps.length->bindArgs (W.fnOf fx fx (dU fst) (bT fst) (ay fst) .none kV doc pm an cdv ct) ⟨us,[]⟩=pure (ps.zip us))
 (jp:∀(f:Addr) (cdv:Value) (A:Around) (outer:List Env) (s:Shared) (H:Hp) (E:XK),Room k (A.deeper (envOfC fx (ay fst) s.heap.objs.size f cdv))->
  DSs K mg (eX (CX1 P w) P w K mg base N fx (ay fst) f cdv A outer s H E) (λ_=>E) (bT fst) x.F) (hn:ps.length=n:=by rfl) (hm:N.length=m:=by rfl):Callee P w K mg base fx (k+1) ps (spD K mg n (fnP ms m x).F):=by
 subst hn hm
 with_unfolding_all exact D.okD S hb jp
def okX(D:Def K mg fx fst)(S:FnScope N ps (ay fst))
 (hb:∀(kV doc pm:Value) (an:Option Addr) (cdv ct:Value) (us:List Value),us.length=ps.length->bindArgs (W.fnOf fx fx (dU fst) (bT fst) (ay fst) .none kV doc pm an cdv ct) ⟨us,[]⟩=pure (ps.zip us))
 (jp:∀(f:Addr) (cdv:Value) (A:Around) (outer:List Env) (s:Shared) (H:Hp) (E:XK),Room k (A.deeper (envOfC fx (ay fst) s.heap.objs.size f cdv))->
  DSs K mg (eX (CX1 P w) P w K mg base N fx (ay fst) f cdv A outer s H E) (λ_=>E) (bT fst) x.F) (hn:ps.length=n:=by rfl) (hm:N.length=m:=by rfl):Callee P w K mg base fx (k+1) ps (spD K mg n (PFx.of ms m x).F):=by
 subst hn hm
 with_unfolding_all exact D.okD S hb jp
def ok0(D:Def K mg fx fst)(S:FnScope N ps (ay fst))
 (hb:∀(kV doc pm:Value) (an:Option Addr) (cdv ct:Value) (us:List Value),us.length=ps.length->bindArgs (W.fnOf fx fx (dU fst) (bT fst) (ay fst) .none kV doc pm an cdv ct) ⟨us,[]⟩=pure (ps.zip us)) (hn:ps.length=n:=by rfl):Callee P w K mg base fx (k+1) ps (spD K mg n (PFx.none ms).F):=by
 subst hn
 exact D.okD (F:=λ_ _=>.stuck) S hb λ_ _ _ _ _ _ _ _=>yd
end
end L3
namespace L3
open PySem PySem.Spec PyProof.Rows L2
def Jk(b:Bool)(ms:List Bool)(v:Val)(vs:List Val):sls (b::ms) (v::vs)=sl1 b v::sls ms vs:=rfl
def C0:sls [] []=[]:=rfl
def Ls(v:Val):sl1 true v=.mu v:=rfl
def LA(v:Val):sl1 false v=.sh v:=rfl
section
variable(e:E3)
def C4:okA e [] []=true:=rfl
def Hz(i:Nat)(ms:List Bool)(ts:List Tm):okA e (true::ms) (.bor i::ts)=(((e[i]?).bind Sl.mv).isSome && !(jT i ts)&&okA e ms ts):=rfl
def GJ(v:Val)(ms:List Bool)(ts:List Tm):okA e (false::ms) (.val v::ts)=okA e ms ts:=rfl
def AA(i:Nat):jT i []=false:=rfl
def FE(i:Nat)(v:Val)(ts:List Tm):jT i (.val v::ts)=jT i ts:=rfl
def xX:bu e [] []=[]:=rfl
def EL(v:Val)(ms:List Bool)(ts:List Tm):bu e (false::ms) (.val v::ts)=bu e ms ts:=rfl
def IE(t:Tm)(ms:List Bool)(ts:List Tm):bu e (true::ms) (t::ts)=bu e ms ts:=by cases t <;> rfl
end
def yB:cG [] []=[]:=rfl
def D6(b:Bool)(t:Tm)(ms:List Bool)(ts:List Tm):cG (b::ms) (t::ts)=oJ b t::cG ms ts:=rfl
def E7(i:Nat):oJ true (.bor i)=some i:=rfl
def FF(t:Tm):oJ false t=none:=by cases t <;> rfl
def Al(e:E3):bN [] [] e=e:=rfl
def Io(o:Option Nat)(sub:List (Option Nat))(s:Sl)(i e:E3):bN (o::sub) (s::i) e=bN sub i (gv o s e):=rfl
theorem Eg(i:Nat)(v:Val)(e:E3):gv (some i) (.mu v) e=match e[i]? with
 |some t=>e.set i (t.re v)
 |none=>e:=rfl
def Ia(s:Sl)(e:E3):gv none s e=e:=rfl
def Aa(vs:List Val):aX [] vs=[]:=rfl
def GD(ms:List Bool)(v:Val)(vs:List Val):aX (true::ms) (v::vs)=.mu v::aX ms vs:=rfl
def Ge(ms:List Bool)(vs:List Val):aX (false::ms) vs=.no::aX ms vs:=by cases vs <;> rfl
def Dm(e:E3):muV [] e=some []:=by cases e <;> rfl
def JL(ms:List Bool)(v:Val)(e:E3):muV (true::ms) (.mu v::e)=(muV ms e).map (v :: ·):=rfl
def Mf(ms:List Bool)(s:Sl)(e:E3):muV (false::ms) (s::e)=muV ms e:=by cases s <;> rfl
def xZ(v:Val):mf (.val v)=a8 v:=rfl
def zc(v:Val):mf (.new v)=d6 v:=rfl
def yF(xs:List Val):d6 (.lst xs)=cx xs:=rfl
def oq:cx []=true:=by simp [cx]
def mQ(v:Val)(vs:List Val):cx (v::vs)=(a8 v&&cx vs):=by simp [cx]
def ya(i:Int):a8 (.int i)=true:=by simp [a8]
def Bb(i:Bool):a8 (.bl i)=true:=by simp [a8]
def yf(i:Str):a8 (.str i)=true:=by simp [a8]
def yr:a8 .non=true:=by simp [a8]
def yR(xs:List Val):a8 (.tup xs)=cx xs:=by simp [a8]
theorem nI(f:α->Val)(hf:∀a,a8 (f a)=true):∀l:List α,cx (l.map f)=true
 | []=>oq
 |a::l=>by rw[Oi,mQ,hf a,nI f hf l];rfl
def fA(h0:0<=i)(h:l[i.toNat]?=some x):atI l i=some x:=by
 have hl:=(Oe.mp h).1
 unfold atI ixN
 rw[if_pos h0,if_pos (by omega)]
 exact h
def uq(h0:0<=i)(h:i.toNat<n):ixN n i=some i.toNat:=by
 unfold ixN
 rw[if_pos h0,if_pos (by omega)]
section
variable(a b c d e f g h:α)(l:List α)
def ati0:atI (a::l) 0=some a:=fA (by decide) rfl
def ati1:atI (a::b::l) 1=some b:=fA (by decide) rfl
def ati2:atI (a::b::c::l) 2=some c:=fA (by decide) rfl
def ati3:atI (a::b::c::d::l) 3=some d:=fA (by decide) rfl
end
def ixn0(n:Nat):ixN (n+1) 0=some 0:=uq (i:=0) (by decide) (by show 0<n+_;omega)
def ixn1(n:Nat):ixN (n+2) 1=some 1:=uq (i:=1) (by decide) (by show 1<n+_;omega)
theorem JK(xs:List Val)(k:Int)(v:Val):seL.G (.lst xs) (.int k) v=match ixN xs.length k with
 |some j=>some (.lst (xs.set j v))
 |none=>none:=rfl
end L3
namespace L3
open PySem PySem.Spec PyProof.Rows L2
mutual
def vq:Val->Val->Bool
 |.non,.non=>true
 |.bl a,.bl b=>a==b
 |.bl a,.int j=>(if a then 1 else 0)==j
 |.int i,.bl b=>i==(if b then 1 else 0)
 |.int i,.int j=>i==j
 |.str x,.str y=>x==y
 |.tup xs,.tup ys=>vqs xs ys
 |.lst xs,.lst ys=>vqs xs ys
 |_,_=>false
def vqs:List Val->List Val->Bool
 | [],[]=>true
 |x::xs,y::ys=>vq x y&&vqs xs ys
 |_,_=>false
end
mutual
def wfV:Nat->Val->Bool
 |_,.non=>true
 |_,.bl _=>true
 |_,.int _=>true
 |_,.str x=>PyData.strOk x
 |k+1,.tup xs=>cR k xs
 |k+1,.lst xs=>cR k xs
 |_,_=>false
def cR:Nat->List Val->Bool
 |_,[]=>true
 |k,x::xs=>wfV k x&&cR k xs
end
mutual
def ip:Val->PyData
 |.bl b=>.bool b
 |.int i=>.int i
 |.str x=>.str x
 |.tup xs=>.tuple (eT xs)
 |.lst xs=>.list (eT xs)
 |_=>.none
def eT:List Val->List PyData
 | []=>[]
 |x::xs=>ip x::eT xs
end
mutual
theorem o6:∀(k:Nat) (v:Val),wfV k v=true->(∀j,k<j->dJ j v=some (ip v))/\(ip v).canLay0=true/\(ip v).depth<=k
 |k,.non,_=>⟨λj hj=>by cases j with |zero=>exact absurd hj (P4 _) |succ j=>rfl,rfl,OO _⟩
 |k,.bl b,_=>⟨λj hj=>by cases j with |zero=>exact absurd hj (P4 _) |succ j=>rfl,rfl,OO _⟩
 |k,.int b,_=>⟨λj hj=>by cases j with |zero=>exact absurd hj (P4 _) |succ j=>rfl,rfl,OO _⟩
 |k,.str b,w=>⟨λj hj=>by cases j with |zero=>exact absurd hj (P4 _) |succ j=>rfl,by cases k <;> exact w,OO _⟩
 |0,.tup xs,w=>absurd w Ol
 |0,.lst xs,w=>absurd w Ol
 |
  k+1,.tup xs,w=>by
  obtain⟨h1,h2,h3⟩:=nF k xs w
  exact⟨λj hj=>by cases j with |zero=>exact absurd hj (P4 _) |succ j=>simp only[dJ,ip,h1 j (Nat.lt_of_succ_lt_succ hj),Option.map_some],h2,by simpa [ip,PyData.depth] using h3⟩
 |
  k+1,.lst xs,w=>by
  obtain⟨h1,h2,h3⟩:=nF k xs w
  exact⟨λj hj=>by cases j with |zero=>exact absurd hj (P4 _) |succ j=>simp only[dJ,ip,h1 j (Nat.lt_of_succ_lt_succ hj),Option.map_some],h2,by simpa [ip,PyData.depth] using h3⟩
 |k,.ty _,w=>by cases k <;> exact absurd w Ol
 |k,.glb _,w=>by cases k <;> exact absurd w Ol
 |k,.exc _,w=>by cases k <;> exact absurd w Ol
 |k,.kl _,w=>by cases k <;> exact absurd w Ol
 |k,.dct _,w=>by cases k <;> exact absurd w Ol
 |k,.set _,w=>by cases k <;> exact absurd w Ol
theorem nF:∀(k:Nat) (vs:List Val),cR k vs=true->(∀j,k<j->fj j vs=some (eT vs))/\PyData.canLayAll0 (eT vs)=true/\PyData.depthAll (eT vs)<=k
 |k,[],_=>⟨λj hj=>by simp [fj,eT],rfl,OO _⟩
 |
  k,v::vs,w=>by
  have w':(wfV k v&&cR k vs)=true:=w
  rw[Oj] at w'
  obtain⟨h1,h2,h3⟩:=o6 k v w'.1
  obtain⟨i1,i2,i3⟩:=nF k vs w'.2
  exact⟨λj hj=>by simp [fj,eT,h1 j hj,i1 j hj],by simp [eT,PyData.canLayAll0,h2,i2],Nat.max_le.mpr ⟨h3,i3⟩⟩
end
mutual
theorem zj:∀(k:Nat) (v u:Val),wfV k v=true->wfV k u=true->PyData.eqv (ip v) (ip u)=vq v u
 |
  k,v,u,hv,hu=>by
  cases v <;> first |(cases k <;> exact absurd hv Ol) |skip
  all_goals (cases u <;> first |(cases k <;> exact absurd hu Ol) |rfl |(cases k with |zero=>exact absurd hv Ol |succ k=>exact vm k _ _ hv hu))
theorem vm:∀(k:Nat) (v u:List Val),cR k v=true->cR k u=true->PyData.eqvAll (eT v) (eT u)=vqs v u
 |_,[],[],_,_=>rfl
 |_,[],_::_,_,_=>rfl
 |_,_::_,[],_,_=>rfl
 |
  k,x::xs,y::ys,hv,hu=>by
  have h1:(wfV k x&&cR k xs)=true:=hv
  have h2:(wfV k y&&cR k ys)=true:=hu
  rw[Oj] at h1 h2
  show (PyData.eqv (ip x) (ip y)&&PyData.eqvAll (eT xs) (eT ys))=(vq x y&&vqs xs ys)
  rw[zj k x y h1.1 h2.1,vm k xs ys h1.2 h2.2]
end
def yu(hk:k<=160)(hx:wfV k x=true)(hy:wfV k y=true):dZ x y=some (vq x y):=by
 obtain⟨h1,h2,h3⟩:=o6 k x hx
 obtain⟨i1,i2,i3⟩:=o6 k y hy
 unfold dZ
 rw[h1 164 (by omega),i1 164 (by omega)]
 dsimp only
 rw[if_pos ⟨ju h2 (by omega),ju i2 (by omega)⟩,zj k x y hx hy]
def K2(hx:wfV 60 x=true)(hy:wfV 60 y=true):dZ x y=some (vq x y):=yu (by decide) hx hy
mutual
theorem pf:∀(k:Nat) (v:Val),wfV k v=true->vq v v=true
 |
  k,v,hv=>by
  cases v <;> first |(cases k <;> exact absurd hv Ol) |rfl |exact PU _ |(cases k with |zero=>exact absurd hv Ol |succ k=>exact ud k _ hv)
theorem ud:∀(k:Nat) (v:List Val),cR k v=true->vqs v v=true
 |_,[],_=>rfl
 |
  k,x::xs,hv=>by
  have h1:(wfV k x&&cR k xs)=true:=hv
  rw[Oj] at h1
  show (vq x x&&vqs xs xs)=true
  rw[pf k x h1.1,ud k xs h1.2]
  rfl
end
def fV(q:Rat):Val:=.tup [.int q.num,.int q.den]
structure Bx where
 l:Rat
 t:Rat
 w:Rat
 h:Rat
structure Bx.Ok(b:Bx):Prop where
 w:0<b.w
 h:0<b.h
structure Bx.Sz(n:Nat)(b:Bx):Prop where
 l:L2.Sz n b.l
 t:L2.Sz n b.t
 w:L2.Sz n b.w
 h:L2.Sz n b.h
def bV(b:Bx):Val:=.tup [fV b.l,fV b.t,fV b.w,fV b.h]
def K0(q:Rat)(k:Nat):wfV (k+1) (fV q)=true:=by simp [fV,wfV,cR]
def Ke(b:Bx)(k:Nat):wfV (k+2) (bV b)=true:=by simp [bV,wfV,cR,K0]
def Ll(q:Rat):a8 (fV q)=true:=by simp [fV,a8,cx]
def Ky(b:Bx):a8 (bV b)=true:=by simp [bV,a8,cx,Ll]
def knV:Val->Bool
 |.exc _=>false
 |v=>(tyC v).isSome
def jL:Nat->Val->Bool
 |k+1,.tup xs=>xs.all (jL k)
 |_,v=>knV v
def kQ:Val->Bool
 |.int _=>true
 |_=>false
def ba:Val->Bool
 |.tup [.int a,.int b]=>decide (1<=b)&&decide (Int.gcd a b=1)
 |_=>false
def kM:Val->Bool
 |.tup (.int a::_)=>decide (0<a)
 |_=>false
def gZ:Val->Bool
 |.tup [a,b,c,d]=>ba a&&(ba b&&(ba c&&(ba d&&(kM c&&kM d))))
 |_=>false
def jz:Val->Bool
 |.int i=>decide (1<=i)
 |_=>false
def gq:Val->Bool
 |.tup _=>true
 |_=>false
def Lr(h1:1<=b)(h2:Int.gcd a b=1):Val.tup [.int a,.int b]=fV ((a:Rat)/(b:Rat)):=by
 have hb:b≠0:=by omega
 have h:=ou (a:=a) hb
 have s:=Fr.self (by omega) h2
 unfold fV
 rw[<- h.1,<- h.2,s.1,s.2]
def kB(q:Rat):ba (fV q)=true:=by
 show (decide (1<=(q.den:Int))&&decide (Int.gcd q.num q.den=1))=true
 have:=q.den_pos
 rw[OI (by omega),OI (vK q)];rfl
def y0(h:ba d=true):∃q,d=fV q:=by
 unfold ba at h
 split at h
 ·simp only[Oj,QA] at h
  exact⟨_,Lr h.1 h.2⟩
 ·cases h
def vv(q:Rat):kM (fV q)=decide (0<q):=by
 show decide (0<q.num)=decide (0<q)
 rw[decide_eq_decide]
 exact vL
def Ab(h:b.Ok):gZ (bV b)=true:=by
 show (ba (fV b.l)&&(ba (fV b.t)&&(ba (fV b.w)&&(ba (fV b.h)&&(kM (fV b.w)&&kM (fV b.h))))))=true
 rw[kB,kB,kB,kB,vv,vv,OI h.w,OI h.h];rfl
def F7(b:Bx):jL 2 (bV b)=true:=by simp [bV,fV,jL,knV,tyC]
theorem pM(P:E3->Prop):∀(vs acc:List Val) (e:E3),P e->(∀v∈vs,∀e,P e->∃e1 t e2,g v e=some e1/\F e1=.ok t e2/\cW e2 t=some (e2,f v)/\P e2)->acc.length+vs.length<=16777216->∃e',P e'/\lcV g cY F vs acc e=.ok (acc++vs.map f) e'
 | [],acc,e,hp,_,_=>⟨e,hp,by simp [lcV]⟩
 |
  v::vs,acc,e,hp,hf,hl=>by
  obtain⟨e1,t,e2,q1,q2,q3,q4⟩:=hf v (Of ..) e hp
  obtain⟨e',p',q5⟩:=pM P vs (acc++[f v]) e2 q4 (λu hu=>hf u (Od _ hu)) (by simp at hl ⊢;omega)
  refine⟨e',p',?_⟩
  unfold lcV
  rw[if_pos (by simp at hl;omega),q1]
  simp only[cY,jx,Pl,q2,q3,q5]
  simp
theorem nj(P:E3->Prop):∀(vs:List Val) (e:E3),P e->(∀v∈vs,∀e,P e->∃e1 e2,g v e=some e1/\(B e1=.nx e2\/B e1=.ct e2)/\P e2)->∃e',P e'/\ff g B vs e=.nx e'
 | [],e,hp,_=>⟨e,hp,rfl⟩
 |
  v::vs,e,hp,hf=>by
  obtain⟨e1,e2,q1,q2,q3⟩:=hf v (Of ..) e hp
  obtain⟨e',p',q4⟩:=nj P vs e2 q3 λu hu=>hf u (Od _ hu)
  refine⟨e',p',?_⟩
  rw[eL,q1]
  rcases q2 with q2 |q2 <;> simp only[q2,rj,CZ,q4]
end L3
namespace L3
open PySem PySem.Spec PyProof.Rows L2
def rgV(k:Nat):List Val:=(List.range k).map λj=>Val.int (j:Nat)
def mF(h:k<1000000):iA [.int (k:Nat)]=some (rgV k):=by
 simp only[iA]
 rw[if_pos (⟨by omega,by omega⟩:RgB _),OY]
 unfold xG rgV
 simp only[Int.zero_add]
def vt(h0:0<=i)(h:i<1000000):iA [.int i]=some (rgV i.toNat):=by
 have:=mF (k:=i.toNat) (by omega)
 rwa [show ((i.toNat:Nat):Int)=i from by omega] at this
theorem dH(fv fw:α->Val)(P:E3->Prop):∀(l:List α) (acc:List Val) (e:E3),P e->(∀a∈l,∀e,P e->∃e1 t e2,g (fv a) e=some e1/\F e1=.ok t e2/\cW e2 t=some (e2,fw a)/\P e2)->acc.length+l.length<=16777216->∃e',P e'/\lcV g qY.G F (l.map fv) acc e=.ok (acc++l.map fw) e'
 | [],acc,e,hp,_,_=>⟨e,hp,by simp [lcV]⟩
 |
  v::vs,acc,e,hp,hf,hl=>by
  obtain⟨e1,t,e2,q1,q2,q3,q4⟩:=hf v (Of ..) e hp
  obtain⟨e',p',q5⟩:=dH fv fw P vs (acc++[fw v]) e2 q4 (λu hu=>hf u (Od _ hu)) (by simp at hl ⊢;omega)
  refine⟨e',p',?_⟩
  rw[Oi]
  unfold lcV
  have cy:qY.G=cY:=rfl
  rw[cy] at q5 ⊢
  rw[if_pos (by simp at hl;omega),q1]
  simp only[cY,jx,Pl,q2,q3,q5]
  simp
def Jg(v:Val):inS (.sh v)=.sh v:=rfl
mutual
theorem rZ:∀(k:Nat) (v:Val),wfV k v=true->wfV (k+1) v=true
 |k,.non,_=>by simp [wfV]
 |k,.bl _,_=>by simp [wfV]
 |k,.int _,_=>by simp [wfV]
 |k,.str x,h=>by cases k <;> simpa [wfV] using h
 |0,.tup _,h=>by simp [wfV] at h
 |0,.lst _,h=>by simp [wfV] at h
 |
  k+1,.tup xs,h=>by
  have:=lO k xs (by simpa [wfV] using h)
  simpa [wfV] using this
 |
  k+1,.lst xs,h=>by
  have:=lO k xs (by simpa [wfV] using h)
  simpa [wfV] using this
 |k,.ty _,h=>by cases k <;> simp [wfV] at h
 |k,.glb _,h=>by cases k <;> simp [wfV] at h
 |k,.exc _,h=>by cases k <;> simp [wfV] at h
 |k,.kl _,h=>by cases k <;> simp [wfV] at h
 |k,.dct _,h=>by cases k <;> simp [wfV] at h
 |k,.set _,h=>by cases k <;> simp [wfV] at h
theorem lO:∀(k:Nat) (vs:List Val),cR k vs=true->cR (k+1) vs=true
 |k,[],_=>by simp [cR]
 |
  k,v::vs,h=>by
  have h':wfV k v=true/\cR k vs=true:=by simpa [cR] using h
  simp only[cR,rZ k v h'.1,lO k vs h'.2,Bool.and_self]
end
def Ft(h:wfV k v=true)(l:k<=m):wfV m v=true:=by
 induction l with
 |refl=>exact h
 |step _ ih=>exact rZ _ _ ih
def Dz(i:Nat)(v:Val)(e:E3):gv (some i) (.sh v) e=e:=rfl
def rP(ms:List Bool)(r:SR3):R3F:=match r with
 |.nx e=>(match muV ms e with |some mv=>.ok (.val .non) mv |none=>.stuck)
 |.rt r e=>(match muV ms e with |some mv=>.ok r mv |none=>.stuck)
 |.exc c e=>(match muV ms e with |some mv=>.exc c mv |none=>.stuck)
 |_=>.stuck
def Md(h:vs.length=ms.length):(fnP ms N c).G vs=rP ms (c.G (sls ms vs++List.replicate (N-vs.length) .no)):=by
 rw[bP,if_pos h];rfl
def IU(h:vs.length=ms.length):(PFx.of ms N c).G vs=rP ms (c.G (sls ms vs++List.replicate (N-vs.length) .no)):=by
 rw[gR,if_pos h];rfl
def Cr(ms:List Bool)(r:Rt)(e:E3):rP ms (.rt r e)=match muV ms e with |some mv=>.ok r mv |none=>.stuck:=rfl
def bB{Q:SR3->Prop}(I:E3->Prop){a b:PSt}{e:E3}(h1:∃e1,a.G e=.nx e1/\I e1)(h2:∀e1,I e1->Q (b.G e1)):Q ((aC a b).G e):=by
 obtain⟨e1,q,i⟩:=h1
 rw[CF,q]
 exact h2 e1 i
def iV(i:Int):Val.tup [.int i,.int 1]=fV (i:Rat):=rfl
def sm8(h:m.natAbs<1099511627776):Sm 8000 m:=Ox (show m.natAbs<2^40 from h) (Qd (by decide) (by decide))
def oD(h:m.natAbs<=2000000000000000000000000000000):Sm 101 m:=by unfold Sm;exact P2 h (by decide)
def ic{m:Int}(h:m.natAbs<=2000000000000000000000000000000):Sz 101 (m:Rat):=⟨oD h,oD (by show (1:Int).natAbs<=_;decide)⟩
def iQ{a b:Int}(hb:b≠0)(h1:a.natAbs<=2000000000000000000000000000000)(h2:b.natAbs<=2000000000000000000000000000000):Sz 101 ((a:Rat)/(b:Rat)):=Sz.div hb (oD h1) (oD h2) 101 (Og _) (Og _)
def gG{m:Int}(h:0<m):(0:Rat)<(m:Rat):=Rat.intCast_pos.mpr h
def je{a b:Int}(h1:0<a)(h2:0<b):(0:Rat)<(a:Rat)/(b:Rat):=by
 rw[Rat.div_def]
 exact Rat.mul_pos (gG h1) (Rat.inv_pos.mpr (gG h2))
structure Good(b:Bx):Prop where
 ok:b.Ok
 sz:b.Sz 101
def mh(h:m.natAbs<=2000000000000000000000000000000):Sm 8000 m:=(oD h).mono (by decide)
end L3
namespace L3
open PySem PySem.Spec PyProof.Rows L2
section
variable{K:W.Frag}{mg:Str->Option Value}{X:Cx}{ES:L2.St->XK}{e:Expr}{es:List Expr}{A:PAs}{pos:Pos}
end
def yC(xs ys:List Val):bz.G (.lst xs) (.lst ys)=if xs.length+ys.length<=16777216 then .new (.lst (xs++ys)) else .stuck:=rfl
end L3
namespace L3
open PySem PySem.Spec PyProof.Rows L2
section
variable{K:W.Frag}{mg:Str->Option Value}{X:Cx}{ES:L2.St->XK}{e a b c o lo hi:Expr}{p q r:PEx}{pos p1 p2:Pos}
end
theorem ar1{α:Type}{P:List α->Prop}(h:∀a,P [a]):∀us:List α,us.length=1->P us
 | [a],_=>h a
theorem ar2{α:Type}{P:List α->Prop}(h:∀a b,P [a,b]):∀us:List α,us.length=2->P us
 | [a,b],_=>h a b
theorem ar3{α:Type}{P:List α->Prop}(h:∀a b c,P [a,b,c]):∀us:List α,us.length=3->P us
 | [a,b,c],_=>h a b c
theorem ar4{α:Type}{P:List α->Prop}(h:∀a b c d,P [a,b,c,d]):∀us:List α,us.length=4->P us
 | [a,b,c,d],_=>h a b c d
end L3
namespace L3
open PySem PySem.Spec PyProof.Rows L2
section
variable{P:Nat->Prop}{h:AH}
def JI(r:Rk P h ws us):lkD us k=some v->∃d,lkD ws k=some d/\Rd P h d v:=
 r.ind (M:=λws us=>lkD us k=some v->∃d,lkD ws k=some d/\Rd P h d v) (λq=>by cases q) (λ{k2 d v2 ds vs} r _ ih q=>by
  unfold lkD at q ih ⊢
  rw[OZ] at q ⊢
  dsimp only at q ⊢
  by_cases hk:k2=k
  ·rw[OI hk] at q ⊢
   cases q
   exact⟨d,rfl,r⟩
  ·rw[OA hk] at q ⊢
   exact ih q)
def DM(r:Rk P h ws us):us.map (·.1)=ws.map (·.1):=
 r.ind (M:=λws us=>us.map (·.1)=ws.map (·.1)) rfl λ_ _ ih=>by rw[Oi,Oi,ih]
def G7(r:Rk P h ws us):ws.length=us.length:=
 r.ind (M:=λws us=>ws.length=us.length) rfl λ_ _ ih=>Pb (· + 1) ih
def FH(r:Rk P h ws us)(q:Rk P h ws' us'):Rk P h (ws++ws') (us++us'):=
 r.ind (M:=λws us=>Rk P h (ws++ws') (us++us')) q λr _ ih=>.cons r ih
def FR(rd:Rd P h d v)(r:Rk P h ws us):Rk P h (dS ws k d) (dS us k v):=by
 unfold dS
 rw[tU (DM r)]
 by_cases hc:(ws.any λkv=>decide (kv.1=k))=true
 ·rw[if_pos hc,if_pos hc]
  exact r.ind (M:=λws us=>Rk P h (ws.map λkv=>if kv.1=k then (kv.1,d) else kv) (us.map λkv=>if kv.1=k then (kv.1,v) else kv)) .nil (λ{k2 d2 v2 ds vs} r _ ih=>by
   rw[Oi,Oi]
   dsimp only
   by_cases hk:k2=k
   ·rw[if_pos hk,if_pos hk];exact .cons rd ih
   ·rw[if_neg hk,if_neg hk];exact .cons r ih)
 ·rw[if_neg hc,if_neg hc]
  exact FH r (.cons rd .nil)
end
def sD:Val->Val->Val->Option Val:=λo i v=>match o with
 |.dct kvs=>(match i with
  |.str k=>if kvs.length<16777216 then some (.dct (dS kvs (.inr k) v)) else none
  |_=>none)
 |_=>none
section
variable{K:W.Frag}{mg:Str->Option Value}{X:Cx}{ES:L2.St->XK}{a b:Expr}{p q:PEx}{pos:Pos}
end
end L3
namespace L3
open PySem L2
theorem pY(P:Nat->E3->Prop)(m:Nat)(hs:∀i,i<m->∀e,P i e->∃e1 e2,g (.int (i:Nat)) e=some e1/\(B e1=.nx e2\/B e1=.ct e2)/\P (i+1) e2):∀(k i:Nat) (e:E3),i+k=m->P i e->∃e',P m e'/\ff g B ((List.range' i k).map λj=>Val.int (j:Nat)) e=.nx e'
 |
  0,i,e,h,p=>by
  obtain rfl:i=m:=by omega
  exact⟨e,p,rfl⟩
 |
  k+1,i,e,h,p=>by
  obtain⟨e1,e2,q1,q2,q3⟩:=hs i (by omega) e p
  obtain⟨e',p',q4⟩:=pY P m hs k (i+1) e2 (by omega) q3
  refine⟨e',p',?_⟩
  rw[List.range'_succ,Oi,eL,q1]
  rcases q2 with q2 |q2
  ·simp only[q2,rj];exact q4
  ·simp only[q2,CZ];exact q4
def BN(P:Nat->E3->Prop)(m:Nat)(h0:P 0 e)(hs:∀i,i<m->∀e,P i e->∃e1 e2,g (.int (i:Nat)) e=some e1/\(B e1=.nx e2\/B e1=.ct e2)/\P (i+1) e2):∃e',P m e'/\ff g B (rgV m) e=.nx e':=by
 have:=pY P m hs m 0 e (by omega) h0
 rw[<- List.range_eq_range'] at this
 exact this
def vf(k:Nat):(rgV k).length=k:=by unfold rgV;rw[N_,Qz]
def Gx(xs:List Val)(n:Nat):iB xs none (some (n:Int))=xs.take n:=by
 unfold iB
 rw[HT.sIx_none,HT.sIx_nat,List.drop_zero,Nat.sub_zero]
 by_cases h:n<=xs.length
 ·rw[QN h]
 ·rw[Nat.min_eq_right (by omega),Pz (Og _),Pz (by omega)]
def rH(xs:List Val)(n:Nat):iB xs (some (n:Int)) none=xs.drop n:=by
 unfold iB
 rw[HT.sIx_none,HT.sIx_nat]
 by_cases h:n<=xs.length
 ·rw[QN h,Pz (by rw[Qb];exact Og _)]
 ·rw[Nat.min_eq_right (by omega),List.drop_of_length_le (Og _),List.drop_of_length_le (by omega),P0]
def um(xs:List Val)(lo hi:Option Int):aSl (.lst xs) lo hi=.new (.lst (iB xs lo hi)):=rfl
end L3
namespace L3
open PySem PySem.Spec PyProof.Rows L2
section
variable{gs:MGs}{gs3:lZ}
end
section
variable{e:E3}
end
section
variable{K:W.Frag}{mg:Str->Option Value}{X:Cx}{es:List Expr}{gs:PGs}{pos:Pos}
end
end L3
namespace L3
open PySem PySem.Spec PyProof.Rows L2
section
variable{K:W.Frag}{mg:Str->Option Value}{X:Cx}{ES:L2.St->XK}{a:Expr}{A:PAs}{pos q2 p1 p2:Pos}
end
end L3
namespace L3
open PySem PySem.Spec PyProof.Rows L2
section
variable{K:W.Frag}{mg:Str->Option Value}{n:Str}{kvs:List (Str×Int)}
end
end L3
namespace L3
open PySem L2
end L3
namespace L3
open PySem PySem.Spec PyProof.Rows L2
section
variable{K:W.Frag}{mg:Str->Option Value}
end
end L3
namespace L3
open PySem PySem.Spec PyProof.Rows L2
section
variable{X:Cx}{K:W.Frag}{mg:Str->Option Value}{ES:L2.St->XK}{e:Expr}{es:List Expr}{A:PAs}{pos:Pos}{x:PSt}
variable{P:Program}{w:World}{base:Heap}{fx:Str}{fst:Stmt}{k n m:Nat}{ps N:List Str}{ms:List Bool}
end
end L3
namespace L3
open PySem L2
end L3
namespace L3
open PySem PySem.Spec PyProof.Rows L2
def pH:Val->List Val->Option (Val×Val):=λu vs=>match u,vs with
 |.lst xs,[.int i,v]=>if 0<=i/\i<=(xs.length:Nat)/\xs.length<16777216 then some (.lst (xs.take i.toNat++v::xs.drop i.toNat),.non) else none
 |_,_=>none
def xO:RM mH pH:=λP h n o u ds vs u' v e hf r rs q=>by
 unfold pH at q
 split at q
 ·split at q
  ·rename_i hb
   cases q
   obtain⟨q1,es,q2,q3,q4⟩:=nK e r
   cases rs with
   |
    cons r1 rs=>
    obtain⟨d,rfl,rd⟩:=wV rs
    obtain rfl:=ShR.int (.inl r1)
    refine⟨q1,.lst (es.take _++d::es.drop _),.non,?_,trivial,.lst ((q3.take _).append (.cons rd (q3.drop _))),.non⟩
    unfold mH;rw[q4];dsimp only;rw[if_pos (by rw[q3.len];exact hb)]
  ·cases q
 ·cases q
def mX:PMm:=⟨mH,pH,xO⟩
def Ak(xs:List Val)(i:Int)(v:Val):mX.G (.lst xs) [.int i,v]=if 0<=i/\i<=(xs.length:Nat)/\xs.length<16777216 then some (.lst (xs.take i.toNat++v::xs.drop i.toNat),.non) else none:=rfl
def yx{K:W.Frag}{mg:Str->Option Value}:MtD K mg pR mX.F:=yA
end L3
namespace L3
open PySem PySem.Spec PyProof.Rows L2
def Xd(X:Nat->Prop)(b k:Nat):Nat->Prop:=λn=>X n\/(b<=n/\n<b+k)
section
variable{X:Nat->Prop}{h0:Nat}{ns ns1:Ns}{e e1:E3}{ae:AE}{h h1:AH}
def Sat.growL(S:Sat X h0 ns e ae h)(os:List Ob):Sat (Xd X h.length os.length) h0 ns e ae (h++os):=by
 have mv:Mov (Oc X ns) (Oc (Xd X h.length os.length) ns) h (h++os):=λn o' p q=>⟨⟨λz=>by
  rcases z with z |z
  ·exact p.1 z
  ·have:=bZ q;omega,p.2⟩,fS q⟩
 refine⟨S.l1,S.l2,by rw[Oh];have:=S.lh;omega,λn z=>?_,S.inj,λi n q z=>?_,λi s q=>(S.sl i s q).mono mv λj o' _ q'=>fS q'⟩
 ·rw[Oh]
  rcases z with z |z
  ·have:=S.xl n z;omega
  ·exact z.2
 ·rcases z with z |z
  ·exact S.nx i n q z
  ·obtain⟨_,_,_,_,_,_,_,q',_⟩:=S.own q
   have:=bZ q';omega
def Stp.growL(os:List Ob):Stp ns e h ns e (h++os):=⟨by rw[Oh];omega,λ_ _ q _=>fS q,λ_ _ q=>.inl q,λ_ _ q _=>⟨q,rfl⟩,λ_ _ q _=>⟨q,rfl⟩,λ_ _ q=>⟨_,q,rfl⟩,λ_ _ q=>⟨_,q,rfl⟩⟩
def Stp.wr(a:Stp ns e h ns1 e1 h1)(hc:h.length<=c):Stp ns e h ns1 e1 (h1.set c o):=
 ⟨by rw[Oz];exact a.len,λm o' q z=>by rw[bF (by have:=bZ q;omega)];exact a.keep m o' q z,a.nw,a.lk,a.lk',a.mu,a.mu'⟩
def ye(hc:X c):Mov (Oc X ns) (Oc X ns) h (h.set c o):=λn o' p q=>⟨p,by rw[bF (show n≠c from λz=>p.1 (by rw[z];exact hc))];exact q⟩
def Sat.wr(S:Sat X h0 ns e ae h)(hc:X c):Sat X h0 ns e ae (h.set c o):=by
 refine⟨S.l1,S.l2,by rw[Oz];exact S.lh,λn z=>by rw[Oz];exact S.xl n z,S.inj,S.nx,λi s q=>?_⟩
 exact (S.sl i s q).mono (ye hc) λj o' z q'=>by rw[bF (λy=>S.nx i c (by rw[<- y];exact z) hc)];exact q'
end
def fZ(j t:Nat)(q:ME3):List Val->List (List Val)->MS3
 | [],xss,e=>match e[j]? with
  |some .no=>.nx (e.set j (.sh (.lst (xss.map .lst))))
  |_=>.stuck
 |v::vs,xss,e=>match pN t v e with
  |none=>.stuck
  |some e1=>match q e1 with
   |.ok tm e2=>match rs e2 tm,e2[j]?,e2[t]? with
    |some (.int i),some .no,some (.sh u)=>match xss[i.toNat]? with
     |some xs=>if 0<=i/\xs.length<16777216 then fZ j t q vs (xss.set i.toNat (xs++[u])) e2 else .stuck
     |none=>.stuck
    |_,_,_=>.stuck
   |_=>.stuck
def rfs(b k:Nat):List D:=(List.range' b k).map D.ref
def IG(hi:i<k):(rfs b k)[i]?=some (.ref (b+i)):=by
 unfold rfs
 rw[OH,List.getElem?_range' hi]
 simp
structure Dl(X:Nat->Prop)(b k j:Nat)(ns:Ns)(ae:AE)(h:AH)(xss:List (List Val)):Prop where
 aj:ae[j]?=some (some (.ref (b+k)))
 hm:h[b+k]?=some (.lst (rfs b k))
 len:xss.length=k
 cs:∀(i:Nat) (xs:List Val),xss[i]?=some xs->∃ds,h[b+i]?=some (.lst ds)/\Rds (Oc (Xd X b (k+1)) ns) h ds xs
def Dl.step(d:Dl X b k j ns ae h xss)(S:Sat (Xd X b (k+1)) h0 ns e ae h)(a:Stp ns e h ns1 e1 h1)(ha:ae1[j]?=ae[j]?):Dl X b k j ns1 ae1 h1 xss:=by
 have kp:∀(m:Nat) (o:Ob),b<=m->m<b+(k+1)->h[m]?=some o->h1[m]?=some o:=λm o z1 z2 q=>a.keep m o q λ⟨i,s,y,_⟩=>S.nx i m y (.inr ⟨z1,z2⟩)
 refine⟨ha.trans d.aj,kp _ _ (by omega) (by omega) d.hm,d.len,λi xs q=>?_⟩
 obtain⟨ds,q1,q2⟩:=d.cs i xs q
 have hi:=(Oe.mp q).1
 rw[d.len] at hi
 exact⟨ds,kp _ _ (by omega) (by omega) q1,q2.mono (a.mov S)⟩
open Classical in
def AV{X:Nat->Prop}{h0:Nat}{ns0:Ns}{e0:E3}{ae0:AE}{hh:AH}(S0:Sat X h0 ns0 e0 ae0 hh){b k j t:Nat}(hb:hh.length<=b)(hX:∀n,X n->n<b)(hjt:j≠t){q:PEx}{ns:Ns}{h:AH}{G:AH->Prop}(hG:∀h',(∀m o,Oc (Xd X b (k+1)) ns m->h[m]?=some o->h'[m]?=some o)->G h'):
 ∀{ds:List D}{vs:List Val},Rds (Oc (Xd X b (k+1)) ns) h ds vs->∀{ns1:Ns}{e1:E3}{ae1:AE}{h1:AH}{xss:List (List Val)},Mov (Oc (Xd X b (k+1)) ns) (Oc (Xd X b (k+1)) ns1) h h1->Stp ns0 e0 hh ns1 e1 h1->Sat (Xd X b (k+1)) h0 ns1 e1 ae1 h1->Dl X b k j ns1 ae1 h1 xss->e1[j]?=some .no->
 PoS X h0 ns0 e0 hh (gz G (gN t) (iO (eM dQ (eOp gIx (a9 j) q.F) (eW (a9 t) fD))) ds ae1 h1) (fZ j t q.G vs xss e1):=by
 intro ds
 induction ds with
 |
  nil=>
  intro vs r ns1 e1 ae1 h1 xss M A S1 D hj
  cases r
  unfold gz fZ
  rw[if_pos (hG _ λm o p q=>(M m o p q).2),hj]
  dsimp only
  have hi:=(Oe.mp hj).1
  have oc:∀n,b<=n->n<b+(k+1)->Oc X (ns1.set j none) n:=λn z1 z2=>⟨λz=>by have:=hX n z;omega,λz=>by
   rcases Pn z with z |z
   ·obtain⟨i,z⟩:=bp.mp z
    exact S1.nx i n z (.inr ⟨z1,z2⟩)
   ·cases z⟩
  have mv:Mov (Oc (Xd X b (k+1)) ns1) (Oc X (ns1.set j none)) h1 h1:=λn o p q=>⟨eS ⟨λz=>p.1 (.inl z),p.2⟩,q⟩
  have rows:Rds (Oc X (ns1.set j none)) h1 (rfs b k) (xss.map .lst):=by
   have aux:∀(l:List (List Val)) (i:Nat),xss.drop i=l->Rds (Oc X (ns1.set j none)) h1 (rfs (b+i) l.length) (l.map .lst):=by
    intro l
    induction l with
    |nil=>intro i _;exact .nil
    |
     cons x l ih=>
     intro i hd
     have hx:xss[i]?=some x:=by
      have:=Pb (λq=>q[0]?) hd
      simpa using this
     have hil:=(Oe.mp hx).1
     rw[D.len] at hil
     obtain⟨ds,q1,q2⟩:=D.cs i x hx
     have:=ih (i+1) (by rw[<- List.tail_drop,hd];rfl)
     exact .cons (.cell (oc _ (by omega) (by omega)) q1 (.lst (q2.mono mv))) this
   have:=aux xss 0 rfl
   rw[D.len] at this
   exact this
  have Sw:=S1.weak (X:=X) λn z=>.inl z
  refine .nx (A.put (x:=none) hi (λ_ z=>by cases z) hj rfl rfl S1.l2) (Sw.putN' hi ⟨rfl,_,D.aj,.cell (oc _ (by omega) (by omega)) D.hm (.lst rows)⟩)
 |
  cons d0 ds ih=>
  intro vs r ns1 e1 ae1 h1 xss M A S1 D hj
  cases r with
  |
   cons r rr=>
   unfold gz fZ
   rw[if_pos (hG _ λm o p q=>(M m o p q).2)]
   split
   ·trivial
   ·rename_i e2
     q2
    obtain⟨ae2,gl,p2,S2,a2⟩:=ue t _ _ _ _ _ _ _ _ _ S1 (r.mono M) q2
    have hae:ae2=ae1.set t (some d0):=by cases p2;rfl
    have D2:=D.step S1 a2 (ae1:=ae2) (by rw[hae,bF hjt])
    have A2:=A.trans S0 a2
    have M2:Mov (Oc (Xd X b (k+1)) ns) (Oc (Xd X b (k+1)) gl) h h1:=λn o p q=>by
     have:=M n o p q
     exact a2.mov S1 n o this.1 this.2
    rw[p2]
    have pq:=q.ok (Xd X b (k+1)) h0 0 gl e2 ae2 h1 S2 (OO _)
    show PoS X h0 ns0 e0 hh ((iO (eM dQ (eOp gIx (a9 j) q.F) (eW (a9 t) fD)) ae2 h1).loop _) _
    split
    ·rename_i tm e3 q3
     rw[q3] at pq
     obtain⟨dq,h3,ns3,y1,a3,S3,y4⟩:=pq
     split
     ·rename_i i u z1 z2 z3
      split
      ·rename_i xs z4
       split
       ·rename_i hb'
        have D3:=D2.step S2 a3 (ae1:=ae2) rfl
        have A3:=A2.trans S0 a3
        obtain rfl:=(y4.sh S3 z1).int
        have hil:=(Oe.mp z4).1
        rw[D.len] at hil
        obtain⟨dsi,w1,w2⟩:=D3.cs _ xs z4
        obtain⟨_,du,w3,w4⟩:=S3.sl t _ z3
        have ix:atI (rfs b k) i=some (.ref (b+i.toNat)):=by
         unfold atI
         rw[show (rfs b k).length=k from by unfold rfs;rw[N_,List.length_range'],uq hb'.1 (by omega)]
         exact IG hil
        have f1:eOp gIx (a9 j) q.F ae2 h1=.ok (.ref (b+i.toNat)) h3:=by
         unfold eOp a9
         rw[D2.aj]
         show (q.F ae2 h1).bind _=_
         rw[y1]
         show gIx (.ref (b+k)) (.int i) h3=_
         unfold gIx df bj
         dsimp only
         rw[D3.hm]
         dsimp only
         rw[ix]
        have f2:iO (eM dQ (eOp gIx (a9 j) q.F) (eW (a9 t) fD)) ae2 h1=.nx ae2 (h3.set (b+i.toNat) (.lst (dsi++[du]))):=by
         unfold iO eM
         rw[f1]
         show R.toS (if kH h3 (.ref (b+i.toNat))=true then _ else _) _ _=_
         rw[if_pos (by show (bj h3 (b+i.toNat)).isSome=true;unfold bj;rw[w1];rfl)]
         unfold eW a9 fD
         rw[w3]
         show R.toS (dQ (.ref (b+i.toNat)) [du] h3) _ _=_
         unfold dQ iG
         dsimp only
         rw[w1]
         dsimp only
         rw[if_pos (by rw[w2.len];exact hb'.2)]
         rfl
        rw[f2]
        have xc:Xd X b (k+1) (b+i.toNat):=.inr ⟨by omega,by omega⟩
        have mw:=ye (ns:=ns3) (h:=h3) (o:=.lst (dsi++[du])) xc
        have bnd:b+i.toNat<h3.length:=bZ w1
        refine ih rr (λn o p q=>?_) (A3.wr (by omega)) (S3.wr xc) ⟨D3.aj,?_,by rw[Oz];exact D3.len,λi' xs' qx=>?_⟩ z2
        ·have m2:=M2 n o p q
         have m3:=a3.mov S2 n o m2.1 m2.2
         exact mw n o m3.1 m3.2
        ·rw[bF (by omega)]
         exact D3.hm
        ·rcases bS (by rw[D3.len];exact hil) qx with ⟨rfl,rfl⟩ |⟨z,qx⟩
         ·exact⟨_,bU bnd,((w2.append (.cons w4 .nil)).mono mw)⟩
         ·obtain⟨dsj,v1,v2⟩:=D3.cs i' xs' qx
          exact⟨dsj,by rw[bF (by omega)];exact v1,v2.mono mw⟩
       ·trivial
      ·trivial
     ·trivial
    ·trivial
theorem sG:∀(ds acc:List D) (x:Option D) (h:AH),acc.length+ds.length<=16777216->(∀g,G (h++g))->lcL G (gN 0) tY (eFn b9 (eW (a9 0) fD)) ds acc [x] h=.ok (acc++rfs h.length ds.length) (h++ds.map λd=>Ob.lst [d])
 |
  [],acc,x,h,_,hG=>by
  unfold lcL
  rw[if_pos (by have:=hG [];rwa [OT] at this)]
  simp [rfs]
 |
  d::ds,acc,x,h,hl,hG=>by
  rw[Oq] at hl
  have ih:=sG ds (acc++[.ref h.length]) (some d) (h++[.lst [d]]) (by rw[Oh];show acc.length+1+_<=_;omega) (λg=>by rw[O7];exact hG _)
  unfold lcL
  rw[if_pos ⟨by have:=hG [];rwa [OT] at this,by omega⟩]
  show lcL G (gN 0) tY (eFn b9 (eW (a9 0) fD)) ds (acc++[.ref h.length]) [some d] (h++[.lst [d]])=_
  rw[ih]
  congr 1
  ·rw[O7,Oh]
   simp [rfs,List.range'_succ]
  ·simp
def mC(I1 I2:MI)(j t:Nat)(q:ME):MS:=iY (iz (eLC I1 [none] (gN 0) tY (eFn b9 (eW (a9 0) fD))) (gN j)) (pE I2 (gN t) (iO (eM dQ (eOp gIx (a9 j) q) (eW (a9 t) fD))))
def Cu(I1 I2:MI3)(j t:Nat)(q:ME3):MS3:=λe=>(I1 e).toS λp e1=>match p.2,e1[j]? with
 |
  none,some s=>if s.pl=true/\p.1.length<16777216 then (I2 (e1.set j .no)).toS λp2 e2=>match p2.2,e2[j]? with
   |none,some .no=>fZ j t q p2.1 (p.1.map λv=>[v]) e2
   |_,_=>.stuck
  else .stuck
 |_,_=>.stuck
def D9{I1 I2:PIt}{j t:Nat}{q:PEx}(hjt:j≠t):RS (mC I1.F I2.F j t q.F) (Cu I1.G I2.G j t q.G):=λX h0 ns e ae h S=>by
 have hs:mC I1.F I2.F j t q.F ae h=(I1.F ae h).toS ae λit h1=>(((noX (lcL it.guard (gN 0) tY (eFn b9 (eW (a9 0) fD)) it.items [] [none] h1)).bind b9).toS ae λd h2=>.nx (ae.set j (some d)) h2).then (pE I2.F (gN t) (iO (eM dQ (eOp gIx (a9 j) q.F) (eW (a9 t) fD)))):=by
  unfold mC iY iz eLC
  cases I1.F ae h <;> rfl
 rw[hs]
 refine PoS.toS (I1.ok X h0 ns e ae h S) λit p h1 ns1 e1 a1 S1 r1=>?_
 obtain⟨vs,lk⟩:=p
 obtain⟨r2,gd,hk⟩:=r1
 cases lk with
 |some _=>trivial
 |none=>
 cases z2:e1[j]? with
 |none=>trivial
 |
  some s=>
  dsimp only
  split
  ·rename_i hp
   dsimp only at r2 gd hp
   have ln:=r2.len
   have g1:∀g,it.guard (h1++g):=λg=>gd _ λm o q _=>fS q
   rw[sG it.items [] none h1 (by rw[OG];omega) g1,OR]
   have hk1:(rfs h1.length it.items.length).length<=16777216:=by unfold rfs;rw[N_,List.length_range'];omega
   show PoS X h0 ns e h (SR.then (R.toS (b9 (rfs h1.length it.items.length) _) ae _) _) _
   unfold b9
   rw[if_pos hk1]
   show PoS X h0 ns e h (pE I2.F (gN t) _ (ae.set j (some (.ref (h1++it.items.map λd=>Ob.lst [d]).length))) (h1++(it.items.map λd=>Ob.lst [d])++[Ob.lst (rfs h1.length it.items.length)])) _
   have bi:(h1++it.items.map λd=>Ob.lst [d]).length=h1.length+it.items.length:=by rw[Oh,N_]
   rw[bi,O7]
   have hol:((it.items.map λd=>Ob.lst [d])++[Ob.lst (rfs h1.length it.items.length)]).length=it.items.length+1:=by rw[Oh,N_];rfl
   have S2:=S1.growL ((it.items.map λd=>Ob.lst [d])++[Ob.lst (rfs h1.length it.items.length)])
   rw[hol] at S2
   have A2:Stp ns1 e1 h1 ns1 e1 (h1++((it.items.map λd=>Ob.lst [d])++[Ob.lst (rfs h1.length it.items.length)])):=.growL _
   have hj:=(Oe.mp z2).1
   have S3:=S2.putN hj (s:=.no) (d:=some (.ref (h1.length+it.items.length))) rfl
   have A3:=A2.put (x:=none) (s:=.no) hj (λ_ z=>by cases z) z2 hp.1 rfl S1.l2
   have A3':Stp ns e h _ _ _:=a1.trans S A3
   have cellAt:∀(i:Nat) (d:D),it.items[i]?=some d->(h1++((it.items.map λd=>Ob.lst [d])++[Ob.lst (rfs h1.length it.items.length)]))[h1.length+i]?=some (.lst [d]):=λi d qd=>by
    have:=(Oe.mp qd).1
    rw[OC (by omega),OF (by rw[N_];omega),Nat.add_sub_cancel_left,OH,qd]
    rfl
   have hmAt:(h1++((it.items.map λd=>Ob.lst [d])++[Ob.lst (rfs h1.length it.items.length)]))[h1.length+it.items.length]?=some (.lst (rfs h1.length it.items.length)):=by
    rw[OC (by omega),OC (by rw[N_];omega),N_,Nat.add_sub_cancel_left,PD]
    rfl
   generalize h1++((it.items.map λd=>Ob.lst [d])++[Ob.lst (rfs h1.length it.items.length)])=h2 at *
   have mv:Mov (Oc X ns1) (Oc (Xd X h1.length (it.items.length+1)) (ns1.set j none)) h1 h2:=λn o p qn=>by
    have:=bZ qn
    exact⟨eS ⟨λz=>by rcases z with z |z;exact p.1 z;omega,p.2⟩,A2.keep n o qn λ⟨i,s,y,_⟩=>p.2 (bp.mpr ⟨i,y⟩)⟩
   have D3:Dl X h1.length it.items.length j (ns1.set j none) (ae.set j (some (.ref (h1.length+it.items.length)))) h2 (vs.map λv=>[v]):=by
    refine⟨bU (by rw[S1.l1];exact hj),hmAt,by rw[N_,ln],λi xs qx=>?_⟩
    rw[OH] at qx
    obtain⟨v,qv,rfl⟩:=OJ.mp qx
    obtain⟨d,qd,rd⟩:=r2.get qv
    exact⟨[d],cellAt i d qd,.cons (rd.mono mv) .nil⟩
   show PoS X h0 ns e h ((I2.F _ h2).toS _ _) _
   have p2:=I2.ok _ h0 _ _ _ h2 S3
   cases q2:I2.G (e1.set j .no) with
   |stuck=>trivial
   |
    exc c e2=>
    rw[q2] at p2
    obtain⟨h3,ns3,y1,a3,S4⟩:=p2
    rw[y1]
    exact⟨_,h3,ns3,rfl,A3'.trans S a3,S4.weak λn z=>.inl z⟩
   |
    ok p2' e2=>
    rw[q2] at p2
    obtain⟨it2,h3,ns3,y1,a3,S4,r3,gd3,hk3⟩:=p2
    obtain⟨vs2,lk2⟩:=p2'
    rw[y1]
    cases lk2 with
    |some _=>trivial
    |none=>
    cases y3:e2[j]? with
    |none=>simp only[R3.toS,y3];trivial
    |
     some s3=>
     by_cases hs3:s3=.no
     case neg=>(simp only[R3.toS,y3];cases s3 <;> first |exact absurd rfl hs3 |trivial)
     subst hs3
     simp only[R3.toS,y3]
     show PoS X h0 ns e h (gz it2.guard (gN t) _ it2.items _ h3) _
     have D4:=D3.step S3 a3 (ae1:=ae.set j (some (.ref (h1.length+it.items.length)))) rfl
     exact AV S (Ow a1.len (Og _)) (λn z=>S1.xl n z) hjt (λh' hh'=>gd3 h' λm o qm z=>by
      rcases z with z |⟨_,z,_⟩
      ·exact hh' m o z qm
      ·cases z) r3 (λn o p q=>⟨p,q⟩) (A3'.trans S a3) S4 D4 y3
  ·trivial
def xb(I1 I2:PIt)(j t:Nat)(q:PEx)(hjt:j≠t):PSt:=⟨mC I1.F I2.F j t q.F,Cu I1.G I2.G j t q.G,D9 hjt⟩
def zg(a b c:MS):iY (iY a b) c=iY a (iY b c):=by
 funext ae h
 unfold iY
 cases a ae h <;> rfl
section
variable{K:W.Frag}{mg:Str->Option Value}{X:Cx}{ES:L2.St->XK}{re qe am:Expr}{st1:Stmt}{sts:List Stmt}{q:PEx}{y:PSt}{g:PGt}{I1 I2:PIt}{pos p2 p3 p4 p5:Pos}{x:Str}{j t:Nat}{hjt:j≠t}{ow:Bool}{tg oe:Expr}{hsb:(([none]:List (Option Nat)).filterMap id).Nodup}
def Bj(h1:DS K mg X ES st1 (aU ow j (pLC I1 [none] hsb (gtN 0) qY (eB (ag (ah 0) ao)))).F)(hp:PassesOwn (model X.prog X.w) X.A X.env X.xe)(hc:X.calm=true)(hK:X.K=K)(hi:DI K mg X ES tg am I2.F)(hg:DG K mg X ES tg (gtN t).F)(hx:DE K mg X ES oe (ah j).F)(hq:DE K mg X ES qe q.F)(hr:DE K mg X ES re (ah t).F)(hy:DSs K mg X ES sts y.F)
 (hpx:mI qe:=by exact λ_ _=>rfl) (hs:∀x,foldedSetIterable am X.env x=pure x:=by intro _;rfl)
 (hsw:swapsWith (.Call (.Attribute (.Subscript oe qe p2) "append" p3) [re] [] p4) none p5.line X.env=pure false:=by rfl)
 (dL:attributeBase (.Subscript oe qe p2) "append" X.env (eval (.Subscript oe qe p2) X.env)=eval (.Subscript oe qe p2) X.env:=by rfl)
 (hfew:((backTo p4 (starEach [re] X.env)).all (λx=>!x.1)&&(backToKw p4 (keywordEach [] X.env)).all (λx=>x.1.isSome)
  && decide ([re].length+([]:List Keyword).length+(if ([]:List Keyword).isEmpty then 0 else 1)<30))=true:=by rfl)
 (ge:(p3.endLine==p4.line)=true:=by rfl) (hs1:starEach [re] X.env=[(false,eval re X.env)]:=by rfl) (ci:(backTo p4 (starEach ([]:List Expr) X.env)).any (·.1)=false:=by rfl) (hs0:starEach ([]:List Expr) X.env=[]:=by rfl):
 DSs K mg X ES (st1 :: .For tg am [.Expr (.Call (.Attribute (.Subscript oe qe p2) "append" p3) [re] [] p4) p5] [] pos::sts) (aC (xb I1 I2 j t q hjt) y).F:=by
 have sh:starEach (re::[]) X.env=(false,eval re X.env)::starEach [] X.env:=by rw[hs0];exact hs1
 show DSs K mg X ES _ (iY (mC I1.F I2.F j t q.F) y.F)
 unfold mC
 rw[zg]
 with_unfolding_all exact nh h1 (nh (zV hp hc hi hg (vy (ve (de_m hK PySem.F.slot_list_append PySem.F.type_list_append ib qu (Ct (ixK (K:=K) hK) aL hx hq hpx) (u6 hr zx sh) dL hfew ge sh ci) hsw)) hs) hy)
end
end L3
namespace L3
open PySem PySem.Spec PyProof.Rows L2
def rR:Val->Val->Bv:=λx y=>match x,y with
 |
  .str z,.int i=>if z.length<=16777216 then match atI z.cps.toList i with
   |some c=>.val (.str ⟨#[c]⟩)
   |none=>.stuck
  else .stuck
 |_,_=>.stuck
def HA:RO uz rR:=λP h d1 d2 v1 v2 r1 r2=>by
 unfold rR
 split
 ·rw[r1.str,r2.int]
  split
  ·rename_i hz
   split
   ·rename_i c e
    exact⟨_,by unfold uz;dsimp only;rw[if_pos hz,e],.str _⟩
   ·trivial
  ·trivial
 ·trivial
def oW:PO2:=⟨uz,rR,HA⟩
def LX{z:Str}{i:Int}{c:Nat}(hz:z.length<=16777216)(e:atI z.cps.toList i=some c):oW.G (.str z) (.int i)=.val (.str ⟨#[c]⟩):=by
 show rR (.str z) (.int i)=_
 unfold rR
 dsimp only
 rw[if_pos hz,e]
def nM:Val->Val->Bv:=λx y=>match x,y with
 |.str z,.int i=>if z.length<=16/\0<=i/\i<=1000 then .val (.str (Txt.mul z i)) else .stuck
 |_,_=>.stuck
def C3:RO oi nM:=λP h d1 d2 v1 v2 r1 r2=>by
 unfold nM
 split
 ·rw[r1.str,r2.int]
  split
  ·rename_i hz
   exact⟨_,by unfold oi;dsimp only;rw[if_pos hz],.str _⟩
  ·trivial
 ·trivial
def mr:PO2:=⟨oi,nM,C3⟩
def Fs{z:Str}{i:Int}(hz:z.length<=16/\0<=i/\i<=1000):mr.G (.str z) (.int i)=.val (.str (Txt.mul z i)):=by
 show nM (.str z) (.int i)=_
 unfold nM
 dsimp only
 rw[if_pos hz]
section
variable{K:W.Frag}{mg:Str->Option Value}
def Ir:OpD K mg A1 oW.F:=Eu
def DF:OpD K mg v8 mr.F:=AS
end
end L3
namespace L3
open PySem PySem.Spec PyProof.Rows L2
def Cq:ME3:=λe=>.ok (.new (.set [])) e
def Fc:RE xf Cq:=λX h0 L ns e ae h S hl=>BvR.po (r:=.ok (.ref h.length) (h++[Ob.set []])) (b:=.new (.set [])) S hl ⟨.set [],rfl,trivial,.set []⟩
def wF:PEx:=⟨xf,Cq,Fc⟩
def GP(e:E3):wF.G e=.ok (.new (.set [])) e:=rfl
def Ax:Val->Val->Bv:=λx y=>match x,y with
 |.int i,.set xs=>.val (.bl (decide (i∈xs)))
 |_,_=>.stuck
def Gd:RO ur Ax:=λP h d1 d2 v1 v2 r1 r2=>by
 unfold Ax
 split
 ·rename_i i xs
  rw[r1.int]
  obtain⟨n,rfl,e⟩:=r2.set
  exact⟨_,by unfold ur;dsimp only;rw[e],.bl _⟩
 ·trivial
def BC:PO2:=⟨ur,Ax,Gd⟩
def Lf(i:Int)(xs:List Int):BC.G (.int i) (.set xs)=.val (.bl (decide (i∈xs))):=rfl
def wk:List Val->Bv:=λvs=>match vs with
 | [.set xs]=>.val (.int (xs.length:Nat))
 |_=>.stuck
def Dr:RFn n9 wk:=λP h ds vs r=>by
 unfold wk
 split
 ·obtain⟨d,hd,r1⟩:=gQ r
  subst hd
  obtain⟨n,rfl,e⟩:=r1.set
  exact⟨_,by unfold n9;dsimp only;rw[e],.int _⟩
 ·trivial
def sT:PBf:=⟨n9,wk,Dr⟩
def FA(xs:List Int):sT.G [.set xs]=.val (.int (xs.length:Nat)):=rfl
def zW:Val->Option (List Int)
 |.set xs=>some xs
 |_=>none
def ui(i:Nat)(A:MA3):ME3:=λe=>match e[i]? with
 |some s=>match s.mv.bind zW with
  |some _=>(A e).bind λts e1=>match dem e1 ts with
   |some (e2,[.int k])=>match e2[i]? with
    |some s2=>match s2.mv.bind zW with
     |some xs=>if xs.length<4000 then .ok (.val .non) (e2.set i (s2.re (.set (fC xs k)))) else .stuck
     |none=>.stuck
    |none=>.stuck
   |_=>.stuck
  |none=>.stuck
 |none=>.stuck
def IL(i:Nat)(hA:RA A A3):RE (eMS (a9 i) A) (ui i A3):=λX h0 L ns e ae h S hl=>by
 unfold ui
 cases q0:e[i]? with
 |none=>trivial
 |
  some s0=>
  dsimp only
  split
  ·rename_i xs0 hz
   obtain⟨u0,z1,z2⟩:=OP.mp hz
   obtain⟨n0,o0,b1,b2,b3,b4,_⟩:=S.write q0 z1
   have hL:wA h (.ref n0)=true:=by
    cases u0 with
    |set ys=>cases b4;show (match h[n0]? with |some (.set _)=>true |_=>false)=true;rw[b2]
    |_=>cases z2
   have L2e:eMS (a9 i) A ae h=(A ae h).bind λds h2=>sQ (.ref n0) ds h2:=by
    unfold eMS a9
    rw[b1]
    simp only[gF,hL,Pl]
   rw[L2e]
   refine Po.bind S (hA X h0 ns e ae h S) λds ts h1 ns1 e1 a1 S1 r1=>?_
   split
   ·rename_i e2 k q1
    obtain⟨gl,S2,a2,r2⟩:=ke S1 r1 q1
    cases q2:e2[i]? with
    |none=>trivial
    |
     some s2=>
     dsimp only
     split
     ·rename_i xs q3
      split
      ·rename_i bi
       obtain⟨u,y1,y2⟩:=OP.mp q3
       obtain⟨n,o,k1,k2,k3,k4,k5⟩:=S2.write q2 y1
       rw[b1] at k1;cases k1
       cases u with
       |
        set ys=>
        cases y2
        cases k4
        obtain⟨d,rfl,rd⟩:=wV r2
        obtain rfl:=ShR.int (.inl rd)
        obtain⟨mv,S4,a4⟩:=k5 (.set (fC xs k)) (.set (fC xs k)) trivial (.set _)
        refine⟨.non,_,gl,?_,a2.trans S1 a4,S4,.non⟩
        unfold sQ
        dsimp only
        rw[k2]
        dsimp only
        rw[if_pos bi]
       |_=>cases y2
      ·trivial
     ·trivial
   ·trivial
  ·trivial
def Bw(i:Nat)(a:PAs):PEx:=⟨eMS (a9 i) a.F,ui i a.G,IL i a.ok⟩
def F5(e:E3)(i:Nat)(a:PAs):(Bw i a).G e=ui i a.G e:=rfl
def sJ:Val->Val->Bv:=λx y=>match x with
 |.dct kvs=>(match y with
  |.int k=>(match lkD kvs (.inl k) with
   |some v=>.val v
   |none=>.stuck)
  |_=>.stuck)
 |_=>.stuck
def Ja:RO sE sJ:=λP h d1 d2 v1 v2 r1 r2=>by
 unfold sJ
 split
 ·split
  ·split
   ·rename_i kvs k _ v q
    obtain⟨n,ws,rfl,e,rk⟩:=r1.dct
    obtain rfl:=r2.int
    obtain⟨d,q1,rd⟩:=JI rk q
    refine⟨d,?_,rd⟩
    unfold sE
    dsimp only
    rw[e]
    dsimp only
    rw[q1]
   ·trivial
  ·trivial
 ·trivial
def wW:PO2:=⟨sE,sJ,Ja⟩
def JR(h:lkD kvs (.inl k)=some v):wW.G (.dct kvs) (.int k)=.val v:=by
 show sJ (.dct kvs) (.int k)=_
 unfold sJ
 dsimp only
 rw[h]
def sDI:Val->Val->Val->Option Val:=λo i v=>match o with
 |.dct kvs=>(match i with
  |.int k=>if kvs.length<16777216 then some (.dct (dS kvs (.inl k) v)) else none
  |_=>none)
 |_=>none
def Dx:v7 wDI sDI:=λP h n o u di vi d v u' np e hf r ri rd q=>by
 unfold sDI at q
 split at q
 ·rename_i kvs
  split at q
  ·rename_i k
   split at q
   ·rename_i hl
    cases q
    obtain rfl:=ri.int
    cases r with
    |
     dct rk=>
     rename_i ws
     refine⟨.dct (dS ws (.inl k) d),?_,trivial,.dct (FR rd rk)⟩
     unfold wDI
     dsimp only
     rw[e]
     dsimp only
     rw[if_pos (by rw[G7 rk];exact hl)]
   ·cases q
  ·cases q
 ·cases q
def seI:PSe:=⟨wDI,sDI,Dx⟩
def HS(kvs:List (Key×Val))(k:Int)(v:Val):seI.G (.dct kvs) (.int k) v=if kvs.length<16777216 then some (.dct (dS kvs (.inl k) v)) else none:=rfl
def mT:Val->List Val->Option (Val×Val):=λu vs=>match u,vs with
 |.lst xs,[.tup ys]=>if xs.length+ys.length<=16777216 then some (.lst (xs++ys),.non) else none
 |_,_=>none
def wK:RM k8 mT:=λP h n o u ds vs u' v e hf r rs q=>by
 unfold mT at q
 split at q
 ·split at q
  ·rename_i hl
   cases q
   obtain⟨q1,es,q2,q3,q4⟩:=nK e r
   obtain⟨d,rfl,rd⟩:=wV rs
   obtain⟨ys',rfl,rr⟩:=ShR.tup (.inl rd)
   refine⟨q1,.lst (es++ys'),.non,?_,trivial,.lst (q3.append rr),.non⟩
   unfold k8;rw[q4];dsimp only;rw[if_pos (by rw[q3.len,rr.len];exact hl)]
  ·cases q
 ·cases q
def hE:PMm:=⟨k8,mT,wK⟩
def lE(xs ys:List Val):hE.G (.lst xs) [.tup ys]=if xs.length+ys.length<=16777216 then some (.lst (xs++ys),.non) else none:=rfl
section
variable{K:W.Frag}{mg:Str->Option Value}{X:Cx}{ES:L2.St->XK}{e o a b:Expr}{es:List Expr}{p q:PEx}{A:PAs}{pos:Pos}
def kW:MtD K mg (mY K) hE.F:=wg
def HZ:OpD K mg rS BC.F:=Ey
def C9:bG K mg (λxs H Q=>∃a S n,xs=[.ref a]/\H a=some (.set S n)/\Q (.int (n:Nat)) H) sT.F:=EB
def Ai:oP K mg xy seI.F:=Be
def C2(hg:Gl X x)(hm:mg x=none)(hv:bootBuiltins x=some (.type "set"))(hk:X.mg=mg:=by rfl)(hn:x ≠ "__name__":=by decide)(hdb:(x==("__debug__" : Str))=false:=by decide):DE K mg X ES (.Call (.Name x p0) [] [] pos) wF.F:=by with_unfolding_all exact Dk hg hm hv hk hn hdb
def Gm(hK:X.K=K)(ho:DE K mg X ES o (ah j).F)(ha:DA K mg X ES (e::es) A.F)
 (dL:attributeBase o "add" X.env (eval o X.env)=eval o X.env:=by rfl)
 (hfew:((backTo cpos (starEach (e::es) X.env)).all (λx=>!x.1)&&(backToKw cpos (keywordEach [] X.env)).all (λx=>x.1.isSome)
  && decide ((e::es).length+([]:List Keyword).length+(if ([]:List Keyword).isEmpty then 0 else 1)<30))=true:=by rfl)
 (ge:(apos.endLine==cpos.line)=true:=by rfl) (hs:starEach (e::es) X.env=(false,eval e X.env)::starEach es X.env:=by rfl) (ci:(backTo cpos (starEach es X.env)).any (·.1)=false:=by rfl):
 DE K mg X ES (.Call (.Attribute o "add" apos) (e::es) [] cpos) (Bw j A).F:=by with_unfolding_all exact Kt hK ho ha dL hfew ge hs ci
def Am(hu:X.A.units+1<cLine)(ha:DE K mg X ES a p.F)(hb:DE K mg X ES b q.F)(hs:xM b):DE K mg X ES (.Subscript a b pos) (pOp wW p q).F:=by with_unfolding_all exact B0 hu ha hb hs
end
end L3
namespace L3
open PySem PySem.Spec PyProof.Rows L2
def BF:Val->Val->Bv:=λx y=>match x,y with
 |.lst xs,.int i=>if i=-1 then .new (.lst xs.reverse) else .stuck
 |_,_=>.stuck
def Ik:RO r9 BF:=λP h d1 d2 v1 v2 r1 r2=>by
 unfold BF
 split
 ·rw[r2.int]
  split
  ·rename_i hi
   obtain⟨n,ds,rfl,_,e,rr⟩:=r1.lst
   exact⟨.lst ds.reverse,by unfold r9;dsimp only;rw[if_pos hi,e],trivial,.lst rr.reverse⟩
  ·trivial
 ·trivial
def BI:PO2:=⟨r9,BF,Ik⟩
def Kl(xs:List Val):BI.G (.lst xs) (.int (-1))=.new (.lst xs.reverse):=rfl
def Hv{K:W.Frag}{mg:Str->Option Value}{X:Cx}{ES:L2.St->XK}{e st:Expr}{p q:PEx}{pos p2:Pos}(hK:X.K=K)(he:DE K mg X ES e p.F)(hs:DE K mg X ES st q.F):DE K mg X ES (.Subscript e (.Slice none none (some st) p2) pos) (pOp BI p q).F:=by with_unfolding_all exact IH hK he hs
end L3
namespace L3
open PySem PySem.Spec PyProof.Rows L2
section
variable{K:W.Frag}{mg:Str->Option Value}
end
end L3
namespace L3
open PySem L2
end L3
namespace L3
open PySem L2
def shpB(b:Bx):Rat:=if b.w<b.h then b.h/b.w else b.w/b.h
def shL(s l:Rat)(W:Int):Int->List Int->List (Rat×Rat)
 |_,[]=>[]
 |a,w::ws=>(s+l*((a:Rat)/(W:Rat)),l*((w:Rat)/(W:Rat)))::shL s l W (a+w) ws
theorem j9(s l:Rat)(W:Int):∀(ws:List Int) (a:Int),(shL s l W a ws).length=ws.length
 | [],_=>rfl
 |w::ws,a=>by unfold shL;rw[Oq,Oq,j9 s l W ws (a+w)]
def bH(b:Bx)(way:Str)(ws:List Int):List Bx:=if way="across" then (shL b.l b.w ws.sum 0 ws).map λp=>⟨p.1,b.t,p.2,b.h⟩ else (shL b.t b.h ws.sum 0 ws).map λp=>⟨b.l,p.1,b.w,p.2⟩
theorem nT:∀{l:List Int},(∀w∈l,1<=w)->(l.length:Int)<=l.sum
 | [],_=>by simp
 |
  x::l,h=>by
  rw[OU,Oq]
  have:=h x (Of ..)
  have:=nT (l:=l) λw hw=>h w (Od _ hw)
  omega
theorem vJ:∀(ws:List Int) (a:Int),0<=a->(∀w∈ws,1<=w)->a+ws.sum<=W->p∈shL s l W a ws->∃a' w:Int,0<=a'/\a'<=W/\1<=w/\w<=W/\p=(s+l*((a':Rat)/(W:Rat)),l*((w:Rat)/(W:Rat)))
 | [],_,_,_,_,h=>nomatch h
 |
  w::ws,a,ha,hw,hs,h=>by
  have h1:=hw w (Of ..)
  have h2:=nT (l:=ws) λx hx=>hw x (Od _ hx)
  rw[OU] at hs
  unfold shL at h
  rcases Oy.mp h with rfl |h
  ·exact⟨a,w,ha,by omega,h1,by omega,rfl⟩
  ·exact vJ ws (a+w) (by omega) (λx hx=>hw x (Od _ hx)) (by omega) h
def cut1(b:Bx)(way:Str)(u v:Int):Bx:=(bH b way [u,v]).headD b
def cut2(b:Bx)(way:Str)(u v:Int):Bx:=((bH b way [u,v]).drop 1).headD b
def liV(l:List Int):Val:=.lst (l.map .int)
def wsAt(ws:List Int)(i:Int):Int:=ws.getD i.toNat 0
def wt(ws l:List Int):Int:=(l.map (wsAt ws)).sum
def rst(nums l:List Int):List Int:=nums.filter λx=>!l.contains x
structure Lot(nums l:List Int):Prop where
 sub:l.Sublist nums
 ne:l≠[]
 lt:l.length<nums.length
def mx(x y:Rat):Rat:=if x<y then y else x
structure CutOk(nums:List Int)(c:Str×List Int×List Int):Prop where
 way:c.1="across" \/ c.1="down"
 one:Lot nums c.2.1
 two:Lot nums c.2.2
 dR:c.2.2=rst nums c.2.1
inductive Tr(ws:List Int):Bx->List Int->Val->Rat->Prop
 |leaf (b:Bx) (i:Int):Tr ws b [i] (.int i) (shpB b)
 |node {b:Bx}{way:Str}{l r:List Int}{t1 t2:Val}{q1 q2:Rat} (hw:way="across" \/ way="down") (h1:Tr ws (cut1 b way (wt ws l) (wt ws r)) l t1 q1) (h2:Tr ws (cut2 b way (wt ws l) (wt ws r)) r t2 q2):Tr ws b (l++r) (.tup [.str way,.tup [t1,t2]]) (mx q1 q2)
end L3
namespace L3
open PySem PySem.Spec PyProof.Rows L2
inductive AT where
 |lf (k:Nat)
 |nd (w:Bool) (ts:List AT)
def wy(w:Bool):Str:=if w=true then "across" else "down"
def AT.ind{P:AT->Prop}(h1:∀k,P (.lf k))(h2:∀w ts,(∀t∈ts,P t)->P (.nd w ts))(t:AT):P t:=
 @AT.rec P (λts=>∀t∈ts,P t) h1 (λw ts ih=>h2 w ts ih) (λt h=>nomatch h) (λt ts i1 i2 u hu=>by
  rcases Oy.mp hu with rfl |hu
  ·exact i1
  ·exact i2 u hu) t
mutual
def AT.val(f:Nat->Val):AT->Val
 |.lf k=>f k
 |.nd w ts=>.tup [.str (wy w),.tup (AT.vals f ts)]
def AT.vals(f:Nat->Val):List AT->List Val
 | []=>[]
 |t::ts=>AT.val f t::AT.vals f ts
end
mutual
def AT.lvs:AT->List Nat
 |.lf k=>[k]
 |.nd _ ts=>AT.lvsL ts
def AT.lvsL:List AT->List Nat
 | []=>[]
 |t::ts=>AT.lvs t++AT.lvsL ts
end
mutual
def AT.dep:AT->Nat
 |.lf _=>1
 |.nd _ ts=>AT.depL ts+1
def AT.depL:List AT->Nat
 | []=>0
 |t::ts=>max (AT.dep t) (AT.depL ts)
end
mutual
def AT.ok:AT->Bool
 |.lf _=>true
 |.nd _ ts=>decide (2<=ts.length)&&AT.okL ts
def AT.okL:List AT->Bool
 | []=>true
 |t::ts=>AT.ok t&&AT.okL ts
end
theorem AT.vals_map(f:Nat->Val):∀ts,AT.vals f ts=ts.map (AT.val f)
 | []=>rfl
 |t::ts=>by rw[AT.vals,AT.vals_map f ts];rfl
theorem AT.lvsL_mem:∀{ts:List AT},x∈AT.lvsL ts ↔ ∃t∈ts,x∈t.lvs
 | []=>by simp [AT.lvsL]
 |t::ts=>by rw[AT.lvsL,O0,AT.lvsL_mem (ts:=ts)];simp
theorem AT.lvsL_flat:∀ts:List AT,AT.lvsL ts=(ts.map AT.lvs).flatten
 | []=>rfl
 |t::ts=>by rw[AT.lvsL,AT.lvsL_flat ts];rfl
theorem AT.depL_le:∀{ts:List AT},AT.depL ts<=m ↔ ∀t∈ts,t.dep<=m
 | []=>by simp [AT.depL]
 |t::ts=>by rw[AT.depL,Nat.max_le,AT.depL_le (ts:=ts)];simp
theorem AT.okL_mem:∀{ts:List AT},AT.okL ts=true ↔ ∀t∈ts,t.ok=true
 | []=>by simp [AT.okL]
 |t::ts=>by rw[AT.okL,Oj,AT.okL_mem (ts:=ts)];simp
def AT.dep_pos(t:AT):1<=t.dep:=by cases t <;> simp [AT.dep]
def eV{t:AT}(h:t.ok=true):1<=t.lvs.length:=by
 induction t using AT.ind with
 |h1 k=>simp [AT.lvs]
 |
  h2 w ts ih=>
  rw[AT.ok,Oj] at h
  cases ts with
  |nil=>exact absurd h.1 (by decide)
  |
   cons t ts=>
   have:=ih t (Of ..) (AT.okL_mem.mp h.2 t (Of ..))
   rw[AT.lvs,AT.lvsL,Oh]
   omega
theorem d9{α β:Type}{f:α->List β}:∀{l:List α},(∀a∈l,1<=(f a).length)->l.length<=((l.map f).flatten).length
 | [],_=>Og _
 |
  a::l,h=>by
  have h1:=h a (Of ..)
  have h2:=d9 (l:=l) λb hb=>h b (Od _ hb)
  rw[Oi,Qw,Oh,Oq]
  omega
def lfV:Val->Bool
 |.int _=>true
 |.str _=>true
 |_=>false
theorem pS:∀{vs:List Val},(∀v∈vs,wfV k v=true)->cR k vs=true
 | [],_=>rfl
 |
  v::vs,h=>by
  show (wfV k v&&cR k vs)=true
  rw[h v (Of ..),pS λu hu=>h u (Od _ hu)]
  rfl
def fY(v:Val)(l:List Val):atI (v::l) 0=some v:=fA (by decide) rfl
def Mg(v:Val)(l:List Val):iB (v::l) (some 1) none=l:=rH _ 1
def inB(x:Nat)(t:AT):Bool:=decide (x∈t.lvs)
def itV(l:List Nat):Val:=.lst (l.map λk:Nat=>.int k)
structure TOk(t:AT)(l:List Nat):Prop where
 ok:t.ok=true
 mem:∀k,k∈t.lvs ↔ k∈l
 dep:t.dep<=l.length
 len:t.lvs.length=l.length
def Af(xss:List (List Nat)):List Val:=xss.map itV
theorem BE(I1 I2:PIt)(j t:Nat)(q:PEx)(hjt:j≠t)(e:E3):(xb I1 I2 j t q hjt).G e=(I1.G e).toS λp e1=>match p.2,e1[j]? with
 |
  none,some s=>if s.pl=true/\p.1.length<16777216 then (I2.G (e1.set j .no)).toS λp2 e2=>match p2.2,e2[j]? with
   |none,some .no=>fZ j t q.G p2.1 (p.1.map λv=>[v]) e2
   |_,_=>.stuck
  else .stuck
 |_,_=>.stuck:=rfl
structure Lots(yss xss:List (List Nat))(vs:List Nat):Prop where
 len:yss.length=xss.length
 ne:∀l∈yss,l≠[]
 mem:∀k,(∃l∈yss,k∈l) ↔ (∃l∈xss,k∈l)\/k∈vs
 tot:yss.flatten.length=xss.flatten.length+vs.length
def BS(h:xss[i]?=some xs)(ne:∀l∈xss,l≠[]):Lots (xss.set i (xs++[u])) xss [u]:=by
 have hi:=(Oe.mp h).1
 refine⟨Oz ..,λl hl=>?_,λk=>?_,?_⟩
 ·rcases Pn hl with hl |rfl
  ·exact ne l hl
  ·simp
 ·constructor
  ·rintro⟨l,hl,hk⟩
   rcases Pn hl with hl |rfl
   ·exact .inl ⟨l,hl,hk⟩
   ·rcases O0.mp hk with hk |hk
    ·exact .inl ⟨xs,O4 h,hk⟩
    ·exact .inr hk
  ·rintro (⟨l,hl,hk⟩ |hk)
   ·obtain⟨j,hj⟩:=QK hl
    by_cases hij:i=j
    ·subst hij
     rw[h] at hj
     cases hj
     exact⟨_,List.mem_set (by omega) _,Qc _ hk⟩
    ·exact⟨l,O4 (i:=j) (by rw[Qa hij];exact hj),hk⟩
   ·exact⟨_,List.mem_set (by omega) _,OK _ hk⟩
 ·have aux:∀(xss:List (List Nat)) (i:Nat),xss[i]?=some xs->(xss.set i (xs++[u])).flatten.length=xss.flatten.length+1:=by
   intro xss
   induction xss with
   |nil=>intro i h;rw[Qx] at h;cases h
   |
    cons y ys ih=>
    intro i h
    cases i with
    |zero=>cases h;simp [List.set];omega
    |succ i=>simp only[List.set,Qw,Oh];rw[ih i h];omega
  exact aux xss i h
def oM{xss:List (List Nat)}(ne:∀l∈xss,l≠[]):xss.length<=xss.flatten.length:=by
 have:=d9 (f:=id) (l:=xss) λl hl=>QT.mpr (ne l hl)
 rw[List.map_id] at this
 exact this
theorem tL:∀{yss:List (List Nat)},(∀l∈yss,l≠[])->∀l∈yss,l.length+yss.length<=yss.flatten.length+1
 | [],_,l,hl=>nomatch hl
 |
  y::ys,ne,l,hl=>by
  have h0:=oM (xss:=ys) λl hl=>ne l (Od _ hl)
  have h1:=QT.mpr (ne y (Of ..))
  rw[Qw,Oh,Oq]
  rcases Oy.mp hl with rfl |hl
  ·omega
  ·have:=tL (yss:=ys) (λl hl=>ne l (Od _ hl)) l hl
   omega
def atV(t:AT):Val:=t.val λk=>.int (k:Nat)
def Ep{w:Bool}{ps:List (AT×List Nat)}(h:∀p∈ps,TOk p.1 p.2)(hne:ps≠[])(hne2:∀p∈ps,p.2≠[])(h2:2<=ps.length):TOk (.nd w (ps.map (·.1))) (ps.map (·.2)).flatten:=by
 have hlot:=tL (yss:=ps.map (·.2)) (λl hl=>by obtain⟨p,hp,rfl⟩:=OS.mp hl;exact hne2 p hp)
 refine⟨?_,λk=>?_,?_,?_⟩
 ·rw[AT.ok,Oj]
  refine⟨OI (by rw[N_];exact h2),AT.okL_mem.mpr λt ht=>?_⟩
  obtain⟨p,hp,rfl⟩:=OS.mp ht
  exact (h p hp).ok
 ·rw[AT.lvs,AT.lvsL_mem,List.mem_flatten]
  constructor
  ·rintro⟨t,ht,hk⟩
   obtain⟨p,hp,rfl⟩:=OS.mp ht
   exact⟨p.2,O8 hp,((h p hp).mem k).mp hk⟩
  ·rintro⟨l,hl,hk⟩
   obtain⟨p,hp,rfl⟩:=OS.mp hl
   exact⟨p.1,O8 hp,((h p hp).mem k).mpr hk⟩
 ·rw[AT.dep]
  have:AT.depL (ps.map (·.1))<=(ps.map (·.2)).flatten.length-1:=AT.depL_le.mpr λt ht=>by
   obtain⟨p,hp,rfl⟩:=OS.mp ht
   have:=(h p hp).dep
   have:=hlot p.2 (O8 hp)
   rw[N_] at this
   omega
  obtain⟨p,hp⟩:=List.exists_mem_of_ne_nil ps hne
  have:=hlot p.2 (O8 hp)
  rw[N_] at this
  omega
 ·rw[AT.lvs]
  clear hlot h2 hne hne2
  induction ps with
  |nil=>rfl
  |
   cons p ps ih=>
   rw[Oi,Oi,AT.lvsL,Oh,Qw,Oh,ih λp hp=>h p (Od _ hp),(h p (Of ..)).len]
def trQ(v f:Val)(r:SR3):Prop:=rP [true,false] r=.ok (.val v) [f]
def Hd(a b:Nat):((a:Nat):Int).fmod (b:Nat)=((a % b:Nat):Int):=by rw[Qg _ (by omega)];rfl
def F6(a b:Nat):((a:Nat):Int).fdiv (b:Nat)=((a/b:Nat):Int):=by rw[Int.fdiv_eq_ediv_of_nonneg _ (by omega)];rfl
structure Nms(m:Nat)(ns:List Val)(f:Nat->Val):Prop where
 at_:∀i,i<m->ns[i]?=some (f i)
 lf:∀i,i<m->lfV (f i)=true
 eq:∀i j,i<m->j<m->dZ (f i) (f j)=some (decide (i=j))
mutual
def AT.cnt:AT->Nat
 |.lf _=>1
 |.nd _ ts=>AT.cntL ts+1
def AT.cntL:List AT->Nat
 | []=>0
 |t::ts=>AT.cnt t+AT.cntL ts
end
theorem AT.cntL_app:∀(a b:List AT),AT.cntL (a++b)=AT.cntL a+AT.cntL b
 | [],b=>by simp [AT.cntL]
 |t::a,b=>by rw[O_,AT.cntL,AT.cntL,AT.cntL_app a b];omega
theorem AT.lvsL_app:∀(a b:List AT),AT.lvsL (a++b)=AT.lvsL a++AT.lvsL b
 | [],b=>by simp [AT.lvsL]
 |t::a,b=>by rw[O_,AT.lvsL,AT.lvsL,AT.lvsL_app a b,O7]
def nZ(xs:List Val)(x:Val):rf.G (.lst (xs++[x])) []=some (.lst xs,x):=by
 show tH (.lst (xs++[x])) []=_
 unfold tH
 dsimp only
 rw[Oh,List.length_singleton,Nat.add_sub_cancel,OC (Og _),PD,List.dropLast_concat]
 rfl
theorem AT.cnt_le:∀{ts:List AT}{t:AT},t∈ts->t.cnt<=AT.cntL ts
 | [],t,h=>nomatch h
 |
  u::ts,t,h=>by
  rw[AT.cntL]
  rcases Oy.mp h with rfl |h
  ·omega
  ·have:=AT.cnt_le h;omega
def AT.lvs_le(h:t∈ts):t.lvs.length<=(AT.lvsL ts).length:=by
 rw[AT.lvsL_flat]
 exact QC (P9 (O8 (f:=AT.lvs) h))
end L3
namespace L3
open PySem PySem.Spec PyProof.Rows L2
def wtA(ws:List Int)(l:List Nat):Int:=(l.map λk=>ws.getD k 0).sum
def wtT(ws:List Int)(t:AT):Int:=wtA ws t.lvs
mutual
def AT.bx(ws:List Int):AT->Bx->List (Nat×Bx)
 |.lf k,b=>[(k,b)]
 |.nd w ts,b=>AT.bxL ws ts (bH b (wy w) (ts.map (wtT ws)))
def AT.bxL(ws:List Int):List AT->List Bx->List (Nat×Bx)
 |t::ts,b::bs=>AT.bx ws t b++AT.bxL ws ts bs
 |_,_=>[]
end
mutual
def AT.lay(ws:List Int)(n m:Nat):AT->Bx->Prop
 |.lf _,_=>True
 |.nd w ts,b=>b.Ok/\b.Sz n/\ts≠[]/\ts.length<=40/\(∀t∈ts,1<=wtT ws t)/\Sm m (ts.map (wtT ws)).sum/\AT.layL ws n m ts (bH b (wy w) (ts.map (wtT ws)))
def AT.layL(ws:List Int)(n m:Nat):List AT->List Bx->Prop
 |t::ts,b::bs=>AT.lay ws n m t b/\AT.layL ws n m ts bs
 |_,_=>True
end
def dF(kvs:List (Key×Val))(l:List (Nat×Bx)):List (Key×Val):=l.foldl (λkvs p=>dS kvs (.inl (p.1:Nat)) (bV p.2)) kvs
def AJ(kvs:List (Key×Val))(a b:List (Nat×Bx)):dF kvs (a++b)=dF (dF kvs a) b:=by unfold dF;rw[List.foldl_append]
def Bt(h:a.Perm b):wtA ws a=wtA ws b:=by
 unfold wtA
 induction h with
 |nil=>rfl
 |cons x _ ih=>rw[Oi,Oi,OU,OU,ih]
 |swap x y l=>simp only[Oi,OU];omega
 |trans _ _ h1 h2=>rw[h1,h2]
theorem ie(ws:List Int):∀ts:List AT,wtA ws (AT.lvsL ts)=(ts.map (wtT ws)).sum
 | []=>rfl
 |
  t::ts=>by
  rw[AT.lvsL,Oi,OU,<- ie ws ts]
  unfold wtT wtA
  rw[OQ,List.sum_append]
def An(kvs:List (Key×Val))(k:Key)(v:Val):(dS kvs k v).length<=kvs.length+1:=by
 unfold dS
 split
 ·rw[N_];omega
 ·rw[Oh];exact Og _
theorem sk:∀(l:List (Nat×Bx)) (kvs:List (Key×Val)),(dF kvs l).length<=kvs.length+l.length
 | [],kvs=>Og _
 |
  p::l,kvs=>by
  have h1:=An kvs (.inl (p.1:Nat)) (bV p.2)
  have h2:=sk l (dS kvs (.inl (p.1:Nat)) (bV p.2))
  unfold dF at h2 ⊢
  rw[List.foldl_cons,Oq]
  omega
def AT.bx_fst(ws:List Int)(t:AT):∀b,(AT.bx ws t b).length<=t.lvs.length/\∀p∈AT.bx ws t b,p.1∈t.lvs:=by
 induction t using AT.ind with
 |h1 k=>intro b;simp [AT.bx,AT.lvs]
 |
  h2 w ts ih=>
  intro b
  rw[AT.bx,AT.lvs]
  generalize bH b (wy w) (ts.map (wtT ws))=bs
  induction ts generalizing bs with
  |nil=>simp [AT.bxL]
  |
   cons t ts ih2=>
   cases bs with
   |nil=>simp [AT.bxL]
   |
    cons b bs=>
    obtain⟨h1,h2⟩:=ih t (Of ..) b
    obtain⟨h3,h4⟩:=ih2 (λu hu=>ih u (Od _ hu)) bs
    rw[AT.bxL,AT.lvsL,Oh,Oh]
    refine⟨by omega,λp hp=>?_⟩
    rcases O0.mp hp with hp |hp
    ·exact Qc _ (h2 p hp)
    ·exact OK _ (h4 p hp)
def zr(kvs:List (Key×Val))(k k':Key)(v:Val):lkD (dS kvs k v) k'=if k=k' then some v else lkD kvs k':=by
 unfold dS
 induction kvs with
 |
  nil=>
  rw[if_neg (by simp)]
  unfold lkD
  by_cases h:k=k'
  ·simp [h]
  ·simp [h]
 |
  cons p kvs ih=>
  obtain⟨pk,pv⟩:=p
  by_cases hp:pk=k
  ·subst
    hp
   rw[if_pos (by simp)]
   by_cases h:pk=k'
   ·subst h
    simp [lkD]
   ·rw[if_neg h]
    rw[if_neg h] at ih
    simp only[Oi,Pl]
    unfold lkD
    simp only[OZ,OA h]
    by_cases ha:(kvs.any λkv=>decide (kv.1=pk))=true
    ·rw[if_pos ha] at ih
     unfold lkD at ih
     exact ih
    ·have:(kvs.map λkv=>if kv.1=pk then (kv.1,v) else kv)=kvs:=by
      conv=>rhs;rw[<- List.map_id kvs]
      refine List.map_congr_left λq hq=>?_
      rw[if_neg]
      ·rfl
      ·intro z
       exact ha (List.any_eq_true.mpr ⟨q,hq,OI z⟩)
     rw[this]
  ·by_cases ha:(kvs.any λkv=>decide (kv.1=k))=true
   ·rw[if_pos ha] at ih
    rw[if_pos (by rw[Pd,ha,Bool.or_true])]
    simp only[Oi,if_neg hp]
    by_cases h:pk=k'
    ·subst h
     rw[if_neg (λz=>hp z.symm)]
     simp [lkD]
    ·unfold lkD at ih ⊢
     simp only[OZ,OA h]
     exact ih
   ·rw[if_neg ha] at ih
    rw[if_neg (by rw[Pd,OA hp,Bool.false_or];exact ha)]
    rw[O_]
    by_cases h:pk=k'
    ·subst h
     rw[if_neg (λz=>hp z.symm)]
     simp [lkD]
    ·unfold lkD at ih ⊢
     simp only[OZ,OA h]
     exact ih
def bxO(l:List (Nat×Bx))(k:Nat):Bx:=((l.find? λp=>p.1==k).map (·.2)).getD ⟨0,0,0,0⟩
theorem vn:∀(l:List (Nat×Bx)) (kvs:List (Key×Val)),(l.map (·.1)).Nodup->(k∈l.map (·.1)->lkD (dF kvs l) (.inl (k:Nat))=some (bV (bxO l k)))/\(k∉l.map (·.1)->lkD (dF kvs l) (.inl (k:Nat))=lkD kvs (.inl (k:Nat)))
 | [],kvs,_=>⟨(λh=>nomatch h),λ_=>rfl⟩
 |
  p::l,kvs,nd=>by
  rw[Oi,P1] at nd
  obtain⟨h1,h2⟩:=vn (k:=k) l (dS kvs (.inl (p.1:Nat)) (bV p.2)) nd.2
  have e:dF kvs (p::l)=dF (dS kvs (.inl (p.1:Nat)) (bV p.2)) l:=rfl
  rw[e]
  by_cases hp:p.1=k
  ·have hk:k∉l.map (·.1):=hp ▸ nd.1
   rw[h2 hk,zr,if_pos (by rw[hp])]
   refine⟨λ_=>?_,λz=>absurd (by rw[Oi,hp];exact Of ..) z⟩
   unfold bxO
   rw[OZ]
   simp [hp]
  ·have hk:k∈(p::l).map (·.1) ↔ k∈l.map (·.1):=by rw[Oi,Oy];exact⟨λz=>z.resolve_left (λy=>hp y.symm),.inr⟩
   have hb:bxO (p::l) k=bxO l k:=by
    unfold bxO
    rw[List.find?_cons_of_neg (by simpa using hp)]
   rw[hk,hb]
   refine⟨h1,λz=>?_⟩
   rw[h2 z,zr,if_neg]
   intro y
   injection y with y
   exact hp (Int.ofNat.inj y)
def xV(b:Bx)(way:Str)(ws:List Int):(bH b way ws).length=ws.length:=by
 unfold bH
 split <;> rw[N_,j9]
def AT.bx_keys(ws:List Int)(t:AT):∀b,(AT.bx ws t b).map (·.1)=t.lvs:=by
 induction t using AT.ind with
 |h1 k=>intro b;rw[AT.bx,AT.lvs];rfl
 |
  h2 w ts ih=>
  intro b
  rw[AT.bx,AT.lvs]
  have hl:(bH b (wy w) (ts.map (wtT ws))).length=ts.length:=by rw[xV,N_]
  generalize bH b (wy w) (ts.map (wtT ws))=bs at *
  induction ts generalizing bs with
  |nil=>cases bs <;> rfl
  |
   cons t ts ih2=>
   cases bs with
   |nil=>exact nomatch hl
   |
    cons b bs=>
    rw[AT.bxL,AT.lvsL,OQ,ih t (Of ..) b,ih2 (λu hu=>ih u (Od _ hu)) bs (by simpa using hl)]
def AT.cnt_lvs(t:AT)(h:t.ok=true):t.cnt+1<=2*t.lvs.length:=by
 induction t using AT.ind with
 |h1 k=>simp [AT.cnt,AT.lvs]
 |
  h2 w ts ih=>
  rw[AT.ok,Oj] at h
  have hk:=AT.okL_mem.mp h.2
  have h2:2<=ts.length:=Pf h.1
  rw[AT.cnt,AT.lvs]
  have:∀ts:List AT,(∀t∈ts,t.cnt+1<=2*t.lvs.length)->AT.cntL ts+ts.length<=2*(AT.lvsL ts).length:=by
   intro ts
   induction ts with
   |nil=>intro _;simp [AT.cntL,AT.lvsL]
   |
    cons t ts ih=>
    intro h
    have h1:=h t (Of ..)
    have h2:=ih λu hu=>h u (Od _ hu)
    rw[AT.cntL,AT.lvsL,Oh,Oq]
    omega
  have:=this ts λt ht=>ih t ht (hk t ht)
  omega
end L3
namespace L3
open PySem PySem.Spec PyProof.Rows L2
structure Rp(D A B:Nat)(b:Bx):Prop where
 pos:0<D
 l:∃z:Int,b.l=(z:Rat)/((D:Int):Rat)/\z.natAbs<=A*D
 t:∃z:Int,b.t=(z:Rat)/((D:Int):Rat)/\z.natAbs<=A*D
 w:∃z:Int,b.w=(z:Rat)/((D:Int):Rat)/\0<z/\z<=B*D
 h:∃z:Int,b.h=(z:Rat)/((D:Int):Rat)/\0<z/\z<=B*D
def JS(x y a D W:Rat)(h1:D≠0)(h2:W≠0):x/D+(y/D)*(a/W)=(x*W+y*a)/(D*W):=by grind
def JQ(y a D W:Rat)(h1:D≠0)(h2:W≠0):(y/D)*(a/W)=(y*a)/(D*W):=by grind
def L5(y D W:Rat)(h1:D≠0)(h2:W≠0):y/D=(y*W)/(D*W):=by grind
def jy{z:Int}(h:z≠0):(z:Rat)≠0:=λe=>h (Rat.intCast_inj.mp e)
def CO{x y a W:Int}{D A B:Nat}(hD:0<D)(hx:x.natAbs<=A*D)(hy:0<y/\y<=B*D)(ha:0<=a/\a<=W)(hW:0<W):∃z:Int,(x:Rat)/((D:Int):Rat)+((y:Rat)/((D:Int):Rat))*((a:Rat)/(W:Rat))=(z:Rat)/(((D*W.toNat:Nat):Int):Rat)/\z.natAbs<=(A+B)*(D*W.toNat):=by
 obtain⟨V,rfl⟩:∃V:Nat,W=V:=⟨W.toNat,by omega⟩
 refine⟨x*V+y*a,?_,?_⟩
 ·rw[JS _ _ _ _ _ (jy (by omega)) (jy (by omega))]
  congr 1
  ·rw[QP,Ph,Ph]
  ·rw[OY,PH,Ph]
 ·rw[OY]
  have h1:(x*(V:Int)).natAbs<=A*D*V:=by rw[O5];exact O6 hx (Og _)
  have h2:(y*a).natAbs<=B*D*V:=by
   rw[O5]
   refine O6 ?_ (by omega)
   have:=hy.2
   omega
  have h3:=Int.natAbs_add_le (x*V) (y*a)
  rw[Nat.add_mul,<- QU,<- QU]
  omega
def Cn{y a W:Int}{D B:Nat}(hD:0<D)(hy:0<y/\y<=B*D)(ha:1<=a/\a<=W):∃z:Int,((y:Rat)/((D:Int):Rat))*((a:Rat)/(W:Rat))=(z:Rat)/(((D*W.toNat:Nat):Int):Rat)/\0<z/\z<=((B:Nat):Int)*((D*W.toNat:Nat):Int):=by
 obtain⟨V,rfl⟩:∃V:Nat,W=V:=⟨W.toNat,by omega⟩
 refine⟨y*a,?_,Int.mul_pos hy.1 (by omega),?_⟩
 ·rw[JQ _ _ _ _ (jy (by omega)) (jy (by omega))]
  congr 1
  ·rw[Ph]
  ·rw[OY,PH,Ph]
 ·rw[OY,PH,<- Pc]
  exact Int.mul_le_mul hy.2 ha.2 (by omega) (Int.le_trans (Int.le_of_lt hy.1) hy.2)
def nW{y W:Int}{D:Nat}(hD:0<D)(hW:0<W):(y:Rat)/((D:Int):Rat)=((y*W:Int):Rat)/(((D*W.toNat:Nat):Int):Rat):=by
 obtain⟨V,rfl⟩:∃V:Nat,W=V:=⟨W.toNat,by omega⟩
 rw[L5 _ _ _ (jy (show ((D:Nat):Int)≠0 by omega)) (jy (show ((V:Nat):Int)≠0 by omega)),Ph,OY,PH,Ph]
def yU{z W:Int}{D A B:Nat}(hz:z.natAbs<=A*D)(hW:0<W):(z*W).natAbs<=(A+B)*(D*W.toNat):=by
 rw[O5,<- QU]
 refine O6 ?_ (by omega)
 rw[Nat.add_mul]
 omega
def xR{z W:Int}{D B:Nat}(hz:0<z/\z<=B*D)(hW:0<W):0<z*W/\z*W<=((B:Nat):Int)*((D*W.toNat:Nat):Int):=by
 refine⟨Int.mul_pos hz.1 hW,?_⟩
 rw[PH,<- Pc,Int.toNat_of_nonneg (by omega)]
 exact Int.mul_le_mul_of_nonneg_right hz.2 (by omega)
def Rp.parts{D A B:Nat}{b b':Bx}{way:Str}{ws:List Int}(r:Rp D A B b)(hw:∀w∈ws,1<=w)(h:b'∈bH b way ws):Rp (D*ws.sum.toNat) (A+B) B b':=by
 obtain⟨pos,⟨zl,el,bl⟩,⟨zt,et,bt⟩,⟨zw,ew,bw⟩,⟨zh,eh,bh⟩⟩:=r
 have key:∀p:Rat×Rat,∀s l:Rat,p∈shL s l ws.sum 0 ws->0<ws.sum/\∃a' w:Int,0<=a'/\a'<=ws.sum/\1<=w/\w<=ws.sum/\p=(s+l*((a':Rat)/(ws.sum:Rat)),l*((w:Rat)/(ws.sum:Rat))):=λp s l hp=>by
  obtain⟨a',w,h1,h2,h3,h4,h5⟩:=vJ ws 0 (by omega) hw (by omega) hp
  exact⟨by omega,a',w,h1,h2,h3,h4,h5⟩
 unfold bH at h
 split at h
 ·obtain⟨p,hp,rfl⟩:=OS.mp h
  obtain⟨hS,a',w,h1,h2,h3,h4,rfl⟩:=key p _ _ hp
  have hV:0<D*ws.sum.toNat:=Pp pos (by omega)
  refine⟨hV,?_,⟨zt*ws.sum,by show b.t=_;rw[et];exact nW pos hS,yU bt hS⟩,?_,⟨zh*ws.sum,by show b.h=_;rw[eh];exact nW pos hS,xR bh hS⟩⟩
  ·show ∃z:Int,b.l+b.w*_=_/\_
   rw[el,ew]
   exact CO pos bl bw ⟨h1,h2⟩ hS
  ·show ∃z:Int,b.w*_=_/\_
   rw[ew]
   exact Cn pos bw ⟨h3,h4⟩
 ·obtain⟨p,hp,rfl⟩:=OS.mp h
  obtain⟨hS,a',w,h1,h2,h3,h4,rfl⟩:=key p _ _ hp
  have hV:0<D*ws.sum.toNat:=Pp pos (by omega)
  refine⟨hV,⟨zl*ws.sum,by show b.l=_;rw[el];exact nW pos hS,yU bl hS⟩,?_,⟨zw*ws.sum,by show b.w=_;rw[ew];exact nW pos hS,xR bw hS⟩,?_⟩
  ·show ∃z:Int,b.t+b.h*_=_/\_
   rw[et,eh]
   exact CO pos bt bh ⟨h1,h2⟩ hS
  ·show ∃z:Int,b.h*_=_/\_
   rw[eh]
   exact Cn pos bh ⟨h3,h4⟩
def Rp.ok{D A B:Nat}{b:Bx}(r:Rp D A B b):b.Ok:=by
 obtain⟨pos,_,_,⟨zw,ew,bw⟩,⟨zh,eh,bh⟩⟩:=r
 exact⟨by rw[ew];exact je bw.1 (by omega),by rw[eh];exact je bh.1 (by omega)⟩
def Rp.sz{D A B n:Nat}{b:Bx}(r:Rp D A B b)(hA:A*D<2^n)(hB:B*D<2^n)(hD:D<2^n):b.Sz n:=by
 obtain⟨pos,⟨zl,el,bl⟩,⟨zt,et,bt⟩,⟨zw,ew,bw⟩,⟨zh,eh,bh⟩⟩:=r
 have sD:Sm n ((D:Nat):Int):=by show ((D:Nat):Int).natAbs<2^n;omega
 have k:∀z:Int,z.natAbs<2^n->Sz n ((z:Rat)/((D:Int):Rat)):=λz hz=>Sz.div (by omega) hz sD n (Og _) (Og _)
 have hb:∀z:Int,0<z/\z<=B*D->z.natAbs<2^n:=λz hz=>by
  have h1:z<=((B*D:Nat):Int):=by rw[PH];exact hz.2
  omega
 exact⟨by rw[el];exact k zl (by omega),by rw[et];exact k zt (by omega),by rw[ew];exact k zw (hb zw bw),by rw[eh];exact k zh (hb zh bh)⟩
theorem j5{ws:List Int}:∀{l:List Nat},(∀k∈l,1<=ws.getD k 0)->(l.length:Int)<=wtA ws l
 | [],_=>by simp [wtA]
 |
  k::l,h=>by
  have h1:=h k (Of ..)
  have h2:=j5 (l:=l) λj hj=>h j (Od _ hj)
  unfold wtA at h2 ⊢
  rw[Oi,OU,Oq]
  omega
theorem uS{ws:List Int}{n m:Nat}:∀{ts:List AT}{bs:List Bx},(∀t∈ts,∀b∈bs,AT.lay ws n m t b)->AT.layL ws n m ts bs
 | [],_,_=>by rw[AT.layL];trivial;intro t ts b bs z;cases z
 |t::ts,[],_=>by rw[AT.layL];trivial;intro t ts b bs _ z;cases z
 |
  t::ts,b::bs,h=>by
  rw[AT.layL]
  exact⟨h t (Of ..) b (Of ..),uS λu hu c hc=>h u (Od _ hu) c (Od _ hc)⟩
def HC{ws:List Int}{n m B:Nat}(t:AT):∀(b:Bx) (D A:Nat),Rp D A B b->B<=A->1<=A->(A+t.dep*B)*(D*2^(m*t.dep))<2^n->t.ok=true->(∀k∈t.lvs,1<=ws.getD k 0)->wtT ws t<2^m->t.lvs.length<=40->AT.lay ws n m t b:=by
 induction t using AT.ind with
 |h1 k=>intros;rw[AT.lay];trivial
 |
  h2 w ts ih=>
  intro b D A r hBA hA hn ho hw hm hl
  have ho':=ho
  rw[AT.ok,Oj] at ho'
  have h2:2<=ts.length:=Pf ho'.1
  have hk:=AT.okL_mem.mp ho'.2
  rw[AT.lvs] at hw hl
  have hws:∀t∈ts,∀k∈t.lvs,1<=ws.getD k 0:=λt ht k hk'=>hw k (AT.lvsL_mem.mpr ⟨t,ht,hk'⟩)
  have hone:∀t∈ts,1<=wtT ws t:=λt ht=>by
   have h1:=eV (hk t ht)
   have h2:=j5 (hws t ht)
   unfold wtT
   omega
  have hsum:wtT ws (.nd w ts)=(ts.map (wtT ws)).sum:=by
   unfold wtT
   rw[AT.lvs]
   exact ie ws ts
  rw[hsum] at hm
  have hpos:0<=(ts.map (wtT ws)).sum:=by
   rw[<- ie]
   have:=j5 hw
   omega
  rw[AT.dep] at hn
  generalize hq:AT.depL ts=q at *
  have hD1:1<=2^(m*(q+1)):=Nat.one_le_two_pow
  have hAle:A*D<=(A+(q+1)*B)*(D*2^(m*(q+1))):=O6 (by omega) (Nat.le_mul_of_pos_right _ hD1)
  have hDle:D<=A*D:=Nat.le_mul_of_pos_left _ hA
  have hBle:B*D<=A*D:=QO _ hBA
  have tl:ts.length<=40:=by
   rw[AT.lvsL_flat] at hl
   have:ts.length<=((ts.map AT.lvs).flatten).length:=d9 λt ht=>eV (hk t ht)
   omega
  rw[AT.lay]
  refine⟨r.ok,r.sz (by omega) (by omega) (by omega),λz=>by rw[z] at h2;simp at h2,tl,hone,by
   show (ts.map (wtT ws)).sum.natAbs<2^m
   have:(((ts.map (wtT ws)).sum.natAbs:Nat):Int)<((2^m:Nat):Int):=by
    rw[Int.natAbs_of_nonneg hpos]
    push_cast
    exact hm
   omega,uS λt ht c hc=>?_⟩
  have rp:=r.parts (λx hx=>by obtain⟨u,hu,rfl⟩:=OS.mp hx;exact hone u hu) hc
  have hdt:t.dep<=q:=by rw[<- hq];exact AT.depL_le.mp (Og _) t ht
  have hS:(ts.map (wtT ws)).sum.toNat<=2^m:=by
   have:(((ts.map (wtT ws)).sum.toNat:Nat):Int)<((2^m:Nat):Int):=by
    rw[Int.toNat_of_nonneg hpos]
    push_cast
    exact hm
   omega
  refine ih t ht c _ (A+B) rp (by omega) (by omega) ?_ (hk t ht) (hws t ht) ?_ (by have:=AT.lvs_le ht;omega)
  ·refine P2 (O6 ?_ ?_) hn
   ·have:t.dep*B<=q*B:=QO _ hdt
    rw[Nat.add_mul,Nat.one_mul]
    omega
   ·rw[QU]
    refine PY _ ?_
    have e:2^(m*(q+1))=2^m*2^(m*q):=by rw[<- Qj];congr 1;rw[Nat.mul_add,Nat.mul_one,Nat.add_comm]
    rw[e]
    exact O6 hS (Qd (by decide) (PY _ hdt))
  ·refine Int.lt_of_le_of_lt ?_ hm
   have aux:∀us:List AT,(∀u∈us,0<=wtT ws u)->t∈us->wtT ws t<=(us.map (wtT ws)).sum:=by
    intro us
    induction us with
    |nil=>intro _ h;exact nomatch h
    |
     cons u us ih=>
     intro h0 hm
     have nn:∀us:List AT,(∀u∈us,0<=wtT ws u)->0<=(us.map (wtT ws)).sum:=by
      intro us
      induction us with
      |nil=>intro _;simp
      |cons v us ih=>intro h;rw[Oi,OU];have:=h v (Of ..);have:=ih λu hu=>h u (Od _ hu);omega
     rw[Oi,OU]
     rcases Oy.mp hm with rfl |hm
     ·have:=nn us λu hu=>h0 u (Od _ hu)
      omega
     ·have h1:=ih (λu hu=>h0 u (Od _ hu)) hm
      have h2:=h0 u (Of ..)
      omega
   exact aux ts (λu hu=>by have:=hone u hu;omega) ht
end L3
namespace L3
open PySem PySem.Spec PyProof.Rows L2
def gr(w:Bool):AT->List AT
 |.nd v us=>if v=w then us else [.nd v us]
 |t=>[t]
def de(w v:Bool)(us:List AT):gr w (.nd v us)=if v=w then us else [.nd v us]:=rfl
def vo(w:Bool)(k:Nat):gr w (.lf k)=[.lf k]:=rfl
mutual
def AT.pln:AT->AT
 |.lf k=>.lf k
 |.nd w ts=>.nd w (AT.plnL w ts)
def AT.plnL(w:Bool):List AT->List AT
 | []=>[]
 |t::ts=>gr w (AT.pln t)++AT.plnL w ts
end
def vd(w:Bool)(t:AT):AT.lvsL (gr w t)=t.lvs:=by
 cases t with
 |lf k=>simp [gr,AT.lvsL,AT.lvs]
 |
  nd v us=>
  rw[de]
  split
  ·rw[AT.lvs]
  ·simp [AT.lvsL,AT.lvs]
def AT.pln_lvs(t:AT):t.pln.lvs=t.lvs:=by
 induction t using AT.ind with
 |h1 k=>rfl
 |
  h2 w ts ih=>
  rw[AT.pln,AT.lvs,AT.lvs]
  induction ts with
  |nil=>rfl
  |
   cons t ts ih2=>
   rw[AT.plnL,AT.lvsL,AT.lvsL_app,vd,ih t (Of ..),ih2 λu hu=>ih u (Od _ hu)]
def Ht{w:Bool}{t:AT}(h:t.ok=true):1<=(gr w t).length/\∀u∈gr w t,u.ok=true:=by
 cases t with
 |lf k=>exact⟨Og _,λu hu=>by rw[Pa.mp hu];rfl⟩
 |
  nd v us=>
  rw[de]
  split
  ·rw[AT.ok,Oj] at h
   have:=Pf h.1
   exact⟨by omega,AT.okL_mem.mp h.2⟩
  ·exact⟨Og _,λu hu=>by rw[Pa.mp hu];exact h⟩
def AT.pln_ok(t:AT)(h:t.ok=true):t.pln.ok=true:=by
 induction t using AT.ind with
 |h1 k=>rfl
 |
  h2 w ts ih=>
  rw[AT.ok,Oj] at h
  have hk:=AT.okL_mem.mp h.2
  have h2:=Pf h.1
  have key:∀ts:List AT,(∀t∈ts,t.pln.ok=true)->ts.length<=(AT.plnL w ts).length/\∀u∈AT.plnL w ts,u.ok=true:=by
   intro ts
   induction ts with
   |nil=>intro _;exact⟨Og _,λu hu=>by rw[AT.plnL] at hu;exact nomatch hu⟩
   |
    cons t ts ih2=>
    intro hh
    obtain⟨a1,a2⟩:=Ht (w:=w) (hh t (Of ..))
    obtain⟨b1,b2⟩:=ih2 λu hu=>hh u (Od _ hu)
    rw[AT.plnL,Oh,Oq]
    refine⟨by omega,λu hu=>?_⟩
    rcases O0.mp hu with hu |hu
    ·exact a2 u hu
    ·exact b2 u hu
  obtain⟨a,b⟩:=key ts λt ht=>ih t ht (hk t ht)
  rw[AT.pln,AT.ok,Oj]
  exact⟨OI (by omega),AT.okL_mem.mpr b⟩
theorem sf:∀a b:List AT,AT.depL (a++b)=max (AT.depL a) (AT.depL b)
 | [],b=>by simp [AT.depL]
 |t::a,b=>by rw[O_,AT.depL,AT.depL,sf a b];omega
def D7(w:Bool)(t:AT):AT.depL (gr w t)<=t.dep:=by
 cases t with
 |lf k=>simp [gr,AT.depL,AT.dep]
 |
  nd v us=>
  rw[de]
  split
  ·rw[AT.dep];omega
  ·simp [AT.depL,AT.dep]
def AT.pln_dep(t:AT):t.pln.dep<=t.dep:=by
 induction t using AT.ind with
 |h1 k=>exact Og _
 |
  h2 w ts ih=>
  rw[AT.pln,AT.dep,AT.dep]
  have:AT.depL (AT.plnL w ts)<=AT.depL ts:=by
   induction ts with
   |nil=>exact Og _
   |
    cons t ts ih2=>
    have h1:=ih t (Of ..)
    have h2:=ih2 λu hu=>ih u (Od _ hu)
    have h3:=D7 w t.pln
    rw[AT.plnL,sf,AT.depL]
    omega
  omega
def nwA(w:Bool):AT->Bool
 |.nd v _=>!(v==w)
 |_=>true
mutual
def AT.isp:AT->Bool
 |.lf _=>true
 |.nd w ts=>AT.ispL w ts
def AT.ispL(w:Bool):List AT->Bool
 | []=>true
 |t::ts=>nwA w t&&AT.isp t&&AT.ispL w ts
end
theorem ki{w:Bool}:∀{ts:List AT},AT.ispL w ts=true ↔ ∀t∈ts,nwA w t=true/\t.isp=true
 | []=>by simp [AT.ispL]
 |
  t::ts=>by
  rw[AT.ispL,Oj,Oj,ki (ts:=ts),List.forall_mem_cons]
def AT.pln_isp(t:AT):t.pln.isp=true:=by
 induction t using AT.ind with
 |h1 k=>rfl
 |
  h2 w ts ih=>
  rw[AT.pln,AT.isp,ki]
  induction ts with
  |nil=>intro t ht;rw[AT.plnL] at ht;exact nomatch ht
  |
   cons t ts ih2=>
   intro u hu
   rw[AT.plnL] at hu
   rcases O0.mp hu with hu |hu
   ·have h1:=ih t (Of ..)
    generalize t.pln=p at *
    cases p with
    |
     lf k=>
     rw[Pa.mp hu]
     exact⟨rfl,rfl⟩
    |
     nd v us=>
     rw[de] at hu
     split at hu
     ·rename_i hu' e
      subst e
      rw[AT.isp,ki] at h1
      exact h1 u hu
     ·rename_i hu' e
      rw[Pa.mp hu]
      exact⟨by simp [nwA,e],h1⟩
   ·exact ih2 (λx hx=>ih x (Od _ hx)) u hu
def AT.pln_id(t:AT)(h:t.isp=true):t.pln=t:=by
 induction t using AT.ind with
 |h1 k=>rfl
 |
  h2 w ts ih=>
  rw[AT.isp,ki] at h
  rw[AT.pln]
  congr 1
  induction ts with
  |nil=>rfl
  |
   cons t ts ih2=>
   obtain⟨h1,h2⟩:=h t (Of ..)
   rw[AT.plnL,ih t (Of ..) h2,ih2 (λx hx=>ih x (Od _ hx)) λx hx=>h x (Od _ hx)]
   cases t with
   |lf k=>rfl
   |
    nd v us=>
    rw[de]
    rw[if_neg (by simpa [nwA] using h1)]
    rfl
def AT.pln_pln(t:AT):t.pln.pln=t.pln:=AT.pln_id _ t.pln_isp
def lG(b:Bx)(w:Bool)(W a x:Int):Bx:=if w=true then ⟨b.l+b.w*((a:Rat)/(W:Rat)),b.t,b.w*((x:Rat)/(W:Rat)),b.h⟩ else ⟨b.l,b.t+b.h*((a:Rat)/(W:Rat)),b.w,b.h*((x:Rat)/(W:Rat))⟩
def frm(b:Bx)(w:Bool)(W:Int):Int->List Int->List Bx
 |_,[]=>[]
 |a,x::xs=>lG b w W a x::frm b w W (a+x) xs
theorem uT(b:Bx)(w:Bool)(W:Int):∀(xs:List Int) (a:Int),(frm b w W a xs).length=xs.length
 | [],_=>rfl
 |x::xs,a=>by rw[frm,Oq,Oq,uT b w W xs]
def lU(b:Bx)(w:Bool)(xs:List Int):bH b (wy w) xs=frm b w xs.sum 0 xs:=by
 have key:∀(W:Int) (xs:List Int) (a:Int),(if wy w="across" then (shL b.l b.w W a xs).map λp=>(⟨p.1,b.t,p.2,b.h⟩:Bx) else (shL b.t b.h W a xs).map λp=>⟨b.l,p.1,b.w,p.2⟩)=frm b w W a xs:=by
  intro W xs
  induction xs with
  |nil=>intro a;unfold shL frm;split <;> rfl
  |
   cons x xs ih=>
   intro a
   rw[frm,<- ih,shL,shL]
   unfold lG
   cases w with
   |true=>rw[if_pos (show wy true="across" from rfl),if_pos (show wy true="across" from rfl),if_pos rfl];rfl
   |
    false=>
    have hn:¬ (wy false="across"):=by decide
    rw[if_neg hn,if_neg hn,if_neg (by decide)];rfl
 exact key xs.sum xs 0
theorem vM(b:Bx)(w:Bool)(W:Int):∀(xs ys:List Int) (a:Int),frm b w W a (xs++ys)=frm b w W a xs++frm b w W (a+xs.sum) ys
 | [],ys,a=>by simp [frm]
 |x::xs,ys,a=>by rw[O_,frm,frm,O_,vM b w W xs ys,OU,Int.add_assoc]
def CA(s l a W c:Rat)(hW:W≠0):s+l*(a/W)+l*(c/W)=s+l*((a+c)/W):=by grind
def Cy(l S W c:Rat)(hS:S≠0)(hW:W≠0):(l*(S/W))*(c/S)=l*(c/W):=by grind
def Fe(b:Bx)(w:Bool)(W a S c x:Int)(hS:S≠0)(hW:W≠0):lG (lG b w W a S) w S c x=lG b w W (a+c) x:=by
 have h1:=jy hS
 have h2:=jy hW
 unfold lG
 cases w with
 |true=>simp only[Pl,QP,Cy _ _ _ _ h1 h2,CA _ _ _ _ _ h2]
 |false=>simp only[Qq,PC,QP,Cy _ _ _ _ h1 h2,CA _ _ _ _ _ h2]
theorem vU(b:Bx)(w:Bool)(W a S:Int)(hS:S≠0)(hW:W≠0):∀(xs:List Int) (c:Int),frm (lG b w W a S) w S c xs=frm b w W (a+c) xs
 | [],_=>rfl
 |x::xs,c=>by rw[frm,frm,Fe b w W a S c x hS hW,vU b w W a S hS hW xs,Int.add_assoc]
def vA(ws:List Int)(bs:List Bx):AT.bxL ws [] bs=[]:=by rw[AT.bxL];intro _ _ _ _ h;cases h
theorem vQ(ws:List Int):∀(ts us:List AT) (bs cs:List Bx),ts.length=bs.length->AT.bxL ws (ts++us) (bs++cs)=AT.bxL ws ts bs++AT.bxL ws us cs
 | [],us,[],cs,_=>by rw[vA];rfl
 |
  t::ts,us,b::bs,cs,h=>by
  rw[O_,O_,AT.bxL,AT.bxL,vQ ws ts us bs cs (by simpa using h),O7]
 | [],_,_::_,_,h=>nomatch h
 |_::_,_,[],_,h=>nomatch h
def vG(ws:List Int)(t:AT):wtT ws t.pln=wtT ws t:=by unfold wtT;rw[AT.pln_lvs]
def Hw(ws:List Int)(w:Bool)(t:AT):((gr w t).map (wtT ws)).sum=wtT ws t:=by
 rw[<- ie,vd];rfl
def AT.pln_bx{ws:List Int}(t:AT)(ho:t.ok=true)(hw:∀k∈t.lvs,1<=ws.getD k 0):∀b,AT.bx ws t.pln b=AT.bx ws t b:=by
 induction t using AT.ind with
 |h1 k=>intro b;rfl
 |
  h2 w ts ih=>
  intro b
  rw[AT.ok,Oj] at ho
  have hk:=AT.okL_mem.mp ho.2
  have h2:=Pf ho.1
  rw[AT.lvs] at hw
  have hone:∀t∈ts,1<=wtT ws t:=λt ht=>by
   have h1:=eV (hk t ht)
   have h2:=j5 (ws:=ws) (l:=t.lvs) λk hk'=>hw k (AT.lvsL_mem.mpr ⟨t,ht,hk'⟩)
   unfold wtT
   omega
  have ih':∀t∈ts,∀b,AT.bx ws t.pln b=AT.bx ws t b:=λt ht=>ih t ht (hk t ht) λk hk'=>hw k (AT.lvsL_mem.mpr ⟨t,ht,hk'⟩)
  have bi:=j5 hw
  have h1l:1<=(AT.lvsL ts).length:=by
   have:=d9 (f:=AT.lvs) (l:=ts) λt ht=>eV (hk t ht)
   rw[AT.lvsL_flat]
   omega
  have hW:(ts.map (wtT ws)).sum≠0:=by rw[<- ie];omega
  have hS:((AT.plnL w ts).map (wtT ws)).sum=(ts.map (wtT ws)).sum:=by
   rw[<- ie,<- ie]
   have:=AT.pln_lvs (.nd w ts)
   rw[AT.pln,AT.lvs,AT.lvs] at this
   rw[this]
  rw[AT.pln,AT.bx,AT.bx,lU,lU,hS]
  generalize (ts.map (wtT ws)).sum=W at *
  have key:∀(ts:List AT) (a:Int),(∀t∈ts,1<=wtT ws t)->(∀t∈ts,∀b,AT.bx ws t.pln b=AT.bx ws t b)->AT.bxL ws (AT.plnL w ts) (frm b w W a ((AT.plnL w ts).map (wtT ws)))=AT.bxL ws ts (frm b w W a (ts.map (wtT ws))):=by
   intro ts
   induction ts with
   |nil=>intro a _ _;rfl
   |
    cons t ts ih2=>
    intro a h1 h2
    have e1:=ih2 (a+wtT ws t) (λu hu=>h1 u (Od _ hu)) λu hu=>h2 u (Od _ hu)
    have e2:=h2 t (Of ..)
    have e3:=h1 t (Of ..)
    rw[AT.plnL,OQ,vM,vQ _ _ _ _ _ (by rw[uT,N_]),Hw,vG,e1,Oi,frm,AT.bxL]
    congr 1
    rw[<- e2]
    have e4:=vG ws t
    generalize t.pln=p at *
    have one:AT.bxL ws [p] (frm b w W a ([p].map (wtT ws)))=AT.bx ws p (lG b w W a (wtT ws t)):=by
     rw[Oi,OL,frm,frm,AT.bxL,e4,vA,OT]
    cases p with
    |lf k=>exact one
    |
     nd v us=>
     rw[de]
     split
     ·rename_i e
      subst e
      have es:(us.map (wtT ws)).sum=wtT ws t:=by
       rw[<- ie,<- e4]
       unfold wtT
       rw[AT.lvs]
      rw[AT.bx,lU,es,vU b v W a (wtT ws t) (by omega) hW,Int.add_zero]
     ·exact one
  exact key ts 0 hone ih'
def TOk.pln{t:AT}{l:List Nat}(T:TOk t l):TOk t.pln l:=⟨t.pln_ok T.ok,λk=>by rw[AT.pln_lvs];exact T.mem k,Ow t.pln_dep T.dep,by rw[AT.pln_lvs];exact T.len⟩
def wG(w:Bool):PyData.strOk (wy w)=true:=by cases w <;> decide +kernel
def Fj{f:Nat->Val}(t:AT):∀d,t.dep<=d->(∀k∈t.lvs,wfV 0 (f k)=true)->wfV (2*d) (t.val f)=true:=by
 induction t using AT.ind with
 |
  h1 k=>
  intro d _ h
  rw[AT.val]
  exact Ft (h k (by rw[AT.lvs];exact Of ..)) (OO _)
 |
  h2 w ts ih=>
  intro d hd h
  rw[AT.dep] at hd
  obtain⟨e,rfl⟩:∃e,d=e+1:=⟨d-1,by omega⟩
  have hc:cR (2*e) (AT.vals f ts)=true:=by
   rw[AT.vals_map]
   refine pS λv hv=>?_
   obtain⟨t,ht,rfl⟩:=OS.mp hv
   exact ih t ht e (AT.depL_le.mp (show AT.depL ts<=e by omega) t ht) λk hk=>h k (by rw[AT.lvs];exact AT.lvsL_mem.mpr ⟨t,ht,hk⟩)
  rw[AT.val,show 2*(e+1)=2*e+1+1 from by omega]
  show (wfV (2*e+1) (.str (wy w))&&(cR (2*e) (AT.vals f ts)&&true))=true
  rw[hc,show wfV (2*e+1) (.str (wy w))=true from wG w]
  rfl
def u5{f:Nat->Val}(t:AT)(hd:t.dep<=60)(h:∀k∈t.lvs,wfV 0 (f k)=true):dZ (t.val f) (t.val f)=some true:=by
 have:=Fj (f:=f) t 60 hd h
 rw[yu (by decide) this this,pf _ _ this]
end L3
set_option maxHeartbeats 4000000
namespace KK
open PySem PySem.Spec PyProof.Rows L2 L3
def jo:bootBuiltins "abs"=some (.builtin "abs"):=by decide
def zp:bootBuiltins "all"=some (.builtin "all"):=by decide
def EU:bootBuiltins "bool"=some (.type "bool"):=by decide
def zQ:bootBuiltins "int"=some (.type "int"):=by decide
def aO:bootBuiltins "isinstance"=some (.builtin "isinstance"):=by decide
def c8:bootBuiltins "len"=some (.builtin "len"):=by decide
def vB:bootBuiltins "list"=some (.type "list"):=by decide
def He:bootBuiltins "max"=some (.builtin "max"):=by decide
def yz:bootBuiltins "min"=some (.builtin "min"):=by decide
def F2:bootBuiltins "set"=some (.type "set"):=by decide
def Hn:bootBuiltins "str"=some (.type "str"):=by decide
def xN:bootBuiltins "sum"=some (.builtin "sum"):=by decide
def bI:bootBuiltins "tuple"=some (.type "tuple"):=by decide
def top(i:Nat):Stmt:=PySem.Challenge.pw_weightrooms_k14_plain_forms.main.body.getD i (.Pass ⟨0,0,0,0⟩)
abbrev lj:Stmt:=top 36
def uE:FnScope ["_law_script", "_law_k"] ["_law_script", "_law_k"] (ay lj):=⟨rfl,rfl,rfl,by decide,rfl,by decide,by decide⟩
abbrev kN:Stmt:=top 37
def gP:FnScope ["_law_feed_here", "_law_many", "_law_digit", "_law_mixed"] ["_law_feed_here", "_law_many"] (ay kN):=⟨rfl,rfl,rfl,by decide,rfl,by decide,by decide⟩
abbrev jC:Stmt:=top 41
def jf:FnScope ["_law_feed_here", "_law_many", "_law_order_here", "_law_k"] ["_law_feed_here", "_law_many"] (ay jC):=⟨rfl,rfl,rfl,by decide,rfl,by decide,by decide⟩
abbrev jW:Stmt:=top 43
def gi:FnScope ["_law_feed_here", "_law_numbers", "_law_found", "_law_number"] ["_law_feed_here", "_law_numbers"] (ay jW):=⟨rfl,rfl,rfl,by decide,rfl,by decide,by decide⟩
abbrev eU:Stmt:=top 42
def fu:FnScope ["_law_feed_here", "_law_numbers", "_law_many", "_law_some", "_law_number"] ["_law_feed_here", "_law_numbers"] (ay eU):=⟨rfl,rfl,rfl,by decide,rfl,by decide,by decide⟩
abbrev fh:Stmt:=top 44
def eK:FnScope ["_law_tree_here", "_law_some", "_law_one"] ["_law_tree_here"] (ay fh):=⟨rfl,rfl,rfl,by decide,rfl,by decide,by decide⟩
abbrev gh:Stmt:=top 34
def cI:FnScope ["tree", "way", "trees", "plain", "part", "inner"] ["tree"] (ay gh):=⟨rfl,rfl,rfl,by decide,rfl,by decide,by decide⟩
abbrev fi:Stmt:=top 45
def lH:FnScope ["_law_tree_here", "_law_names"] ["_law_tree_here", "_law_names"] (ay fi):=⟨rfl,rfl,rfl,by decide,rfl,by decide,by decide⟩
abbrev l7:Stmt:=top 39
def iH:FnScope ["_law_top", "_law_bottom", "_law_one", "_law_two"] ["_law_top", "_law_bottom"] (ay l7):=⟨rfl,rfl,rfl,by decide,rfl,by decide,by decide⟩
abbrev jU:Stmt:=top 38
def fU:FnScope ["_law_feed_here", "_law_far", "_law_number", "_law_k"] ["_law_feed_here", "_law_far"] (ay jU):=⟨rfl,rfl,rfl,by decide,rfl,by decide,by decide⟩
abbrev kL:Stmt:=top 40
def bD:FnScope ["_law_feed_here", "_law_way", "_law_left", "_law_top", "_law_wide", "_law_high", "_law_far"] ["_law_feed_here"] (ay kL):=⟨rfl,rfl,rfl,by decide,rfl,by decide,by decide⟩
abbrev kD:Stmt:=top 9
def uF:FnScope ["thing"] ["thing"] (ay kD):=⟨rfl,rfl,rfl,by decide,rfl,by decide,by decide⟩
abbrev fI:Stmt:=top 10
def eZ:FnScope ["one", "other"] ["one", "other"] (ay fI):=⟨rfl,rfl,rfl,by decide,rfl,by decide,by decide⟩
abbrev iu:Stmt:=top 11
def gD:FnScope ["thing", "top", "bottom"] ["thing"] (ay iu):=⟨rfl,rfl,rfl,by decide,rfl,by decide,by decide⟩
abbrev kT:Stmt:=top 18
def zT:FnScope ["thing"] ["thing"] (ay kT):=⟨rfl,rfl,rfl,by decide,rfl,by decide,by decide⟩
abbrev jE:Stmt:=top 19
def rn:FnScope ["thing"] ["thing"] (ay jE):=⟨rfl,rfl,rfl,by decide,rfl,by decide,by decide⟩
abbrev jG:Stmt:=top 22
def tF:FnScope ["thing"] ["thing"] (ay jG):=⟨rfl,rfl,rfl,by decide,rfl,by decide,by decide⟩
abbrev eD:Stmt:=top 23
def nD:FnScope ["thing"] ["thing"] (ay eD):=⟨rfl,rfl,rfl,by decide,rfl,by decide,by decide⟩
abbrev ng:Stmt:=top 20
def y9:FnScope ["thing"] ["thing"] (ay ng):=⟨rfl,rfl,rfl,by decide,rfl,by decide,by decide⟩
abbrev jO:Stmt:=top 27
def tZ:FnScope ["thing"] ["thing"] (ay jO):=⟨rfl,rfl,rfl,by decide,rfl,by decide,by decide⟩
abbrev lB:Stmt:=top 28
def iK:FnScope ["thing", "many", "seen", "waiting", "part"] ["thing", "many"] (ay lB):=⟨rfl,rfl,rfl,by decide,rfl,by decide,by decide⟩
abbrev ja:Stmt:=top 29
def qD:FnScope ["thing", "many"] ["thing", "many"] (ay ja):=⟨rfl,rfl,rfl,by decide,rfl,by decide,by decide⟩
abbrev jY:Stmt:=top 21
def rF:FnScope ["way"] ["way"] (ay jY):=⟨rfl,rfl,rfl,by decide,rfl,by decide,by decide⟩
abbrev kP:Stmt:=top 12
def jV:FnScope ["top", "bottom", "divisor"] ["top", "bottom"] (ay kP):=⟨rfl,rfl,rfl,by decide,rfl,by decide,by decide⟩
abbrev pB:Stmt:=top 13
def AF:FnScope ["one", "other"] ["one", "other"] (ay pB):=⟨rfl,rfl,rfl,by decide,rfl,by decide,by decide⟩
abbrev pL:Stmt:=top 14
def zZ:FnScope ["one", "other"] ["one", "other"] (ay pL):=⟨rfl,rfl,rfl,by decide,rfl,by decide,by decide⟩
abbrev m7:Stmt:=top 24
def eO:FnScope ["start", "length", "weights", "whole", "ahead", "found", "weight", "begin"] ["start", "length", "weights"] (ay m7):=⟨rfl,rfl,rfl,by decide,rfl,by decide,by decide⟩
abbrev jd:Stmt:=top 25
def ia:FnScope ["box", "way", "weights", "left", "top", "wide", "high"] ["box", "way", "weights"] (ay jd):=⟨rfl,rfl,rfl,by decide,rfl,by decide,by decide⟩
abbrev jS:Stmt:=top 30
def gc:FnScope ["tree", "found", "waiting", "part"] ["tree"] (ay jS):=⟨rfl,rfl,rfl,by decide,rfl,by decide,by decide⟩
abbrev iM:Stmt:=top 33
def jD:FnScope ["room", "weights", "tree", "way", "trees"] ["room", "weights", "tree"] (ay iM):=⟨rfl,rfl,rfl,by decide,rfl,by decide,by decide⟩
abbrev mE:Stmt:=top 32
def kZ:FnScope ["room", "weights", "tree", "placed", "part", "box"] ["room", "weights", "tree", "placed"] (ay mE):=⟨rfl,rfl,rfl,by decide,rfl,by decide,by decide⟩
abbrev iE:Stmt:=top 31
def mL:FnScope ["room", "weights", "tree", "placed"] ["room", "weights", "tree"] (ay iE):=⟨rfl,rfl,rfl,by decide,rfl,by decide,by decide⟩
abbrev kS:Stmt:=top 46
def dY:FnScope ["_law_script", "_law_k", "_law_feed_here", "_law_many", "_law_order_here", "_law_tree_here", "_law_due", "_law_found", "_law_names", "_law_great_here", "_law_some", "_law_room_here", "_law_weights"] ["_law_script"] (ay kS):=⟨rfl,rfl,rfl,by decide,rfl,by decide,by decide⟩
def kits:kj:=[((.b "NoneType"),(.b "bool"),false),((.b "bool"),(.b "bool"),true),((.b "int"),(.b "bool"),false),((.b "str"),(.b "bool"),false),((.b "tuple"),(.b "bool"),false),((.b "list"),(.b "bool"),false),((.b "dict"),(.b "bool"),false),((.b "NoneType"),(.b "int"),false),((.b "bool"),(.b "int"),true),((.b "int"),(.b "int"),true),((.b "str"),(.b "int"),false),((.b "tuple"),(.b "int"),false),((.b "list"),(.b "int"),false),((.b "dict"),(.b "int"),false),((.b "NoneType"),(.b "list"),false),((.b "bool"),(.b "list"),false),((.b "int"),(.b "list"),false),((.b "str"),(.b "list"),false),((.b "tuple"),(.b "list"),false),((.b "list"),(.b "list"),true),((.b "dict"),(.b "list"),false),((.b "NoneType"),(.b "str"),false),((.b "bool"),(.b "str"),false),((.b "int"),(.b "str"),false),((.b "str"),(.b "str"),true),((.b "tuple"),(.b "str"),false),((.b "list"),(.b "str"),false),((.b "dict"),(.b "str"),false),((.b "NoneType"),(.b "tuple"),false),((.b "bool"),(.b "tuple"),false),((.b "int"),(.b "tuple"),false),((.b "str"),(.b "tuple"),false),((.b "tuple"),(.b "tuple"),true),((.b "list"),(.b "tuple"),false),((.b "dict"),(.b "tuple"),false)]
def gC:D:=(.int 40)
def sS:D:=(.tup [(.str "across"),(.str "down")])
structure Txt(K:W.Frag)(mg:Str->Option Value)(a_:Addr)(f_:Addr)(g_:Addr)(b_:Addr)(c_:Addr)(d_:Addr):Prop where
 o_:GC K mg "MOST_WEIGHTS" gC
 K_:mg "NoBox"=some (.ref f_)
 v_:mg "NoFraction"=some (.ref a_)
 G_:mg "NoTree"=some (.ref d_)
 L_:mg "NoWay"=some (.ref g_)
 t_:mg "NoWeights"=some (.ref b_)
 D_:mg "TooMany"=some (.ref c_)
 MK:GC K mg "WAYS" sS
 C_:mg "abs"=none
 MX:mg "all"=none
 MR:mg "bool"=none
 MY:mg "int"=none
 h_:mg "isinstance"=none
 n_:mg "len"=none
 Mr:mg "list"=none
 Nb:mg "max"=none
 MZ:mg "min"=none
 r_:mg "range"=none
 Nc:mg "set"=none
 Nd:mg "str"=none
 M0:mg "sum"=none
 i_:mg "tuple"=none
 Nf:mg "zip"=none
 w_:W.excIn K a_ eR "ValueError.__new__"=true
 Mn:W.excIn K f_ eR "ValueError.__new__"=true
 Mo:W.excIn K g_ eR "ValueError.__new__"=true
 u_:W.excIn K b_ eR "ValueError.__new__"=true
 Em:W.excIn K c_ eR "ValueError.__new__"=true
 H_:W.excIn K d_ eR "ValueError.__new__"=true
 kits:KitsOk K mg kits
section
variable{P:Program}{w:World}{K:W.Frag}{mg:Str->Option Value}{base:Heap}{a_ f_ g_ b_ c_ d_:Addr}
def gj:PEx:=tR gC (.int 40) (λ_ _=>.int _)
def oy(e:E3):gj.G e=.ok (.val (.int 40)) e:=rfl
def ph:PEx:=tR sS (.tup [(.str "across"),(.str "down")]) (λ_ _=>.tup (.cons (.str _) (.cons (.str _) .nil)))
def EA(e:E3):ph.G e=.ok (.val (.tup [(.str "across"),(.str "down")])) e:=rfl
def kA:PSt:=
 (aC (xIf (qOf (pOp bEq (pFn dP (ag (ah 0) ao)) (au 0))) (aV (eB (ag (au 0) (ag (au 0) (ag (ah 1) ao))))) xNx)
  (aV (eB (ag (pOp bIx (ah 0) (pOp cS (ah 1) (pFn dP (ag (ah 0) ao)))) (ag (au 0) (ag (ah 1) ao))))))
def d7:PFn:=fnP [false,false] 2 kA
def uM:d7.ms=[false,false]:=rfl
def rB(T:Txt K mg a_ f_ g_ b_ c_ d_)(D:Def K mg "_law_feed" lj)  : Callee P w K mg base "_law_feed" (0+1) ["_law_script", "_law_k"] (spD K mg 2 d7.F):=by
 unfold d7 kA
 exact okP D uE (λ_ _ _ _ _ _=>ar2 λ_ _=>rfl) λf cdv A outer s H E hr=>
  (ar (a0 (aW (fc (K:=K) rfl hr.u180) dI (aD (eF (K:=K) rfl) dm rfl T.n_ c8 (aa (af 0) ai)) ak (aN _)) (ax (aG (cP (by refine aa ak ?_;refine aa ak ?_;refine aa (af 1) ?_;exact ai)))) aP)
   (ax (aG (cP (by refine aa (aM (ixK (K:=K) rfl) aL (af 0) (aE dX eI (af 1) (aD (eF (K:=K) rfl) dm rfl T.n_ c8 (aa (af 0) ai))) (λ_ _=>rfl)) ?_;refine aa ak ?_;refine aa (af 1) ?_;exact ai)))))
def lb:PSt:=
 (aC (rY 0 seL (au 1) (pOp bz (pOp bIx (ah 0) (au 1)) (au 1)))
  (aC (xIf (qOf (pOp bGe (pOp bIx (ah 0) (au 0)) (pOp gL (au 10) (au 18)))) (aC (aU false 2 (pOp cS (pOp bIx (ah 0) (au 0)) (ah 1)))
  (aC (rY 0 seL (au 0) (pOp ji (pOp bIx (ah 0) (au 0)) (ah 1)))
  (aV (ah 2)))) xNx)
  (aC (aU false 3 (pOp bz (pOp bz (pOp cS (pOp bIx (ah 0) (au 0)) (au 1000003)) (pOp dE (au 7919) (pOp bIx (ah 0) (au 2)))) (pOp dE (au 104729) (pOp bIx (ah 0) (au 1)))))
  (aC (aU false 3 (pOp cS (pOp dE (ah 3) (au 48271)) (au 2147483647)))
  (aV (pOp cS (pOp cS (pOp dE (ah 3) (pOp bz (pOp cS (ah 3) (au 65521)) (pOp bIx (ah 0) (au 1)))) (au 2147483629)) (ah 1)))))))
def aA:PFn:=fnP [true,false] 4 lb
def uB:aA.ms=[true,false]:=rfl
def tW(T:Txt K mg a_ f_ g_ b_ c_ d_)(D:Def K mg "_law_next" kN)  : Callee P w K mg base "_law_next" (0+1) ["_law_feed_here", "_law_many"] (spD K mg 2 aA.F):=by
 unfold aA lb
 exact okP D gP (λ_ _ _ _ _ _=>ar2 λ_ _=>rfl) λf cdv A outer s H E hr=>
  (ar (pQ (aE (bf (K:=K) rfl) bg (aM (ixK (K:=K) rfl) aL (af 0) ak (λ_ _=>rfl)) ak) (af 0) ak sg vH)
   (ar (a0 (aW nO oh (aM (ixK (K:=K) rfl) aL (af 0) ak (λ_ _=>rfl)) (aE l6 lW ak ak) (aN _)) (ar (aK (i:=2) gP.nd rfl (by trivial) (aE dX eI (aM (ixK (K:=K) rfl) aL (af 0) ak (λ_ _=>rfl)) (af 1)))
   (ar (pQ (aE gy kc (aM (ixK (K:=K) rfl) aL (af 0) ak (λ_ _=>rfl)) (af 1)) (af 0) ak sg vH)
   (ax (aG (af 2))))) aP)
   (ar (aK (i:=3) gP.nd rfl (by trivial) (aE (bf (K:=K) rfl) bg (aE (bf (K:=K) rfl) bg (aE dX eI (aM (ixK (K:=K) rfl) aL (af 0) ak (λ_ _=>rfl)) ak) (aE eg ek ak (aM (ixK (K:=K) rfl) aL (af 0) ak (λ_ _=>rfl)))) (aE eg ek ak (aM (ixK (K:=K) rfl) aL (af 0) ak (λ_ _=>rfl)))))
   (ar (aK (i:=3) gP.nd rfl (by trivial) (aE dX eI (aE eg ek (af 3) ak) ak))
   (ax (aG (aE dX eI (aE dX eI (aE eg ek (af 3) (aE (bf (K:=K) rfl) bg (aE dX eI (af 3) ak) (aM (ixK (K:=K) rfl) aL (af 0) ak (λ_ _=>rfl)))) ak) (af 1))))))))
def gm:PSt:=
 (cQ (jM 2 mX (ag (az aA (ag (ah 0) (ag (pOp bz (pFn dP (ag (ah 2) ao)) (au 1)) ao))) (ag (ah 3) ao))))
def jI:PSt:=
 (aC (aU true 2 (eB ao))
  (aC (iZ (iP (ag (ah 1) ao)) (gtN 3) (gm))
  (aV (ah 2))))
def dD:PFn:=fnP [true,false] 4 jI
def sH:dD.ms=[true,false]:=rfl
def qN(T:Txt K mg a_ f_ g_ b_ c_ d_)(D:Def K mg "_law_order" jC)(e_:Callee P w K mg base "_law_next" 1 ["_law_feed_here", "_law_many"] (spD K mg 2 aA.F)):Callee P w K mg base "_law_order" (1+1) ["_law_feed_here", "_law_many"] (spD K mg 2 dD.F):=by
 unfold dD jI gm
 exact okP D jf (λ_ _ _ _ _ _=>ar2 λ_ _=>rfl) λf cdv A outer s H E hr=>
  (ar (aK (i:=2) jf.nd rfl (by trivial) (cP ai))
   (ar (fX gn rfl (eG rfl T.r_ (aa (af 1) ai)) (aH (i:=3) jf.nd rfl (by trivial)) (ax (bR (ik rfl PySem.F.slot_list_insert PySem.F.type_list_insert yh yx (af 2) (aa (aw e_ (hr.mono (by omega)) rfl (aq aB) (aa (af 0) (aa (aE (bf (K:=K) rfl) bg (aD (eF (K:=K) rfl) dm rfl T.n_ c8 (aa (af 2) ai)) ak) ai))) (aa (af 3) ai))))))
   (ax (aG (af 2)))))
def dW:PSt:=
 (aU false 2 (cJ (ag (pOp bIx (eB (ag (ef "across") (ag (ef "down") ao))) (az aA (ag (ah 0) (ag (au 2) ao)))) (ag (pOp bIx (eB (ag (cJ (ag (ah 3) (ag (ah 2) ao))) (ag (cJ (ag (ah 2) (ag (ah 3) ao))) ao))) (az aA (ag (ah 0) (ag (au 2) ao)))) ao))))
def jJ:PSt:=
 (aC (aU false 2 (pOp bIx (ah 1) (au 0)))
  (aC (iZ (bY (pSl (ah 1) (oS (au 1)) oN)) (gtN 3) (dW))
  (aV (ah 2))))
def dB:PFn:=fnP [true,false] 4 jJ
def sZ:dB.ms=[true,false]:=rfl
def qS(T:Txt K mg a_ f_ g_ b_ c_ d_)(D:Def K mg "_law_chain" jW)(e_:Callee P w K mg base "_law_next" 1 ["_law_feed_here", "_law_many"] (spD K mg 2 aA.F)):Callee P w K mg base "_law_chain" (1+1) ["_law_feed_here", "_law_numbers"] (spD K mg 2 dB.F):=by
 unfold dB jJ dW
 exact okP D gi (λ_ _ _ _ _ _=>ar2 λ_ _=>rfl) λf cdv A outer s H E hr=>
  (ar (aK (i:=2) gi.nd rfl (by trivial) (aM (ixK (K:=K) rfl) aL (af 1) ak (λ_ _=>rfl)))
   (ar (fX gn rfl (cM rfl (nA rfl (af 1) (o3 ak) o7)) (aH (i:=3) gi.nd rfl (by trivial)) (ax (aK (i:=2) gi.nd rfl (by trivial) (bK (aa (aM (ixK (K:=K) rfl) aL (cP (aa da (aa da ai))) (aw e_ (hr.mono (by omega)) rfl (aq aB) (aa (af 0) (aa ak ai))) (λ_ _=>rfl)) (aa (aM (ixK (K:=K) rfl) aL (cP (aa (bK (aa (af 3) (aa (af 2) ai))) (aa (bK (aa (af 2) (aa (af 3) ai))) ai))) (aw e_ (hr.mono (by omega)) rfl (aq aB) (aa (af 0) (aa ak ai))) (λ_ _=>rfl)) ai))))))
   (ax (aG (af 2)))))
def d8(s:PFx [true,false]):PSt:=
 (aC (xIf (qOf (pOp bEq (pFn dP (ag (ah 1) ao)) (au 1))) (aV (pOp bIx (ah 1) (au 0))) xNx)
  (aC (aU false 2 (pOp bz (au 2) (az aA (ag (ah 0) (ag (pFn oB (ag (au 3) (ag (pOp ir (pFn dP (ag (ah 1) ao)) (au 1)) ao))) ao)))))
  (aC (xb (bY (pSl (ah 1) oN (oS (ah 2)))) (bY (pSl (ah 1) (oS (ah 2)) oN)) 3 4 (az aA (ag (ah 0) (ag (ah 2) ao))) (by decide))
  (aV (cJ (ag (pOp bIx (eB (ag (ef "across") (ag (ef "down") ao))) (az aA (ag (ah 0) (ag (au 2) ao)))) (ag (pFn iS (ag (pLC (bY (ah 3)) [none,some 0] (by decide) (gtN 0) qY (az s.fn (ag (ah 1) (ag (ah 0) ao)))) ao)) ao)))))))
def bE:Nat->PFx [true,false]
 |0=>PFx.none [true,false]
 |n+1=>PFx.of [true,false] 5 (d8 (bE n))
def sV{n:Nat}(T:Txt K mg a_ f_ g_ b_ c_ d_)(D:Def K mg "_law_tree" eU)(e_:Callee P w K mg base "_law_next" 1 ["_law_feed_here", "_law_many"] (spD K mg 2 aA.F))(E_:Callee P w K mg base "_law_tree" (3+n) ["_law_feed_here", "_law_numbers"] (spD K mg 2 (bE n).F)):Callee P w K mg base "_law_tree" (3+n+1) ["_law_feed_here", "_law_numbers"] (spD K mg 2 (bE (n+1)).F):=by
 show Callee P w K mg base _ _ _ (spD K mg _ (PFx.of [true,false] 5 (d8 (bE n))).F)
 unfold d8
 exact okX D fu (λ_ _ _ _ _ _=>ar2 λ_ _=>rfl) λf cdv A outer s H E hr=>
  (ar (a0 (aW (fc (K:=K) rfl hr.u180) dI (aD (eF (K:=K) rfl) dm rfl T.n_ c8 (aa (af 1) ai)) ak (aN _)) (ax (aG (aM (ixK (K:=K) rfl) aL (af 1) ak (λ_ _=>rfl)))) aP)
   (ar (aK (i:=2) fu.nd rfl (by trivial) (aE (bf (K:=K) rfl) bg ak (aw e_ (hr.mono (by omega)) rfl (aq aB) (aa (af 0) (aa (aD (p7 rfl) vp rfl T.MZ yz (aa ak (aa (aE ft fg (aD (eF (K:=K) rfl) dm rfl T.n_ c8 (aa (af 1) ai)) ak) ai))) ai)))))
   (Bj (ow:=false) (hsb:=by decide) (xr (iT:=3) ["_law_feed_here", "_law_numbers", "_law_many", "_law_some", "_law_number"] (ay eU).names ["_law_number"] [none] rfl fu.nd rfl (by trivial) (cM rfl (nA rfl (af 1) o7 (o3 (af 2)))) (λ_ _ _ _ _=>(aH (i:=0) (show List.Nodup (["_law_number"]:List Str) from by decide) rfl (by trivial))) (λ_ _ _ _ _=>(cP (aa (af 0) ai)))) gn rfl rfl (cM rfl (nA rfl (af 1) (o3 (af 2)) o7)) (aH (i:=4) fu.nd rfl (by trivial)) (af 3) (aw e_ (hr.mono (by omega)) rfl (aq aB) (aa (af 0) (aa (af 2) ai))) (af 4)
   (ax (aG (bK (aa (aM (ixK (K:=K) rfl) aL (cP (aa da (aa da ai))) (aw e_ (hr.mono (by omega)) rfl (aq aB) (aa (af 0) (aa ak ai))) (λ_ _=>rfl)) (aa (fQ (mq (K:=K) rfl) kh rfl T.i_ bI (aa (fW ["_law_feed_here", "_law_numbers", "_law_many", "_law_some", "_law_number"] (ay eU).names ["_law_part", "_law_feed_here"] [none,some 0] rfl (cM rfl (af 3)) (λ_ _ _ _ _=>(aH (i:=0) (show List.Nodup (["_law_part", "_law_feed_here"]:List Str) from by decide) rfl (by trivial))) (λ_ _ _ _ _=>(aw E_ (hr.mono (by omega)) rfl fE (aa (af 1) (aa (af 0) ai))))) ai)) ai))))))))
theorem lu(T:Txt K mg a_ f_ g_ b_ c_ d_)(D:Def K mg "_law_tree" eU)(e_:Callee P w K mg base "_law_next" 1 ["_law_feed_here", "_law_many"] (spD K mg 2 aA.F)):∀n,Callee P w K mg base "_law_tree" (3+n) ["_law_feed_here", "_law_numbers"] (spD K mg 2 (bE n).F)
 |0=>ok0 D fu (λ_ _ _ _ _ _=>ar2 λ_ _=>rfl)
 |n+1=>sV T D e_ (lu T D e_ n)
def eJ(s:PFx [false]):PSt:=
 (xIf (qAn (qOf (pFn (aY kits) (ag (ah 2) (ag (pTy "tuple") ao)))) (qOf (pOp bEq (pOp bIx (ah 2) (au 0)) (pOp bIx (ah 0) (au 0))))) (aU true 1 (pOp bz (ah 1) (pFn sX (ag (pOp bIx (ah 2) (au 1)) ao)))) (cQ (jM 1 gx (ag (ah 2) ao))))
def dG(s:PFx [false]):PSt:=
 (aC (xIf (qNo (qOf (pFn (aY kits) (ag (ah 0) (ag (pTy "tuple") ao))))) (aV (ah 0)) xNx)
  (aC (aU true 1 (eB ao))
  (aC (iZ (bY (pLC (bY (pOp bIx (ah 0) (au 1))) [none] (by decide) (gtN 0) qY (az s.fn (ag (ah 0) ao)))) (gtN 2) (eJ s))
  (aV (cJ (ag (pOp bIx (ah 0) (au 0)) (ag (pFn iS (ag (ah 1) ao)) ao)))))))
def bq:Nat->PFx [false]
 |0=>PFx.none [false]
 |n+1=>PFx.of [false] 3 (dG (bq n))
def qH{n:Nat}(T:Txt K mg a_ f_ g_ b_ c_ d_)(D:Def K mg "_law_plain" fh)(B_:Callee P w K mg base "_law_plain" (2+n) ["_law_tree_here"] (spD K mg 1 (bq n).F)):Callee P w K mg base "_law_plain" (2+n+1) ["_law_tree_here"] (spD K mg 1 (bq (n+1)).F):=by
 show Callee P w K mg base _ _ _ (spD K mg _ (PFx.of [false] 3 (dG (bq n))).F)
 unfold dG eJ
 exact okX D eK (λ_ _ _ _ _ _=>ar1 λ_=>rfl) λf cdv A outer s H E hr=>
  (ar (a0 (cL (bQ (aD (dO (K:=K) rfl) (cK T.kits) rfl T.h_ aO (aa (af 0) (aa (dM rfl T.i_ bI) ai))))) (ax (aG (af 0))) aP)
   (ar (aK (i:=1) eK.nd rfl (by trivial) (cP ai))
   (ar (fX gn rfl (cM rfl (fW ["_law_tree_here", "_law_some", "_law_one"] (ay fh).names ["_law_one"] [none] rfl (cM rfl (aM (ixK (K:=K) rfl) aL (af 0) ak (λ_ _=>rfl))) (λ_ _ _ _ _=>(aH (i:=0) (show List.Nodup (["_law_one"]:List Str) from by decide) rfl (by trivial))) (λ_ _ _ _ _=>(aw B_ (hr.mono (by omega)) rfl fE (aa (af 0) ai))))) (aH (i:=2) eK.nd rfl (by trivial)) (ax (a0 (ZW.dt (zP (bQ (aD (dO (K:=K) rfl) (cK T.kits) rfl T.h_ aO (aa (af 2) (aa (dM rfl T.i_ bI) ai)))) (uX (aW (fc (K:=K) rfl hr.u180) dI (aM (ixK (K:=K) rfl) aL (af 2) ak (λ_ _=>rfl)) (aM (ixK (K:=K) rfl) aL (af 0) ak (λ_ _=>rfl)) (aN _))))) (ax (aK (i:=1) eK.nd rfl (by trivial) (aE (bf (K:=K) rfl) bg (af 1) (fQ (HI (K:=K) rfl) Dj rfl T.Mr vB (aa (aM (ixK (K:=K) rfl) aL (af 2) ak (λ_ _=>rfl)) ai))))) (ax (bR (ik rfl Pq Pr ib jv (af 1) (aa (af 2) ai)))))))
   (ax (aG (bK (aa (aM (ixK (K:=K) rfl) aL (af 0) ak (λ_ _=>rfl)) (aa (fQ (mq (K:=K) rfl) kh rfl T.i_ bI (aa (af 1) ai)) ai))))))))
theorem j4(T:Txt K mg a_ f_ g_ b_ c_ d_)(D:Def K mg "_law_plain" fh)  : ∀n,Callee P w K mg base "_law_plain" (2+n) ["_law_tree_here"] (spD K mg 1 (bq n).F)
 |0=>ok0 D eK (λ_ _ _ _ _ _=>ar1 λ_=>rfl)
 |n+1=>qH T D (j4 T D n)
def er(s:PFx [false]):PSt:=
 (aC (aU false 5 (az s.fn (ag (ah 4) ao)))
  (xIf (qAn (qOf (pFn (aY kits) (ag (ah 5) (ag (pTy "tuple") ao)))) (qOf (pOp bEq (pOp bIx (ah 5) (au 0)) (ah 1)))) (cQ (jM 3 hE (ag (pOp bIx (ah 5) (au 1)) ao))) (cQ (jM 3 gx (ag (ah 5) ao)))))
def c9(s:PFx [false]):PSt:=
 (aC (xIf (qNo (qOf (pFn (aY kits) (ag (ah 0) (ag (pTy "tuple") ao))))) (aV (ah 0)) xNx)
  (aC (mB (ah 0) (gtX (gtT 2 (cC (gtN 1) (cC (gtN 2) gB)))))
  (aC (aU true 3 (eB ao))
  (aC (iZ (bY (ah 2)) (gtN 4) (er s))
  (aV (cJ (ag (ah 1) (ag (pFn iS (ag (ah 3) ao)) ao))))))))
def aT:Nat->PFx [false]
 |0=>PFx.none [false]
 |n+1=>PFx.of [false] 6 (c9 (aT n))
def oZ{n:Nat}(T:Txt K mg a_ f_ g_ b_ c_ d_)(D:Def K mg "plain_form" gh)(p_:Callee P w K mg base "plain_form" (2+n) ["tree"] (spD K mg 1 (aT n).F)):Callee P w K mg base "plain_form" (2+n+1) ["tree"] (spD K mg 1 (aT (n+1)).F):=by
 show Callee P w K mg base _ _ _ (spD K mg _ (PFx.of [false] 6 (c9 (aT n))).F)
 unfold c9 er
 exact okX D cI (λ_ _ _ _ _ _=>ar1 λ_=>rfl) λf cdv A outer s H E hr=>
  (ar (a0 (cL (bQ (aD (dO (K:=K) rfl) (cK T.kits) rfl T.h_ aO (aa (af 0) (aa (dM rfl T.i_ bI) ai))))) (ax (aG (af 0))) aP)
   (ar (mz (af 0) (ZG.weak (jj rfl rfl (bJ (aH (i:=1) cI.nd rfl (by trivial)) (bJ (aH (i:=2) cI.nd rfl (by trivial)) gu)))))
   (ar (aK (i:=3) cI.nd rfl (by trivial) (cP ai))
   (ar (fX gn rfl (cM rfl (af 2)) (aH (i:=4) cI.nd rfl (by trivial)) (ar (aK (i:=5) cI.nd rfl (by trivial) (aw p_ (hr.mono (by omega)) rfl (aq aB) (aa (af 4) ai)))
   (ax (a0 (ZW.dt (zP (bQ (aD (dO (K:=K) rfl) (cK T.kits) rfl T.h_ aO (aa (af 5) (aa (dM rfl T.i_ bI) ai)))) (uX (aW (fc (K:=K) rfl hr.u180) dI (aM (ixK (K:=K) rfl) aL (af 5) ak (λ_ _=>rfl)) (af 1) (aN _))))) (ax (bR (ik rfl PR Qp (kq (K:=K) rfl) kW (af 3) (aa (aM (ixK (K:=K) rfl) aL (af 5) ak (λ_ _=>rfl)) ai)))) (ax (bR (ik rfl Pq Pr ib jv (af 3) (aa (af 5) ai))))))))
   (ax (aG (bK (aa (af 1) (aa (fQ (mq (K:=K) rfl) kh rfl T.i_ bI (aa (af 3) ai)) ai)))))))))
theorem js(T:Txt K mg a_ f_ g_ b_ c_ d_)(D:Def K mg "plain_form" gh)  : ∀n,Callee P w K mg base "plain_form" (2+n) ["tree"] (spD K mg 1 (aT n).F)
 |0=>ok0 D cI (λ_ _ _ _ _ _=>ar1 λ_=>rfl)
 |n+1=>oZ T D (js T D n)
def dC(s:PFx [false,false]):PSt:=
 (aC (xIf (qNo (qOf (pFn (aY kits) (ag (ah 0) (ag (pTy "tuple") ao))))) (aV (pOp bIx (ah 1) (ah 0))) xNx)
  (aV (cJ (ag (pOp bIx (ah 0) (au 0)) (ag (pFn iS (ag (pLC (bY (pOp bIx (ah 0) (au 1))) [none,some 1] (by decide) (gtN 0) qY (az s.fn (ag (ah 0) (ag (ah 1) ao)))) ao)) ao)))))
def bC:Nat->PFx [false,false]
 |0=>PFx.none [false,false]
 |n+1=>PFx.of [false,false] 2 (dC (bC n))
def qR{n:Nat}(T:Txt K mg a_ f_ g_ b_ c_ d_)(D:Def K mg "_law_named" fi)(z_:Callee P w K mg base "_law_named" (2+n) ["_law_tree_here", "_law_names"] (spD K mg 2 (bC n).F)):Callee P w K mg base "_law_named" (2+n+1) ["_law_tree_here", "_law_names"] (spD K mg 2 (bC (n+1)).F):=by
 show Callee P w K mg base _ _ _ (spD K mg _ (PFx.of [false,false] 2 (dC (bC n))).F)
 unfold dC
 exact okX D lH (λ_ _ _ _ _ _=>ar2 λ_ _=>rfl) λf cdv A outer s H E hr=>
  (ar (a0 (cL (bQ (aD (dO (K:=K) rfl) (cK T.kits) rfl T.h_ aO (aa (af 0) (aa (dM rfl T.i_ bI) ai))))) (ax (aG (aM (ixK (K:=K) rfl) aL (af 1) (af 0) (λ_ _=>rfl)))) aP)
   (ax (aG (bK (aa (aM (ixK (K:=K) rfl) aL (af 0) ak (λ_ _=>rfl)) (aa (fQ (mq (K:=K) rfl) kh rfl T.i_ bI (aa (fW ["_law_tree_here", "_law_names"] (ay fi).names ["_law_one", "_law_names"] [none,some 1] rfl (cM rfl (aM (ixK (K:=K) rfl) aL (af 0) ak (λ_ _=>rfl))) (λ_ _ _ _ _=>(aH (i:=0) (show List.Nodup (["_law_one", "_law_names"]:List Str) from by decide) rfl (by trivial))) (λ_ _ _ _ _=>(aw z_ (hr.mono (by omega)) rfl fE (aa (af 0) (aa (af 1) ai))))) ai)) ai))))))
theorem jZ(T:Txt K mg a_ f_ g_ b_ c_ d_)(D:Def K mg "_law_named" fi)  : ∀n,Callee P w K mg base "_law_named" (2+n) ["_law_tree_here", "_law_names"] (spD K mg 2 (bC n).F)
 |0=>ok0 D lH (λ_ _ _ _ _ _=>ar2 λ_ _=>rfl)
 |n+1=>qR T D (jZ T D n)
def f9:PSt:=
 (iw 2 3 (ag (ah 3) (ag (pOp cS (ah 2) (ah 3)) ao)))
def lC:PSt:=
 (aC (iw 2 3 (ag (pFn iI (ag (ah 0) ao)) (ag (pFn iI (ag (ah 1) ao)) ao)))
  (aC (xWh (qOf (pOp bGt (ah 3) (au 0))) (f9))
  (aC (xIf (qOf (pOp bLt (ah 1) (au 0))) (aU false 2 (pOp ir (au 0) (ah 2))) xNx)
  (aV (cJ (ag (pOp ji (ah 0) (ah 2)) (ag (pOp ji (ah 1) (ah 2)) ao)))))))
def bW:PFn:=fnP [false,false] 4 lC
def wu:bW.ms=[false,false]:=rfl
def uP(T:Txt K mg a_ f_ g_ b_ c_ d_)(D:Def K mg "_law_low" l7)  : Callee P w K mg base "_law_low" (0+1) ["_law_top", "_law_bottom"] (spD K mg 2 bW.F):=by
 unfold bW lC f9
 exact okP D iH (λ_ _ _ _ _ _=>ar2 λ_ _=>rfl) λf cdv A outer s H E hr=>
  (ar (fq (i:=2) (j:=3) rfl iH.nd rfl rfl (by decide) rfl rfl (aa (aD fJ iW rfl T.C_ jo (aa (af 0) ai)) (aa (aD fJ iW rfl T.C_ jo (aa (af 1) ai)) ai)) rfl)
   (ar (kJ gn (aW nH ox (af 3) ak (aN _)) (ax (fq (i:=2) (j:=3) rfl iH.nd rfl rfl (by decide) rfl rfl (aa (af 3) (aa (aE dX eI (af 2) (af 3)) ai)) rfl)))
   (ar (a0 (aW xi xE (af 1) ak (aN _)) (ax (aK (i:=2) iH.nd rfl (by trivial) (aE ft fg ak (af 2)))) aP)
   (ax (aG (bK (aa (aE gy kc (af 0) (af 2)) (aa (aE gy kc (af 1) (af 2)) ai))))))))
def jl:PSt:=
 (aU false 2 (pOp bz (pOp dE (ah 2) (pOp gL (au 10) (au 6))) (az aA (ag (ah 0) (ag (pOp gL (au 10) (au 6)) ao)))))
def jP:PSt:=
 (aC (aU false 2 (au 0))
  (aC (iZ (iP (ag (au 6) ao)) (gtN 3) (jl))
  (aV (pOp ir (pOp cS (ah 2) (pOp bz (pOp dE (au 2) (ah 1)) (au 1))) (ah 1)))))
def bM:PFn:=fnP [true,false] 4 jP
def sM:bM.ms=[true,false]:=rfl
def qK(T:Txt K mg a_ f_ g_ b_ c_ d_)(D:Def K mg "_law_great" jU)(e_:Callee P w K mg base "_law_next" 1 ["_law_feed_here", "_law_many"] (spD K mg 2 aA.F)):Callee P w K mg base "_law_great" (1+1) ["_law_feed_here", "_law_far"] (spD K mg 2 bM.F):=by
 unfold bM jP jl
 exact okP D fU (λ_ _ _ _ _ _=>ar2 λ_ _=>rfl) λf cdv A outer s H E hr=>
  (ar (aK (i:=2) fU.nd rfl (by trivial) ak)
   (ar (fX gn rfl (eG rfl T.r_ (aa ak ai)) (aH (i:=3) fU.nd rfl (by trivial)) (ax (aK (i:=2) fU.nd rfl (by trivial) (aE (bf (K:=K) rfl) bg (aE eg ek (af 2) (aE l6 lW ak ak)) (aw e_ (hr.mono (by omega)) rfl (aq aB) (aa (af 0) (aa (aE l6 lW ak ak) ai)))))))
   (ax (aG (aE ft fg (aE dX eI (af 2) (aE (bf (K:=K) rfl) bg (aE eg ek ak (af 1)) ak)) (af 1))))))
def iC:PSt:=
 (aC (aU false 1 (az aA (ag (ah 0) (ag (au 6) ao))))
  (aC (iw 2 3 (ag (cJ (ag (pOp ir (az aA (ag (ah 0) (ag (au 19) ao))) (au 9)) (ag (au 1) ao))) (ag (cJ (ag (pOp ir (az aA (ag (ah 0) (ag (au 19) ao))) (au 9)) (ag (au 1) ao))) ao)))
  (aC (iw 4 5 (ag (cJ (ag (pOp bz (au 1) (az aA (ag (ah 0) (ag (au 12) ao)))) (ag (au 1) ao))) (ag (cJ (ag (pOp bz (au 1) (az aA (ag (ah 0) (ag (au 12) ao)))) (ag (au 1) ao))) ao)))
  (aC (xIf (qOf (pOp bEq (ah 1) (au 1))) (aU false 5 (ah 4)) xNx)
  (aC (xIf (qOf (pOp bEq (ah 1) (au 2))) (aU false 4 (cJ (ag (pOp bz (au 1) (az aA (ag (ah 0) (ag (au 99) ao)))) (ag (au 1) ao)))) xNx)
  (aC (xIf (qOf (pOp bEq (ah 1) (au 3))) (aU false 5 (cJ (ag (pOp bz (au 1) (az aA (ag (ah 0) (ag (au 99) ao)))) (ag (au 1) ao)))) xNx)
  (aC (xIf (qOf (pOp bEq (ah 1) (au 4))) (aC (iw 2 3 (ag (az bW (ag (pOp ir (az aA (ag (ah 0) (ag (au 199) ao))) (au 99)) (ag (pOp bz (au 1) (az aA (ag (ah 0) (ag (au 30) ao)))) ao))) (ag (az bW (ag (az aA (ag (ah 0) (ag (au 9) ao))) (ag (au 7) ao))) ao)))
  (iw 4 5 (ag (az bW (ag (pOp bz (au 1) (az aA (ag (ah 0) (ag (au 99) ao)))) (ag (pOp bz (au 1) (az aA (ag (ah 0) (ag (au 30) ao)))) ao))) (ag (az bW (ag (pOp bz (au 1) (az aA (ag (ah 0) (ag (au 99) ao)))) (ag (au 11) ao))) ao)))) xNx)
  (aC (xIf (qOf (pOp bEq (ah 1) (au 5))) (aC (aU false 6 (pOp ir (pOp gL (au 10) (au 30)) (au 1)))
  (aC (iw 2 3 (ag (az bW (ag (az bM (ag (ah 0) (ag (ah 6) ao))) (ag (pOp bz (au 1) (pFn iI (ag (az bM (ag (ah 0) (ag (pOp ir (ah 6) (au 1)) ao))) ao))) ao))) (ag (cJ (ag (az bM (ag (ah 0) (ag (ah 6) ao))) (ag (au 1) ao))) ao)))
  (iw 4 5 (ag (cJ (ag (pOp bz (au 1) (pFn iI (ag (az bM (ag (ah 0) (ag (pOp ir (ah 6) (au 1)) ao))) ao))) (ag (au 1) ao))) (ag (az bW (ag (pOp bz (au 1) (pFn iI (ag (az bM (ag (ah 0) (ag (pOp ir (ah 6) (au 1)) ao))) ao))) (ag (ah 6) ao))) ao))))) xNx)
  (aV (cJ (ag (ah 2) (ag (ah 3) (ag (ah 4) (ag (ah 5) ao))))))))))))))
def d4:PFn:=fnP [true] 7 iC
def uQ:d4.ms=[true]:=rfl
def tJ(T:Txt K mg a_ f_ g_ b_ c_ d_)(D:Def K mg "_law_room" kL)(e_:Callee P w K mg base "_law_next" 1 ["_law_feed_here", "_law_many"] (spD K mg 2 aA.F))(x_:Callee P w K mg base "_law_low" 1 ["_law_top", "_law_bottom"] (spD K mg 2 bW.F))(s_:Callee P w K mg base "_law_great" 2 ["_law_feed_here", "_law_far"] (spD K mg 2 bM.F)):Callee P w K mg base "_law_room" (2+1) ["_law_feed_here"] (spD K mg 1 d4.F):=by
 unfold d4 iC
 exact okP D bD (λ_ _ _ _ _ _=>ar1 λ_=>rfl) λf cdv A outer s H E hr=>
  (ar (aK (i:=1) bD.nd rfl (by trivial) (aw e_ (hr.mono (by omega)) rfl (aq aB) (aa (af 0) (aa ak ai))))
   (ar (fq (i:=2) (j:=3) rfl bD.nd rfl rfl (by decide) rfl rfl (aa (bK (aa (aE ft fg (aw e_ (hr.mono (by omega)) rfl (aq aB) (aa (af 0) (aa ak ai))) ak) (aa ak ai))) (aa (bK (aa (aE ft fg (aw e_ (hr.mono (by omega)) rfl (aq aB) (aa (af 0) (aa ak ai))) ak) (aa ak ai))) ai)) rfl)
   (ar (fq (i:=4) (j:=5) rfl bD.nd rfl rfl (by decide) rfl rfl (aa (bK (aa (aE (bf (K:=K) rfl) bg ak (aw e_ (hr.mono (by omega)) rfl (aq aB) (aa (af 0) (aa ak ai)))) (aa ak ai))) (aa (bK (aa (aE (bf (K:=K) rfl) bg ak (aw e_ (hr.mono (by omega)) rfl (aq aB) (aa (af 0) (aa ak ai)))) (aa ak ai))) ai)) rfl)
   (ar (a0 (aW (fc (K:=K) rfl hr.u180) dI (af 1) ak (aN _)) (ax (aK (i:=5) bD.nd rfl (by trivial) (af 4))) aP)
   (ar (a0 (aW (fc (K:=K) rfl hr.u180) dI (af 1) ak (aN _)) (ax (aK (i:=4) bD.nd rfl (by trivial) (bK (aa (aE (bf (K:=K) rfl) bg ak (aw e_ (hr.mono (by omega)) rfl (aq aB) (aa (af 0) (aa ak ai)))) (aa ak ai))))) aP)
   (ar (a0 (aW (fc (K:=K) rfl hr.u180) dI (af 1) ak (aN _)) (ax (aK (i:=5) bD.nd rfl (by trivial) (bK (aa (aE (bf (K:=K) rfl) bg ak (aw e_ (hr.mono (by omega)) rfl (aq aB) (aa (af 0) (aa ak ai)))) (aa ak ai))))) aP)
   (ar (a0 (aW (fc (K:=K) rfl hr.u180) dI (af 1) ak (aN _)) (ar (fq (i:=2) (j:=3) rfl bD.nd rfl rfl (by decide) rfl rfl (aa (aw x_ (hr.mono (by omega)) rfl (aq aB) (aa (aE ft fg (aw e_ (hr.mono (by omega)) rfl (aq aB) (aa (af 0) (aa ak ai))) ak) (aa (aE (bf (K:=K) rfl) bg ak (aw e_ (hr.mono (by omega)) rfl (aq aB) (aa (af 0) (aa ak ai)))) ai))) (aa (aw x_ (hr.mono (by omega)) rfl (aq aB) (aa (aw e_ (hr.mono (by omega)) rfl (aq aB) (aa (af 0) (aa ak ai))) (aa ak ai))) ai)) rfl)
   (ax (fq (i:=4) (j:=5) rfl bD.nd rfl rfl (by decide) rfl rfl (aa (aw x_ (hr.mono (by omega)) rfl (aq aB) (aa (aE (bf (K:=K) rfl) bg ak (aw e_ (hr.mono (by omega)) rfl (aq aB) (aa (af 0) (aa ak ai)))) (aa (aE (bf (K:=K) rfl) bg ak (aw e_ (hr.mono (by omega)) rfl (aq aB) (aa (af 0) (aa ak ai)))) ai))) (aa (aw x_ (hr.mono (by omega)) rfl (aq aB) (aa (aE (bf (K:=K) rfl) bg ak (aw e_ (hr.mono (by omega)) rfl (aq aB) (aa (af 0) (aa ak ai)))) (aa ak ai))) ai)) rfl))) aP)
   (ar (a0 (aW (fc (K:=K) rfl hr.u180) dI (af 1) ak (aN _)) (ar (aK (i:=6) bD.nd rfl (by trivial) (aE ft fg (aE l6 lW ak ak) ak))
   (ar (fq (i:=2) (j:=3) rfl bD.nd rfl rfl (by decide) rfl rfl (aa (aw x_ (hr.mono (by omega)) rfl (aq aB) (aa (aw s_ (hr.mono (by omega)) rfl (aq aB) (aa (af 0) (aa (af 6) ai))) (aa (aE (bf (K:=K) rfl) bg ak (aD fJ iW rfl T.C_ jo (aa (aw s_ (hr.mono (by omega)) rfl (aq aB) (aa (af 0) (aa (aE ft fg (af 6) ak) ai))) ai))) ai))) (aa (bK (aa (aw s_ (hr.mono (by omega)) rfl (aq aB) (aa (af 0) (aa (af 6) ai))) (aa ak ai))) ai)) rfl)
   (ax (fq (i:=4) (j:=5) rfl bD.nd rfl rfl (by decide) rfl rfl (aa (bK (aa (aE (bf (K:=K) rfl) bg ak (aD fJ iW rfl T.C_ jo (aa (aw s_ (hr.mono (by omega)) rfl (aq aB) (aa (af 0) (aa (aE ft fg (af 6) ak) ai))) ai))) (aa ak ai))) (aa (aw x_ (hr.mono (by omega)) rfl (aq aB) (aa (aE (bf (K:=K) rfl) bg ak (aD fJ iW rfl T.C_ jo (aa (aw s_ (hr.mono (by omega)) rfl (aq aB) (aa (af 0) (aa (aE ft fg (af 6) ak) ai))) ai))) (aa (af 6) ai))) ai)) rfl)))) aP)
   (ax (aG (bK (by refine aa (af 2) ?_;refine aa (af 3) ?_;refine aa (af 4) ?_;refine aa (af 5) ?_;exact ai))))))))))))
def iL:PSt:=
 (aV (ky (pFn (aY kits) (ag (ah 0) (ag (pTy "int") ao))) (Bh (pFn (aY kits) (ag (ah 0) (ag (pTy "bool") ao))))))
def br:PFn:=fnP [false] 1 iL
def uC:br.ms=[false]:=rfl
def sd(T:Txt K mg a_ f_ g_ b_ c_ d_)(D:Def K mg "is_whole" kD)  : Callee P w K mg base "is_whole" (0+1) ["thing"] (spD K mg 1 br.F):=by
 unfold br iL
 exact okP D uF (λ_ _ _ _ _ _=>ar1 λ_=>rfl) λf cdv A outer s H E hr=>
  (ax (aG (jm (aD (dO (K:=K) rfl) (cK T.kits) rfl T.h_ aO (aa (af 0) (aa (dM rfl T.MY zQ) ai))) (ka (Jy (aD (dO (K:=K) rfl) (cK T.kits) rfl T.h_ aO (aa (af 0) (aa (dM rfl T.MR EU) ai))))))))
def cN:PSt:=
 (iw 0 1 (ag (ah 1) (ag (pOp cS (ah 0) (ah 1)) ao)))
def fF:PSt:=
 (aC (iw 0 1 (ag (pFn iI (ag (ah 0) ao)) (ag (pFn iI (ag (ah 1) ao)) ao)))
  (aC (xWh (qOf (pOp bNe (ah 1) (au 0))) (cN))
  (aV (ah 0))))
def bo:PFn:=fnP [false,false] 2 fF
def mJ:bo.ms=[false,false]:=rfl
def lX(T:Txt K mg a_ f_ g_ b_ c_ d_)(D:Def K mg "common_divisor" fI)  : Callee P w K mg base "common_divisor" (0+1) ["one", "other"] (spD K mg 2 bo.F):=by
 unfold bo fF cN
 exact okP D eZ (λ_ _ _ _ _ _=>ar2 λ_ _=>rfl) λf cdv A outer s H E hr=>
  (ar (fq (i:=0) (j:=1) rfl eZ.nd rfl rfl (by decide) rfl rfl (aa (aD fJ iW rfl T.C_ jo (aa (af 0) ai)) (aa (aD fJ iW rfl T.C_ jo (aa (af 1) ai)) ai)) rfl)
   (ar (kJ gn (aW (kr (K:=K) rfl hr.u180) iJ (af 1) ak (aN _)) (ax (fq (i:=0) (j:=1) rfl eZ.nd rfl rfl (by decide) rfl rfl (aa (af 1) (aa (aE dX eI (af 0) (af 1)) ai)) rfl)))
   (ax (aG (af 0)))))
def iq:PSt:=
 (aC (xIf (qO (qNo (qOf (pFn (aY kits) (ag (ah 0) (ag (pTy "tuple") ao))))) (qOf (pOp bNe (pFn dP (ag (ah 0) ao)) (au 2)))) (aV (pBl false)) xNx)
  (aC (mB (ah 0) (gtX (gtT 2 (cC (gtN 1) (cC (gtN 2) gB)))))
  (aC (xIf (qO (qNo (qOf (az br (ag (ah 1) ao)))) (qNo (qOf (az br (ag (ah 2) ao))))) (aV (pBl false)) xNx)
  (aV (ky (pOp bGe (ah 2) (au 1)) (pOp bEq (az bo (ag (ah 1) (ag (ah 2) ao))) (au 1)))))))
def bX:PFn:=fnP [false] 3 iq
def oU:bX.ms=[false]:=rfl
def nG(T:Txt K mg a_ f_ g_ b_ c_ d_)(D:Def K mg "is_fraction" iu)(l_:Callee P w K mg base "is_whole" 1 ["thing"] (spD K mg 1 br.F))(j_:Callee P w K mg base "common_divisor" 1 ["one", "other"] (spD K mg 2 bo.F)):Callee P w K mg base "is_fraction" (1+1) ["thing"] (spD K mg 1 bX.F):=by
 unfold bX iq
 exact okP D gD (λ_ _ _ _ _ _=>ar1 λ_=>rfl) λf cdv A outer s H E hr=>
  (ar (a0 (ZW.dt (gY (cL (bQ (aD (dO (K:=K) rfl) (cK T.kits) rfl T.h_ aO (aa (af 0) (aa (dM rfl T.i_ bI) ai))))) (jn (aW (kr (K:=K) rfl hr.u180) iJ (aD (eF (K:=K) rfl) dm rfl T.n_ c8 (aa (af 0) ai)) ak (aN _))))) (ax (aG gU)) aP)
   (ar (mz (af 0) (ZG.weak (jj rfl rfl (bJ (aH (i:=1) gD.nd rfl (by trivial)) (bJ (aH (i:=2) gD.nd rfl (by trivial)) gu)))))
   (ar (a0 (ZW.dt (gY (cL (bQ (aw l_ (hr.mono (by omega)) rfl (aq aB) (aa (af 1) ai)))) (jn (cL (bQ (aw l_ (hr.mono (by omega)) rfl (aq aB) (aa (af 2) ai))))))) (ax (aG gU)) aP)
   (ax (aG (jm (fo nO oh (af 2) ak (aN _)) (ka (fo (fc (K:=K) rfl hr.u180) dI (aw j_ (hr.mono (by omega)) rfl (aq aB) (aa (af 1) (aa (af 2) ai))) ak (aN _)))))))))
def mV:PSt:=
 (aC (xIf (qO (qNo (qOf (pFn (aY kits) (ag (ah 0) (ag (pTy "tuple") ao))))) (qOf (pOp bNe (pFn dP (ag (ah 0) ao)) (au 4)))) (aV (pBl false)) xNx)
  (aC (xIf (qNo (qOf (pFn rh (ag (pLC (bY (ah 0)) [none] (by decide) (gtN 0) qY (az bX (ag (ah 0) ao))) ao)))) (aV (pBl false)) xNx)
  (aV (ky (pOp bGt (pOp bIx (pOp bIx (ah 0) (au 2)) (au 0)) (au 0)) (pOp bGt (pOp bIx (pOp bIx (ah 0) (au 3)) (au 0)) (au 0))))))
def fN:PFn:=fnP [false] 1 mV
def x6:fN.ms=[false]:=rfl
def wo(T:Txt K mg a_ f_ g_ b_ c_ d_)(D:Def K mg "is_box" kT)(I_:Callee P w K mg base "is_fraction" 2 ["thing"] (spD K mg 1 bX.F)):Callee P w K mg base "is_box" (2+1) ["thing"] (spD K mg 1 fN.F):=by
 unfold fN mV
 exact okP D zT (λ_ _ _ _ _ _=>ar1 λ_=>rfl) λf cdv A outer s H E hr=>
  (ar (a0 (ZW.dt (gY (cL (bQ (aD (dO (K:=K) rfl) (cK T.kits) rfl T.h_ aO (aa (af 0) (aa (dM rfl T.i_ bI) ai))))) (jn (aW (kr (K:=K) rfl hr.u180) iJ (aD (eF (K:=K) rfl) dm rfl T.n_ c8 (aa (af 0) ai)) ak (aN _))))) (ax (aG gU)) aP)
   (ar (a0 (cL (bQ (aD (allK (K:=K) rfl rfl) xW rfl T.MX zp (aa (fW ["thing"] (ay kT).names ["part"] [none] rfl (cM rfl (af 0)) (λ_ _ _ _ _=>(aH (i:=0) (show List.Nodup (["part"]:List Str) from by decide) rfl (by trivial))) (λ_ _ _ _ _=>(aw I_ (hr.mono (by omega)) rfl fE (aa (af 0) ai)))) ai)))) (ax (aG gU)) aP)
   (ax (aG (jm (fo nH ox (aM (ixK (K:=K) rfl) aL (aM (ixK (K:=K) rfl) aL (af 0) ak (λ_ _=>rfl)) ak (λ_ _=>rfl)) ak (aN _)) (ka (fo nH ox (aM (ixK (K:=K) rfl) aL (aM (ixK (K:=K) rfl) aL (af 0) ak (λ_ _=>rfl)) ak (λ_ _=>rfl)) ak (aN _))))))))
def jR:PSt:=
 (xIf (qNo (qOf (az fN (ag (ah 0) ao)))) (f6 "NoBox" (ag (ef "this is no box") ao)) xNx)
def bL:PFn:=fnP [false] 1 jR
def rA:bL.ms=[false]:=rfl
def qP(T:Txt K mg a_ f_ g_ b_ c_ d_)(D:Def K mg "check_box" jE)(Nn:Callee P w K mg base "is_box" 3 ["thing"] (spD K mg 1 fN.F)):Callee P w K mg base "check_box" (3+1) ["thing"] (spD K mg 1 bL.F):=by
 unfold bL jR
 exact okP D rn (λ_ _ _ _ _ _=>ar1 λ_=>rfl) λf cdv A outer s H E hr=>
  (ax (a0 (cL (bQ (aw Nn (hr.mono (by omega)) rfl (aq aB) (aa (af 0) ai)))) (ax (fK rfl rz1 rfl T.K_ T.Mn (aa da ai))) aP))
def jN:PSt:=
 (aV (ky (az br (ag (ah 0) ao)) (pOp bGe (ah 0) (au 1))))
def cT:PFn:=fnP [false] 1 jN
def ua:cT.ms=[false]:=rfl
def qQ(T:Txt K mg a_ f_ g_ b_ c_ d_)(D:Def K mg "is_weight" jG)(l_:Callee P w K mg base "is_whole" 1 ["thing"] (spD K mg 1 br.F)):Callee P w K mg base "is_weight" (1+1) ["thing"] (spD K mg 1 cT.F):=by
 unfold cT jN
 exact okP D tF (λ_ _ _ _ _ _=>ar1 λ_=>rfl) λf cdv A outer s H E hr=>
  (ax (aG (jm (aw l_ (hr.mono (by omega)) rfl (aq aB) (aa (af 0) ai)) (ka (fo nO oh (af 0) ak (aN _))))))
def gp:PSt:=
 (aC (xIf (qO (qNo (qOf (pFn (aY kits) (ag (ah 0) (ag (pTy "list") ao))))) (qOf (pOp bEq (pFn dP (ag (ah 0) ao)) (au 0)))) (f6 "NoWeights" (ag (ef "this is no list of weights") ao)) xNx)
  (aC (xIf (qNo (qOf (pFn rh (ag (pLC (bY (ah 0)) [none] (by decide) (gtN 0) qY (az cT (ag (ah 0) ao))) ao)))) (f6 "NoWeights" (ag (ef "a weight is a whole number from 1 on") ao)) xNx)
  (xIf (qOf (pOp bGt (pFn dP (ag (ah 0) ao)) gj)) (f6 "TooMany" (ag (ef "these are more weights than forty") ao)) xNx)))
def bc:PFn:=fnP [false] 1 gp
def ni:bc.ms=[false]:=rfl
def mK(T:Txt K mg a_ f_ g_ b_ c_ d_)(D:Def K mg "check_weights" eD)(MC:Callee P w K mg base "is_weight" 2 ["thing"] (spD K mg 1 cT.F)):Callee P w K mg base "check_weights" (2+1) ["thing"] (spD K mg 1 bc.F):=by
 unfold bc gp gj
 exact okP D nD (λ_ _ _ _ _ _=>ar1 λ_=>rfl) λf cdv A outer s H E hr=>
  (ar (a0 (ZW.dt (gY (cL (bQ (aD (dO (K:=K) rfl) (cK T.kits) rfl T.h_ aO (aa (af 0) (aa (dM rfl T.Mr vB) ai))))) (jn (aW (fc (K:=K) rfl hr.u180) dI (aD (eF (K:=K) rfl) dm rfl T.n_ c8 (aa (af 0) ai)) ak (aN _))))) (ax (fK rfl rz1 rfl T.t_ T.u_ (aa da ai))) aP)
   (ar (a0 (cL (bQ (aD (allK (K:=K) rfl rfl) xW rfl T.MX zp (aa (fW ["thing"] (ay eD).names ["weight"] [none] rfl (cM rfl (af 0)) (λ_ _ _ _ _=>(aH (i:=0) (show List.Nodup (["weight"]:List Str) from by decide) rfl (by trivial))) (λ_ _ _ _ _=>(aw MC (hr.mono (by omega)) rfl fE (aa (af 0) ai)))) ai)))) (ax (fK rfl rz1 rfl T.t_ T.u_ (aa da ai))) aP)
   (ax (a0 (aW nH ox (aD (eF (K:=K) rfl) dm rfl T.n_ c8 (aa (af 0) ai)) (CY rfl T.o_) (aN _)) (ax (fK rfl rz1 rfl T.D_ T.Em (aa da ai))) aP))))
def lr:PSt:=
 (aV (ky (pFn (aY kits) (ag (ah 0) (ag (pTy "str") ao))) (pOp bIn (ah 0) ph)))
def cX:PFn:=fnP [false] 1 lr
def zD:cX.ms=[false]:=rfl
def xC(T:Txt K mg a_ f_ g_ b_ c_ d_)(D:Def K mg "is_way" ng)  : Callee P w K mg base "is_way" (0+1) ["thing"] (spD K mg 1 cX.F):=by
 unfold cX lr ph
 exact okP D y9 (λ_ _ _ _ _ _=>ar1 λ_=>rfl) λf cdv A outer s H E hr=>
  (ax (aG (jm (aD (dO (K:=K) rfl) (cK T.kits) rfl T.h_ aO (aa (af 0) (aa (dM rfl T.Nd Hn) ai))) (ka (fo (inK (K:=K) rfl) Ml (af 0) (CY rfl T.MK) (by with_unfolding_all rfl))))))
def gW:PSt:=
 (aC (xIf (qO (qNo (qOf (pFn (aY kits) (ag (ah 0) (ag (pTy "tuple") ao))))) (qOf (pOp bNe (pFn dP (ag (ah 0) ao)) (au 2)))) (aV (pBl false)) xNx)
  (aV (ky (az cX (ag (pOp bIx (ah 0) (au 0)) ao)) (ky (pFn (aY kits) (ag (pOp bIx (ah 0) (au 1)) (ag (pTy "tuple") ao))) (pOp bGe (pFn dP (ag (pOp bIx (ah 0) (au 1)) ao)) (au 2))))))
def cn:PFn:=fnP [false] 1 gW
def tj:cn.ms=[false]:=rfl
def qJ(T:Txt K mg a_ f_ g_ b_ c_ d_)(D:Def K mg "is_branch" jO)(F_:Callee P w K mg base "is_way" 1 ["thing"] (spD K mg 1 cX.F)):Callee P w K mg base "is_branch" (1+1) ["thing"] (spD K mg 1 cn.F):=by
 unfold cn gW
 exact okP D tZ (λ_ _ _ _ _ _=>ar1 λ_=>rfl) λf cdv A outer s H E hr=>
  (ar (a0 (ZW.dt (gY (cL (bQ (aD (dO (K:=K) rfl) (cK T.kits) rfl T.h_ aO (aa (af 0) (aa (dM rfl T.i_ bI) ai))))) (jn (aW (kr (K:=K) rfl hr.u180) iJ (aD (eF (K:=K) rfl) dm rfl T.n_ c8 (aa (af 0) ai)) ak (aN _))))) (ax (aG gU)) aP)
   (ax (aG (jm (aw F_ (hr.mono (by omega)) rfl (aq aB) (aa (aM (ixK (K:=K) rfl) aL (af 0) ak (λ_ _=>rfl)) ai)) (jm (aD (dO (K:=K) rfl) (cK T.kits) rfl T.h_ aO (aa (aM (ixK (K:=K) rfl) aL (af 0) ak (λ_ _=>rfl)) (aa (dM rfl T.i_ bI) ai))) (ka (fo nO oh (aD (eF (K:=K) rfl) dm rfl T.n_ c8 (aa (aM (ixK (K:=K) rfl) aL (af 0) ak (λ_ _=>rfl)) ai)) ak (aN _))))))))
def dn:PSt:=
 (aC (aU false 4 (qV 3 rf))
  (xIf (qOf (az cn (ag (ah 4) ao))) (cQ (jM 3 hE (ag (pOp bIx (ah 4) (au 1)) ao))) (xIf (qO (qNo (qOf (az br (ag (ah 4) ao)))) (qO (qOf (pOp bLt (ah 4) (au 0))) (qO (qOf (pOp bGe (ah 4) (ah 1))) (qOf (pOp BC (ah 4) (ah 2)))))) (aV (pBl false)) (cQ (Bw 2 (ag (ah 4) ao))))))
def lL:PSt:=
 (aC (aU true 2 wF)
  (aC (aU true 3 (eB (ag (ah 0) ao)))
  (aC (xWh (qTr (ah 3)) (dn))
  (aV (pOp bEq (pFn sT (ag (ah 2) ao)) (ah 1))))))
def eP:PFn:=fnP [false,false] 5 lL
def wb:eP.ms=[false,false]:=rfl
def uO(T:Txt K mg a_ f_ g_ b_ c_ d_)(D:Def K mg "is_tree" lB)(MB:Callee P w K mg base "is_branch" 2 ["thing"] (spD K mg 1 cn.F))(l_:Callee P w K mg base "is_whole" 1 ["thing"] (spD K mg 1 br.F)):Callee P w K mg base "is_tree" (2+1) ["thing", "many"] (spD K mg 2 eP.F):=by
 unfold eP lL dn
 exact okP D iK (λ_ _ _ _ _ _=>ar2 λ_ _=>rfl) λf cdv A outer s H E hr=>
  (ar (aK (i:=2) iK.nd rfl (by trivial) (C2 rfl T.Nc F2))
   (ar (aK (i:=3) iK.nd rfl (by trivial) (cP (aa (af 0) ai)))
   (ar (kJ gn (uo rfl (af 3)) (ar (aK (i:=4) iK.nd rfl (by trivial) (vx rfl PySem.F.slot_list_pop PySem.F.type_list_pop yi yE (af 3)))
   (ax (a0 (bQ (aw MB (hr.mono (by omega)) rfl (aq aB) (aa (af 4) ai))) (ax (bR (ik rfl PR Qp (kq (K:=K) rfl) kW (af 3) (aa (aM (ixK (K:=K) rfl) aL (af 4) ak (λ_ _=>rfl)) ai)))) (ax (a0 (ZW.dt (gY (cL (bQ (aw l_ (hr.mono (by omega)) rfl (aq aB) (aa (af 4) ai)))) (gY (aW xi xE (af 4) ak (aN _)) (gY (aW nO oh (af 4) (af 1) (aN _)) (jn (aW BD HZ (af 4) (af 2) (by with_unfolding_all rfl))))))) (ax (aG gU)) (ax (bR (Gm rfl (af 2) (aa (af 4) ai))))))))))
   (ax (aG (fo (fc (K:=K) rfl hr.u180) dI (aD uK C9 rfl T.n_ c8 (aa (af 2) ai)) (af 1) (aN _)))))))
def jc:PSt:=
 (xIf (qNo (qOf (az eP (ag (ah 0) (ag (ah 1) ao))))) (f6 "NoTree" (ag (ef "this is no tree for the things") ao)) xNx)
def c7:PFn:=fnP [false,false] 2 jc
def qF:c7.ms=[false,false]:=rfl
def oY(T:Txt K mg a_ f_ g_ b_ c_ d_)(D:Def K mg "check_tree" ja)(M4:Callee P w K mg base "is_tree" 3 ["thing", "many"] (spD K mg 2 eP.F)):Callee P w K mg base "check_tree" (3+1) ["thing", "many"] (spD K mg 2 c7.F):=by
 unfold c7 jc
 exact okP D qD (λ_ _ _ _ _ _=>ar2 λ_ _=>rfl) λf cdv A outer s H E hr=>
  (ax (a0 (cL (bQ (aw M4 (hr.mono (by omega)) rfl (aq aB) (aa (af 0) (aa (af 1) ai))))) (ax (fK rfl rz1 rfl T.G_ T.H_ (aa da ai))) aP))
def jH:PSt:=
 (xIf (qNo (qOf (az cX (ag (ah 0) ao)))) (f6 "NoWay" (ag (ef "this is no way") ao)) xNx)
def dA:PFn:=fnP [false] 1 jH
def sW:dA.ms=[false]:=rfl
def qB(T:Txt K mg a_ f_ g_ b_ c_ d_)(D:Def K mg "check_way" jY)(F_:Callee P w K mg base "is_way" 1 ["thing"] (spD K mg 1 cX.F)):Callee P w K mg base "check_way" (1+1) ["way"] (spD K mg 1 dA.F):=by
 unfold dA jH
 exact okP D rF (λ_ _ _ _ _ _=>ar1 λ_=>rfl) λf cdv A outer s H E hr=>
  (ax (a0 (cL (bQ (aw F_ (hr.mono (by omega)) rfl (aq aB) (aa (af 0) ai)))) (ax (fK rfl rz1 rfl T.L_ T.Mo (aa da ai))) aP))
def ku:PSt:=
 (aC (xIf (qOf (pOp bEq (ah 1) (au 0))) (f6 "NoFraction" (ag (ef "a fraction has no bottom of 0") ao)) xNx)
  (aC (aU false 2 (az bo (ag (ah 0) (ag (ah 1) ao))))
  (aC (xIf (qOf (pOp bLt (ah 1) (au 0))) (aU false 2 (pUn w9 (ah 2))) xNx)
  (aV (cJ (ag (pOp ji (ah 0) (ah 2)) (ag (pOp ji (ah 1) (ah 2)) ao)))))))
def bO:PFn:=fnP [false,false] 3 ku
def uD:bO.ms=[false,false]:=rfl
def sP(T:Txt K mg a_ f_ g_ b_ c_ d_)(D:Def K mg "fraction" kP)(j_:Callee P w K mg base "common_divisor" 1 ["one", "other"] (spD K mg 2 bo.F)):Callee P w K mg base "fraction" (1+1) ["top", "bottom"] (spD K mg 2 bO.F):=by
 unfold bO ku
 exact okP D jV (λ_ _ _ _ _ _=>ar2 λ_ _=>rfl) λf cdv A outer s H E hr=>
  (ar (a0 (aW (fc (K:=K) rfl hr.u180) dI (af 1) ak (aN _)) (ax (fK rfl rz1 rfl T.v_ T.w_ (aa da ai))) aP)
   (ar (aK (i:=2) jV.nd rfl (by trivial) (aw j_ (hr.mono (by omega)) rfl (aq aB) (aa (af 0) (aa (af 1) ai))))
   (ar (a0 (aW xi xE (af 1) ak (aN _)) (ax (aK (i:=2) jV.nd rfl (by trivial) (CP yS zm (af 2)))) aP)
   (ax (aG (bK (aa (aE gy kc (af 0) (af 2)) (aa (aE gy kc (af 1) (af 2)) ai))))))))
def pG:PSt:=
 (aV (az bO (ag (pOp bz (pOp dE (pOp bIx (ah 0) (au 0)) (pOp bIx (ah 1) (au 1))) (pOp dE (pOp bIx (ah 1) (au 0)) (pOp bIx (ah 0) (au 1)))) (ag (pOp dE (pOp bIx (ah 0) (au 1)) (pOp bIx (ah 1) (au 1))) ao))))
def gE:PFn:=fnP [false,false] 2 pG
def z8:gE.ms=[false,false]:=rfl
def zJ(T:Txt K mg a_ f_ g_ b_ c_ d_)(D:Def K mg "added" pB)(k_:Callee P w K mg base "fraction" 2 ["top", "bottom"] (spD K mg 2 bO.F)):Callee P w K mg base "added" (2+1) ["one", "other"] (spD K mg 2 gE.F):=by
 unfold gE pG
 exact okP D AF (λ_ _ _ _ _ _=>ar2 λ_ _=>rfl) λf cdv A outer s H E hr=>
  (ax (aG (aw k_ (hr.mono (by omega)) rfl (aq aB) (aa (aE (bf (K:=K) rfl) bg (aE eg ek (aM (ixK (K:=K) rfl) aL (af 0) ak (λ_ _=>rfl)) (aM (ixK (K:=K) rfl) aL (af 1) ak (λ_ _=>rfl))) (aE eg ek (aM (ixK (K:=K) rfl) aL (af 1) ak (λ_ _=>rfl)) (aM (ixK (K:=K) rfl) aL (af 0) ak (λ_ _=>rfl)))) (aa (aE eg ek (aM (ixK (K:=K) rfl) aL (af 0) ak (λ_ _=>rfl)) (aM (ixK (K:=K) rfl) aL (af 1) ak (λ_ _=>rfl))) ai)))))
def pJ:PSt:=
 (aV (az bO (ag (pOp dE (pOp bIx (ah 0) (au 0)) (pOp bIx (ah 1) (au 0))) (ag (pOp dE (pOp bIx (ah 0) (au 1)) (pOp bIx (ah 1) (au 1))) ao))))
def fP:PFn:=fnP [false,false] 2 pJ
def Bk:fP.ms=[false,false]:=rfl
def xS(T:Txt K mg a_ f_ g_ b_ c_ d_)(D:Def K mg "times" pL)(k_:Callee P w K mg base "fraction" 2 ["top", "bottom"] (spD K mg 2 bO.F)):Callee P w K mg base "times" (2+1) ["one", "other"] (spD K mg 2 fP.F):=by
 unfold fP pJ
 exact okP D zZ (λ_ _ _ _ _ _=>ar2 λ_ _=>rfl) λf cdv A outer s H E hr=>
  (ax (aG (aw k_ (hr.mono (by omega)) rfl (aq aB) (aa (aE eg ek (aM (ixK (K:=K) rfl) aL (af 0) ak (λ_ _=>rfl)) (aM (ixK (K:=K) rfl) aL (af 1) ak (λ_ _=>rfl))) (aa (aE eg ek (aM (ixK (K:=K) rfl) aL (af 0) ak (λ_ _=>rfl)) (aM (ixK (K:=K) rfl) aL (af 1) ak (λ_ _=>rfl))) ai)))))
def g9:PSt:=
 (aC (aU false 7 (az gE (ag (ah 0) (ag (az fP (ag (ah 1) (ag (az bO (ag (ah 4) (ag (ah 3) ao))) ao))) ao))))
  (aC (cQ (jM 5 gx (ag (cJ (ag (ah 7) (ag (az fP (ag (ah 1) (ag (az bO (ag (ah 6) (ag (ah 3) ao))) ao))) ao))) ao)))
  (Ah 4 zY (ah 6))))
def nB:PSt:=
 (aC (aU false 3 (pFn n8 (ag (ah 2) ao)))
  (aC (aU false 4 (au 0))
  (aC (aU true 5 (eB ao))
  (aC (iZ (bY (ah 2)) (gtN 6) (g9))
  (aV (ah 5))))))
def eN:PFn:=fnP [false,false,false] 8 nB
def zU:eN.ms=[false,false,false]:=rfl
def vY(T:Txt K mg a_ f_ g_ b_ c_ d_)(D:Def K mg "shares" m7)(NC:Callee P w K mg base "added" 3 ["one", "other"] (spD K mg 2 gE.F))(Na:Callee P w K mg base "times" 3 ["one", "other"] (spD K mg 2 fP.F))(k_:Callee P w K mg base "fraction" 2 ["top", "bottom"] (spD K mg 2 bO.F)):Callee P w K mg base "shares" (3+1) ["start", "length", "weights"] (spD K mg 3 eN.F):=by
 unfold eN nB g9
 exact okP D eO (λ_ _ _ _ _ _=>ar3 λ_ _ _=>rfl) λf cdv A outer s H E hr=>
  (ar (aK (i:=3) eO.nd rfl (by trivial) (aD (qb (K:=K) rfl rfl) zL rfl T.M0 xN (aa (af 2) ai)))
   (ar (aK (i:=4) eO.nd rfl (by trivial) ak)
   (ar (aK (i:=5) eO.nd rfl (by trivial) (cP ai))
   (ar (fX gn rfl (cM rfl (af 2)) (aH (i:=6) eO.nd rfl (by trivial)) (ar (aK (i:=7) eO.nd rfl (by trivial) (aw NC (hr.mono (by omega)) rfl (aq aB) (aa (af 0) (aa (aw Na (hr.mono (by omega)) rfl (aq aB) (aa (af 1) (aa (aw k_ (hr.mono (by omega)) rfl (aq aB) (aa (af 4) (aa (af 3) ai))) ai))) ai))))
   (ar (bR (ik rfl Pq Pr ib jv (af 5) (aa (bK (aa (af 7) (aa (aw Na (hr.mono (by omega)) rfl (aq aB) (aa (af 1) (aa (aw k_ (hr.mono (by omega)) rfl (aq aB) (aa (af 6) (aa (af 3) ai))) ai))) ai))) ai)))
   (ax (F8 (i:=4) eO.nd rfl (by trivial) (af 6) FI Gh)))))
   (ax (aG (af 5)))))))
def nr:PSt:=
 (aC (cQ (az bL (ag (ah 0) ao)))
  (aC (cQ (az dA (ag (ah 1) ao)))
  (aC (cQ (az bc (ag (ah 2) ao)))
  (aC (mB (ah 0) (gtX (gtT 4 (cC (gtN 3) (cC (gtN 4) (cC (gtN 5) (cC (gtN 6) gB)))))))
  (aC (xIf (qOf (pOp bEq (ah 1) (ef "across"))) (aV (pLC (bY (az eN (ag (ah 3) (ag (ah 5) (ag (ah 2) ao))))) [none,none,some 4,some 6] (by decide) (gtT 2 (cC (gtN 0) (cC (gtN 1) gB))) qY (cJ (ag (ah 0) (ag (ah 2) (ag (ah 1) (ag (ah 3) ao))))))) xNx)
  (aV (pLC (bY (az eN (ag (ah 4) (ag (ah 6) (ag (ah 2) ao))))) [none,none,some 3,some 5] (by decide) (gtT 2 (cC (gtN 0) (cC (gtN 1) gB))) qY (cJ (ag (ah 2) (ag (ah 0) (ag (ah 3) (ag (ah 1) ao))))))))))))
def eQ:PFn:=fnP [false,false,false] 7 nr
def zi:eQ.ms=[false,false,false]:=rfl
def wm(T:Txt K mg a_ f_ g_ b_ c_ d_)(D:Def K mg "parted" jd)(y_:Callee P w K mg base "check_box" 4 ["thing"] (spD K mg 1 bL.F))(Mz:Callee P w K mg base "check_way" 2 ["way"] (spD K mg 1 dA.F))(m_:Callee P w K mg base "check_weights" 3 ["thing"] (spD K mg 1 bc.F))(MW:Callee P w K mg base "shares" 4 ["start", "length", "weights"] (spD K mg 3 eN.F)):Callee P w K mg base "parted" (4+1) ["box", "way", "weights"] (spD K mg 3 eQ.F):=by
 unfold eQ nr
 exact okP D ia (λ_ _ _ _ _ _=>ar3 λ_ _ _=>rfl) λf cdv A outer s H E hr=>
  (ar (bR (aw y_ (hr.mono (by omega)) rfl (aq aB) (aa (af 0) ai)))
   (ar (bR (aw Mz (hr.mono (by omega)) rfl (aq aB) (aa (af 1) ai)))
   (ar (bR (aw m_ (hr.mono (by omega)) rfl (aq aB) (aa (af 2) ai)))
   (ar (mz (af 0) (ZG.weak (jj rfl rfl (bJ (aH (i:=3) ia.nd rfl (by trivial)) (bJ (aH (i:=4) ia.nd rfl (by trivial)) (bJ (aH (i:=5) ia.nd rfl (by trivial)) (bJ (aH (i:=6) ia.nd rfl (by trivial)) gu)))))))
   (ar (a0 (aW (fc (K:=K) rfl hr.u180) dI (af 1) da (aN _)) (ax (aG (fW ["box", "way", "weights", "left", "top", "wide", "high"] (ay jd).names ["begin", "length", "top", "high"] [none,none,some 4,some 6] rfl (cM rfl (aw MW (hr.mono (by omega)) rfl (aq aB) (by refine aa (af 3) ?_;refine aa (af 5) ?_;refine aa (af 2) ?_;exact ai))) (λ_ _ _ _ _=>(jj rfl rfl (bJ (aH (i:=0) (show List.Nodup (["begin", "length", "top", "high"]:List Str) from by decide) rfl (by trivial)) (bJ (aH (i:=1) (show List.Nodup (["begin", "length", "top", "high"]:List Str) from by decide) rfl (by trivial)) gu)))) (λ_ _ _ _ _=>(bK (by refine aa (af 0) ?_;refine aa (af 2) ?_;refine aa (af 1) ?_;refine aa (af 3) ?_;exact ai)))))) aP)
   (ax (aG (fW ["box", "way", "weights", "left", "top", "wide", "high"] (ay jd).names ["begin", "length", "left", "wide"] [none,none,some 3,some 5] rfl (cM rfl (aw MW (hr.mono (by omega)) rfl (aq aB) (by refine aa (af 4) ?_;refine aa (af 6) ?_;refine aa (af 2) ?_;exact ai))) (λ_ _ _ _ _=>(jj rfl rfl (bJ (aH (i:=0) (show List.Nodup (["begin", "length", "left", "wide"]:List Str) from by decide) rfl (by trivial)) (bJ (aH (i:=1) (show List.Nodup (["begin", "length", "left", "wide"]:List Str) from by decide) rfl (by trivial)) gu)))) (λ_ _ _ _ _=>(bK (by refine aa (af 2) ?_;refine aa (af 0) ?_;refine aa (af 3) ?_;refine aa (af 1) ?_;exact ai)))))))))))
def cz:PSt:=
 (aC (aU false 3 (qV 2 rf))
  (xIf (qOf (pFn (aY kits) (ag (ah 3) (ag (pTy "tuple") ao)))) (cQ (jM 2 hE (ag (pOp bIx (ah 3) (au 1)) ao))) (cQ (jM 1 gx (ag (ah 3) ao)))))
def jX:PSt:=
 (aC (aU true 1 (eB ao))
  (aC (aU true 2 (eB (ag (ah 0) ao)))
  (aC (xWh (qTr (ah 2)) (cz))
  (aV (ah 1)))))
def cU:PFn:=fnP [false] 4 jX
def rO:cU.ms=[false]:=rfl
def qC(T:Txt K mg a_ f_ g_ b_ c_ d_)(D:Def K mg "things_in" jS)  : Callee P w K mg base "things_in" (0+1) ["tree"] (spD K mg 1 cU.F):=by
 unfold cU jX cz
 exact okP D gc (λ_ _ _ _ _ _=>ar1 λ_=>rfl) λf cdv A outer s H E hr=>
  (ar (aK (i:=1) gc.nd rfl (by trivial) (cP ai))
   (ar (aK (i:=2) gc.nd rfl (by trivial) (cP (aa (af 0) ai)))
   (ar (kJ gn (uo rfl (af 2)) (ar (aK (i:=3) gc.nd rfl (by trivial) (vx rfl PySem.F.slot_list_pop PySem.F.type_list_pop yi yE (af 2)))
   (ax (a0 (bQ (aD (dO (K:=K) rfl) (cK T.kits) rfl T.h_ aO (aa (af 3) (aa (dM rfl T.i_ bI) ai)))) (ax (bR (ik rfl PR Qp (kq (K:=K) rfl) kW (af 2) (aa (aM (ixK (K:=K) rfl) aL (af 3) ak (λ_ _=>rfl)) ai)))) (ax (bR (ik rfl Pq Pr ib jv (af 1) (aa (af 3) ai))))))))
   (ax (aG (af 1))))))
def kx:PSt:=
 (aC (mB (ah 2) (gtX (gtT 2 (cC (gtN 3) (cC (gtN 4) gB)))))
  (aV (az eQ (ag (ah 0) (ag (ah 3) (ag (pLC (bY (ah 4)) [none,some 1] (by decide) (gtN 0) qY (pFn n8 (ag (pLC (bY (az cU (ag (ah 0) ao))) [none,some 1] (by decide) (gtN 0) qY (pOp bIx (ah 1) (ah 0))) ao))) ao))))))
def dk:PFn:=fnP [false,false,false] 5 kx
def uI:dk.ms=[false,false,false]:=rfl
def sq(T:Txt K mg a_ f_ g_ b_ c_ d_)(D:Def K mg "parts_of" iM)(Np:Callee P w K mg base "parted" 5 ["box", "way", "weights"] (spD K mg 3 eQ.F))(MH:Callee P w K mg base "things_in" 1 ["tree"] (spD K mg 1 cU.F)):Callee P w K mg base "parts_of" (5+1) ["room", "weights", "tree"] (spD K mg 3 dk.F):=by
 unfold dk kx
 exact okP D jD (λ_ _ _ _ _ _=>ar3 λ_ _ _=>rfl) λf cdv A outer s H E hr=>
  (ar (mz (af 2) (ZG.weak (jj rfl rfl (bJ (aH (i:=3) jD.nd rfl (by trivial)) (bJ (aH (i:=4) jD.nd rfl (by trivial)) gu)))))
   (ax (aG (aw Np (hr.mono (by omega)) rfl (aq aB) (by refine aa (af 0) ?_;refine aa (af 3) ?_;refine aa (fW ["room", "weights", "tree", "way", "trees"] (ay iM).names ["part", "weights"] [none,some 1] rfl (cM rfl (af 4)) (λ_ _ _ _ _=>(aH (i:=0) (show List.Nodup (["part", "weights"]:List Str) from by decide) rfl (by trivial))) (λ_ _ _ _ _=>(aD (qb (K:=K) rfl rfl) zL rfl T.M0 xN (aa (fW ["part", "weights"] [(PySem.Str.ofString ".0",PySem.NameKind.local),(PySem.Str.ofString "part",PySem.NameKind.local),(PySem.Str.ofString "sum",PySem.NameKind.globalImplicit),(PySem.Str.ofString "things_in",PySem.NameKind.globalImplicit),(PySem.Str.ofString "weights",PySem.NameKind.cell)] ["thing", "weights"] [none,some 1] rfl (cM rfl (aw MH (hr.mono (by omega)) rfl fE (aa (af 0) ai))) (λ_ _ _ _ _=>(aH (i:=0) (show List.Nodup (["thing", "weights"]:List Str) from by decide) rfl (by trivial))) (λ_ _ _ _ _=>(aM (ixK (K:=K) rfl) aL (af 1) (af 0) (λ_ _=>rfl)))) ai)))) ?_;exact ai)))))
def jb(s:PFx [false,false,false,true]):PSt:=
 (cQ (az s.fn (ag (ah 5) (ag (ah 1) (ag (ah 4) (ag (ah 3) ao))))))
def gH(s:PFx [false,false,false,true]):PSt:=
 (aC (xIf (qNo (qOf (pFn (aY kits) (ag (ah 2) (ag (pTy "tuple") ao))))) (aC (rY 3 seI (ah 2) (ah 0))
  xm) xNx)
  (iZ (wB (ag (pOp bIx (ah 2) (au 1)) (ag (az dk (ag (ah 0) (ag (ah 1) (ag (ah 2) ao)))) ao))) (gtX (gtT 2 (cC (gtN 4) (cC (gtN 5) gB)))) (jb s)))
def cV:Nat->PFx [false,false,false,true]
 |0=>PFx.none [false,false,false,true]
 |n+1=>PFx.of [false,false,false,true] 6 (gH (cV n))
def yM{n:Nat}(T:Txt K mg a_ f_ g_ b_ c_ d_)(D:Def K mg "place" mE)(A_:Callee P w K mg base "parts_of" 6 ["room", "weights", "tree"] (spD K mg 3 dk.F))(MJ:Callee P w K mg base "place" (8+n) ["room", "weights", "tree", "placed"] (spD K mg 4 (cV n).F)):Callee P w K mg base "place" (8+n+1) ["room", "weights", "tree", "placed"] (spD K mg 4 (cV (n+1)).F):=by
 show Callee P w K mg base _ _ _ (spD K mg _ (PFx.of [false,false,false,true] 6 (gH (cV n))).F)
 unfold gH jb
 exact okX D kZ (λ_ _ _ _ _ _=>ar4 λ_ _ _ _=>rfl) λf cdv A outer s H E hr=>
  (ar (a0 (cL (bQ (aD (dO (K:=K) rfl) (cK T.kits) rfl T.h_ aO (aa (af 2) (aa (dM rfl T.i_ bI) ai))))) (ar (pQ (af 0) (af 3) (af 2) (A4 (CI hr)) Ai)
   (ax Ef)) aP)
   (ax (fX gn rfl (Fx rfl rfl T.Nf (aa (aM (ixK (K:=K) rfl) aL (af 2) ak (λ_ _=>rfl)) (aa (aw A_ (hr.mono (by omega)) rfl (aq aB) (by refine aa (af 0) ?_;refine aa (af 1) ?_;refine aa (af 2) ?_;exact ai)) ai))) (ZG.weak (jj rfl rfl (bJ (aH (i:=4) kZ.nd rfl (by trivial)) (bJ (aH (i:=5) kZ.nd rfl (by trivial)) gu)))) (ax (bR (aw MJ (hr.mono (by omega)) rfl (aq aB) (by refine aa (af 5) ?_;refine aa (af 1) ?_;refine aa (af 4) ?_;refine aa (af 3) ?_;exact ai)))))))
theorem oE(T:Txt K mg a_ f_ g_ b_ c_ d_)(D:Def K mg "place" mE)(A_:Callee P w K mg base "parts_of" 6 ["room", "weights", "tree"] (spD K mg 3 dk.F)):∀n,Callee P w K mg base "place" (8+n) ["room", "weights", "tree", "placed"] (spD K mg 4 (cV n).F)
 |0=>ok0 D kZ (λ_ _ _ _ _ _=>ar4 λ_ _ _ _=>rfl)
 |n+1=>yM T D A_ (oE T D A_ n)
def kz:PSt:=
 (aC (cQ (az bL (ag (ah 0) ao)))
  (aC (cQ (az bc (ag (ah 1) ao)))
  (aC (cQ (az c7 (ag (ah 2) (ag (pFn dP (ag (ah 1) ao)) ao))))
  (aC (aU true 3 pD0)
  (aC (cQ (az (cV 42).fn (ag (ah 0) (ag (ah 1) (ag (ah 2) (ag (ah 3) ao))))))
  (aV (pLC (iP (ag (pFn dP (ag (ah 1) ao)) ao)) [none,some 3] (by decide) (gtN 0) qY (pOp wW (ah 1) (ah 0)))))))))
def dg:PFn:=fnP [false,false,false] 4 kz
def uG:dg.ms=[false,false,false]:=rfl
def rE(T:Txt K mg a_ f_ g_ b_ c_ d_)(D:Def K mg "boxes_by" iE)(y_:Callee P w K mg base "check_box" 4 ["thing"] (spD K mg 1 bL.F))(m_:Callee P w K mg base "check_weights" 3 ["thing"] (spD K mg 1 bc.F))(Mp:Callee P w K mg base "check_tree" 4 ["thing", "many"] (spD K mg 2 c7.F))(MJ:Callee P w K mg base "place" 50 ["room", "weights", "tree", "placed"] (spD K mg 4 (cV 42).F)):Callee P w K mg base "boxes_by" (50+1) ["room", "weights", "tree"] (spD K mg 3 dg.F):=by
 unfold dg kz
 exact okP D mL (λ_ _ _ _ _ _=>ar3 λ_ _ _=>rfl) λf cdv A outer s H E hr=>
  (ar (bR (aw y_ (hr.mono (by omega)) rfl (aq aB) (aa (af 0) ai)))
   (ar (bR (aw m_ (hr.mono (by omega)) rfl (aq aB) (aa (af 1) ai)))
   (ar (bR (aw Mp (hr.mono (by omega)) rfl (aq aB) (aa (af 2) (aa (aD (eF (K:=K) rfl) dm rfl T.n_ c8 (aa (af 1) ai)) ai))))
   (ar (aK (i:=3) mL.nd rfl (by trivial) LD)
   (ar (bR (aw MJ (hr.mono (by omega)) rfl (aq aB) (by refine aa (af 0) ?_;refine aa (af 1) ?_;refine aa (af 2) ?_;refine aa (af 3) ?_;exact ai)))
   (ax (aG (fW ["room", "weights", "tree", "placed"] (ay iE).names ["number", "placed"] [none,some 3] rfl (eG rfl T.r_ (aa (aD (eF (K:=K) rfl) dm rfl T.n_ c8 (aa (af 1) ai)) ai)) (λ_ _ _ _ _=>(aH (i:=0) (show List.Nodup (["number", "placed"]:List Str) from by decide) rfl (by trivial))) (λ_ _ _ _ _=>(Am (CI hr) (af 1) (af 0) (λ_ _=>rfl)))))))))))
def lz:PSt:=
 (xIf (qOf (pOp bNe (az (aT 42).fn (ag (az (bC 42).fn (ag (ah 5) (ag (ah 10) ao))) ao)) (az (bC 42).fn (ag (ah 6) (ag (ah 10) ao))))) (aV (pBl false)) xNx)
def lA:PSt:=
 (aC (aU true 2 (az d7 (ag (ah 0) (ag (ah 1) ao))))
  (aC (aU false 3 (pOp bIx (eB (ag (pOp bz (au 1) (az aA (ag (ah 2) (ag (au 9) ao)))) (ag (au 40) ao))) (pFn wU (ag (pOp bEq (az aA (ag (ah 2) (ag (au 7) ao))) (au 0)) ao))))
  (aC (aU false 4 (az dD (ag (ah 2) (ag (ah 3) ao))))
  (aC (aU false 5 (pIf (qOf (pOp bEq (az aA (ag (ah 2) (ag (au 2) ao))) (au 0))) (az dB (ag (ah 2) (ag (ah 4) ao))) (az (bE 42).fn (ag (ah 2) (ag (ah 4) ao)))))
  (aC (aU false 6 (az (bq 42).fn (ag (ah 5) ao)))
  (aC (aU false 7 (az (aT 42).fn (ag (ah 5) ao)))
  (aC (xIf (qO (qOf (pOp bNe (ah 7) (ah 6))) (qO (qOf (pOp bNe (pFn (aY kits) (ag (ah 7) (ag (pTy "tuple") ao))) (pOp bGt (ah 3) (au 1)))) (qOf (pOp bNe (az (aT 42).fn (ag (ah 7) ao)) (ah 6))))) (aV (pBl false)) xNx)
  (aC (aU false 8 (pOp bz (eB (ag (ef "across") (ag (ef "down") ao))) (pLC (iP (ag (ah 3) ao)) [none] (by decide) (gtN 0) qY (pOp mr (pOp oW (ef "abcdefghijklmnopqrstuvwxyz") (pOp cS (ah 0) (au 26))) (pOp bz (au 1) (pOp ji (ah 0) (au 26)))))))
  (aC (aU false 9 (pLC (iP (ag (ah 3) ao)) [none] (by decide) (gtN 0) qY (pOp bz (pOp dE (ah 0) (pOp gL (au 10) (au 28))) (au 7))))
  (aC (iZ (bY (eB (ag (ah 8) (ag (pOp BI (ah 8) (pUn w9 (au 1))) (ag (ah 9) ao))))) (gtN 10) (lz))
  (aC (aU false 11 (az d4 (ag (ah 2) ao)))
  (aC (aU false 12 (pLC (iP (ag (ah 3) ao)) [none,some 2] (by decide) (gtN 0) qY (pOp bz (au 1) (az aA (ag (ah 1) (ag (au 20) ao))))))
  (xIf (qOf (pOp bNe (az dg (ag (ah 11) (ag (ah 12) (ag (ah 7) ao)))) (az dg (ag (ah 11) (ag (ah 12) (ag (ah 5) ao)))))) (aV (pBl false)) xNx)))))))))))))
def xw:PSt:=
 (aC (iZ (iP (ag (pFn rq (ag (au 1) (ag (pFn oB (ag (au 6) (ag (pFn dP (ag (ah 0) ao)) ao))) ao))) ao)) (gtN 1) (lA))
  (aV (pBl true)))
def oA:PFn:=fnP [false] 13 xw
def Dv(T:Txt K mg a_ f_ g_ b_ c_ d_)(D:Def K mg "law" kS)(MU:Callee P w K mg base "_law_feed" 1 ["_law_script", "_law_k"] (spD K mg 2 d7.F))(e_:Callee P w K mg base "_law_next" 1 ["_law_feed_here", "_law_many"] (spD K mg 2 aA.F))(MF:Callee P w K mg base "_law_order" 2 ["_law_feed_here", "_law_many"] (spD K mg 2 dD.F))(MD:Callee P w K mg base "_law_chain" 2 ["_law_feed_here", "_law_numbers"] (spD K mg 2 dB.F))(E_:Callee P w K mg base "_law_tree" 45 ["_law_feed_here", "_law_numbers"] (spD K mg 2 (bE 42).F))(B_:Callee P w K mg base "_law_plain" 44 ["_law_tree_here"] (spD K mg 1 (bq 42).F))(p_:Callee P w K mg base "plain_form" 44 ["tree"] (spD K mg 1 (aT 42).F))(z_:Callee P w K mg base "_law_named" 44 ["_law_tree_here", "_law_names"] (spD K mg 2 (bC 42).F))(MV:Callee P w K mg base "_law_room" 3 ["_law_feed_here"] (spD K mg 1 d4.F))(J_:Callee P w K mg base "boxes_by" 51 ["room", "weights", "tree"] (spD K mg 3 dg.F)):Callee P w K mg base "law" (51+1) ["_law_script"] (spD K mg 1 oA.F):=by
 unfold oA xw lA lz
 exact okP D dY (λ_ _ _ _ _ _=>ar1 λ_=>rfl) λf cdv A outer s H E hr=>
  (ar (fX gn rfl (eG rfl T.r_ (aa (aD (yy rfl) EE rfl T.Nb He (aa ak (aa (aD (p7 rfl) vp rfl T.MZ yz (aa ak (aa (aD (eF (K:=K) rfl) dm rfl T.n_ c8 (aa (af 0) ai)) ai))) ai))) ai)) (aH (i:=1) dY.nd rfl (by trivial)) (ar (aK (i:=2) dY.nd rfl (by trivial) (aw MU (hr.mono (by omega)) rfl (aq aB) (aa (af 0) (aa (af 1) ai))))
   (ar (aK (i:=3) dY.nd rfl (by trivial) (aM (ixK (K:=K) rfl) aL (cP (aa (aE (bf (K:=K) rfl) bg ak (aw e_ (hr.mono (by omega)) rfl (aq aB) (aa (af 2) (aa ak ai)))) (aa ak ai))) (fQ yc HQ rfl T.MY zQ (aa (fo (fc (K:=K) rfl hr.u180) dI (aw e_ (hr.mono (by omega)) rfl (aq aB) (aa (af 2) (aa ak ai))) ak (aN _)) ai)) (λ_ _=>rfl)))
   (ar (aK (i:=4) dY.nd rfl (by trivial) (aw MF (hr.mono (by omega)) rfl (aq aB) (aa (af 2) (aa (af 3) ai))))
   (ar (aK (i:=5) dY.nd rfl (by trivial) (Lh (aW (fc (K:=K) rfl hr.u180) dI (aw e_ (hr.mono (by omega)) rfl (aq aB) (aa (af 2) (aa ak ai))) ak (aN _)) (aw MD (hr.mono (by omega)) rfl (aq aB) (aa (af 2) (aa (af 4) ai))) (aw E_ (hr.mono (by omega)) rfl (aq aB) (aa (af 2) (aa (af 4) ai)))))
   (ar (aK (i:=6) dY.nd rfl (by trivial) (aw B_ (hr.mono (by omega)) rfl (aq aB) (aa (af 5) ai)))
   (ar (aK (i:=7) dY.nd rfl (by trivial) (aw p_ (hr.mono (by omega)) rfl (aq aB) (aa (af 5) ai)))
   (ar (a0 (ZW.dt (gY (aW (kr (K:=K) rfl hr.u180) iJ (af 7) (af 6) (aN _)) (gY (aW (kr (K:=K) rfl hr.u180) iJ (aD (dO (K:=K) rfl) (cK T.kits) rfl T.h_ aO (aa (af 7) (aa (dM rfl T.i_ bI) ai))) (fo nH ox (af 3) ak (aN _)) (aN _)) (jn (aW (kr (K:=K) rfl hr.u180) iJ (aw p_ (hr.mono (by omega)) rfl (aq aB) (aa (af 7) ai)) (af 6) (aN _)))))) (ax (aG gU)) aP)
   (ar (aK (i:=8) dY.nd rfl (by trivial) (aE (bf (K:=K) rfl) bg (cP (aa da (aa da ai))) (fW ["_law_script", "_law_k", "_law_feed_here", "_law_many", "_law_order_here", "_law_tree_here", "_law_due", "_law_found", "_law_names", "_law_great_here", "_law_some", "_law_room_here", "_law_weights"] (ay kS).names ["_law_j"] [none] rfl (eG rfl T.r_ (aa (af 3) ai)) (λ_ _ _ _ _=>(aH (i:=0) (show List.Nodup (["_law_j"]:List Str) from by decide) rfl (by trivial))) (λ_ _ _ _ _=>(aE ET DF (aM GX Ir da (aE dX eI (af 0) ak) (λ_ _=>rfl)) (aE (bf (K:=K) rfl) bg ak (aE gy kc (af 0) ak)))))))
   (ar (xr (iT:=9) ["_law_script", "_law_k", "_law_feed_here", "_law_many", "_law_order_here", "_law_tree_here", "_law_due", "_law_found", "_law_names", "_law_great_here", "_law_some", "_law_room_here", "_law_weights"] (ay kS).names ["_law_j"] [none] rfl dY.nd rfl (by trivial) (eG rfl T.r_ (aa (af 3) ai)) (λ_ _ _ _ _=>(aH (i:=0) (show List.Nodup (["_law_j"]:List Str) from by decide) rfl (by trivial))) (λ_ _ _ _ _=>(aE (bf (K:=K) rfl) bg (aE eg ek (af 0) (aE l6 lW ak ak)) ak)))
   (ar (fX gn rfl (cM rfl (cP (by refine aa (af 8) ?_;refine aa (Hv rfl (af 8) (CP yS zm ak)) ?_;refine aa (af 9) ?_;exact ai))) (aH (i:=10) dY.nd rfl (by trivial)) (ax (a0 (aW (kr (K:=K) rfl hr.u180) iJ (aw p_ (hr.mono (by omega)) rfl (aq aB) (aa (aw z_ (hr.mono (by omega)) rfl (aq aB) (aa (af 5) (aa (af 10) ai))) ai)) (aw z_ (hr.mono (by omega)) rfl (aq aB) (aa (af 6) (aa (af 10) ai))) (aN _)) (ax (aG gU)) aP)))
   (ar (aK (i:=11) dY.nd rfl (by trivial) (aw MV (hr.mono (by omega)) rfl (aq aB) (aa (af 2) ai)))
   (ar (xr (iT:=12) ["_law_script", "_law_k", "_law_feed_here", "_law_many", "_law_order_here", "_law_tree_here", "_law_due", "_law_found", "_law_names", "_law_great_here", "_law_some", "_law_room_here", "_law_weights"] (ay kS).names ["_law_j", "_law_feed_here"] [none,some 2] rfl dY.nd rfl (by trivial) (eG rfl T.r_ (aa (af 3) ai)) (λ_ _ _ _ _=>(aH (i:=0) (show List.Nodup (["_law_j", "_law_feed_here"]:List Str) from by decide) rfl (by trivial))) (λ_ _ _ _ _=>(aE (bf (K:=K) rfl) bg ak (aw e_ (hr.mono (by omega)) rfl fE (aa (af 1) (aa ak ai))))))
   (ax (a0 (aW (kr (K:=K) rfl hr.u180) iJ (aw J_ (hr.mono (by omega)) rfl (aq aB) (by refine aa (af 11) ?_;refine aa (af 12) ?_;refine aa (af 7) ?_;exact ai)) (aw J_ (hr.mono (by omega)) rfl (aq aB) (by refine aa (af 11) ?_;refine aa (af 12) ?_;refine aa (af 5) ?_;exact ai)) (aN _)) (ax (aG gU)) aP)))))))))))))))
   (ax (aG gU)))
end
def fdV(a b k:Int):Val:=.lst [.int a,.int b,.int k]
def CN:gL.G (.int 10) (.int 18)=.val (.int (10^18)):=qW ⟨by decide,by decide,by decide⟩
def gw{a m:Int}(h:0<m):0<=a.fmod m/\a.fmod m<m:=⟨Int.fmod_nonneg_of_pos a h,Int.fmod_lt_of_pos a h⟩
set_option hygiene false in
local macro_rules | `(tactic|simp![$args,*])=>`(tactic|simp only[jx,Kn,Lx,Lb,IM,rj,Mi,Bi,wY,Hy,Jn,FG,JB,II,Fy,FD,GK,Dw,Bc,G6,zC,ED,GZ,Kz,LC,v_bl,KC,v_ty,v_un,v_op,KI,HJ,v_fn,Ma,KZ,Ks,J4,v_if,c_of,c_tr,c_an,c_o,c_no,x_nx,Iv,JH,Er,Eo,DR,Fq,CF,x_if,JP,Mj,J2,JX,Ex,BL,Ci,g_n,g_sn,g_sc,g_t,g_x,Ie,J3,LG,Kx,EV,JM,Lv,Kc,KD,LQ,Jc,FP,Ki,Hs,AO,L7,Ka,Gq,FK,FJ,Jb,JN,Kp,vc,v_lc,Jq,HM,IA,o_n,o_s,v_sl,v_d0,Li,fx_G,JO,KJ,k_lt,k_gt,k_ge,Ld,Ln,k_ix,HD,GL,Mb,k_eq,k_ne,Mc,Mm,LB,Kr,KR,LN,LJ,KU,IT,El,FZ,Ag,qt,List.getElem?_cons_zero,List.getElem?_cons_succ,List.set_cons_zero,List.set_cons_succ,List.length_cons,List.length_nil,Option.bind_some,Option.map_some,Option.isSome_some,if_true,if_false,Bool.not_true,Bool.not_false,Bool.and_true,Bool.true_and,Bool.and_false,Bool.false_and,Bool.or_true,Bool.true_or,Bool.or_false,Bool.false_or,Nat.reduceLeDiff,Nat.reduceAdd,Nat.reduceSub,Nat.zero_add,Nat.add_zero,Nat.sub_self,List.cons_append,List.nil_append,List.append_nil,List.replicate,reduceCtorEq,decide_true,decide_false,Bool.false_eq_true,List.all_cons,List.all_nil,List.isEmpty_nil,List.map_cons,List.map_nil,Int.reduceBEq,Int.reduceAdd,Int.reduceSub,Int.reduceMul,Int.cast_ofNat_Int,Jk,C0,Hz,GJ,C4,AA,FE,xX,EL,IE,D6,yB,E7,FF,Al,Io,Eg,Ia,Aa,GD,Ge,Dm,JL,Mf,Ls,LA,xZ,zc,yF,oq,mQ,ya,Bb,yf,yr,yR,ati0,ati1,ati2,ati3,ixn0,ixn1,JK,cA,Jg,Int.reduceNeg,Dz,yC,uM,uB,sH,sZ,wu,sM,uQ,uC,mJ,oU,x6,rA,ua,ni,zD,tj,wb,qF,sW,uD,z8,Bk,zU,zi,rO,uI,uG,oy,EA,$args,*])
def aS{a b k m:Int}(h0:0<m)(hm:Sm 8000 m):∃r a' b',aA.G [fdV a b k,.int m]=.ok (.val (.int r)) [fdV a' b' k]/\0<=r/\r<m:=by
 unfold aA
 rw[bP]
 unfold lb fdV
 have m0:m≠0:=by omega
 have d1:=λi=>gX (i:=i) m0
 have d2:=λi=>mi (i:=i) (CDivB.of m0 hm)
 have ca:∀x:Int,CMulA 7919 x:=λx=>CMulA.left (by decide) (by decide)
 have cb:∀x:Int,CMulA 104729 x:=λx=>CMulA.left (by decide) (by decide)
 have cc:∀x:Int,CMulA x 48271:=λx=>CMulA.right (by decide) (by decide)
 have e1:cS.G (.int a) (.int 1000003)=.val (.int (a.fmod 1000003)):=gX (by decide)
 have e2:dE.G (.int 7919) (.int k)=.val (.int (7919*k)):=fB (ca k)
 have e3:=λx=>fB (cb x)
 have e4:=λx=>fB (cc x)
 have e5:∀x:Int,cS.G (.int x) (.int 2147483647)=.val (.int (x.fmod 2147483647)):=λx=>gX (by decide)
 have e6:∀x:Int,cS.G (.int x) (.int 65521)=.val (.int (x.fmod 65521)):=λx=>gX (by decide)
 have e7:∀x y:Int,dE.G (.int (x.fmod 2147483647)) (.int y)=.val (.int (x.fmod 2147483647*y)):=λx y=>fB (CMulA.left (by have:=(gw (a:=x) (m:=2147483647) (by decide)).1;omega) (by have:=(gw (a:=x) (m:=2147483647) (by decide)).2;omega))
 have e8:∀x:Int,cS.G (.int x) (.int 2147483629)=.val (.int (x.fmod 2147483629)):=λx=>gX (by decide)
 by_cases hc:(10^18:Int)<=a
 ·have hc':decide ((10^18:Int)<=a)=true:=OI hc
  refine⟨a.fmod m,a.fdiv m,b+1,?_,gw h0⟩
  simp![CN,hc',d1,d2]
  done
 ·have hc':decide ((10^18:Int)<=a)=false:=OA hc
  refine⟨Int.fmod (Int.fmod (Int.fmod ((Int.fmod a 1000003+7919*k+104729*(b+1))*48271) 2147483647*(Int.fmod (Int.fmod ((Int.fmod a 1000003+7919*k+104729*(b+1))*48271) 2147483647) 65521+(b+1))) 2147483629) m,a,b+1,?_,gw h0⟩
  simp![CN,hc',d1,e1,e2,e3,e4,e5,e6,e7,e8]
def AY{a b k:Int}{m:Nat}(hm:m<=1000):∃(o:List Nat) (a' b':Int),(∀i,i∈o ↔ i<m)/\o.length=m/\dD.G [fdV a b k,.int (m:Nat)]=.ok (.new (itV o)) [fdV a' b' k]:=by
 have rg:iA [.int (m:Nat)]=some (rgV m):=vt (i:=(m:Nat)) (by omega) (by omega)
 obtain⟨e',⟨a',b',o,s3,h1,h2,_,rfl⟩,lo⟩:=BN (g:=(gtN 3).G) (B:=gm.G) (λi e=>∃(a b:Int) (o:List Nat) (s3:Sl),o.length=i/\(∀j,j∈o ↔ j<i)/\s3.pl=true/\e=[.mu (fdV a b k),.sh (.int (m:Nat)),.ow (itV o),s3]) m (e:=[.mu (fdV a b k),.sh (.int (m:Nat)),.ow (itV []),.no]) ⟨a,b,[],.no,rfl,by simp,rfl,rfl⟩ (by
  rintro i hi _ ⟨a,b,o,s3,h1,h2,h3,rfl⟩
  obtain⟨r,a1,b1,e1,r0,r1⟩:=aS (a:=a) (b:=b) (k:=k) (m:=(o.length:Nat)+1) (by omega) (sm8 (by omega))
  refine⟨[.mu (fdV a b k),.sh (.int (m:Nat)),.ow (itV o),.sh (.int (i:Nat))],[.mu (fdV a1 b1 k),.sh (.int (m:Nat)),.ow (itV (o.take r.toNat++i::o.drop r.toNat)),.sh (.int (i:Nat))],?_,.inl ?_,a1,b1,_,_,?_,?_,rfl,rfl⟩
  ·simp![h3]
  ·have ln:(o.map λk:Nat=>Val.int k).length=o.length:=N_ ..
   have ins:(0<=r/\r<=(o.length:Nat)/\o.length<16777216):=⟨r0,by omega,by omega⟩
   unfold gm itV
   generalize hf:fdV a b k=f0 at *
   generalize hf1:fdV a1 b1 k=f1 at *
   simp![ln,e1,Ak,ins,true_and,and_true,and_self]
   simp [List.map_take,List.map_drop]
  ·simp only[Oh,Oq,Pk,Qb]
   omega
  ·intro j
   rw[O0,Oy]
   have:j∈o ↔ j∈o.take r.toNat\/j∈o.drop r.toNat:=by rw[<- O0,P8]
   rw[show (j<i+1 ↔ j<i\/j=i) from by omega,<- h2 j,this]
   constructor
   ·rintro (h |h |h)
    ·exact .inl (.inl h)
    ·exact .inr h
    ·exact .inl (.inr h)
   ·rintro ((h |h) |h)
    ·exact .inl h
    ·exact .inr (.inr h)
    ·exact .inr (.inl h))
 refine⟨o,a',b',h2,h1,?_⟩
 unfold dD
 rw[bP]
 unfold jI
 unfold itV at lo ⊢
 generalize fdV a b k=f0 at *
 generalize fdV a' b' k=f1 at *
 rw[OL] at lo
 simp![rg,lo]
def vP{a b k:Int}:∃(w:Bool) (r a' b':Int),aA.G [fdV a b k,.int 2]=.ok (.val (.int r)) [fdV a' b' k]/\atI [Val.str "across",Val.str "down"] r=some (Val.str (wy w)):=by
 obtain⟨r,a1,b1,e1,r0,r1⟩:=aS (a:=a) (b:=b) (k:=k) (m:=2) (by decide) (sm8 (by decide))
 obtain rfl |rfl:r=0\/r=1:=by omega
 ·exact⟨true,0,a1,b1,e1,fA (by decide) rfl⟩
 ·exact⟨false,1,a1,b1,e1,fA (by decide) rfl⟩
theorem nQ{k:Int}(nv:Val):∀(dR:List Nat) (t:AT) (l:List Nat) (a b:Int) (s3:Sl),s3.pl=true->TOk t l->∃(t':AT) (a' b':Int) (s3':Sl),TOk t' (dR.reverse++l)/\ff (gtN 3).G dW.G (dR.map λi:Nat=>.int i) [.mu (fdV a b k),.sh nv,.sh (t.val λk=>.int (k:Nat)),s3]=.nx [.mu (fdV a' b' k),.sh nv,.sh (t'.val λk=>.int (k:Nat)),s3']
 | [],t,l,a,b,s3,_,h=>⟨t,a,b,s3,h,rfl⟩
 |
  x::dR,t,l,a,b,s3,h3,h=>by
  obtain⟨w,r,a1,b1,e1,w1⟩:=vP (a:=a) (b:=b) (k:=k)
  obtain⟨r2,a2,b2,e2,r0,r1⟩:=aS (a:=a1) (b:=b1) (k:=k) (m:=2) (by decide) (sm8 (by decide))
  have key:∃t1,TOk t1 (x::l)/\dW.G [.mu (fdV a b k),.sh nv,.sh (t.val λk=>.int (k:Nat)),.sh (.int (x:Nat))]=.nx [.mu (fdV a2 b2 k),.sh nv,.sh (t1.val λk=>.int (k:Nat)),.sh (.int (x:Nat))]:=by
   have hd:=h.dep
   have hp:=AT.dep_pos t
   obtain rfl |rfl:r2=0\/r2=1:=by omega
   ·refine⟨.nd w [.lf x,t],⟨by simp [AT.ok,AT.okL,h.ok],λk=>by simp [AT.lvs,AT.lvsL,h.mem],by simp [AT.dep,AT.depL] <;> omega,by simp [AT.lvs,AT.lvsL,h.len] <;> omega⟩,?_⟩
    unfold dW
    rw[AT.val,AT.vals,AT.vals,AT.vals,AT.val]
    generalize AT.val (λk=>Val.int (k:Nat)) t=tv at *
    generalize fdV a b k=f0 at *
    generalize fdV a1 b1 k=f1 at *
    generalize fdV a2 b2 k=f2 at *
    simp![e1,w1,e2]
   ·refine⟨.nd w [t,.lf x],⟨by simp [AT.ok,AT.okL,h.ok],λk=>by simp [AT.lvs,AT.lvsL,h.mem,or_comm],by simp [AT.dep,AT.depL] <;> omega,by simp [AT.lvs,AT.lvsL,h.len]⟩,?_⟩
    unfold dW
    rw[AT.val,AT.vals,AT.vals,AT.vals,AT.val]
    generalize AT.val (λk=>Val.int (k:Nat)) t=tv at *
    generalize fdV a b k=f0 at *
    generalize fdV a1 b1 k=f1 at *
    generalize fdV a2 b2 k=f2 at *
    simp![e1,w1,e2]
  obtain⟨t1,h1,bb⟩:=key
  obtain⟨t',a',b',s3',h',q⟩:=nQ (k:=k) nv dR t1 (x::l) a2 b2 (.sh (.int (x:Nat))) rfl h1
  refine⟨t',a',b',s3',by rw[Pt,O7];exact h',?_⟩
  rw[Oi,eL]
  have g1:(gtN 3).G (.int (x:Nat)) [.mu (fdV a b k),.sh nv,.sh (t.val λk=>.int (k:Nat)),s3]=some [.mu (fdV a b k),.sh nv,.sh (t.val λk=>.int (k:Nat)),.sh (.int (x:Nat))]:=by
   generalize AT.val (λk=>Val.int (k:Nat)) t=tv at *
   simp![h3]
  rw[g1]
  dsimp only
  rw[bb]
  exact q
def Aw{a b k:Int}{l:List Nat}(hl:l≠[]):∃(t:AT) (a' b':Int),TOk t l/\dB.G [fdV a b k,itV l]=.ok (.val (t.val λk=>.int (k:Nat))) [fdV a' b' k]:=by
 cases l with
 |nil=>exact absurd rfl hl
 |
  cons x dR=>
  obtain⟨t,a',b',s3,h,q⟩:=nQ (k:=k) (itV (x::dR)) dR (.lf x) [x] a b .no rfl ⟨rfl,λk=>by simp [AT.lvs],Og _,rfl⟩
  refine⟨t,a',b',⟨h.ok,λk=>by rw[h.mem];simp [or_comm],by have:=h.dep;simpa using this,by have:=h.len;simpa using this⟩,?_⟩
  unfold dB
  rw[bP]
  unfold jJ
  rw[AT.val] at q
  unfold itV at q ⊢
  generalize AT.val (λk=>Val.int (k:Nat)) t=tv at *
  generalize fdV a b k=f0 at *
  generalize fdV a' b' k=f1 at *
  rw[Oi] at q ⊢
  simp![um,Mg,fY,q]
theorem vk{k:Int}(nv:Val)(m:Nat)(hm:1<=m/\m<=1000):∀(vs:List Nat) (xss:List (List Nat)) (a b:Int) (s4:Sl),s4.pl=true->xss.length=m->(∀l∈xss,l≠[])->xss.flatten.length+vs.length<=1000->∃(yss:List (List Nat)) (a' b':Int) (s4':Sl),Lots yss xss vs/\fZ 3 4 (az aA (ag (ah 0) (ag (ah 2) ao))).G (vs.map λi:Nat=>.int i) (xss.map λl=>l.map λi:Nat=>.int i) [.mu (fdV a b k),.sh nv,.sh (.int (m:Nat)),.no,s4]=.nx [.mu (fdV a' b' k),.sh nv,.sh (.int (m:Nat)),.sh (.lst (Af yss)),s4']
 |
  [],xss,a,b,s4,_,_,ne,_=>⟨xss,a,b,s4,⟨rfl,ne,λk=>by simp,rfl⟩,by
  unfold fZ
  show SR3.nx _=_
  rw[PQ]
  rfl⟩
 |
  v::vs,xss,a,b,s4,h4,hl,ne,ht=>by
  rw[Oq] at ht
  obtain⟨r,a1,b1,e1,r0,r1⟩:=aS (a:=a) (b:=b) (k:=k) (m:=(m:Nat)) (by omega) (sm8 (by omega))
  have hi:r.toNat<xss.length:=by omega
  have hx:=Ov hi
  generalize xss[r.toNat]=xs at hx
  have L1:=BS (u:=v) hx ne
  have hxl:xs.length<=1000:=by
   have:=QC (P9 (O4 hx))
   omega
  obtain⟨yss,a',b',s4',L2,q⟩:=vk (k:=k) nv m hm vs (xss.set r.toNat (xs++[v])) a1 b1 (.sh (.int (v:Nat))) rfl (by rw[Oz];exact hl) L1.ne (by have:=L1.tot;simp only[Oq,OG] at this;omega)
  refine⟨yss,a',b',s4',⟨L2.len.trans L1.len,L2.ne,λk=>by rw[L2.mem,L1.mem];simp [or_assoc],by have t1:=L2.tot;have t2:=L1.tot;simp only[Oq,OG] at t2 ⊢;omega⟩,?_⟩
  have g1:pN 4 (.int (v:Nat)) [.mu (fdV a b k),.sh nv,.sh (.int (m:Nat)),.no,s4]=some [.mu (fdV a b k),.sh nv,.sh (.int (m:Nat)),.no,.sh (.int (v:Nat))]:=by
   unfold pN
   show (if s4.pl=true then _ else _)=_
   rw[if_pos h4]
   rfl
  have q1:(az aA (ag (ah 0) (ag (ah 2) ao))).G [.mu (fdV a b k),.sh nv,.sh (.int (m:Nat)),.no,.sh (.int (v:Nat))]=.ok (.val (.int r)) [.mu (fdV a1 b1 k),.sh nv,.sh (.int (m:Nat)),.no,.sh (.int (v:Nat))]:=by
   generalize fdV a b k=f0 at *
   generalize fdV a1 b1 k=f1 at *
   simp![e1]
  have hx':(xss.map λl=>l.map λi:Nat=>Val.int i)[r.toNat]?=some (xs.map λi:Nat=>Val.int i):=by rw[OH,hx];rfl
  have sx:(xss.map λl=>l.map λi:Nat=>Val.int i).set r.toNat ((xs.map λi:Nat=>Val.int i)++[.int (v:Nat)])=(xss.set r.toNat (xs++[v])).map λl=>l.map λi:Nat=>Val.int i:=by rw[List.map_set,OQ];rfl
  rw[Oi]
  unfold fZ
  rw[g1]
  dsimp only
  rw[q1]
  dsimp only [rs]
  show (match (xss.map λl=>l.map λi:Nat=>Val.int i)[r.toNat]? with |some xs=>(if 0<=r/\xs.length<16777216 then fZ 3 4 _ _ _ _ else .stuck) |none=>.stuck)=_
  rw[hx']
  dsimp only
  rw[if_pos ⟨r0,by rw[N_];omega⟩,sx]
  exact q
theorem qf{k:Int}{m n:Nat}(ih:∀(l:List Nat) (a b:Int),l≠[]->l.length<=n->∃(t:AT) (a' b':Int),TOk t l/\(bE m).G [fdV a b k,itV l]=.ok (.val (atV t)) [fdV a' b' k]):
 ∀(ls:List (List Nat)) (acc:List Val) (a b:Int) (s:Sl),s.pl=true->(∀l∈ls,l≠[]/\l.length<=n)->acc.length+ls.length<=16777216->∃(ps:List (AT×List Nat)) (a' b':Int) (s':Sl),ps.map (·.2)=ls/\(∀p∈ps,TOk p.1 p.2)/\lcV (gtN 0).G qY.G (az (bE m).fn (ag (ah 1) (ag (ah 0) ao))).G (ls.map itV) acc [s,.mu (fdV a b k)]=.ok (acc++ps.map λp=>atV p.1) [s',.mu (fdV a' b' k)]
 | [],acc,a,b,s,_,_,_=>⟨[],a,b,s,rfl,(λ_ h=>nomatch h),by simp [lcV]⟩
 |
  l::ls,acc,a,b,s,hs,hl,ha=>by
  rw[Oq] at ha
  obtain⟨h1,h2⟩:=hl l (Of ..)
  obtain⟨t,a1,b1,ht,e1⟩:=ih l a b h1 h2
  obtain⟨ps,a',b',s',q1,q2,q3⟩:=qf ih ls (acc++[atV t]) a1 b1 (.sh (itV l)) rfl (λl hl'=>hl l (Od _ hl')) (by rw[Oh];show acc.length+1+_<=_;omega)
  refine⟨(t,l)::ps,a',b',s',by rw[Oi,q1],λp hp=>?_,?_⟩
  ·rcases Oy.mp hp with rfl |hp
   ·exact ht
   ·exact q2 p hp
  ·show lcV _ _ _ (itV l::ls.map itV) acc _=.ok (acc++atV t::ps.map λp=>atV p.1) _
   generalize atV t=tv at *
   generalize itV l=lv at *
   have g1:(gtN 0).G lv [s,.mu (fdV a b k)]=some [.sh lv,.mu (fdV a b k)]:=by
    simp![hs]
   have F1:(az (bE m).fn (ag (ah 1) (ag (ah 0) ao))).G [.sh lv,.mu (fdV a b k)]=.ok (.val tv) [.sh lv,.mu (fdV a1 b1 k)]:=by
    generalize fdV a b k=f0 at *
    generalize fdV a1 b1 k=f1 at *
    simp![e1]
   have d1:cW [.sh lv,.mu (fdV a1 b1 k)] (.val tv)=some ([.sh lv,.mu (fdV a1 b1 k)],tv):=rfl
   unfold lcV
   have cy:qY.G=cY:=rfl
   rw[cy] at q3 ⊢
   rw[if_pos (by omega),g1]
   simp only[cY,jx,Pl,F1,d1,q3]
   simp
theorem vR{k:Int}:∀(n m:Nat) (l:List Nat) (a b:Int),l≠[]->l.length<=n->n<=m->n<=100->∃(t:AT) (a' b':Int),TOk t l/\(bE m).G [fdV a b k,itV l]=.ok (.val (atV t)) [fdV a' b' k]
 |0,m,l,a,b,hl,hn,_,_=>absurd (Qu.mp (by omega)) hl
 |n+1,0,l,a,b,_,_,hm,_=>absurd hm (by omega)
 |
  n+1,m+1,l,a,b,hl,hn,hm,h100=>by
  have ih:=λ(l:List Nat) (a b:Int) (h1:l≠[]) (h2:l.length<=n)=>vR (k:=k) n m l a b h1 h2 (by omega) (by omega)
  have hpos:=QT.mpr hl
  have ll:(l.map λk:Nat=>Val.int k).length=l.length:=N_ ..
  show ∃t a' b',_/\(PFx.of [true,false] 5 (d8 (bE m))).G [fdV a b k,itV l]=_
  by_cases h1:l.length=1
  ·obtain⟨x,rfl⟩:=List.length_eq_one_iff.mp h1
   refine⟨.lf x,a,b,⟨rfl,λk=>by simp [AT.lvs],Og _,rfl⟩,?_⟩
   rw[gR]
   unfold d8 atV itV
   rw[AT.val]
   generalize fdV a b k=f0 at *
   simp![Oi,OL,fY]
  ·obtain⟨r,a1,b1,e1,r0,r1⟩:=aS (a:=a) (b:=b) (k:=k) (m:=if ((l.length:Nat):Int)-1<3 then ((l.length:Nat):Int)-1 else 3) (by split <;> omega) (sm8 (by split <;> omega))
   have hr:r<3/\r<(l.length:Int)-1:=by split at r1 <;> omega
   obtain⟨mn,hmn⟩:∃mn:Nat,(mn:Int)=2+r:=⟨(2+r).toNat,by omega⟩
   have ne1:(((l.length:Nat):Int)==1)=false:=by rw[OB];omega
   obtain⟨yss,a2,b2,s4,L,dl⟩:=vk (k:=k) (itV l) mn (by omega) (l.drop mn) ((l.take mn).map λx=>[x]) a1 b1 .no rfl (by rw[N_,Pk];omega) (λx hx=>by obtain⟨y,_,rfl⟩:=OS.mp hx;simp) (by
    have:((l.take mn).map λx=>[x]).flatten=l.take mn:=by rw[<- List.flatMap_def];exact List.flatMap_singleton' _
    rw[this,<- Oh,P8]
    omega)
   have hfl:((l.take mn).map λx=>[x]).flatten=l.take mn:=by rw[<- List.flatMap_def];exact List.flatMap_singleton' _
   have hy2:2<=yss.length:=by rw[L.len,N_,Pk];omega
   have htot:yss.flatten.length=l.length:=by rw[L.tot,hfl,<- Oh,P8]
   obtain⟨w,rw',a3,b3,e3,w3⟩:=vP (a:=a2) (b:=b2) (k:=k)
   have hlt:=tL L.ne
   obtain⟨ps,a4,b4,s0,q1,q2,q3⟩:=qf (k:=k) (m:=m) (n:=n) ih yss [] a3 b3 .no rfl (λx hx=>⟨L.ne x hx,by have:=hlt x hx;omega⟩) (by have:=oM L.ne;rw[OG];omega)
   have pl:ps.length=yss.length:=by rw[<- q1,N_]
   have T:=Ep (w:=w) q2 (λz=>by rw[z] at pl;simp at pl;omega) (λp hp=>L.ne p.2 (by rw[<- q1];exact O8 hp)) (by omega)
   rw[q1] at T
   refine⟨.nd w (ps.map (·.1)),a4,b4,⟨T.ok,λk=>?_,by have:=T.dep;omega,by rw[T.len,htot]⟩,?_⟩
   ·rw[T.mem,List.mem_flatten,L.mem]
    constructor
    ·rintro (⟨x,hx,hk⟩ |hk)
     ·obtain⟨y,hy,rfl⟩:=OS.mp hx
      rw[Pa] at hk
      subst hk
      exact List.mem_of_mem_take hy
     ·exact List.mem_of_mem_drop hk
    ·intro hk
     rw[<- P8 mn l] at hk
     rcases O0.mp hk with hk |hk
     ·exact .inl ⟨[k],O8 (f:=λx=>[x]) hk,Pa.mpr rfl⟩
     ·exact .inr hk
   ·rw[IU rfl]
    show trQ (atV (.nd w (ps.map (·.1)))) (fdV a4 b4 k) ((d8 (bE m)).G [.mu (fdV a b k),.sh (itV l),.no,.no,.no])
    unfold d8
    refine bB (λe=>e=[.mu (fdV a b k),.sh (itV l),.no,.no,.no]) ⟨_,by unfold itV;simp![ll,ne1],rfl⟩ ?_
    rintro _ rfl
    refine bB (λe=>e=[.mu (fdV a1 b1 k),.sh (itV l),.sh (.int (mn:Nat)),.no,.no]) ⟨_,by
     unfold itV
     generalize fdV a b k=f0 at *
     generalize fdV a1 b1 k=f1 at *
     simp![ll,e1,hmn],rfl⟩ ?_
    rintro _ rfl
    refine bB (λe=>e=[.mu (fdV a2 b2 k),.sh (itV l),.sh (.int (mn:Nat)),.sh (.lst (Af yss)),s4]) ⟨_,?_,rfl⟩ ?_
    ·rw[BE]
     have i1:(bY (pSl (ah 1) oN (oS (ah 2)))).G [.mu (fdV a1 b1 k),.sh (itV l),.sh (.int (mn:Nat)),.no,.no]=.ok ((l.take mn).map λi:Nat=>.int i,none) [.mu (fdV a1 b1 k),.sh (itV l),.sh (.int (mn:Nat)),.no,.no]:=by
      unfold itV
      simp![um,Gx,List.map_take]
     have i2:(bY (pSl (ah 1) (oS (ah 2)) oN)).G [.mu (fdV a1 b1 k),.sh (itV l),.sh (.int (mn:Nat)),.no,.no]=.ok ((l.drop mn).map λi:Nat=>.int i,none) [.mu (fdV a1 b1 k),.sh (itV l),.sh (.int (mn:Nat)),.no,.no]:=by
      unfold itV
      simp![um,rH,List.map_drop]
     rw[i1]
     show (if Sl.pl .no=true/\((l.take mn).map λi:Nat=>Val.int i).length<16777216 then _ else _)=_
     rw[if_pos ⟨rfl,by rw[N_,Pk];omega⟩]
     show ((bY (pSl (ah 1) (oS (ah 2)) oN)).G [.mu (fdV a1 b1 k),.sh (itV l),.sh (.int (mn:Nat)),.no,.no]).toS _=_
     rw[i2]
     show fZ 3 4 _ ((l.drop mn).map λi:Nat=>.int i) (((l.take mn).map λi:Nat=>Val.int i).map λv=>[v]) [.mu (fdV a1 b1 k),.sh (itV l),.sh (.int (mn:Nat)),.no,.no]=_
     have sx:(((l.take mn).map λi:Nat=>Val.int i).map λv=>[v])=((l.take mn).map λx=>[x]).map λl=>l.map λi:Nat=>Val.int i:=by rw[PQ,PQ];rfl
     rw[sx]
     exact dl
    ·rintro _ rfl
     have lp:(ps.map λp=>atV p.1).length<=16777216:=by have:=oM L.ne;rw[N_];omega
     rw[OR] at q3
     unfold trQ
     unfold atV at q3 lp ⊢
     rw[AT.val,AT.vals_map,PQ]
     unfold Af
     have cm:(List.map (AT.val (λk=>Val.int (k:Nat)) ∘ λx=>x.fst) ps)=ps.map λp=>AT.val (λk=>Val.int (k:Nat)) p.1:=rfl
     rw[cm]
     generalize (ps.map λp=>AT.val (λk=>Val.int (k:Nat)) p.1)=PS at *
     generalize itV l=lv at *
     generalize fdV a2 b2 k=f2 at *
     generalize fdV a3 b3 k=f3 at *
     generalize fdV a4 b4 k=f4 at *
     generalize yss.map itV=YS at *
     simp![e3,w3,cA,inS,q3,lp,Cr]
def fT(xs:List Val):(aY kits).G [.tup xs,.ty "tuple"]=.val (.bl true):=rfl
def xP{a:Val}(h:lfV a=true):(aY kits).G [a,.ty "tuple"]=.val (.bl false):=by cases a <;> first |rfl |(cases h;done)
def xQ(w:Bool):cX.G [.str (wy w)]=.ok (.val (.bl true)) []:=by
 have i1:∀x:Str,(aY kits).G [.str x,.ty "str"]=.val (.bl true):=λ_=>rfl
 have i2:bIn.G (.str (wy w)) (.tup [.str "across",.str "down"])=.val (.bl true):=by cases w <;> rfl
 unfold cX
 rw[bP]
 unfold lr
 simp![i1,i2]
def ze{w:Bool}{ts:List Val}(h:2<=ts.length):cn.G [.tup [.str (wy w),.tup ts]]=.ok (.val (.bl true)) []:=by
 have e:=xQ w
 have i1:∀xs:List Val,(aY kits).G [.tup xs,.ty "tuple"]=.val (.bl true):=λ_=>rfl
 have g:decide ((2:Int)<=(ts.length:Nat))=true:=OI (by omega)
 unfold cn
 rw[bP]
 unfold gW
 simp![i1,e,fY,g]
def zR{a:Val}(h:lfV a=true):cn.G [a]=.ok (.val (.bl false)) []:=by
 have i1:(aY kits).G [a,.ty "tuple"]=.val (.bl false):=by cases a <;> first |rfl |(cases h;done)
 unfold cn
 rw[bP]
 unfold gW
 simp![i1]
def zE(k:Nat):br.G [.int (k:Nat)]=.ok (.val (.bl true)) []:=by
 have i1:(aY kits).G [.int (k:Nat),.ty "int"]=.val (.bl true):=rfl
 have i2:(aY kits).G [.int (k:Nat),.ty "bool"]=.val (.bl false):=rfl
 unfold br
 rw[bP]
 unfold iL
 simp![i1,i2]
theorem lM{n:Nat}(v:Val):∀(N:Nat) (st:List AT) (xs:List Int) (s4:Sl),AT.cntL st<=N->s4.pl=true->(∀t∈st,t.ok=true)->(∀k∈AT.lvsL st,k<n)->(AT.lvsL st).Nodup->(∀k∈AT.lvsL st,((k:Nat):Int)∉xs)->xs.length+(AT.lvsL st).length<=3000->AT.cntL st<=100000->
 ∃(ys:List Int) (s4':Sl),ys.length=xs.length+(AT.lvsL st).length/\(xWh (qTr (ah 3)) dn).G [.sh v,.sh (.int (n:Nat)),.ow (.set xs),.ow (.lst (st.map atV)),s4]=.nx [.sh v,.sh (.int (n:Nat)),.ow (.set ys),.ow (.lst []),s4']
 |
  N,[],xs,s4,_,_,_,_,_,_,_,_=>⟨xs,s4,by simp [AT.lvsL],by
  rw[lT]
  simp![OL,mR,List.isEmpty_nil]⟩
 |
  0,t::ts,xs,s4,h,_,_,_,_,_,_,_=>by
  rw[AT.cntL] at h
  cases t <;> (rw[AT.cnt] at h;omega)
 |
  N+1,t0::ts0,xs,s4,hN,h4,ho,hn,nd,hx,hl,hc=>by
  obtain⟨st,t,hst⟩:∃st t,t0::ts0=st++[t]:=⟨(t0::ts0).dropLast,(t0::ts0).getLast (by simp),(List.dropLast_concat_getLast (by simp)).symm⟩
  rw[hst] at hN ho hn nd hx hl hc ⊢
  rw[AT.lvsL_app] at hn nd hx hl
  rw[AT.lvsL_app]
  rw[AT.cntL_app] at hN hc
  have hn0:((st++[t]).map atV).isEmpty=false:=by cases st <;> rfl
  have c1:(qTr (ah 3)).G [.sh v,.sh (.int (n:Nat)),.ow (.set xs),.ow (.lst ((st++[t]).map atV)),s4]=.ok true [.sh v,.sh (.int (n:Nat)),.ow (.set xs),.ow (.lst ((st++[t]).map atV)),s4]:=by
   simp![mR,hn0,Bool.not_false]
  have hto:=ho t (by simp)
  rw[lT,c1]
  show ∃ys s4',_/\((dn.G _).loop _)=_
  rw[OQ,Oi,OL]
  cases t with
  |
   lf k=>
   simp only[AT.lvsL,AT.lvs,OT,Oh,Oq,OG,AT.cntL,AT.cnt] at hn nd hx hl hN hc ⊢
   have hk:=hn k (by simp)
   have hkx:=hx k (by simp)
   have nda:=List.nodup_append.mp nd
   obtain⟨ys,s4',q1,q2⟩:=lM (n:=n) v N st (fC xs (k:Nat)) (.sh (.int (k:Nat))) (by omega) rfl (λt ht=>ho t (by simp [ht])) (λj hj=>hn j (by simp [hj])) nda.1 (λj hj z=>by
    unfold fC at z
    rw[if_neg hkx] at z
    rcases Oy.mp z with z |z
    ·exact nda.2.2 j hj k (by simp) (Int.ofNat.inj z)
    ·exact hx j (by simp [hj]) z) (by unfold fC;rw[if_neg hkx,Oq];omega) (by omega)
   refine⟨ys,s4',by rw[q1];unfold fC;rw[if_neg hkx,Oq];omega,?_⟩
   have b1:=zR (a:=.int (k:Nat)) rfl
   have w1:=zE k
   have l0:decide (((k:Nat):Int)<0)=false:=OA (by omega)
   have l1:decide (((n:Nat):Int)<=(k:Nat))=false:=OA (by omega)
   have in1:decide (((k:Nat):Int)∈xs)=false:=OA hkx
   have av:atV (.lf k)=.int (k:Nat):=rfl
   have xl:xs.length<4000:=by omega
   have bb:dn.G [.sh v,.sh (.int (n:Nat)),.ow (.set xs),.ow (.lst (st.map atV++[atV (.lf k)])),s4]=.nx [.sh v,.sh (.int (n:Nat)),.ow (.set (fC xs (k:Nat))),.ow (.lst (st.map atV)),.sh (.int (k:Nat))]:=by
    unfold dn
    rw[av]
    simp![nZ,h4,b1,w1,l0,l1,Lf,in1,F5,ui,zW,xl]
   rw[bb]
   exact q2
  |
   nd w ts=>
   have ho':=hto
   rw[AT.ok,Oj] at hto
   have h2:2<=ts.length:=Pf hto.1
   have hk:=AT.okL_mem.mp hto.2
   simp only[AT.lvsL,AT.lvs,OT,AT.cntL,AT.cnt] at hn nd hx hl hN hc ⊢
   obtain⟨ys,s4',q1,q2⟩:=lM (n:=n) v N (st++ts) xs (.sh (atV (.nd w ts))) (by rw[AT.cntL_app];omega) rfl (λt ht=>by
    rcases O0.mp ht with ht |ht
    ·exact ho t (by simp [ht])
    ·exact hk t ht) (by rw[AT.lvsL_app];exact hn) (by rw[AT.lvsL_app];exact nd) (by rw[AT.lvsL_app];exact hx) (by rw[AT.lvsL_app];exact hl) (by rw[AT.cntL_app];omega)
   rw[AT.lvsL_app] at q1
   refine⟨ys,s4',q1,?_⟩
   have av:atV (.nd w ts)=.tup [.str (wy w),.tup (ts.map atV)]:=by
    unfold atV
    rw[AT.val,AT.vals_map]
   have b1:=ze (w:=w) (ts:=ts.map atV) (by rw[N_];exact h2)
   have le:∀l:List AT,l.length<=AT.cntL l:=by
    intro l
    induction l with
    |nil=>exact Og _
    |cons t l ih=>rw[AT.cntL,Oq];cases t <;> (rw[AT.cnt];omega)
   have ll:(st.map atV).length+(ts.map atV).length<=16777216:=by
    have:=le st
    have:=le ts
    rw[N_,N_]
    omega
   rw[av] at q2 ⊢
   rw[OQ] at q2
   have bb:dn.G [.sh v,.sh (.int (n:Nat)),.ow (.set xs),.ow (.lst (st.map atV++[.tup [.str (wy w),.tup (ts.map atV)]])),s4]=.nx [.sh v,.sh (.int (n:Nat)),.ow (.set xs),.ow (.lst (st.map atV++ts.map atV)),.sh (.tup [.str (wy w),.tup (ts.map atV)])]:=by
    unfold dn
    simp![nZ,h4,b1,lE,ll]
   rw[bb]
   exact q2
def xn{t:AT}{n:Nat}(ho:t.ok=true)(hn:∀k∈t.lvs,k<n)(nd:t.lvs.Nodup)(hl:t.lvs.length=n)(h3:n<=3000)(hc:t.cnt<=100000):eP.G [atV t,.int (n:Nat)]=.ok (.val (.bl true)) []:=by
 have e1:AT.lvsL [t]=t.lvs:=by simp [AT.lvsL]
 have e2:AT.cntL [t]=t.cnt:=by simp [AT.cntL]
 obtain⟨ys,s4',q1,q2⟩:=lM (n:=n) (atV t) (AT.cntL [t]) [t] [] .no (Og _) rfl (λu hu=>by rw[Pa] at hu;rw[hu];exact ho) (by rw[e1];exact hn) (by rw[e1];exact nd) (λk hk z=>nomatch z) (by rw[e1,hl];simp;exact h3) (by rw[e2];exact hc)
 rw[e1,hl,OG,Nat.zero_add] at q1
 rw[Oi,OL] at q2
 unfold eP
 rw[bP]
 unfold lL
 generalize atV t=tv at *
 simp![GP,q2,FA,q1,PU]
def qL{t:AT}{n:Nat}(ho:t.ok=true)(hn:∀k∈t.lvs,k<n)(nd:t.lvs.Nodup)(hl:t.lvs.length=n)(h3:n<=3000)(hc:t.cnt<=100000):c7.G [atV t,.int (n:Nat)]=.ok (.val .non) []:=by
 have e:=xn ho hn nd hl h3 hc
 unfold c7
 rw[bP]
 unfold jc
 generalize atV t=tv at *
 simp![e]
def iR(a:Int):(if a<0 then -a else a)=((a.natAbs:Nat):Int):=by split <;> omega
theorem su:∀(n one bd:Nat),bd<=n->(xWh (qOf (pOp bNe (ah 1) (au 0))) cN).G [.sh (.int (one:Nat)),.sh (.int (bd:Nat))]=.nx [.sh (.int (Nat.gcd one bd:Nat)),.sh (.int 0)]
 |
  n,one,0,_=>by
  rw[lT]
  simp![jx]
  rw[Nat.gcd_zero_right]
  try rfl
 |0,one,bd+1,hl=>absurd hl (by omega)
 |
  n+1,one,bd+1,hl=>by
  rw[lT]
  have e:((((bd+1:Nat):Int)==0))=false:=by rw[OB];omega
  have e1:cS.G (.int (one:Nat)) (.int ((bd+1:Nat):Int))=.val (.int (((one:Nat):Int).fmod ((bd+1:Nat):Int))):=gX (by omega)
  have e2:((one:Nat):Int).fmod ((bd+1:Nat):Int)=((one % (bd+1):Nat):Int):=by
   rw[Qg _ (by omega)];rfl
  have ih:=su n (bd+1) (one % (bd+1)) (by have:=Nat.mod_lt one (show bd+1>0 by omega);omega)
  rw[Fr.euc] at ih
  rw[e2] at e1
  have bb:cN.G [.sh (.int (one:Nat)),.sh (.int ((bd+1:Nat):Int))]=.nx [.sh (.int ((bd+1:Nat):Int)),.sh (.int ((one % (bd+1):Nat):Int))]:=by
   unfold cN
   simp![e1]
  simp![e,bb,ih]
def dN(a b:Int):bo.G [.int a,.int b]=.ok (.val (.int (Int.gcd a b:Nat))) []:=by
 unfold bo
 rw[bP]
 unfold fF
 have:=su b.natAbs a.natAbs b.natAbs (Og _)
 simp![iR,this]
 rfl
def gO{a b:Int}(hb:b≠0)(hs:Sm 8000 b):bO.G [.int a,.int b]=.ok (.val (fV ((a:Rat)/(b:Rat)))) []:=by
 unfold bO
 rw[bP]
 unfold ku
 have e:(b==0)=false:=by rw[OB];exact hb
 have c:∀x,CDivB x (Fr.dv a b):=λx=>CDivB.of (Fr.dv_ne hb) (hs.of_le (by
  rw[Fr.dv_abs]
  exact Nat.le_of_dvd (by omega) (Nat.gcd_dvd_right a.natAbs b.natAbs)))
 have k1:=mi (c a)
 have k2:=mi (c b)
 have hh:=ou (a:=a) hb
 have ii:Val.tup [.int (a.fdiv (Fr.dv a b)),.int (b.fdiv (Fr.dv a b))]=fV ((a:Rat)/(b:Rat)):=by
  unfold fV
  rw[<- hh.1,<- hh.2]
  rfl
 by_cases hn:b<0
 ·have hd:Fr.dv a b=-((Int.gcd a b:Nat):Int):=by unfold Fr.dv;rw[if_pos hn]
  rw[hd] at k1 k2 ii
  simp![e,dN,OI hn,k1,k2,ii]
 ·have hd:Fr.dv a b=((Int.gcd a b:Nat):Int):=by unfold Fr.dv;rw[if_neg hn]
  rw[hd] at k1 k2 ii
  simp![e,dN,OA hn,k1,k2,ii]
def B9{p q:Rat}{n m:Nat}(hp:Sz n p)(hq:Sz m q)(h:n+m<=8000):gE.G [fV p,fV q]=.ok (.val (fV (p+q))) []:=by
 have c1:=fB (CMulA.of hp.top hq.bot (by omega) (by omega))
 have c2:=fB (CMulA.of hq.top hp.bot (by omega) (by omega))
 have c3:=fB (CMulA.of hp.bot hq.bot (by omega) (by omega))
 have fe:=gO (a:=p.num*q.den+q.num*p.den) (b:=p.den*q.den) (QI (fm p) (fm q)) ((hp.bot.mul hq.bot).mono h)
 rw[<- Dn] at fe
 unfold gE
 rw[bP]
 unfold pG
 rw[show fV p=.tup [.int p.num,.int p.den] from rfl,show fV q=.tup [.int q.num,.int q.den] from rfl]
 simp![c1,c2,c3,fe]
def ug{p q:Rat}{n m:Nat}(hp:Sz n p)(hq:Sz m q)(h:n+m<=8000):fP.G [fV p,fV q]=.ok (.val (fV (p*q))) []:=by
 have c1:=fB (CMulA.of hp.top hq.top (by omega) (by omega))
 have c2:=fB (CMulA.of hp.bot hq.bot (by omega) (by omega))
 have fe:=gO (a:=p.num*q.num) (b:=p.den*q.den) (QI (fm p) (fm q)) ((hp.bot.mul hq.bot).mono h)
 rw[<- vI] at fe
 unfold fP
 rw[bP]
 unfold pJ
 rw[show fV p=.tup [.int p.num,.int p.den] from rfl,show fV q=.tup [.int q.num,.int q.den] from rfl]
 simp![c1,c2,fe]
def ma{v:Val}(hk:knV v=true):(aY kits).G [v,.ty "tuple"]=.val (.bl (gq v)):=by
 cases v <;> first |rfl |cases hk
def jF{v:Val}(hk:knV v=true):br.G [v]=.ok (.val (.bl (kQ v))) []:=by
 unfold br
 rw[bP]
 unfold iL
 cases v <;> first |rfl |cases hk
def uA(v:Val):gq v=false\/∃xs,v=.tup xs:=by
 cases v <;> first |exact .inr ⟨_,rfl⟩ |exact .inl rfl
def nC(v:Val):kQ v=false\/∃i,v=.int i:=by
 cases v <;> first |exact .inr ⟨_,rfl⟩ |exact .inl rfl
def K9{v:Val}(h:gq v=false):ba v=false:=by
 cases v <;> first |rfl |cases h
def Lm{v:Val}(h:gq v=false):gZ v=false:=by
 cases v <;> first |rfl |cases h
def Ig{a b:Val}(h:kQ a=false):ba (.tup [a,b])=false:=by
 cases a <;> first |rfl |cases h
def HH{i:Int}{b:Val}(h:kQ b=false):ba (.tup [.int i,b])=false:=by
 cases b <;> first |rfl |cases h
def JT{xs:List Val}(hl:xs.length≠2):ba (.tup xs)=false:=by
 unfold ba
 split
 ·rename_i e;injection e with e;subst e;exact absurd rfl hl
 ·rfl
def Lk{xs:List Val}(hl:xs.length≠4):gZ (.tup xs)=false:=by
 unfold gZ
 split
 ·rename_i e;injection e with e;subst e;exact absurd rfl hl
 ·rfl
def CJ{k:Nat}{v:Val}(ha:jL k v=true)(h:gq v=false):knV v=true:=by
 cases v with
 |tup xs=>cases h
 |_=>cases k <;> exact ha
def oX{v:Val}(ha:jL 1 v=true):bX.G [v]=.ok (.val (.bl (ba v))) []:=by
 unfold bX
 rw[bP]
 unfold iq
 rcases uA v with ht |⟨xs,rfl⟩
 ·have it:=ma (CJ ha ht)
  rw[ht] at it
  simp![it,K9 ht]
 have it:=ma (v:=.tup xs) rfl
 by_cases hl:xs.length=2
 ·match xs,hl,ha with
  |
   [a,b],_,ha=>
   have ha':(knV a&&(knV b&&true))=true:=by simpa [jL] using ha
   simp only[Oj] at ha'
   have w1:=jF ha'.1
   have w2:=jF ha'.2.1
   rcases nC a with h1 |⟨i,rfl⟩
   ·rw[h1] at w1
    simp![it,gq,w1,Ig h1]
   rcases nC b with h2 |⟨j,rfl⟩
   ·rw[h2] at w2
    simp![it,gq,w1,kQ,w2,HH h2]
   have f:ba (.tup [.int i,.int j])=(decide (1<=j)&&decide (Int.gcd i j=1)):=rfl
   have g:((((Int.gcd i j:Nat):Int)==1):Bool)=decide (Int.gcd i j=1):=by
    rw[Bool.eq_iff_iff,Qt,QA];omega
   by_cases hj:1<=j
   ·simp![it,gq,w1,w2,kQ,dN,OI hj,f,g]
   ·simp![it,gq,w1,w2,kQ,dN,OA hj,f,g]
 ·have e:(((xs.length:Nat):Int)==2)=false:=by rw[OB];omega
  simp![it,gq,e,JT hl]
def qh{v:Val}(ha:jL 2 v=true):fN.G [v]=.ok (.val (.bl (gZ v))) []:=by
 unfold fN
 rw[bP]
 unfold mV
 rcases uA v with ht |⟨xs,rfl⟩
 ·have it:=ma (CJ ha ht)
  rw[ht] at it
  simp![it,Lm ht]
 have it:=ma (v:=.tup xs) rfl
 by_cases hl:xs.length=4
 ·match
   xs,hl,ha with
  |
   [a,b,c,d],_,ha=>
   have e1:gZ (.tup [a,b,c,d])=(ba a&&(ba b&&(ba c&&(ba d&&(kM c&&kM d))))):=rfl
   have bl4:∀x y z w:Bool,lJ [.bl x,.bl y,.bl z,.bl w]=some [x,y,z,w]:=λ_ _ _ _=>rfl
   obtain⟨e',⟨s',rfl,_⟩,lc⟩:=pM (g:=(gtN 0).G) (F:=(az bX (ag (ah 0) ao)).G) (f:=λv=>.bl (ba v)) (λe=>∃s,e=[s]/\s.pl=true) [a,b,c,d] [] [.no] ⟨.no,rfl,rfl⟩ (by
    rintro v hv e ⟨s,rfl,hs⟩
    have hv':jL 1 v=true:=OV.mp (by simpa [jL] using ha) v hv
    refine⟨[.sh v],.val (.bl (ba v)),[.sh v],?_,?_,rfl,⟨_,rfl,rfl⟩⟩
    ·simp![hs]
    ·simp![oX hv']) (by simp)
   have cy:cY=qY.G:=rfl
   rw[cy,OR] at lc
   simp only[Oi,OL] at lc
   cases hA:(ba a&&(ba b&&(ba c&&ba d))) with
   |
    true=>
    simp only[Oj] at hA
    obtain⟨p,rfl⟩:=y0 hA.2.2.1
    obtain⟨q,rfl⟩:=y0 hA.2.2.2
    rw[hA.1,hA.2.1,hA.2.2.1,hA.2.2.2] at e1 lc
    have e2:gZ (.tup [a,b,fV p,fV q])=(decide (0<p.num)&&decide (0<q.num)):=by rw[e1];rfl
    rw[e2]
    have i1:(fV p).items=some [.int p.num,.int p.den]:=rfl
    have i2:(fV q).items=some [.int q.num,.int q.den]:=rfl
    by_cases hp:0<p.num
    ·simp![it,gq,lc,cA,bl4,id,i1,i2,OI hp]
    ·simp![it,gq,lc,cA,bl4,id,i1,OA hp]
   |
    false=>
    have e2:gZ (.tup [a,b,c,d])=false:=by
     rw[e1]
     revert hA
     generalize ba a=a',ba b=b',ba c=c',ba d=d',(kM c&&kM d)=z
     revert a' b' c' d' z
     decide
    rw[e2]
    simp![it,gq,lc,cA,bl4,id,hA]
 ·have e:(((xs.length:Nat):Int)==4)=false:=by rw[OB];omega
  simp![it,gq,e,Lk hl]
def tQ{v:Val}(ha:jL 2 v=true):bL.G [v]=if gZ v=true then .ok (.val .non) [] else .exc "NoBox" []:=by
 unfold bL
 rw[bP]
 unfold jR
 cases h:gZ v with
 |true=>simp![qh ha,h]
 |false=>simp![qh ha,h]
def lY{b:Bx}(hb:b.Ok):bL.G [bV b]=.ok (.val .non) []:=by rw[tQ (F7 b),Ab hb];rfl
def LO{v:Val}(h:kQ v=false):jz v=false:=by
 cases v <;> first |rfl |cases h
def BP(v:Val):kO v=false\/∃xs,v=.lst xs:=by
 cases v <;> first |exact .inr ⟨_,rfl⟩ |exact .inl rfl
def rC{v:Val}(hk:knV v=true):cT.G [v]=.ok (.val (.bl (jz v))) []:=by
 have w:=jF hk
 unfold cT
 rw[bP]
 unfold jN
 rcases nC v with h |⟨i,rfl⟩
 ·rw[h] at w
  simp![w,LO h]
 ·simp![w,kQ];rfl
def uR{v:Val}(hk:knV v=true):(aY kits).G [v,.ty "list"]=.val (.bl (kO v)):=by
 cases v <;> first |rfl |cases hk
def wq(v:Val):R3F:=match v with
 |.lst xs=>if xs=[] then .exc "NoWeights" [] else if xs.all jz=true then (if xs.length<=40 then .ok (.val .non) [] else .exc "TooMany" []) else .exc "NoWeights" []
 |_=>.exc "NoWeights" []
def Fp{v:Val}(h:kO v=false):wq v=.exc "NoWeights" []:=by
 cases v <;> first |rfl |cases h
def rX:Val->Bool
 |.lst xs=>decide (xs.length<=1000)&&xs.all knV
 |v=>knV v
def EK{v:Val}(h:rX v=true)(hl:kO v=false):knV v=true:=by cases v <;> first |(cases hl;done) |exact h
theorem kE(f:Val->Bool):∀xs:List Val,lJ (xs.map λv=>.bl (f v))=some (xs.map f)
 | []=>rfl
 |x::xs=>by show (lJ (xs.map λv=>.bl (f v))).map (f x :: ·)=_;rw[kE f xs];rfl
def kU(f:Val->Bool)(xs:List Val):(xs.map f).all id=xs.all f:=by rw[List.all_map];rfl
def nE{v:Val}(ha:rX v=true):bc.G [v]=wq v:=by
 unfold bc
 rw[bP]
 unfold gp
 rcases BP v with hv |⟨xs,rfl⟩
 ·have il:=uR (EK ha hv)
  rw[hv] at il
  rw[Fp hv]
  simp![il]
 ·have ha':xs.length<=1000/\xs.all knV=true:=by simpa [rX] using ha
  have il:=uR (v:=.lst xs) rfl
  unfold wq
  dsimp only
  by_cases h0:xs=[]
  ·subst h0
   simp![il]
  ·have e0:(((xs.length:Nat):Int)==0)=false:=by
    rw[OB]
    intro z
    exact h0 (Qu.mp (by omega))
   rw[if_neg h0]
   obtain⟨e',p',lc⟩:=pM (g:=(gtN 0).G) (F:=(az cT (ag (ah 0) ao)).G) (f:=λv=>.bl (jz v)) (λe=>∃s,e=[s]/\s.pl=true) xs [] [.no] ⟨.no,rfl,rfl⟩ (by
    rintro v hv e ⟨s,rfl,hs⟩
    refine⟨[.sh v],.val (.bl (jz v)),[.sh v],?_,?_,rfl,⟨_,rfl,rfl⟩⟩
    ·simp![hs]
    ·simp![rC (OV.mp ha'.2 v hv)]) (by simp;omega)
   obtain⟨s',rfl,_⟩:=p'
   have cy:cY=qY.G:=rfl
   rw[cy,OR] at lc
   have bi:(xs.map λv=>Val.bl (jz v)).length<=16777216:=by rw[N_];omega
   by_cases hw:xs.all jz=true
   ·rw[if_pos hw]
    by_cases h40:xs.length<=40
    ·have hd:decide ((40:Int)<((xs.length:Nat):Int))=false:=OA (by omega)
     rw[if_pos h40]
     simp![il,e0,cA,lc,bi,kE,kU,hw,hd]
    ·have hd:decide ((40:Int)<((xs.length:Nat):Int))=true:=OI (by omega)
     rw[if_neg h40]
     simp![il,e0,cA,lc,bi,kE,kU,hw,hd]
   ·have hw':xs.all jz=false:=Bool.eq_false_iff.mpr hw
    rw[if_neg hw]
    simp![il,e0,cA,lc,bi,kE,kU,hw']
def yV{ws:List Int}(h0:ws≠[])(h1:∀w∈ws,1<=w)(h2:ws.length<=40):bc.G [.lst (ws.map .int)]=.ok (.val .non) []:=by
 have ha:rX (.lst (ws.map .int))=true:=by
  simp only[rX,Oj,QA,N_]
  exact⟨by omega,by rw[OV];intro v hv;obtain⟨w,_,rfl⟩:=OS.mp hv;rfl⟩
 rw[nE ha]
 unfold wq
 dsimp only
 rw[if_neg (by intro z;exact h0 (List.map_eq_nil_iff.mp z)),if_pos (by
  rw[OV];intro v hv
  obtain⟨w,hw,rfl⟩:=OS.mp hv
  exact OI (h1 w hw)),if_pos (by rw[N_];exact h2)]
def Jx:dZ (.str "down") (.str "across")=some false:=by rw[L3.eq_str (by decide) (by decide)];exact Pb some (by decide)
def GF:dZ (.str "across") (.str "across")=some true:=by rw[L3.eq_str (by decide) (by decide)];exact Pb some (by decide)
def prV(p:Rat×Rat):Val:=.tup [fV p.1,fV p.2]
theorem uU{s l:Rat}{n m:Nat}{W:Int}{wv:Val}(hs:Sz n s)(hl:Sz n l)(hW:0<W)(mW:Sm m W)(h:n+n+m<=8000):∀(ws:List Int) (a:Int) (acc:List (Rat×Rat)) (s6 s7:Sl),s6.pl=true->s7.pl=true->0<=a->(∀w∈ws,0<=w)->a+ws.sum<=W->acc.length+ws.length<=16777216->∃s6' s7',ff (gtN 6).G g9.G (ws.map .int) [.sh (fV s),.sh (fV l),.sh wv,.sh (.int W),.sh (.int a),.ow (.lst (acc.map prV)),s6,s7]=.nx [.sh (fV s),.sh (fV l),.sh wv,.sh (.int W),.sh (.int (a+ws.sum)),.ow (.lst ((acc++shL s l W a ws).map prV)),s6',s7']
 | [],a,acc,s6,s7,h6,h7,ha,hw,hsum,bi=>⟨s6,s7,by rw[OL,vc,List.sum_nil,Int.add_zero];unfold shL;rw[OT]⟩
 |
  w::ws,a,acc,s6,s7,h6,h7,ha,hw,hsum,bi=>by
  have hw0:=hw w (Of ..)
  have hws:0<=ws.sum:=by
   have:∀l:List Int,(∀w∈l,0<=w)->0<=l.sum:=by
    intro l
    induction l with
    |nil=>intro _;simp
    |cons x l ih=>intro hx;rw[OU];have:=hx x (Of ..);have:=ih λw hw=>hx w (Od _ hw);omega
   exact this ws λx hx=>hw x (Od _ hx)
  rw[OU] at hsum
  rw[Oq] at bi
  have sa:Sm m a:=mW.of_le (by omega)
  have sw:Sm m w:=mW.of_le (by omega)
  have f1:=gO (a:=a) (b:=W) (by omega) (mW.mono (by omega))
  have f2:=gO (a:=w) (b:=W) (by omega) (mW.mono (by omega))
  have z1:Sz m ((a:Rat)/(W:Rat)):=Sz.div (by omega) sa mW m (Og _) (Og _)
  have z2:Sz m ((w:Rat)/(W:Rat)):=Sz.div (by omega) sw mW m (Og _) (Og _)
  have t1:=ug hl z1 (by omega)
  have t2:=ug hl z2 (by omega)
  have ad:=B9 hs (hl.mul z1) (by omega)
  have ll:(acc.map prV).length<16777216:=by rw[N_];omega
  obtain⟨t6,t7,ih⟩:=uU (wv:=wv) hs hl hW mW h ws (a+w) (acc++[(s+l*((a:Rat)/(W:Rat)),l*((w:Rat)/(W:Rat)))]) (.sh (.int w)) (.sh (fV (s+l*((a:Rat)/(W:Rat))))) rfl rfl (by omega) (λx hx=>hw x (Od _ hx)) (by omega) (by simp;omega)
  refine⟨t6,t7,?_⟩
  have g1:(gtN 6).G (.int w) [.sh (fV s),.sh (fV l),.sh wv,.sh (.int W),.sh (.int a),.ow (.lst (acc.map prV)),s6,s7]=some [.sh (fV s),.sh (fV l),.sh wv,.sh (.int W),.sh (.int a),.ow (.lst (acc.map prV)),.sh (.int w),s7]:=by
   simp![h6]
  have b1:g9.G [.sh (fV s),.sh (fV l),.sh wv,.sh (.int W),.sh (.int a),.ow (.lst (acc.map prV)),.sh (.int w),s7]=.nx [.sh (fV s),.sh (fV l),.sh wv,.sh (.int W),.sh (.int (a+w)),.ow (.lst ((acc++[(s+l*((a:Rat)/(W:Rat)),l*((w:Rat)/(W:Rat)))]).map prV)),.sh (.int w),.sh (fV (s+l*((a:Rat)/(W:Rat))))]:=by
   unfold g9
   rw[OQ]
   simp![h7,f1,f2,t1,t2,ad,ll,prV]
  rw[Oi,eL,g1]
  simp only[b1,rj]
  rw[ih,OU]
  rw[show shL s l W a (w::ws)=(s+l*((a:Rat)/(W:Rat)),l*((w:Rat)/(W:Rat)))::shL s l W (a+w) ws from rfl,O7,show a+w+ws.sum=a+(w+ws.sum) by omega]
  rfl
def p6{s l:Rat}{n m:Nat}{ws:List Int}(hs:Sz n s)(hl:Sz n l)(hw:∀w∈ws,0<=w)(h0:0<ws.sum)(mW:Sm m ws.sum)(h:n+n+m<=8000)(bi:ws.length<=1000):eN.G [fV s,fV l,.lst (ws.map .int)]=.ok (.new (.lst ((shL s l ws.sum 0 ws).map prV))) []:=by
 obtain⟨s6,s7,lo⟩:=uU (wv:=.lst (ws.map .int)) hs hl h0 mW h ws 0 [] .no .no rfl rfl (by omega) hw (by omega) (by simp;omega)
 rw[OR,OL] at lo
 unfold eN
 rw[bP]
 unfold nB
 simp![lo]
def Jr{way:Str}(hw:way="across" \/ way="down"):dA.G [.str way]=.ok (.val .non) []:=by
 have i1:∀x:Str,(aY kits).G [.str x,.ty "str"]=.val (.bl true):=λ_=>rfl
 have i2:bIn.G (.str way) (.tup [.str "across",.str "down"])=.val (.bl true):=by
  rcases hw with rfl |rfl <;> rfl
 have e1:cX.G [.str way]=.ok (.val (.bl true)) []:=by
  unfold cX
  rw[bP]
  unfold lr
  simp![i1,i2]
 unfold dA
 rw[bP]
 unfold jH
 simp![e1]
def yH{b:Bx}{n m:Nat}{way:Str}{ws:List Int}(hb:b.Ok)(hs:b.Sz n)(hway:way="across" \/ way="down")(h0:ws≠[])(hw:∀w∈ws,1<=w)(mW:Sm m ws.sum)(h:n+n+m<=8000)(bi:ws.length<=40):eQ.G [bV b,.str way,.lst (ws.map .int)]=.ok (.new (.lst ((bH b way ws).map bV))) []:=by
 have cw:=yV h0 hw bi
 have cy:=Jr hway
 have sp:0<ws.sum:=by
  cases ws with
  |nil=>exact absurd rfl h0
  |
   cons x l=>
   rw[OU]
   have:=hw x (Of ..)
   have:∀l:List Int,(∀w∈l,1<=w)->0<=l.sum:=by
    intro l
    induction l with
    |nil=>intro _;simp
    |cons x l ih=>intro hx;rw[OU];have:=hx x (Of ..);have:=ih λw hw=>hx w (Od _ hw);omega
   have:=this l λx hx=>hw x (Od _ hx)
   omega
 have cb:bL.G [.tup [fV b.l,fV b.t,fV b.w,fV b.h]]=.ok (.val .non) []:=lY hb
 have sh1:=p6 hs.l hs.w (λw z=>by have:=hw w z;omega) sp mW h (by omega)
 have sh2:=p6 hs.t hs.h (λw z=>by have:=hw w z;omega) sp mW h (by omega)
 show eQ.G [.tup [fV b.l,fV b.t,fV b.w,fV b.h],.str way,.lst (ws.map .int)]=_
 unfold eQ bH
 rw[bP]
 unfold nr
 rcases hway with rfl |rfl
 ·rw[if_pos (rfl:("across" : Str)="across")]
  have ln:=j9 b.l b.w ws.sum ws 0
  obtain⟨e',⟨s,t,rfl,_,_⟩,lc⟩:=dH (g:=(gtT 2 (cC (gtN 0) (cC (gtN 1) gB))).G) (F:=(cJ (ag (ah 0) (ag (ah 2) (ag (ah 1) (ag (ah 3) ao))))).G) prV (λp=>bV ⟨p.1,b.t,p.2,b.h⟩) (λe=>∃s t,e=[s,t,.sh (fV b.t),.sh (fV b.h)]/\s.pl=true/\t.pl=true) (shL b.l b.w ws.sum 0 ws) [] [.no,.no,.sh (fV b.t),.sh (fV b.h)] ⟨.no,.no,rfl,rfl,rfl⟩ (by
   rintro p hp e ⟨s,t,rfl,hs,ht⟩
   refine⟨[.sh (fV p.1),.sh (fV p.2),.sh (fV b.t),.sh (fV b.h)],.val (bV ⟨p.1,b.t,p.2,b.h⟩),[.sh (fV p.1),.sh (fV p.2),.sh (fV b.t),.sh (fV b.h)],?_,?_,rfl,⟨_,_,rfl,rfl,rfl⟩⟩
   ·simp![prV,hs,ht]
   ·simp![bV]) (by rw[ln,OG];omega)
  rw[OR] at lc
  have ll:((shL b.l b.w ws.sum 0 ws).map λp=>bV ⟨p.1,b.t,p.2,b.h⟩).length<=16777216:=by rw[N_,ln];omega
  rw[PQ,show (bV ∘ λp:Rat×Rat=>(⟨p.1,b.t,p.2,b.h⟩:Bx))=λp=>bV ⟨p.1,b.t,p.2,b.h⟩ from rfl]
  simp![cb,cy,cw,GF,sh1,lc,ll]
 ·have hne:¬ (("down" : Str)="across"):=by decide
  rw[if_neg hne]
  have ln:=j9 b.t b.h ws.sum ws 0
  obtain⟨e',⟨s,t,rfl,_,_⟩,lc⟩:=dH (g:=(gtT 2 (cC (gtN 0) (cC (gtN 1) gB))).G) (F:=(cJ (ag (ah 2) (ag (ah 0) (ag (ah 3) (ag (ah 1) ao))))).G) prV (λp=>bV ⟨b.l,p.1,b.w,p.2⟩) (λe=>∃s t,e=[s,t,.sh (fV b.l),.sh (fV b.w)]/\s.pl=true/\t.pl=true) (shL b.t b.h ws.sum 0 ws) [] [.no,.no,.sh (fV b.l),.sh (fV b.w)] ⟨.no,.no,rfl,rfl,rfl⟩ (by
   rintro p hp e ⟨s,t,rfl,hs,ht⟩
   refine⟨[.sh (fV p.1),.sh (fV p.2),.sh (fV b.l),.sh (fV b.w)],.val (bV ⟨b.l,p.1,b.w,p.2⟩),[.sh (fV p.1),.sh (fV p.2),.sh (fV b.l),.sh (fV b.w)],?_,?_,rfl,⟨_,_,rfl,rfl,rfl⟩⟩
   ·simp![prV,hs,ht]
   ·simp![bV]) (by rw[ln,OG];omega)
  rw[OR] at lc
  have ll:((shL b.t b.h ws.sum 0 ws).map λp=>bV ⟨b.l,p.1,b.w,p.2⟩).length<=16777216:=by rw[N_,ln];omega
  rw[PQ,show (bV ∘ λp:Rat×Rat=>(⟨b.l,p.1,b.w,p.2⟩:Bx))=λp=>bV ⟨b.l,p.1,b.w,p.2⟩ from rfl]
  simp![cb,cy,cw,Jx,sh2,lc,ll]
theorem jK{f:Nat->Val}(v:Val):∀(N:Nat) (st:List AT) (acc:List Nat) (s3:Sl),AT.cntL st<=N->s3.pl=true->(∀k∈AT.lvsL st,lfV (f k)=true)->acc.length+AT.cntL st<=100000->
 ∃(l:List Nat) (s3':Sl),l.Perm (AT.lvsL st)/\(xWh (qTr (ah 2)) cz).G [.sh v,.ow (.lst (acc.map f)),.ow (.lst (st.map (AT.val f))),s3]=.nx [.sh v,.ow (.lst ((acc++l).map f)),.ow (.lst []),s3']
 |
  N,[],acc,s3,_,_,_,_=>⟨[],s3,.nil,by
  rw[lT,OT]
  simp![OL,mR,List.isEmpty_nil]⟩
 |
  0,t::ts,acc,s3,h,_,_,_=>by
  rw[AT.cntL] at h
  cases t <;> (rw[AT.cnt] at h;omega)
 |
  N+1,t0::ts0,acc,s3,hN,h3,hf,hl=>by
  obtain⟨st,t,hst⟩:∃st t,t0::ts0=st++[t]:=⟨(t0::ts0).dropLast,(t0::ts0).getLast (by simp),(List.dropLast_concat_getLast (by simp)).symm⟩
  rw[hst] at hN hf hl ⊢
  rw[AT.lvsL_app] at hf
  rw[AT.lvsL_app]
  rw[AT.cntL_app] at hN hl
  have hn0:((st++[t]).map (AT.val f)).isEmpty=false:=by cases st <;> rfl
  have c1:(qTr (ah 2)).G [.sh v,.ow (.lst (acc.map f)),.ow (.lst ((st++[t]).map (AT.val f))),s3]=.ok true [.sh v,.ow (.lst (acc.map f)),.ow (.lst ((st++[t]).map (AT.val f))),s3]:=by
   simp![mR,hn0,Bool.not_false]
  rw[lT,c1]
  show ∃l s3',_/\((cz.G _).loop _)=_
  rw[OQ,Oi,OL]
  cases t with
  |
   lf k=>
   simp only[AT.lvsL,AT.lvs,OT,AT.cntL,AT.cnt] at hf hN hl ⊢
   obtain⟨l,s3',q1,q2⟩:=jK (f:=f) v N st (acc++[k]) (.sh (f k)) (by omega) rfl (λj hj=>hf j (by simp [hj])) (by rw[Oh];simp only[Oq,OG];omega)
   refine⟨k::l,s3',((q1.cons k).trans (List.perm_append_comm (l₁:=[k]) (l₂:=AT.lvsL st))),?_⟩
   have i1:(aY kits).G [f k,.ty "tuple"]=.val (.bl false):=by
    have:=hf k (by simp)
    generalize f k=a at *
    cases a <;> first |rfl |(cases this;done)
   have al:(acc.map f).length<16777216:=by rw[N_];omega
   have bb:cz.G [.sh v,.ow (.lst (acc.map f)),.ow (.lst (st.map (AT.val f)++[AT.val f (.lf k)])),s3]=.nx [.sh v,.ow (.lst ((acc++[k]).map f)),.ow (.lst (st.map (AT.val f))),.sh (f k)]:=by
    unfold cz
    rw[AT.val,OQ,Oi,OL]
    generalize f k=a at *
    simp![nZ,h3,i1,al]
   rw[bb,show acc++k::l=acc++[k]++l by simp]
   exact q2
  |
   nd w ts=>
   simp only[AT.lvsL,AT.lvs,OT,AT.cntL,AT.cnt] at hf hN hl ⊢
   obtain⟨l,s3',q1,q2⟩:=jK (f:=f) v N (st++ts) acc (.sh (AT.val f (.nd w ts))) (by rw[AT.cntL_app];omega) rfl (by rw[AT.lvsL_app];exact hf) (by rw[AT.cntL_app];omega)
   rw[AT.lvsL_app] at q1
   refine⟨l,s3',q1,?_⟩
   have i1:∀xs:List Val,(aY kits).G [.tup xs,.ty "tuple"]=.val (.bl true):=λ_=>rfl
   have le:∀l:List AT,l.length<=AT.cntL l:=by
    intro l
    induction l with
    |nil=>exact Og _
    |cons t l ih=>rw[AT.cntL,Oq];cases t <;> (rw[AT.cnt];omega)
   have ll:(st.map (AT.val f)).length+(ts.map (AT.val f)).length<=16777216:=by
    have:=le st
    have:=le ts
    rw[N_,N_]
    omega
   rw[AT.val,AT.vals_map] at q2 ⊢
   rw[OQ] at q2
   have bb:cz.G [.sh v,.ow (.lst (acc.map f)),.ow (.lst (st.map (AT.val f)++[.tup [.str (wy w),.tup (ts.map (AT.val f))]])),s3]=.nx [.sh v,.ow (.lst (acc.map f)),.ow (.lst (st.map (AT.val f)++ts.map (AT.val f))),.sh (.tup [.str (wy w),.tup (ts.map (AT.val f))])]:=by
    unfold cz
    simp![nZ,h3,i1,fY,lE,ll]
   rw[bb]
   exact q2
def zO{f:Nat->Val}{t:AT}(hf:∀k∈t.lvs,lfV (f k)=true)(hc:t.cnt<=100000):∃l:List Nat,l.Perm t.lvs/\cU.G [t.val f]=.ok (.new (.lst (l.map f))) []:=by
 have e1:AT.lvsL [t]=t.lvs:=by simp [AT.lvsL]
 have e2:AT.cntL [t]=t.cnt:=by simp [AT.cntL]
 obtain⟨l,s3',q1,q2⟩:=jK (f:=f) (t.val f) (AT.cntL [t]) [t] [] .no (Og _) rfl (by rw[e1];exact hf) (by rw[e2,OG];omega)
 rw[e1] at q1
 refine⟨l,q1,?_⟩
 rw[Oi,OL,OL,OR] at q2
 unfold cU
 rw[bP]
 unfold jX
 generalize t.val f=tv at *
 simp![q2]
def Gi{ws:List Int}{l:List Nat}(hl:l.length<=1000)(hi:∀k∈l,k<ws.length):∃s,lcV (gtN 0).G qY.G (pOp bIx (ah 1) (ah 0)).G (l.map λk:Nat=>.int k) [] [.no,.sh (liV ws)]=.ok ((l.map λk=>ws.getD k 0).map .int) [s,.sh (liV ws)]:=by
 obtain⟨e',⟨s,rfl,_⟩,lc⟩:=dH (g:=(gtN 0).G) (F:=(pOp bIx (ah 1) (ah 0)).G) (λk:Nat=>Val.int k) (λk:Nat=>Val.int (ws.getD k 0)) (λe=>∃s:Sl,e=[s,.sh (liV ws)]/\s.pl=true) l [] [.no,.sh (liV ws)] ⟨.no,rfl,rfl⟩ (by
  rintro k hk _ ⟨s,rfl,hs⟩
  have h1:=hi k hk
  have a1:atI (ws.map Val.int) (k:Nat)=some (.int (ws.getD k 0)):=fA (by omega) (by
   rw[OH]
   show (ws[k]?).map _=_
   rw[OW,Ov h1]
   rfl)
  refine⟨[.sh (.int (k:Nat)),.sh (liV ws)],.val (.int (ws.getD k 0)),[.sh (.int (k:Nat)),.sh (liV ws)],?_,?_,rfl,_,rfl,rfl⟩
  ·simp![hs]
  ·unfold liV
   simp![a1]) (by rw[OG];omega)
 exact⟨s,by rw[PQ];exact lc⟩
def uL{ws:List Int}{b:Bx}{w:Bool}{ts:List AT}{n m:Nat}(h:AT.lay ws n m (.nd w ts) b)(hnm:n+n+m<=8000)(hi:∀k∈AT.lvsL ts,k<ws.length)(hl:(AT.lvsL ts).length<=1000)(hc:AT.cntL ts<=100000):dk.G [bV b,liV ws,atV (.nd w ts)]=.ok (.new (.lst ((bH b (wy w) (ts.map (wtT ws))).map bV))) []:=by
 rw[AT.lay] at h
 obtain⟨h1,h2,h3,h4,h5,h6,_⟩:=h
 have ew:wy w="across" \/ wy w="down":=by cases w;exact .inr rfl;exact .inl rfl
 have pe:=yH h1 h2 ew (ws:=ts.map (wtT ws)) (by simpa using h3) (λx hx=>by obtain⟨t,ht,rfl⟩:=OS.mp hx;exact h5 t ht) h6 hnm (by rw[N_];exact h4)
 have cle:∀t∈ts,t.cnt<=AT.cntL ts:=λt ht=>AT.cnt_le ht
 have lle:∀t∈ts,t.lvs.length<=(AT.lvsL ts).length:=λt ht=>AT.lvs_le ht
 obtain⟨e',⟨s,rfl,_⟩,lc⟩:=dH (g:=(gtN 0).G) (F:=(pFn n8 (ag (pLC (bY (az cU (ag (ah 0) ao))) [none,some 1] (by decide) (gtN 0) qY (pOp bIx (ah 1) (ah 0))) ao)).G) atV (λt=>Val.int (wtT ws t)) (λe=>∃s:Sl,e=[s,.sh (liV ws)]/\s.pl=true) ts [] [.no,.sh (liV ws)] ⟨.no,rfl,rfl⟩ (by
  rintro t ht _ ⟨s,rfl,hs⟩
  obtain⟨l,lp,e1⟩:=zO (f:=λk=>.int (k:Nat)) (t:=t) (λ_ _=>rfl) (by have:=cle t ht;omega)
  rw[show AT.val (λk=>Val.int (k:Nat)) t=atV t from rfl] at e1
  obtain⟨s',lc⟩:=Gi (ws:=ws) (l:=l) (by rw[lp.length_eq];have:=lle t ht;omega) (λk hk=>hi k (AT.lvsL_mem.mpr ⟨t,ht,lp.mem_iff.mp hk⟩))
  have ll:((l.map λk=>ws.getD k 0).map Val.int).length<=16777216:=by rw[N_,N_,lp.length_eq];have:=lle t ht;omega
  have sm:(l.map λk=>ws.getD k 0).sum=wtT ws t:=Bt lp
  refine⟨[.sh (atV t),.sh (liV ws)],.val (.int (wtT ws t)),[.sh (atV t),.sh (liV ws)],?_,?_,rfl,_,rfl,rfl⟩
  ·generalize atV t=tv at *
   simp![hs]
  ·rw[<- sm]
   generalize atV t=tv at *
   generalize liV ws=wv at *
   generalize (l.map λk:Nat=>Val.int (k:Nat))=LV at *
   simp![e1,cA,inS,lc,ll]) (by rw[OG];omega)
 have av:atV (.nd w ts)=.tup [.str (wy w),.tup (ts.map atV)]:=by
  unfold atV
  rw[AT.val,AT.vals_map]
 have lm:ts.map (λt=>Val.int (wtT ws t))=(ts.map (wtT ws)).map .int:=by rw[PQ];rfl
 have l2:((ts.map (wtT ws)).map Val.int).length<=16777216:=by rw[N_,N_];omega
 rw[OR,lm] at lc
 rw[av]
 generalize (bH b (wy w) (ts.map (wtT ws))).map bV=PB at *
 generalize (ts.map (wtT ws)).map Val.int=SV at *
 generalize ts.map atV=TV at *
 generalize liV ws=wv at *
 generalize bV b=bv at *
 unfold dk
 rw[bP]
 unfold kx
 simp![cA,inS,lc,l2,pe]
theorem nR{ws:List Int}{n m k:Nat}(rv tv:Val):∀(ts:List AT) (bs:List Bx) (kvs:List (Key×Val)) (s4 s5:Sl),s4.pl=true->s5.pl=true->ts.length=bs.length->(∀(t:AT) (b:Bx) (kvs:List (Key×Val)),t∈ts->AT.lay ws n m t b->kvs.length+t.lvs.length<=100000->(cV k).G [bV b,liV ws,atV t,.dct kvs]=.ok (.val .non) [.dct (dF kvs (AT.bx ws t b))])->AT.layL ws n m ts bs->kvs.length+(AT.lvsL ts).length<=100000->
 ∃s4' s5',ff (gtX (gtT 2 (cC (gtN 4) (cC (gtN 5) gB)))).G (jb (cV k)).G (List.zipWith (λx y=>Val.tup [x,y]) (ts.map atV) (bs.map bV)) [.sh rv,.sh (liV ws),.sh tv,.mu (.dct kvs),s4,s5]=.nx [.sh rv,.sh (liV ws),.sh tv,.mu (.dct (dF kvs (AT.bxL ws ts bs))),s4',s5']
 | [],bs,kvs,s4,s5,_,_,_,_,_,_=>⟨s4,s5,by cases bs <;> rfl⟩
 |t::ts,[],kvs,s4,s5,_,_,h,_,_,_=>nomatch h
 |
  t::ts,b::bs,kvs,s4,s5,h4,h5,hl,hp,hy,hk=>by
  rw[AT.layL] at hy
  rw[AT.lvsL,Oh] at hk
  have e1:=hp t b kvs (Of ..) hy.1 (by omega)
  have bi:=sk (AT.bx ws t b) kvs
  have hfst:=(AT.bx_fst ws t b).1
  obtain⟨s4',s5',q⟩:=nR rv tv ts bs (dF kvs (AT.bx ws t b)) (.sh (atV t)) (.sh (bV b)) rfl rfl (by simpa using hl) (λu c kv hu=>hp u c kv (Od _ hu)) hy.2 (by omega)
  refine⟨s4',s5',?_⟩
  rw[AT.bxL,AJ,Oi,Oi,List.zipWith_cons_cons,eL]
  generalize dF kvs (AT.bx ws t b)=kvs1 at *
  generalize atV t=av at *
  generalize bV b=bv at *
  generalize liV ws=wv at *
  have g1:(gtX (gtT 2 (cC (gtN 4) (cC (gtN 5) gB)))).G (.tup [av,bv]) [.sh rv,.sh wv,.sh tv,.mu (.dct kvs),s4,s5]=some [.sh rv,.sh wv,.sh tv,.mu (.dct kvs),.sh av,.sh bv]:=by
   simp![h4,h5]
  have b1:(jb (cV k)).G [.sh rv,.sh wv,.sh tv,.mu (.dct kvs),.sh av,.sh bv]=.nx [.sh rv,.sh wv,.sh tv,.mu (.dct kvs1),.sh av,.sh bv]:=by
   unfold jb
   simp![e1]
  rw[g1]
  dsimp only
  rw[b1]
  exact q
def xq(b:Bx)(way:Str)(ws:List Int):(bH b way ws).length=ws.length:=by
 unfold bH
 split <;> rw[N_,j9]
def BW{ws:List Int}{n m:Nat}(hnm:n+n+m<=8000)(t:AT):∀(k:Nat) (b:Bx) (kvs:List (Key×Val)),t.dep<=k->AT.lay ws n m t b->(∀i∈t.lvs,i<ws.length)->t.lvs.length<=1000->t.cnt<=100000->kvs.length+t.lvs.length<=100000->(cV k).G [bV b,liV ws,atV t,.dct kvs]=.ok (.val .non) [.dct (dF kvs (AT.bx ws t b))]:=by
 induction t using AT.ind with
 |
  h1 x=>
  intro k b kvs hd _ _ _ _ hk
  cases k with
  |zero=>simp [AT.dep] at hd
  |
   succ k=>
   have i1:(aY kits).G [.int (x:Nat),.ty "tuple"]=.val (.bl false):=rfl
   have kl:kvs.length<16777216:=by omega
   have av:atV (.lf x)=.int (x:Nat):=rfl
   have pe:dF kvs (AT.bx ws (.lf x) b)=dS kvs (.inl (x:Nat)) (bV b):=by rw[AT.bx];rfl
   show (PFx.of [false,false,false,true] 6 (gH (cV k))).G [bV b,liV ws,atV (.lf x),.dct kvs]=_
   rw[gR,av,pe]
   unfold gH
   generalize bV b=bv at *
   generalize liV ws=wv at *
   simp![i1,HS,kl]
 |
  h2 w ts ih=>
  intro k b kvs hd hy hi hl hc hk
  cases k with
  |zero=>simp [AT.dep] at hd
  |
   succ k=>
   rw[AT.dep] at hd
   rw[AT.lvs] at hi hl hk
   rw[AT.cnt] at hc
   have hd':=AT.depL_le.mp (show AT.depL ts<=k by omega)
   have pe:=uL hy hnm hi hl (by omega)
   have hy':=hy
   rw[AT.lay] at hy'
   obtain⟨s4,s5,lo⟩:=nR (ws:=ws) (n:=n) (m:=m) (k:=k) (bV b) (atV (.nd w ts)) ts (bH b (wy w) (ts.map (wtT ws))) kvs .no .no rfl rfl (by rw[xq,N_]) (λt c kv ht hy2 hk2=>ih t ht k c kv (hd' t ht) hy2 (λi hi2=>hi i (AT.lvsL_mem.mpr ⟨t,ht,hi2⟩)) (by have:=AT.lvs_le ht;omega) (by have:=AT.cnt_le ht;omega) hk2) hy'.2.2.2.2.2.2 hk
   have av:atV (.nd w ts)=.tup [.str (wy w),.tup (ts.map atV)]:=by
    unfold atV
    rw[AT.val,AT.vals_map]
   have bxe:AT.bx ws (.nd w ts) b=AT.bxL ws ts (bH b (wy w) (ts.map (wtT ws))):=by rw[AT.bx]
   show (PFx.of [false,false,false,true] 6 (gH (cV k))).G [bV b,liV ws,atV (.nd w ts),.dct kvs]=_
   rw[gR,bxe]
   unfold gH
   rw[av] at pe lo ⊢
   have i1:∀xs:List Val,(aY kits).G [.tup xs,.ty "tuple"]=.val (.bl true):=λ_=>rfl
   generalize dF kvs (AT.bxL ws ts (bH b (wy w) (ts.map (wtT ws))))=kvs1 at *
   generalize (bH b (wy w) (ts.map (wtT ws))).map bV=PB at *
   generalize ts.map atV=TV at *
   generalize bV b=bv at *
   generalize liV ws=wv at *
   simp![i1,fY,pe,lo]
def tE{ws:List Int}{n m:Nat}{b:Bx}{t:AT}(hnm:n+n+m<=8000)(hb:b.Ok)(h0:ws≠[])(hw:∀w∈ws,1<=w)(h40:ws.length<=40)(ho:t.ok=true)(hi:∀k,k∈t.lvs ↔ k<ws.length)(nd:t.lvs.Nodup)(hl:t.lvs.length=ws.length)(hd:t.dep<=42)(hy:AT.lay ws n m t b):dg.G [bV b,liV ws,atV t]=.ok (.new (.lst ((List.range ws.length).map λk=>bV (bxO (AT.bx ws t b) k)))) []:=by
 have hc:=AT.cnt_lvs t ho
 have cb:=lY hb
 have cw:=yV h0 hw h40
 have ct:=qL (n:=ws.length) ho (λk hk=>(hi k).mp hk) nd hl (by omega) (by omega)
 have pl:=BW (ws:=ws) hnm t 42 b [] hd hy (λk hk=>(hi k).mp hk) (by omega) (by omega) (by rw[OG];omega)
 have ll:((ws.map Val.int).length:Nat)=ws.length:=N_ ..
 have rg:iA [.int (ws.length:Nat)]=some (rgV ws.length):=mF (by omega)
 have keys:=AT.bx_keys ws t b
 obtain⟨e',⟨s,rfl,_⟩,lc⟩:=dH (g:=(gtN 0).G) (F:=(pOp wW (ah 1) (ah 0)).G) (λk:Nat=>Val.int k) (λk:Nat=>bV (bxO (AT.bx ws t b) k)) (λe=>∃s:Sl,e=[s,.mu (.dct (dF [] (AT.bx ws t b)))]/\s.pl=true) (List.range ws.length) [] [.no,.mu (.dct (dF [] (AT.bx ws t b)))] ⟨.no,rfl,rfl⟩ (by
  rintro k hk _ ⟨s,rfl,hs⟩
  rw[Px] at hk
  have lk:=JR ((vn (k:=k) (AT.bx ws t b) [] (by rw[keys];exact nd)).1 (by rw[keys];exact (hi k).mpr hk))
  generalize dF [] (AT.bx ws t b)=kv at *
  generalize bV (bxO (AT.bx ws t b) k)=bv at *
  refine⟨[.sh (.int (k:Nat)),.mu (.dct kv)],.val bv,[.sh (.int (k:Nat)),.mu (.dct kv)],?_,?_,rfl,_,rfl,rfl⟩
  ·simp![hs]
  ·simp![lk]) (by rw[OG,Qz];omega)
 have l2:((List.range ws.length).map λk=>bV (bxO (AT.bx ws t b) k)).length<=16777216:=by simp;omega
 rw[OR] at lc
 rw[show (List.range ws.length).map (λk:Nat=>Val.int k)=rgV ws.length from rfl] at lc
 generalize (List.range ws.length).map (λk=>bV (bxO (AT.bx ws t b) k))=RB at *
 generalize dF [] (AT.bx ws t b)=kv at *
 unfold liV at pl ⊢
 generalize atV t=tv at *
 generalize bV b=bv at *
 unfold dg
 rw[bP]
 unfold kz
 simp![cb,cw,ll,ct,pl,rg,cA,inS,lc,l2]
def DL{ns:List Int}{k:Int}(hk:0<=k):∃a,d7.G [.kl (ns.map .int),.int k]=.ok (.new (fdV a 0 k)) []:=by
 unfold d7
 rw[bP]
 unfold kA fdV
 by_cases h0:ns.length=0
 ·have e:((((ns.map Val.int).length:Nat):Int)==0)=true:=by rw[Qt,N_];omega
  exact⟨0,by simp![e]⟩
 ·have e:((((ns.map Val.int).length:Nat):Int)==0)=false:=by rw[OB,N_];omega
  have e1:cS.G (.int k) (.int ((ns.map Val.int).length:Nat))=.val (.int (k.fmod ((ns.map Val.int).length:Nat))):=gX (by rw[N_];omega)
  have r:=gw (a:=k) (m:=((ns.map Val.int).length:Nat)) (by rw[N_];omega)
  rw[N_] at r e1
  have hi:(k.fmod (ns.length:Nat)).toNat<ns.length:=by omega
  have at1:atI (ns.map Val.int) (k.fmod (ns.length:Nat))=some (.int ns[(k.fmod (ns.length:Nat)).toNat]):=fA r.1 (by rw[OH,Ov hi];rfl)
  rw[N_] at e
  exact⟨ns[(k.fmod (ns.length:Nat)).toNat],by simp![N_,e,e1,at1]⟩
def pow6:gL.G (.int 10) (.int 6)=.val (.int 1000000):=qW ⟨by decide,by decide,by decide⟩
def Ko:iA [.int 6]=some [.int 0,.int 1,.int 2,.int 3,.int 4,.int 5]:=vt (i:=6) (by decide) (by decide)
def jg{a b k far:Int}(h0:0<=far)(hf:far.natAbs<=2000000000000000000000000000000):∃r a' b',bM.G [fdV a b k,.int far]=.ok (.val (.int r)) [fdV a' b' k]/\-far<=r/\r<=far:=by
 obtain⟨r1,a1,b1,e1,_,_⟩:=aS (a:=a) (b:=b) (k:=k) (m:=1000000) (by decide) (sm8 (by decide))
 obtain⟨r2,a2,b2,e2,_,_⟩:=aS (a:=a1) (b:=b1) (k:=k) (m:=1000000) (by decide) (sm8 (by decide))
 obtain⟨r3,a3,b3,e3,_,_⟩:=aS (a:=a2) (b:=b2) (k:=k) (m:=1000000) (by decide) (sm8 (by decide))
 obtain⟨r4,a4,b4,e4,_,_⟩:=aS (a:=a3) (b:=b3) (k:=k) (m:=1000000) (by decide) (sm8 (by decide))
 obtain⟨r5,a5,b5,e5,_,_⟩:=aS (a:=a4) (b:=b4) (k:=k) (m:=1000000) (by decide) (sm8 (by decide))
 obtain⟨r6,a6,b6,e6,_,_⟩:=aS (a:=a5) (b:=b5) (k:=k) (m:=1000000) (by decide) (sm8 (by decide))
 have c6:∀x:Int,dE.G (.int x) (.int 1000000)=.val (.int (x*1000000)):=λx=>fB (CMulA.right (by decide) (by decide))
 have c2:dE.G (.int 2) (.int far)=.val (.int (2*far)):=fB (CMulA.left (by decide) (by decide))
 have c3:∀x:Int,cS.G (.int x) (.int (2*far+1))=.val (.int (x.fmod (2*far+1))):=λx=>gX (by omega)
 have fr:=gw (a:=(((((0*1000000+r1)*1000000+r2)*1000000+r3)*1000000+r4)*1000000+r5)*1000000+r6) (m:=2*far+1) (by omega)
 refine⟨((((((0*1000000+r1)*1000000+r2)*1000000+r3)*1000000+r4)*1000000+r5)*1000000+r6).fmod (2*far+1)-far,a6,b6,?_,by omega,by omega⟩
 unfold bM
 rw[bP]
 unfold jP jl
 unfold fdV at *
 simp![Ko,eL,pow6,c6,e1,e2,e3,e4,e5,e6,c2,c3,Int.reduceMul]
theorem tK(x y:Val):∀(n one bd:Nat),bd<=n->(xWh (qOf (pOp bGt (ah 3) (au 0))) f9).G [.sh x,.sh y,.sh (.int (one:Nat)),.sh (.int (bd:Nat))]=.nx [.sh x,.sh y,.sh (.int (Nat.gcd one bd:Nat)),.sh (.int 0)]
 |
  n,one,0,_=>by
  rw[lT]
  simp![Nat.gcd_zero_right,Int.natCast_zero,Int.lt_irrefl]
 |0,one,bd+1,hl=>absurd hl (by omega)
 |
  n+1,one,bd+1,hl=>by
  rw[lT]
  have e:decide ((0:Int)<((bd+1:Nat):Int))=true:=OI (by omega)
  have e1:cS.G (.int (one:Nat)) (.int ((bd+1:Nat):Int))=.val (.int (((one:Nat):Int).fmod ((bd+1:Nat):Int))):=gX (by omega)
  have e2:((one:Nat):Int).fmod ((bd+1:Nat):Int)=((one % (bd+1):Nat):Int):=by
   rw[Qg _ (by omega)];rfl
  have ih:=tK x y n (bd+1) (one % (bd+1)) (by have:=Nat.mod_lt one (show bd+1>0 by omega);omega)
  rw[Fr.euc] at ih
  rw[e2] at e1
  have bb:f9.G [.sh x,.sh y,.sh (.int (one:Nat)),.sh (.int ((bd+1:Nat):Int))]=.nx [.sh x,.sh y,.sh (.int ((bd+1:Nat):Int)),.sh (.int ((one % (bd+1):Nat):Int))]:=by
   unfold f9
   simp![e1]
  simp![e,bb,ih]
def j7{a b:Int}(hb:b≠0)(hs:Sm 8000 b):bW.G [.int a,.int b]=.ok (.val (fV ((a:Rat)/(b:Rat)))) []:=by
 unfold bW
 rw[bP]
 unfold lC
 have lo:=tK (.int a) (.int b) b.natAbs a.natAbs b.natAbs (Og _)
 rw[show Nat.gcd a.natAbs b.natAbs=Int.gcd a b from rfl] at lo
 have c:∀x,CDivB x (Fr.dv a b):=λx=>CDivB.of (Fr.dv_ne hb) (hs.of_le (by
  rw[Fr.dv_abs]
  exact Nat.le_of_dvd (by omega) (Nat.gcd_dvd_right a.natAbs b.natAbs)))
 have k1:=mi (c a)
 have k2:=mi (c b)
 have hh:=ou (a:=a) hb
 have ii:Val.tup [.int (a.fdiv (Fr.dv a b)),.int (b.fdiv (Fr.dv a b))]=fV ((a:Rat)/(b:Rat)):=by
  unfold fV
  rw[<- hh.1,<- hh.2]
  rfl
 by_cases hn:b<0
 ·have hd:Fr.dv a b=0-((Int.gcd a b:Nat):Int):=by unfold Fr.dv;rw[if_pos hn];omega
  rw[hd] at k1 k2 ii
  simp![iR,lo,OI hn,k1,k2,ii]
 ·have hd:Fr.dv a b=((Int.gcd a b:Nat):Int):=by unfold Fr.dv;rw[if_neg hn]
  rw[hd] at k1 k2 ii
  simp![iR,lo,OA hn,k1,k2,ii]
def p30:gL.G (.int 10) (.int 30)=.val (.int 1000000000000000000000000000000):=qW ⟨by decide,by decide,by decide⟩
def rmQ(k:Int)(r:SR3):Prop:=∃b a c,Good b/\rP [true] r=.ok (.val (bV b)) [fdV a c k]
def rmI(k way:Int)(e:E3):Prop:=∃b x a c,Good b/\x.pl=true/\e=[.mu (fdV a c k),.sh (.int way),.sh (fV b.l),.sh (fV b.t),.sh (fV b.w),.sh (fV b.h),x]
def DV(a c k:Int):∃b a' c',Good b/\d4.G [fdV a c k]=.ok (.val (bV b)) [fdV a' c' k]:=by
 unfold d4
 rw[Md rfl]
 show rmQ k (iC.G [.mu (fdV a c k),.no,.no,.no,.no,.no,.no])
 unfold iC
 obtain⟨way,a1,c1,e1,hw0,hw1⟩:=aS (a:=a) (b:=c) (k:=k) (m:=6) (by decide) (sm8 (by decide))
 refine bB (λe=>e=[.mu (fdV a1 c1 k),.sh (.int way),.no,.no,.no,.no,.no]) ⟨_,by simp![e1],rfl⟩ ?_
 rintro _ rfl
 obtain⟨l,a2,c2,e2,hl0,hl1⟩:=aS (a:=a1) (b:=c1) (k:=k) (m:=19) (by decide) (sm8 (by decide))
 obtain⟨t,a3,c3,e3,ht0,ht1⟩:=aS (a:=a2) (b:=c2) (k:=k) (m:=19) (by decide) (sm8 (by decide))
 refine bB (λe=>e=[.mu (fdV a3 c3 k),.sh (.int way),.sh (fV ((l-9:Int):Rat)),.sh (fV ((t-9:Int):Rat)),.no,.no,.no]) ⟨_,by simp![e2,e3,iV],rfl⟩ ?_
 rintro _ rfl
 obtain⟨w,a4,c4,e4,hww0,hww1⟩:=aS (a:=a3) (b:=c3) (k:=k) (m:=12) (by decide) (sm8 (by decide))
 obtain⟨hh,a5,c5,e5,hh0,hh1⟩:=aS (a:=a4) (b:=c4) (k:=k) (m:=12) (by decide) (sm8 (by decide))
 refine bB (rmI k way) ⟨[.mu (fdV a5 c5 k),.sh (.int way),.sh (fV ((l-9:Int):Rat)),.sh (fV ((t-9:Int):Rat)),.sh (fV ((1+w:Int):Rat)),.sh (fV ((1+hh:Int):Rat)),.no],by simp![e4,e5,iV],⟨_,_,_,_⟩,.no,a5,c5,⟨⟨gG (by omega),gG (by omega)⟩,⟨ic (by omega),ic (by omega),ic (by omega),ic (by omega)⟩⟩,rfl,rfl⟩ ?_
 rintro _ ⟨b,x,a,c,gb,hx,rfl⟩
 refine bB (rmI k way) ?_ ?_
 ·by_cases hw:way=1
  ·subst hw
   exact⟨[.mu (fdV a c k),.sh (.int 1),.sh (fV b.l),.sh (fV b.t),.sh (fV b.w),.sh (fV b.w),x],by simp![jx],⟨b.l,b.t,b.w,b.w⟩,x,a,c,⟨⟨gb.ok.w,gb.ok.w⟩,⟨gb.sz.l,gb.sz.t,gb.sz.w,gb.sz.w⟩⟩,hx,rfl⟩
  ·exact⟨_,by simp![OB.mpr hw],b,x,a,c,gb,hx,rfl⟩
 rintro _ ⟨b,x,a,c,gb,hx,rfl⟩
 refine bB (rmI k way) ?_ ?_
 ·by_cases hw:way=2
  ·subst hw
   obtain⟨r,a1,c1,e1,h0,h1⟩:=aS (a:=a) (b:=c) (k:=k) (m:=99) (by decide) (sm8 (by decide))
   exact⟨[.mu (fdV a1 c1 k),.sh (.int 2),.sh (fV b.l),.sh (fV b.t),.sh (fV ((1+r:Int):Rat)),.sh (fV b.h),x],by simp![e1,iV],⟨b.l,b.t,((1+r:Int):Rat),b.h⟩,x,a1,c1,⟨⟨gG (by omega),gb.ok.h⟩,⟨gb.sz.l,gb.sz.t,ic (by omega),gb.sz.h⟩⟩,hx,rfl⟩
  ·exact⟨_,by simp![OB.mpr hw],b,x,a,c,gb,hx,rfl⟩
 rintro _ ⟨b,x,a,c,gb,hx,rfl⟩
 refine bB (rmI k way) ?_ ?_
 ·by_cases hw:way=3
  ·subst hw
   obtain⟨r,a1,c1,e1,h0,h1⟩:=aS (a:=a) (b:=c) (k:=k) (m:=99) (by decide) (sm8 (by decide))
   exact⟨[.mu (fdV a1 c1 k),.sh (.int 3),.sh (fV b.l),.sh (fV b.t),.sh (fV b.w),.sh (fV ((1+r:Int):Rat)),x],by simp![e1,iV],⟨b.l,b.t,b.w,((1+r:Int):Rat)⟩,x,a1,c1,⟨⟨gb.ok.w,gG (by omega)⟩,⟨gb.sz.l,gb.sz.t,gb.sz.w,ic (by omega)⟩⟩,hx,rfl⟩
  ·exact⟨_,by simp![OB.mpr hw],b,x,a,c,gb,hx,rfl⟩
 rintro _ ⟨b,x,a,c,gb,hx,rfl⟩
 refine bB (rmI k way) ?_ ?_
 ·by_cases hw:way=4
  ·subst hw
   obtain⟨r1,a1,c1,e1,h10,h11⟩:=aS (a:=a) (b:=c) (k:=k) (m:=199) (by decide) (sm8 (by decide))
   obtain⟨r2,a2,c2,e2,h20,h21⟩:=aS (a:=a1) (b:=c1) (k:=k) (m:=30) (by decide) (sm8 (by decide))
   obtain⟨r3,a3,c3,e3,h30,h31⟩:=aS (a:=a2) (b:=c2) (k:=k) (m:=9) (by decide) (sm8 (by decide))
   obtain⟨r4,a4,c4,e4,h40,h41⟩:=aS (a:=a3) (b:=c3) (k:=k) (m:=99) (by decide) (sm8 (by decide))
   obtain⟨r5,a5,c5,e5,h50,h51⟩:=aS (a:=a4) (b:=c4) (k:=k) (m:=30) (by decide) (sm8 (by decide))
   obtain⟨r6,a6,c6,e6,h60,h61⟩:=aS (a:=a5) (b:=c5) (k:=k) (m:=99) (by decide) (sm8 (by decide))
   have l1:=j7 (a:=r1-99) (b:=1+r2) (by omega) (mh (by omega))
   have l2:=j7 (a:=r3) (b:=7) (by omega) (mh (by omega))
   have l3:=j7 (a:=1+r4) (b:=1+r5) (by omega) (mh (by omega))
   have l4:=j7 (a:=1+r6) (b:=11) (by omega) (mh (by omega))
   exact⟨[.mu (fdV a6 c6 k),.sh (.int 4),.sh (fV (((r1-99:Int):Rat)/((1+r2:Int):Rat))),.sh (fV (((r3:Int):Rat)/((7:Int):Rat))),.sh (fV (((1+r4:Int):Rat)/((1+r5:Int):Rat))),.sh (fV (((1+r6:Int):Rat)/((11:Int):Rat))),x],by simp![e1,e2,e3,e4,e5,e6,l1,l2,l3,l4],⟨_,_,_,_⟩,x,a6,c6,⟨⟨je (by omega) (by omega),je (by omega) (by omega)⟩,⟨iQ (by omega) (by omega) (by omega),iQ (by omega) (by omega) (by omega),iQ (by omega) (by omega) (by omega),iQ (by omega) (by omega) (by omega)⟩⟩,hx,rfl⟩
  ·exact⟨_,by simp![OB.mpr hw],b,x,a,c,gb,hx,rfl⟩
 rintro _ ⟨b,x,a,c,gb,hx,rfl⟩
 refine bB (rmI k way) ?_ ?_
 ·by_cases hw:way=5
  ·subst hw
   obtain⟨r1,a1,c1,e1,h10,h11⟩:=jg (a:=a) (b:=c) (k:=k) (far:=999999999999999999999999999999) (by decide) (by decide)
   obtain⟨r2,a2,c2,e2,h20,h21⟩:=jg (a:=a1) (b:=c1) (k:=k) (far:=999999999999999999999999999998) (by decide) (by decide)
   obtain⟨r3,a3,c3,e3,h30,h31⟩:=jg (a:=a2) (b:=c2) (k:=k) (far:=999999999999999999999999999999) (by decide) (by decide)
   obtain⟨r4,a4,c4,e4,h40,h41⟩:=jg (a:=a3) (b:=c3) (k:=k) (far:=999999999999999999999999999998) (by decide) (by decide)
   obtain⟨r5,a5,c5,e5,h50,h51⟩:=jg (a:=a4) (b:=c4) (k:=k) (far:=999999999999999999999999999998) (by decide) (by decide)
   have n2:=iR r2
   have n4:=iR r4
   have n5:=iR r5
   have l1:=j7 (a:=r1) (b:=1+((r2.natAbs:Nat):Int)) (by omega) (mh (by omega))
   have l4:=j7 (a:=1+((r5.natAbs:Nat):Int)) (b:=999999999999999999999999999999) (by omega) (mh (by omega))
   exact⟨[.mu (fdV a5 c5 k),.sh (.int 5),.sh (fV (((r1:Int):Rat)/((1+((r2.natAbs:Nat):Int):Int):Rat))),.sh (fV ((r3:Int):Rat)),.sh (fV ((1+((r4.natAbs:Nat):Int):Int):Rat)),.sh (fV (((1+((r5.natAbs:Nat):Int):Int):Rat)/((999999999999999999999999999999:Int):Rat))),.sh (.int 999999999999999999999999999999)],by simp![hx,p30,e1,e2,e3,e4,e5,n2,n4,n5,l1,l4,iV],⟨_,_,_,_⟩,_,a5,c5,⟨⟨gG (by omega),je (by omega) (by omega)⟩,⟨iQ (by omega) (by omega) (by omega),ic (by omega),ic (by omega),iQ (by omega) (by omega) (by omega)⟩⟩,rfl,rfl⟩
  ·exact⟨_,by simp![OB.mpr hw],b,x,a,c,gb,hx,rfl⟩
 rintro _ ⟨b,x,a,c,gb,hx,rfl⟩
 refine⟨b,a,c,gb,?_⟩
 simp![Cr,bV]
theorem tG:∀(n:Nat) (l:List Nat),l.length=n->(∀i,i<n->i∈l)->l.Perm (List.range n)
 |0,l,h,_=>by rw[Qu.mp h];exact List.Perm.refl _
 |
  n+1,l,h,hm=>by
  have h1:=hm n (by omega)
  have p:=List.perm_cons_erase h1
  have q:=tG n (l.erase n) (by rw[List.length_erase_of_mem h1];omega) λi hi=>(List.mem_erase_of_ne (by omega)).mpr (hm i (by omega))
  rw[List.range_succ]
  exact p.trans ((q.cons n).trans (List.perm_append_singleton n _).symm)
def yP{t:AT}{o:List Nat}{n:Nat}(T:TOk t o)(ho:∀i,i∈o ↔ i<n)(hl:o.length=n):t.lvs.Nodup:=
 (tG n t.lvs (by rw[T.len,hl]) λi hi=>(T.mem i).mpr ((ho i).mpr hi)).nodup_iff.mpr List.nodup_range
def nL{q:Rat}{k D:Nat}(hs:Sz 101 q)(hD:D=q.den*k)(hk:0<k):∃z:Int,q=(z:Rat)/((D:Int):Rat)/\z.natAbs<=2^101*D/\(0<q->0<z/\z<=((2^101:Nat):Int)*(D:Int)):=by
 have dp:=q.den_pos
 have hn:q.num.natAbs<2^101:=hs.1
 have hz:(q.num*(k:Int)).natAbs<=2^101*D:=by
  rw[O5,Int.natAbs_natCast,hD]
  exact O6 (by omega) (Nat.le_mul_of_pos_left _ dp)
 refine⟨q.num*(k:Int),?_,hz,λh=>⟨Int.mul_pos (vL.mpr h) (by omega),?_⟩⟩
 ·have:=nW (y:=q.num) (W:=(k:Int)) dp (by omega)
  rw[OY,<- hD] at this
  rw[<- this]
  exact j0 q
 ·rw[<- PH]
  generalize q.num*(k:Int)=z at *
  generalize 2^101*D=y at *
  omega
def LW{b:Bx}(g:Good b):∃D,D<2^404/\Rp D (2^101) (2^101) b:=by
 have dl:=b.l.den_pos
 have dt:=b.t.den_pos
 have dw:=b.w.den_pos
 have dh:=b.h.den_pos
 have sz:∀q:Rat,Sz 101 q->q.den<=2^101:=λq h=>by have:(q.den:Int).natAbs<2^101:=h.2;omega
 have k1:=Pp (Pp dt dw) dh
 have k2:=Pp (Pp dl dw) dh
 have k3:=Pp (Pp dl dt) dh
 have k4:=Pp (Pp dl dt) dw
 refine⟨b.l.den*(b.t.den*b.w.den*b.h.den),?_,Pp dl k1,?_,?_,?_,?_⟩
 ·have a1:b.l.den<2^101:=by have:(b.l.den:Int).natAbs<2^101:=g.sz.l.2;omega
  have a2:=O6 (O6 (sz _ g.sz.t) (sz _ g.sz.w)) (sz _ g.sz.h)
  calc b.l.den*(b.t.den*b.w.den*b.h.den)<=b.l.den*(2^101*2^101*2^101):=PY _ a2
   _<2^101*(2^101*2^101*2^101):=Nat.mul_lt_mul_of_pos_right a1 (by decide)
   _=2^404:=by rw[<- Qj,<- Qj,<- Qj]
 ·obtain⟨z,h1,h2,_⟩:=nL (D:=b.l.den*(b.t.den*b.w.den*b.h.den)) g.sz.l rfl k1
  exact⟨z,h1,h2⟩
 ·obtain⟨z,h1,h2,_⟩:=nL (D:=b.l.den*(b.t.den*b.w.den*b.h.den)) (k:=b.l.den*b.w.den*b.h.den) g.sz.t (by ac_rfl) k2
  exact⟨z,h1,h2⟩
 ·obtain⟨z,h1,_,h2⟩:=nL (D:=b.l.den*(b.t.den*b.w.den*b.h.den)) (k:=b.l.den*b.t.den*b.h.den) g.sz.w (by ac_rfl) k3
  exact⟨z,h1,h2 g.ok.w⟩
 ·obtain⟨z,h1,_,h2⟩:=nL (D:=b.l.den*(b.t.den*b.w.den*b.h.den)) (k:=b.l.den*b.t.den*b.w.den) g.sz.h (by ac_rfl) k4
  exact⟨z,h1,h2 g.ok.h⟩
structure WOk(ws:List Int):Prop where
 pos:1<=ws.length
 len:ws.length<=40
 wt:∀w∈ws,1<=w/\w<=1000000000000000000000000000000
 few:9<ws.length->∀w∈ws,w<=8388608
theorem rL{ws:List Int}{M:Int}:∀{l:List Nat},(∀k∈l,ws.getD k 0<=M)->wtA ws l<=(l.length:Int)*M
 | [],_=>by simp [wtA]
 |
  k::l,h=>by
  have h1:=h k (Of ..)
  have h2:=rL (l:=l) λj hj=>h j (Od _ hj)
  unfold wtA at h2 ⊢
  rw[Oi,OU,Oq,Int.natCast_add,Int.add_mul]
  omega
def Cz{ws:List Int}{t:AT}{o:List Nat}{b:Bx}(g:Good b)(W:WOk ws)(T:TOk t o)(ho:∀i,i∈o ↔ i<ws.length)(hl:o.length=ws.length):∃m,m<=104/\AT.lay ws 2000 m t b:=by
 obtain⟨D,hD,R⟩:=LW g
 have hlt:∀k∈t.lvs,k<ws.length:=λk hk=>(ho k).mp ((T.mem k).mp hk)
 have hin:∀k∈t.lvs,ws.getD k 0∈ws:=λk hk=>by
  rw[OW,Ov (hlt k hk)]
  exact List.getElem_mem _
 have hw:∀k∈t.lvs,1<=ws.getD k 0:=λk hk=>(W.wt _ (hin k hk)).1
 have hd:=T.dep
 have len:=T.len
 have wl:=W.len
 have key:∀m,m*t.dep<=1218->m<=104->wtT ws t<2^m->∃m,m<=104/\AT.lay ws 2000 m t b:=λm h1 h2 h3=>by
  refine⟨m,h2,HC t b D (2^101) R (Og _) (by decide) ?_ T.ok hw h3 (by omega)⟩
  have a1:2^101+t.dep*2^101<=2^107:=by
   have h1:=QO (2^101) (show t.dep<=40 by omega)
   have h2:2^107=64*2^101:=by decide
   rw[h2]
   generalize 2^101=X at *
   omega
  have a2:2^(m*t.dep)<=2^1218:=Qd (by decide) h1
  have a3:=O6 a1 (O6 (QL hD) a2)
  refine P2 a3 ?_
  rw[<- Qj,<- Qj]
  exact Nat.pow_lt_pow_right (by decide) (by decide)
 by_cases h9:9<ws.length
 ·refine key 29 (by omega) (by decide) ?_
  have:=rL (M:=8388608) λk hk=>W.few h9 _ (hin k hk)
  unfold wtT
  have:(2:Int)^29=536870912:=by decide
  omega
 ·refine key 104 (by omega) (by decide) ?_
  have:=rL (M:=1000000000000000000000000000000) λk hk=>(W.wt _ (hin k hk)).2
  unfold wtT
  have:(2:Int)^104=20282409603651670423947251286016:=by decide
  omega
def KS(l:List Nat)(f:Nat->Bx):dZ (.lst (l.map λk=>bV (f k))) (.lst (l.map λk=>bV (f k)))=some true:=by
 have:wfV 60 (.lst (l.map λk=>bV (f k)))=true:=by
  show cR 59 (l.map λk=>bV (f k))=true
  exact pS λv hv=>by obtain⟨w,_,rfl⟩:=OS.mp hv;exact Ke _ 57
 rw[K2 this this,pf 60 _ this]
def Cm(v w:Bool):dZ (.str (wy v)) (.str (wy w))=some (v==w):=by
 rw[eq_str (wG v) (wG w)]
 cases v <;> cases w <;> decide +kernel
def ig(f:Nat->Val)(w:Bool)(ts:List AT):AT.val f (.nd w ts)=.tup [.str (wy w),.tup (ts.map (AT.val f))]:=by rw[AT.val,AT.vals_map]
theorem n6{f:Nat->Val}{m:Nat}{w:Bool}(tv sv:Val):∀(ts acc:List AT) (s4 s5:Sl),s4.pl=true->s5.pl=true->(∀t∈ts,(aT m).G [t.val f]=.ok (.val (t.pln.val f)) []/\∀k∈t.pln.lvs,lfV (f k)=true)->acc.length+(AT.plnL w ts).length<=100000->
 ∃s4' s5',ff (gtN 4).G (er (aT m)).G (ts.map (AT.val f)) [.sh tv,.sh (.str (wy w)),.sh sv,.ow (.lst (acc.map (AT.val f))),s4,s5]=.nx [.sh tv,.sh (.str (wy w)),.sh sv,.ow (.lst ((acc++AT.plnL w ts).map (AT.val f))),s4',s5']
 | [],acc,s4,s5,_,_,_,_=>⟨s4,s5,by rw[AT.plnL,OT];rfl⟩
 |
  t::ts,acc,s4,s5,h4,h5,hp,hl=>by
  obtain⟨e1,lf⟩:=hp t (Of ..)
  rw[AT.plnL,Oh] at hl
  obtain⟨s4',s5',q⟩:=n6 (w:=w) tv sv ts (acc++gr w t.pln) (.sh (t.val f)) (.sh (t.pln.val f)) rfl rfl (λu hu=>hp u (Od _ hu)) (by rw[Oh];omega)
  refine⟨s4',s5',?_⟩
  rw[AT.plnL,<- O7,Oi,eL]
  have g1:(gtN 4).G (t.val f) [.sh tv,.sh (.str (wy w)),.sh sv,.ow (.lst (acc.map (AT.val f))),s4,s5]=some [.sh tv,.sh (.str (wy w)),.sh sv,.ow (.lst (acc.map (AT.val f))),.sh (t.val f),s5]:=by
   generalize t.val f=a at *
   simp![h4]
  have b1
   : (er (aT m)).G [.sh tv,.sh (.str (wy w)),.sh sv,.ow (.lst (acc.map (AT.val f))),.sh (t.val f),s5]=.nx [.sh tv,.sh (.str (wy w)),.sh sv,.ow (.lst ((acc++gr w t.pln).map (AT.val f))),.sh (t.val f),.sh (t.pln.val f)]:=by
   unfold er
   rw[OQ]
   have ll:(acc.map (AT.val f)).length<16777216:=by rw[N_];omega
   generalize t.val f=a at *
   generalize t.pln=p at *
   cases p with
   |
    lf k=>
    have i1:=xP (lf k (by rw[AT.lvs];exact Of ..))
    rw[vo]
    rw[Oi,OL]
    rw[AT.val] at e1 ⊢
    generalize f k=fk at *
    generalize acc.map (AT.val f)=AC at *
    simp![e1,i1,h5,ll]
   |
    nd v us=>
    rw[ig] at e1 ⊢
    have we:=Cm v w
    have l2:(acc.map (AT.val f)).length+(us.map (AT.val f)).length<=16777216\/v≠w:=by
     by_cases hv:v=w
     ·left
      rw[de] at hl
      rw[if_pos hv] at hl
      rw[N_,N_]
      omega
     ·exact .inr hv
    by_cases hv:v=w
    ·subst hv
     rw[PU] at we
     have l2:=l2.resolve_right (λz=>z rfl)
     rw[de]
     rw[if_pos rfl]
     generalize acc.map (AT.val f)=AC at *
     generalize us.map (AT.val f)=UV at *
     simp![e1,fT,we,h5,lE,l2,fY]
    ·rw[OB.mpr hv] at we
     rw[de]
     rw[if_neg hv,Oi,OL,ig]
     generalize acc.map (AT.val f)=AC at *
     generalize us.map (AT.val f)=UV at *
     simp![e1,fT,we,h5,ll,fY]
  rw[g1]
  dsimp only
  rw[b1]
  exact q
def mZ{f:Nat->Val}(t:AT):∀m,t.dep<=m->t.ok=true->t.lvs.length<=1000->(∀k∈t.lvs,lfV (f k)=true)->(aT m).G [t.val f]=.ok (.val (t.pln.val f)) []:=by
 induction t using AT.ind with
 |
  h1 k=>
  intro m hm _ _ hf
  have i1:=xP (hf k (by rw[AT.lvs];exact Of ..))
  cases m with
  |zero=>simp [AT.dep] at hm
  |
   succ m=>
   show (PFx.of [false] 6 (c9 (aT m))).G [AT.val f (.lf k)]=_
   rw[gR]
   unfold c9
   rw[AT.pln,AT.val]
   generalize f k=fk at *
   simp![i1]
 |
  h2 w ts ih=>
  intro m hm ho hl hf
  cases m with
  |zero=>simp [AT.dep] at hm
  |
   succ m=>
   rw[AT.dep] at hm
   have ho2:=AT.pln_ok _ ho
   have hlv:=AT.pln_lvs (.nd w ts)
   have hd:=AT.depL_le.mp (show AT.depL ts<=m by omega)
   rw[AT.ok,Oj] at ho
   have hk:=AT.okL_mem.mp ho.2
   rw[AT.lvs] at hl hf
   rw[AT.pln] at ho2 hlv
   rw[AT.ok,Oj] at ho2
   rw[AT.lvs,AT.lvs] at hlv
   have ln:(AT.plnL w ts).length<=1000:=by
    have:=d9 (f:=AT.lvs) (l:=AT.plnL w ts) λt ht=>eV (AT.okL_mem.mp ho2.2 t ht)
    rw[<- AT.lvsL_flat,hlv] at this
    omega
   obtain⟨s4,s5,lo⟩:=n6 (f:=f) (m:=m) (w:=w) (AT.val f (.nd w ts)) (.tup (ts.map (AT.val f))) ts [] .no .no rfl rfl (λt ht=>⟨ih t ht m (hd t ht) (hk t ht) (by have:=AT.lvs_le ht;omega) λk hk'=>hf k (AT.lvsL_mem.mpr ⟨t,ht,hk'⟩),λk hk'=>hf k (AT.lvsL_mem.mpr ⟨t,ht,by rw[<- AT.pln_lvs];exact hk'⟩)⟩) (by rw[OG];omega)
   have l2:((AT.plnL w ts).map (AT.val f)).length<=16777216:=by rw[N_];omega
   rw[OR,OL] at lo
   show (PFx.of [false] 6 (c9 (aT m))).G [AT.val f (.nd w ts)]=_
   rw[gR]
   unfold c9
   rw[AT.pln,ig]
   rw[ig] at lo ⊢
   generalize (AT.plnL w ts).map (AT.val f)=PV at *
   generalize ts.map (AT.val f)=TV at *
   simp![fT,lo,l2]
theorem mO{m:Nat}{w:Bool}(xv:Val):∀(ts acc:List AT) (s2:Sl),s2.pl=true->acc.length+(AT.plnL w ts).length<=100000->
 ∃s2',ff (gtN 2).G (eJ (bq m)).G (ts.map λt=>atV t.pln) [.sh (.tup [.str (wy w),xv]),.ow (.lst (acc.map atV)),s2]=.nx [.sh (.tup [.str (wy w),xv]),.ow (.lst ((acc++AT.plnL w ts).map atV)),s2']
 | [],acc,s2,_,_=>⟨s2,by rw[AT.plnL,OT];rfl⟩
 |
  t::ts,acc,s2,h2,hl=>by
  rw[AT.plnL,Oh] at hl
  obtain⟨s2',q⟩:=mO (m:=m) (w:=w) xv ts (acc++gr w t.pln) (.sh (atV t.pln)) rfl (by rw[Oh];omega)
  refine⟨s2',?_⟩
  rw[AT.plnL,<- O7,Oi,eL]
  have g1:(gtN 2).G (atV t.pln) [.sh (.tup [.str (wy w),xv]),.ow (.lst (acc.map atV)),s2]=some [.sh (.tup [.str (wy w),xv]),.ow (.lst (acc.map atV)),.sh (atV t.pln)]:=by
   generalize atV t.pln=a at *
   simp![h2]
  have b1:(eJ (bq m)).G [.sh (.tup [.str (wy w),xv]),.ow (.lst (acc.map atV)),.sh (atV t.pln)]=.nx [.sh (.tup [.str (wy w),xv]),.ow (.lst ((acc++gr w t.pln).map atV)),.sh (atV t.pln)]:=by
   unfold eJ
   rw[OQ]
   have ll:(acc.map atV).length<16777216:=by rw[N_];omega
   generalize t.pln=p at *
   cases p with
   |
    lf k=>
    have i1:(aY kits).G [.int (k:Nat),.ty "tuple"]=.val (.bl false):=rfl
    have av:atV (.lf k)=.int (k:Nat):=rfl
    rw[vo]
    rw[Oi,OL,av]
    generalize acc.map atV=AC at *
    simp![i1,ll]
   |
    nd v us=>
    have av:atV (.nd v us)=.tup [.str (wy v),.tup (us.map atV)]:=ig _ v us
    have we:=Cm v w
    by_cases hv:v=w
    ·subst hv
     rw[PU] at we
     rw[de]
     rw[de] at hl
     rw[if_pos rfl] at hl ⊢
     have l2:(acc.map atV).length+(us.map atV).length<=16777216:=by rw[N_,N_];omega
     have l3:(us.map atV).length<=16777216:=by omega
     rw[av]
     generalize acc.map atV=AC at *
     generalize us.map atV=UV at *
     simp![fT,we,l2,l3,fY]
    ·rw[OB.mpr hv] at we
     rw[de]
     rw[if_neg hv,Oi,OL,av]
     generalize acc.map atV=AC at *
     generalize us.map atV=UV at *
     simp![fT,we,ll,fY]
  rw[g1]
  dsimp only
  rw[b1]
  exact q
def yo(t:AT):∀m,t.dep<=m->t.ok=true->t.lvs.length<=1000->(bq m).G [atV t]=.ok (.val (atV t.pln)) []:=by
 induction t using AT.ind with
 |
  h1 k=>
  intro m hm _ _
  have i1:(aY kits).G [.int (k:Nat),.ty "tuple"]=.val (.bl false):=rfl
  have av:atV (.lf k)=.int (k:Nat):=rfl
  cases m with
  |zero=>simp [AT.dep] at hm
  |
   succ m=>
   show (PFx.of [false] 3 (dG (bq m))).G [atV (.lf k)]=_
   rw[gR]
   unfold dG
   rw[AT.pln,av]
   simp![i1]
 |
  h2 w ts ih=>
  intro m hm ho hl
  cases m with
  |zero=>simp [AT.dep] at hm
  |
   succ m=>
   rw[AT.dep] at hm
   have ho2:=AT.pln_ok _ ho
   have hlv:=AT.pln_lvs (.nd w ts)
   have hd:=AT.depL_le.mp (show AT.depL ts<=m by omega)
   rw[AT.ok,Oj] at ho
   have hk:=AT.okL_mem.mp ho.2
   rw[AT.lvs] at hl
   rw[AT.pln] at ho2 hlv
   rw[AT.ok,Oj] at ho2
   rw[AT.lvs,AT.lvs] at hlv
   have ln:(AT.plnL w ts).length<=1000:=by
    have:=d9 (f:=AT.lvs) (l:=AT.plnL w ts) λt ht=>eV (AT.okL_mem.mp ho2.2 t ht)
    rw[<- AT.lvsL_flat,hlv] at this
    omega
   have lt:ts.length<=1000:=by
    have:=d9 (f:=AT.lvs) (l:=ts) λt ht=>eV (hk t ht)
    rw[<- AT.lvsL_flat] at this
    omega
   obtain⟨e',⟨s,rfl,_⟩,lc⟩:=dH (g:=(gtN 0).G) (F:=(az (bq m).fn (ag (ah 0) ao)).G) atV (λt=>atV t.pln) (λe=>∃s:Sl,e=[s]/\s.pl=true) ts [] [.no] ⟨.no,rfl,rfl⟩ (by
    rintro t ht _ ⟨s,rfl,hs⟩
    have:=ih t ht m (hd t ht) (hk t ht) (by have:=AT.lvs_le ht;omega)
    generalize atV t=tv at *
    generalize atV t.pln=tw at *
    refine⟨[.sh tv],.val tw,[.sh tv],?_,?_,rfl,_,rfl,rfl⟩
    ·simp![hs]
    ·simp![this]) (by rw[OG];omega)
   obtain⟨s2,lo⟩:=mO (m:=m) (w:=w) (.tup (ts.map atV)) ts [] .no rfl (by rw[OG];omega)
   have l2:((AT.plnL w ts).map atV).length<=16777216:=by rw[N_];omega
   have l3:(ts.map λt=>atV t.pln).length<=16777216:=by rw[N_];omega
   have av:atV (.nd w ts)=.tup [.str (wy w),.tup (ts.map atV)]:=ig _ w ts
   have ap:atV (.nd w (AT.plnL w ts))=.tup [.str (wy w),.tup ((AT.plnL w ts).map atV)]:=ig _ w _
   rw[OR,OL] at lo
   rw[OR] at lc
   show (PFx.of [false] 3 (dG (bq m))).G [atV (.nd w ts)]=_
   rw[gR]
   unfold dG
   rw[AT.pln,av,ap]
   generalize (AT.plnL w ts).map atV=PV at *
   generalize ts.map (λt=>atV t.pln)=QV at *
   generalize ts.map atV=TV at *
   simp![fT,fY,cA,inS,lc,l3,lo,l2]
def uv{f:Nat->Val}{ns:List Val}(t:AT):∀m,t.dep<=m->t.ok=true->t.lvs.length<=1000->(∀k∈t.lvs,ns[k]?=some (f k))->(bC m).G [t.val λk=>.int (k:Nat),.lst ns]=.ok (.val (t.val f)) []:=by
 induction t using AT.ind with
 |
  h1 k=>
  intro m hm _ _ hn
  have h1:=hn k (by rw[AT.lvs];exact Of ..)
  cases m with
  |zero=>simp [AT.dep] at hm
  |
   succ m=>
   have i1:(aY kits).G [.int (k:Nat),.ty "tuple"]=.val (.bl false):=rfl
   have a1:atI ns (k:Nat)=some (f k):=fA (by omega) h1
   show (PFx.of [false,false] 2 (dC (bC m))).G [AT.val _ (.lf k),.lst ns]=_
   rw[gR]
   unfold dC
   rw[AT.val,AT.val]
   simp![i1,a1]
 |
  h2 w ts ih=>
  intro m hm ho hl hn
  cases m with
  |zero=>simp [AT.dep] at hm
  |
   succ m=>
   rw[AT.dep] at hm
   have hd:=AT.depL_le.mp (show AT.depL ts<=m by omega)
   rw[AT.ok,Oj] at ho
   have hk:=AT.okL_mem.mp ho.2
   rw[AT.lvs] at hl hn
   have hl2:=hl
   rw[AT.lvsL_flat] at hl
   have hll:∀t∈ts,t.lvs.length<=1000:=λt ht=>by
    have:=QC (P9 (O8 (f:=AT.lvs) ht))
    omega
   have ll:ts.length<=1000:=by
    have:ts.length<=((ts.map AT.lvs).flatten).length:=d9 λt ht=>eV (hk t ht)
    omega
   show (PFx.of [false,false] 2 (dC (bC m))).G [AT.val _ (.nd w ts),.lst ns]=_
   rw[gR]
   unfold dC
   rw[AT.val,AT.val,AT.vals_map,AT.vals_map]
   obtain⟨e',⟨s,rfl,_⟩,lc⟩:=dH (g:=(gtN 0).G) (F:=(az (bC m).fn (ag (ah 0) (ag (ah 1) ao))).G) (AT.val λk=>.int (k:Nat)) (AT.val f) (λe=>∃s:Sl,e=[s,.sh (.lst ns)]/\s.pl=true) ts [] [.no,.sh (.lst ns)] ⟨.no,rfl,rfl⟩ (by
    rintro t ht _ ⟨s,rfl,hs⟩
    have:=ih t ht m (hd t ht) (hk t ht) (hll t ht) λk hk'=>hn k (AT.lvsL_mem.mpr ⟨t,ht,hk'⟩)
    generalize AT.val (λk=>Val.int (k:Nat)) t=tv at *
    generalize AT.val f t=tw at *
    refine⟨[.sh tv,.sh (.lst ns)],.val tw,[.sh tv,.sh (.lst ns)],?_,?_,rfl,_,rfl,rfl⟩
    ·simp![hs]
    ·simp![this]) (by rw[OG];omega)
   have l2:(ts.map (AT.val f)).length<=16777216:=by rw[N_];omega
   rw[OR] at lc
   simp![fT,cA,inS,lc,l2]
def zyx:Str:="abcdefghijklmnopqrstuvwxyz"
def nmC(j:Nat):Nat:=zyx.cps.toList.getD (j % 26) 0
def nmS(j:Nat):Str:=Txt.mul ⟨#[nmC j]⟩ (1+((j/26:Nat):Int))
def nm42:List Str:="across" :: "down" :: (List.range 40).map nmS
def LP:(nm42.all λx=>PyData.strOk x)=true:=by decide
def Fb:zyx.cps.toList.length=26:=by decide
def Hm:zyx.length<=16777216:=by decide
def z9{m:Nat}(hm:m<=40):∃s,lcV (gtN 0).G qY.G (pOp mr (pOp oW (ef "abcdefghijklmnopqrstuvwxyz") (pOp cS (ah 0) (au 26))) (pOp bz (au 1) (pOp ji (ah 0) (au 26)))).G (rgV m) [] [.no]=.ok ((List.range m).map λj=>.str (nmS j)) [s]:=by
 obtain⟨e',⟨s,rfl,_⟩,lc⟩:=dH (g:=(gtN 0).G) (F:=(pOp mr (pOp oW (ef "abcdefghijklmnopqrstuvwxyz") (pOp cS (ah 0) (au 26))) (pOp bz (au 1) (pOp ji (ah 0) (au 26)))).G) (λi:Nat=>Val.int (i:Nat)) (λj=>Val.str (nmS j)) (λe=>∃s:Sl,e=[s]/\s.pl=true) (List.range m) [] [.no] ⟨.no,rfl,rfl⟩ (by
  rintro j hj _ ⟨s,rfl,hs⟩
  rw[Px] at hj
  have m1:cS.G (.int (j:Nat)) (.int 26)=.val (.int ((j % 26:Nat):Int)):=by
   rw[gX (by decide)]
   exact Pb (λx=>Bv.val (.int x)) (Hd j 26)
  have d1:ji.G (.int (j:Nat)) (.int 26)=.val (.int ((j/26:Nat):Int)):=by
   rw[mi (CDivB.of (by decide) (sm8 (by decide)))]
   exact Pb (λx=>Bv.val (.int x)) (F6 j 26)
  have x1:oW.G (.str "abcdefghijklmnopqrstuvwxyz") (.int ((j % 26:Nat):Int))=.val (.str ⟨#[nmC j]⟩):=LX Hm (fA (by omega) (by
   have h1:j % 26<zyx.cps.toList.length:=by rw[Fb];omega
   show zyx.cps.toList[((j % 26:Nat):Int).toNat]?=_
   rw[OY,Ov h1]
   unfold nmC
   rw[OW,Ov h1]
   rfl))
  have y1:mr.G (.str ⟨#[nmC j]⟩) (.int (1+((j/26:Nat):Int)))=.val (.str (nmS j)):=Fs ⟨by show (1:Nat)<=16;decide,by omega,by omega⟩
  refine⟨[.sh (.int (j:Nat))],.val (.str (nmS j)),[.sh (.int (j:Nat))],?_,?_,rfl,_,rfl,rfl⟩
  ·simp![hs]
  ·generalize hx:nmC j=c at *
   generalize nmS j=y at *
   simp![m1,d1,x1,y1]) (by rw[OG,Qz];omega)
 exact⟨s,lc⟩
def p28:gL.G (.int 10) (.int 28)=.val (.int (10^28)):=qW ⟨by decide,by decide,by decide⟩
def Et{m:Nat}(hm:m<=40):∃s,lcV (gtN 0).G qY.G (pOp bz (pOp dE (ah 0) (pOp gL (au 10) (au 28))) (au 7)).G (rgV m) [] [.no]=.ok ((List.range m).map λj=>.int ((j:Nat)*10^28+7)) [s]:=by
 obtain⟨e',⟨s,rfl,_⟩,lc⟩:=dH (g:=(gtN 0).G) (F:=(pOp bz (pOp dE (ah 0) (pOp gL (au 10) (au 28))) (au 7)).G) (λi:Nat=>Val.int (i:Nat)) (λj:Nat=>Val.int ((j:Nat)*10^28+7)) (λe=>∃s:Sl,e=[s]/\s.pl=true) (List.range m) [] [.no] ⟨.no,rfl,rfl⟩ (by
  rintro j hj _ ⟨s,rfl,hs⟩
  rw[Px] at hj
  have m1:dE.G (.int (j:Nat)) (.int (10^28))=.val (.int ((j:Nat)*10^28)):=fB (CMulA.left (by omega) (by omega))
  refine⟨[.sh (.int (j:Nat))],.val (.int ((j:Nat)*10^28+7)),[.sh (.int (j:Nat))],?_,?_,rfl,_,rfl,rfl⟩
  ·simp![hs]
  ·simp![p28,m1]) (by rw[OG,Qz];omega)
 exact⟨s,lc⟩
def NOk(m:Nat)(ns:List Val):Prop:=m<=ns.length/\∀v∈ns,lfV v=true/\wfV 0 v=true
def Ew{m:Nat}(hm:m<=40):NOk m (.str "across" :: .str "down" :: (List.range m).map λj=>.str (nmS j)):=by
 have ok:=OV.mp LP
 refine⟨by simp;omega,λv hv=>?_⟩
 have key:∃x∈nm42,v=.str x:=by
  rcases Oy.mp hv with rfl |hv
  ·exact⟨_,Of ..,rfl⟩
  ·rcases Oy.mp hv with rfl |hv
   ·exact⟨_,Od _ (Of ..),rfl⟩
   ·obtain⟨j,hj,rfl⟩:=OS.mp hv
    exact⟨_,Od _ (Od _ (OS.mpr ⟨j,Px.mpr (by have:=Px.mp hj;omega),rfl⟩)),rfl⟩
 obtain⟨x,hx,rfl⟩:=key
 exact⟨rfl,ok x hx⟩
def Dg{m:Nat}:NOk m ((List.range m).map λj:Nat=>.int ((j:Nat)*10^28+7)):=by
 refine⟨by simp,λv hv=>?_⟩
 obtain⟨j,_,rfl⟩:=OS.mp hv
 exact⟨rfl,rfl⟩
def Ds{m:Nat}{ns:List Val}(h:NOk m ns):NOk m ns.reverse:=⟨by rw[List.length_reverse];exact h.1,λv hv=>h.2 v (List.mem_reverse.mp hv)⟩
def Ek{m:Nat}{t:AT}{o:List Nat}{ns:List Val}(hm:m<=40)(T:TOk t o)(ho:∀i,i∈o ↔ i<m)(hl:o.length=m)(N:NOk m ns){x0 x1 x2 x3 x4 x7 x8 x9 x11 x12:Sl}:
 lz.G [x0,x1,x2,x3,x4,.sh (atV t),.sh (atV t.pln),x7,x8,x9,.sh (.lst ns),x11,x12]=.nx [x0,x1,x2,x3,x4,.sh (atV t),.sh (atV t.pln),x7,x8,x9,.sh (.lst ns),x11,x12]:=by
 have hk:∀k∈t.lvs,ns[k]?=some (ns.getD k .non):=λk hk=>by
  have h1:=(ho k).mp ((T.mem k).mp hk)
  have h2:=N.1
  rw[OW,Ov (show k<ns.length by omega)]
  rfl
 have hv:∀k∈t.lvs,lfV (ns.getD k .non)=true/\wfV 0 (ns.getD k .non)=true:=λk hk'=>N.2 _ (O4 (hk k hk'))
 have hd:=T.dep
 have hd2:=T.pln.dep
 have len:=T.len
 have e1:=uv (f:=λk=>ns.getD k .non) (ns:=ns) t 42 (by omega) T.ok (by omega) hk
 have e2:=uv (f:=λk=>ns.getD k .non) (ns:=ns) t.pln 42 (by omega) T.pln.ok (by rw[AT.pln_lvs];omega) (by rw[AT.pln_lvs];exact hk)
 have e3:=mZ (f:=λk=>ns.getD k .non) t 42 (by omega) T.ok (by omega) λk hk'=>(hv k hk').1
 have e4:=u5 (f:=λk=>ns.getD k .non) t.pln (by omega) (by rw[AT.pln_lvs];exact λk hk'=>(hv k hk').2)
 rw[show AT.val (λk=>Val.int (k:Nat)) t=atV t from rfl] at e1
 rw[show AT.val (λk=>Val.int (k:Nat)) t.pln=atV t.pln from rfl] at e2
 generalize AT.val (λk=>ns.getD k .non) t=tw at *
 generalize AT.val (λk=>ns.getD k .non) t.pln=pw at *
 generalize atV t=tv at *
 generalize atV t.pln=pv at *
 unfold lz
 simp![e1,e2,e3,e4]
theorem yZ{k:Int}:∀(vs acc:List Val) (a b:Int) (s:Sl),s.pl=true->acc.length+vs.length<=1000->∃(ws:List Int) (a' b':Int) (s':Sl),ws.length=vs.length/\(∀w∈ws,1<=w/\w<=20)/\lcV (gtN 0).G qY.G (pOp bz (au 1) (az aA (ag (ah 1) (ag (au 20) ao)))).G vs acc [s,.mu (fdV a b k)]=.ok (acc++ws.map .int) [s',.mu (fdV a' b' k)]
 | [],acc,a,b,s,_,_=>⟨[],a,b,s,rfl,(λ_ h=>nomatch h),by simp [lcV]⟩
 |
  v::vs,acc,a,b,s,hs,ha=>by
  rw[Oq] at ha
  obtain⟨r,a1,b1,e1,r0,r1⟩:=aS (a:=a) (b:=b) (k:=k) (m:=20) (by omega) (sm8 (by omega))
  obtain⟨ws,a',b',s',q1,q2,q3⟩:=yZ (k:=k) vs (acc++[.int (1+r)]) a1 b1 (.sh v) rfl (by rw[Oh];show acc.length+1+_<=_;omega)
  refine⟨(1+r)::ws,a',b',s',by rw[Oq,Oq,q1],λx hx'=>?_,?_⟩
  ·rcases Oy.mp hx' with rfl |hx'
   ·omega
   ·exact q2 x hx'
  ·have g1:(gtN 0).G v [s,.mu (fdV a b k)]=some [.sh v,.mu (fdV a b k)]:=by
    simp![hs]
   have F1:(pOp bz (au 1) (az aA (ag (ah 1) (ag (au 20) ao)))).G [.sh v,.mu (fdV a b k)]=.ok (.val (.int (1+r))) [.sh v,.mu (fdV a1 b1 k)]:=by
    generalize fdV a b k=f0 at *
    generalize fdV a1 b1 k=f1 at *
    simp![e1]
   have d1:cW [.sh v,.mu (fdV a1 b1 k)] (.val (.int (1+r)))=some ([.sh v,.mu (fdV a1 b1 k)],.int (1+r)):=rfl
   unfold lcV
   have cy:qY.G=cY:=rfl
   rw[cy] at q3 ⊢
   rw[if_pos (by omega),g1]
   simp only[cY,jx,Pl,F1,d1,q3]
   simp
def bdQ(sc:Val)(r:SR3):Prop:=∃s1 s2 s3 s4 s5 s6 s7 s8 s9 s10 s11 s12:Sl,(s1.pl=true/\s2.pl=true/\s3.pl=true/\s4.pl=true/\s5.pl=true/\s6.pl=true/\s7.pl=true/\s8.pl=true/\s9.pl=true/\s10.pl=true/\s11.pl=true/\s12.pl=true)/\r=.nx [.sh sc,s1,s2,s3,s4,s5,s6,s7,s8,s9,s10,s11,s12]
def Es{ns:List Int}{k:Nat}{s2 s3 s4 s5 s6 s7 s8 s9 s10 s11 s12:Sl}(h2:s2.pl=true)(h3:s3.pl=true)(h4:s4.pl=true)(h5:s5.pl=true)(h6:s6.pl=true)(h7:s7.pl=true)(h8:s8.pl=true)(h9:s9.pl=true)(h10:s10.pl=true)(h11:s11.pl=true)(h12:s12.pl=true):
 bdQ (.kl (ns.map .int)) (lA.G [.sh (.kl (ns.map .int)),.sh (.int (k:Nat)),s2,s3,s4,s5,s6,s7,s8,s9,s10,s11,s12]):=by
 unfold lA
 obtain⟨a,e0⟩:=DL (ns:=ns) (k:=(k:Nat)) (by omega)
 refine bB (λe=>e=[.sh (.kl (ns.map .int)),.sh (.int (k:Nat)),.ow (fdV a 0 (k:Nat)),s3,s4,s5,s6,s7,s8,s9,s10,s11,s12]) ⟨_,by
  generalize fdV a 0 (k:Nat)=f0 at *
  simp![e0,h2],rfl⟩ ?_
 rintro _ rfl
 generalize Val.kl (ns.map .int)=sc at *
 obtain⟨r,a1,b1,e1,r0,r1⟩:=aS (a:=a) (b:=0) (k:=(k:Nat)) (m:=9) (by decide) (sm8 (by decide))
 obtain⟨r',a2,b2,e2,r20,r21⟩:=aS (a:=a1) (b:=b1) (k:=(k:Nat)) (m:=7) (by decide) (sm8 (by decide))
 refine bB (λe=>∃m:Int,1<=m/\m<=40/\e=[.sh sc,.sh (.int (k:Nat)),.ow (fdV a2 b2 (k:Nat)),.sh (.int m),s4,s5,s6,s7,s8,s9,s10,s11,s12]) ?_ ?_
 ·by_cases hr:r'=0
  ·subst hr
   have at1:∀x y:Val,atI [x,y] 1=some y:=λx y=>fA (by decide) rfl
   exact⟨_,by
    generalize fdV a 0 (k:Nat)=f0 at *
    generalize fdV a1 b1 (k:Nat)=f1 at *
    generalize fdV a2 b2 (k:Nat)=f2 at *
    simp![e1,e2,h3,at1],40,by decide,by decide,rfl⟩
  ·have hr':(r'==0)=false:=by rw[OB];exact hr
   exact⟨_,by
    generalize fdV a 0 (k:Nat)=f0 at *
    generalize fdV a1 b1 (k:Nat)=f1 at *
    generalize fdV a2 b2 (k:Nat)=f2 at *
    simp![e1,e2,h3,hr',fY],1+r,by omega,by omega,rfl⟩
 rintro _ ⟨m,m1,m40,rfl⟩
 obtain⟨m,rfl⟩:∃n:Nat,m=n:=⟨m.toNat,by omega⟩
 obtain⟨o,a3,b3,om,ol,e3⟩:=AY (a:=a2) (b:=b2) (k:=(k:Nat)) (m:=m) (by omega)
 refine bB (λe=>e=[.sh sc,.sh (.int (k:Nat)),.ow (fdV a3 b3 (k:Nat)),.sh (.int (m:Nat)),.sh (itV o),s5,s6,s7,s8,s9,s10,s11,s12]) ⟨_,by
  generalize fdV a2 b2 (k:Nat)=f0 at *
  generalize fdV a3 b3 (k:Nat)=f1 at *
  generalize itV o=ov at *
  simp![e3,h4],rfl⟩ ?_
 rintro _ rfl
 have one:o≠[]:=λz=>by rw[z] at ol;simp at ol;omega
 obtain⟨c,a4,b4,e4,c0,c1⟩:=aS (a:=a3) (b:=b3) (k:=(k:Nat)) (m:=2) (by decide) (sm8 (by decide))
 refine bB (λe=>∃t a b,TOk t o/\e=[.sh sc,.sh (.int (k:Nat)),.ow (fdV a b (k:Nat)),.sh (.int (m:Nat)),.sh (itV o),.sh (atV t),s6,s7,s8,s9,s10,s11,s12]) ?_ ?_
 ·by_cases hc:c=0
  ·subst hc
   obtain⟨t,a5,b5,T,e5⟩:=Aw (a:=a4) (b:=b4) (k:=(k:Nat)) one
   rw[show AT.val (λk=>Val.int (k:Nat)) t=atV t from rfl] at e5
   exact⟨_,by
    generalize fdV a3 b3 (k:Nat)=f0 at *
    generalize fdV a4 b4 (k:Nat)=f1 at *
    generalize fdV a5 b5 (k:Nat)=f2 at *
    generalize itV o=ov at *
    generalize atV t=tv at *
    simp![e4,e5,h5],t,a5,b5,T,rfl⟩
  ·have hc':(c==0)=false:=by rw[OB];exact hc
   obtain⟨t,a5,b5,T,e5⟩:=vR (k:=(k:Nat)) o.length 42 o a4 b4 one (Og _) (by omega) (by omega)
   exact⟨_,by
    generalize fdV a3 b3 (k:Nat)=f0 at *
    generalize fdV a4 b4 (k:Nat)=f1 at *
    generalize fdV a5 b5 (k:Nat)=f2 at *
    generalize itV o=ov at *
    generalize atV t=tv at *
    simp![e4,hc',e5,h5],t,a5,b5,T,rfl⟩
 rintro _ ⟨t,a5,b5,T,rfl⟩
 have hd:=T.dep
 have hdp:=T.pln.dep
 have len:=T.len
 have lfi:∀(k:Nat),lfV (.int (k:Nat))=true:=λ_=>rfl
 have wfi:∀(k:Nat),wfV 0 (.int (k:Nat))=true:=λ_=>rfl
 have lp:=yo t 42 (by omega) T.ok (by omega)
 have pp:=mZ (f:=λk=>.int (k:Nat)) t 42 (by omega) T.ok (by omega) λk _=>lfi k
 have p2:=mZ (f:=λk=>.int (k:Nat)) t.pln 42 (by omega) T.pln.ok (by rw[AT.pln_lvs];omega) λk _=>lfi k
 have ee:=u5 (f:=λk=>.int (k:Nat)) t.pln (by omega) λk _=>wfi k
 rw[AT.pln_pln] at p2
 rw[show AT.val (λk=>Val.int (k:Nat)) t.pln=atV t.pln from rfl] at pp p2 ee
 rw[show AT.val (λk=>Val.int (k:Nat)) t=atV t from rfl] at pp
 have it:(aY kits).G [atV t.pln,.ty "tuple"]=.val (.bl (decide (1<((m:Nat):Int)))):=by
  cases t with
  |
   lf j=>
   have:m=1:=by rw[AT.lvs] at len;simp at len;omega
   subst this
   rfl
  |
   nd w ts=>
   have ok:=T.ok
   rw[AT.ok,Oj] at ok
   have h2:=Pf ok.1
   have h3:=d9 (f:=AT.lvs) (l:=ts) λt ht=>eV (AT.okL_mem.mp ok.2 t ht)
   rw[AT.lvs,AT.lvsL_flat] at len
   rw[OI (show (1:Int)<(m:Nat) by omega),AT.pln,show atV (.nd w (AT.plnL w ts))=_ from ig _ w _]
   exact fT _
 refine bB (λe=>e=[.sh sc,.sh (.int (k:Nat)),.ow (fdV a5 b5 (k:Nat)),.sh (.int (m:Nat)),.sh (itV o),.sh (atV t),.sh (atV t.pln),s7,s8,s9,s10,s11,s12]) ⟨_,by
  generalize fdV a5 b5 (k:Nat)=f0 at *
  generalize itV o=ov at *
  generalize atV t=tv at *
  generalize atV t.pln=pv at *
  simp![lp,h6],rfl⟩ ?_
 rintro _ rfl
 refine bB (λe=>e=[.sh sc,.sh (.int (k:Nat)),.ow (fdV a5 b5 (k:Nat)),.sh (.int (m:Nat)),.sh (itV o),.sh (atV t),.sh (atV t.pln),.sh (atV t.pln),s8,s9,s10,s11,s12]) ⟨_,by
  generalize fdV a5 b5 (k:Nat)=f0 at *
  generalize itV o=ov at *
  generalize atV t=tv at *
  generalize atV t.pln=pv at *
  simp![pp,h7],rfl⟩ ?_
 rintro _ rfl
 refine bB (λe=>e=[.sh sc,.sh (.int (k:Nat)),.ow (fdV a5 b5 (k:Nat)),.sh (.int (m:Nat)),.sh (itV o),.sh (atV t),.sh (atV t.pln),.sh (atV t.pln),s8,s9,s10,s11,s12]) ⟨_,by
  generalize fdV a5 b5 (k:Nat)=f0 at *
  generalize itV o=ov at *
  generalize atV t=tv at *
  generalize atV t.pln=pv at *
  simp![ee,it,p2,PU],rfl⟩ ?_
 rintro _ rfl
 have rg:iA [.int (m:Nat)]=some (rgV m):=mF (by omega)
 obtain⟨sN,lcN⟩:=z9 (m:=m) (by omega)
 obtain⟨sI,lcI⟩:=Et (m:=m) (by omega)
 have lN:((List.range m).map λj=>Val.str (nmS j)).length<=16777216:=by simp;omega
 have lI:((List.range m).map λj:Nat=>Val.int ((j:Nat)*10^28+7)).length<=16777216:=by simp;omega
 have ct:bz.G (.lst [.str "across",.str "down"]) (.lst ((List.range m).map λj=>.str (nmS j)))=.new (.lst (.str "across" :: .str "down" :: (List.range m).map λj=>.str (nmS j))):=by
  rw[yC,if_pos (by simp;omega)]
  rfl
 have N1:=Ew (m:=m) (by omega)
 have N2:=Dg (m:=m)
 generalize hL1:(Val.str "across" :: .str "down" :: (List.range m).map λj=>.str (nmS j))=L1 at *
 generalize (List.range m).map (λj=>Val.str (nmS j))=NS at *
 generalize (List.range m).map (λj:Nat=>Val.int ((j:Nat)*10^28+7))=NI at *
 refine bB (λe=>e=[.sh sc,.sh (.int (k:Nat)),.ow (fdV a5 b5 (k:Nat)),.sh (.int (m:Nat)),.sh (itV o),.sh (atV t),.sh (atV t.pln),.sh (atV t.pln),.sh (.lst L1),s9,s10,s11,s12]) ⟨_,by
  generalize fdV a5 b5 (k:Nat)=f0 at *
  generalize itV o=ov at *
  generalize atV t=tv at *
  generalize atV t.pln=pv at *
  simp![rg,cA,lcN,lN,ct,h8],rfl⟩ ?_
 rintro _ rfl
 refine bB (λe=>e=[.sh sc,.sh (.int (k:Nat)),.ow (fdV a5 b5 (k:Nat)),.sh (.int (m:Nat)),.sh (itV o),.sh (atV t),.sh (atV t.pln),.sh (atV t.pln),.sh (.lst L1),.sh (.lst NI),s10,s11,s12]) ⟨_,by
  generalize fdV a5 b5 (k:Nat)=f0 at *
  generalize itV o=ov at *
  generalize atV t=tv at *
  generalize atV t.pln=pv at *
  simp![rg,cA,lcI,lI,h9],rfl⟩ ?_
 rintro _ rfl
 have N3:=Ds N1
 have hn:∀v∈[Val.lst L1,.lst L1.reverse,.lst NI],∃ns,v=.lst ns/\NOk m ns:=λv hv=>by
  rcases Oy.mp hv with rfl |hv
  ·exact⟨_,rfl,N1⟩
  ·rcases Oy.mp hv with rfl |hv
   ·exact⟨_,rfl,N3⟩
   ·rcases Oy.mp hv with rfl |hv
    ·exact⟨_,rfl,N2⟩
    ·exact nomatch hv
 refine bB (λe=>∃s10:Sl,s10.pl=true/\e=[.sh sc,.sh (.int (k:Nat)),.ow (fdV a5 b5 (k:Nat)),.sh (.int (m:Nat)),.sh (itV o),.sh (atV t),.sh (atV t.pln),.sh (atV t.pln),.sh (.lst L1),.sh (.lst NI),s10,s11,s12]) ?_ ?_
 ·obtain⟨e',p',lo⟩:=nj (g:=(gtN 10).G) (B:=lz.G) (λe=>∃s10:Sl,s10.pl=true/\e=[.sh sc,.sh (.int (k:Nat)),.ow (fdV a5 b5 (k:Nat)),.sh (.int (m:Nat)),.sh (itV o),.sh (atV t),.sh (atV t.pln),.sh (atV t.pln),.sh (.lst L1),.sh (.lst NI),s10,s11,s12]) [Val.lst L1,.lst L1.reverse,.lst NI] [.sh sc,.sh (.int (k:Nat)),.ow (fdV a5 b5 (k:Nat)),.sh (.int (m:Nat)),.sh (itV o),.sh (atV t),.sh (atV t.pln),.sh (atV t.pln),.sh (.lst L1),.sh (.lst NI),s10,s11,s12] ⟨s10,h10,rfl⟩ (by
   rintro v hv _ ⟨s10,h10,rfl⟩
   obtain⟨ns,rfl,N⟩:=hn v hv
   refine⟨_,_,?_,.inl (Ek (by omega) T om ol N),_,rfl,rfl⟩
   generalize fdV a5 b5 (k:Nat)=f0 at *
   generalize itV o=ov at *
   generalize atV t=tv at *
   generalize atV t.pln=pv at *
   simp![h10])
  exact⟨e',by
   clear p'
   generalize fdV a5 b5 (k:Nat)=f0 at *
   generalize itV o=ov at *
   generalize atV t=tv at *
   generalize atV t.pln=pv at *
   simp![Kl,lo],p'⟩
 rintro _ ⟨s10,h10,rfl⟩
 obtain⟨b,a6,b6,g,e6⟩:=DV a5 b5 (k:Nat)
 refine bB (λe=>e=[.sh sc,.sh (.int (k:Nat)),.ow (fdV a6 b6 (k:Nat)),.sh (.int (m:Nat)),.sh (itV o),.sh (atV t),.sh (atV t.pln),.sh (atV t.pln),.sh (.lst L1),.sh (.lst NI),s10,.sh (bV b),s12]) ⟨_,by
  generalize fdV a5 b5 (k:Nat)=f0 at *
  generalize fdV a6 b6 (k:Nat)=f1 at *
  generalize itV o=ov at *
  generalize atV t=tv at *
  generalize atV t.pln=pv at *
  generalize bV b=bv at *
  simp![e6,h11],rfl⟩ ?_
 rintro _ rfl
 obtain⟨ws,a7,b7,sw,wl,wr,lw⟩:=yZ (k:=(k:Nat)) (rgV m) [] a6 b6 .no rfl (by rw[vf,OG];omega)
 rw[vf] at wl
 rw[OR] at lw
 have lwl:(ws.map Val.int).length<=16777216:=by rw[N_];omega
 refine bB (λe=>e=[.sh sc,.sh (.int (k:Nat)),.ow (fdV a7 b7 (k:Nat)),.sh (.int (m:Nat)),.sh (itV o),.sh (atV t),.sh (atV t.pln),.sh (atV t.pln),.sh (.lst L1),.sh (.lst NI),s10,.sh (bV b),.sh (liV ws)]) ⟨_,by
  unfold liV
  generalize fdV a6 b6 (k:Nat)=f0 at *
  generalize fdV a7 b7 (k:Nat)=f1 at *
  generalize itV o=ov at *
  generalize atV t=tv at *
  generalize atV t.pln=pv at *
  generalize bV b=bv at *
  generalize ws.map Val.int=WV at *
  simp![rg,cA,inS,lw,lwl,h12],rfl⟩ ?_
 rintro _ rfl
 subst wl
 have W:WOk ws:=⟨by omega,by omega,λw hw=>⟨(wr w hw).1,by have:=(wr w hw).2;omega⟩,λ_ w hw=>by have:=(wr w hw).2;omega⟩
 obtain⟨n1,hn1,hy1⟩:=Cz g W T om ol
 obtain⟨n2,hn2,hy2⟩:=Cz g W T.pln om ol
 have wne:ws≠[]:=λz=>by rw[z] at m1;exact absurd m1 (by decide)
 have hi:∀k,k∈t.lvs ↔ k<ws.length:=λk=>(T.mem k).trans (om k)
 have q1:=tE (ws:=ws) (n:=2000) (m:=n1) (by omega) g.ok wne (λw hw=>(W.wt w hw).1) W.len T.ok hi (yP T om ol) (T.len.trans ol) (by omega) hy1
 have q2:=tE (ws:=ws) (n:=2000) (m:=n2) (by omega) g.ok wne (λw hw=>(W.wt w hw).1) W.len T.pln.ok (by rw[AT.pln_lvs];exact hi) (yP T.pln om ol) (T.pln.len.trans ol) (by omega) hy2
 have hw1:∀k∈t.lvs,1<=ws.getD k 0:=λk hk=>by
  have h1:=(hi k).mp hk
  rw[OW,Ov h1]
  exact (W.wt _ (List.getElem_mem _)).1
 rw[AT.pln_bx t T.ok hw1] at q2
 have ebx:=KS (List.range ws.length) λk=>bxO (AT.bx ws t b) k
 have fb:=nI (λk=>bV (bxO (AT.bx ws t b) k)) (λk=>Ky _) (List.range ws.length)
 refine⟨.sh (.int (k:Nat)),.ow (fdV a7 b7 (k:Nat)),.sh (.int (ws.length:Nat)),.sh (itV o),.sh (atV t),.sh (atV t.pln),.sh (atV t.pln),.sh (.lst L1),.sh (.lst NI),s10,.sh (bV b),.sh (liV ws),⟨rfl,rfl,rfl,rfl,rfl,rfl,rfl,rfl,rfl,h10,rfl,rfl⟩,?_⟩
 generalize (List.range ws.length).map (λk=>bV (bxO (AT.bx ws t b) k))=RB at *
 generalize fdV a7 b7 (k:Nat)=f0 at *
 generalize itV o=ov at *
 generalize atV t=tv at *
 generalize atV t.pln=pv at *
 generalize bV b=bv at *
 generalize liV ws=wv at *
 simp![q1,q2,ebx,fb]
def Gw(ns:List Int)(hl:ns.length<=63):oA.G [.kl (ns.map .int)]=.ok (.val (.bl true)) []:=by
 have ln:((ns.map Val.int).length:Nat)=ns.length:=N_ ..
 obtain⟨n,hn⟩:∃n:Nat,(if (if ((ns.length:Nat):Int)<6 then ((ns.length:Nat):Int) else 6)>1 then (if ((ns.length:Nat):Int)<6 then ((ns.length:Nat):Int) else 6) else 1)=(n:Int)/\n<=6:=by
  by_cases h1:((ns.length:Nat):Int)<6
  ·rw[if_pos h1]
   by_cases h2:((ns.length:Nat):Int)>1
   ·rw[if_pos h2];exact⟨ns.length,rfl,by omega⟩
   ·rw[if_neg h2];exact⟨1,rfl,by omega⟩
  ·rw[if_neg h1,if_pos (by decide)];exact⟨6,rfl,by omega⟩
 have rg:iA [.int (n:Nat)]=some (rgV n):=mF (by omega)
 obtain⟨e',⟨t1,t2,t3,t4,t5,t6,t7,t8,t9,t10,t11,t12,_,rfl⟩,lo⟩:=nj (g:=(gtN 1).G) (B:=lA.G) (λe=>∃s1 s2 s3 s4 s5 s6 s7 s8 s9 s10 s11 s12:Sl,(s1.pl=true/\s2.pl=true/\s3.pl=true/\s4.pl=true/\s5.pl=true/\s6.pl=true/\s7.pl=true/\s8.pl=true/\s9.pl=true/\s10.pl=true/\s11.pl=true/\s12.pl=true)/\e=[.sh (.kl (ns.map .int)),s1,s2,s3,s4,s5,s6,s7,s8,s9,s10,s11,s12]) (rgV n) [.sh (.kl (ns.map .int)),.no,.no,.no,.no,.no,.no,.no,.no,.no,.no,.no,.no] ⟨.no,.no,.no,.no,.no,.no,.no,.no,.no,.no,.no,.no,⟨rfl,rfl,rfl,rfl,rfl,rfl,rfl,rfl,rfl,rfl,rfl,rfl⟩,rfl⟩ (by
  rintro v hv _ ⟨s1,s2,s3,s4,s5,s6,s7,s8,s9,s10,s11,s12,⟨h1,h2,h3,h4,h5,h6,h7,h8,h9,h10,h11,h12⟩,rfl⟩
  unfold rgV at hv
  obtain⟨i,_,rfl⟩:=OS.mp hv
  obtain⟨t1,t2,t3,t4,t5,t6,t7,t8,t9,t10,t11,t12,hp,he⟩:=Es (ns:=ns) (k:=i) h2 h3 h4 h5 h6 h7 h8 h9 h10 h11 h12
  exact⟨[.sh (.kl (ns.map .int)),.sh (.int (i:Nat)),s2,s3,s4,s5,s6,s7,s8,s9,s10,s11,s12],_,by simp![h1],.inl he,t1,t2,t3,t4,t5,t6,t7,t8,t9,t10,t11,t12,hp,rfl⟩)
 unfold oA
 rw[bP]
 unfold xw
 simp![ln,hn.1,rg,lo]
def Gf{K:W.Frag}{h:Heap}{mg:Str->Option Value}{a_:Addr}{f_:Addr}{g_:Addr}{b_:Addr}{c_:Addr}{d_:Addr}(X:K.In h)(G:h.Ns mainGlobals mg)
 (K_:W.nsIn K mainGlobals "NoBox"=some (some (.ref f_)))
 (v_:W.nsIn K mainGlobals "NoFraction"=some (some (.ref a_)))
 (G_:W.nsIn K mainGlobals "NoTree"=some (some (.ref d_)))
 (L_:W.nsIn K mainGlobals "NoWay"=some (some (.ref g_)))
 (t_:W.nsIn K mainGlobals "NoWeights"=some (some (.ref b_)))
 (D_:W.nsIn K mainGlobals "TooMany"=some (some (.ref c_)))
 (C_:W.nsIn K mainGlobals "abs"=some none)
 (MX:W.nsIn K mainGlobals "all"=some none)
 (MR:W.nsIn K mainGlobals "bool"=some none)
 (MY:W.nsIn K mainGlobals "int"=some none)
 (h_:W.nsIn K mainGlobals "isinstance"=some none)
 (n_:W.nsIn K mainGlobals "len"=some none)
 (Mr:W.nsIn K mainGlobals "list"=some none)
 (Nb:W.nsIn K mainGlobals "max"=some none)
 (MZ:W.nsIn K mainGlobals "min"=some none)
 (r_:W.nsIn K mainGlobals "range"=some none)
 (Nc:W.nsIn K mainGlobals "set"=some none)
 (Nd:W.nsIn K mainGlobals "str"=some none)
 (M0:W.nsIn K mainGlobals "sum"=some none)
 (i_:W.nsIn K mainGlobals "tuple"=some none)
 (Nf:W.nsIn K mainGlobals "zip"=some none)
 (o_:GC K mg "MOST_WEIGHTS" gC)
 (MK:GC K mg "WAYS" sS)
 (N8:W.specialIn K (.builtin "object.__class__") "__get__"=some (some (.builtin "getset_descriptor.__get__")))
 (N9:W.takesIn K (.builtin "object.__class__")=some true)
 (w_:W.excIn K a_ eR "ValueError.__new__"=true)
 (Mq:(W.clsIn K a_).isSome=true)
 (Mu:W.findIn K (.ref a_) "__getattribute__"=some (some (.builtin "BaseException.__getattribute__")))
 (Mv:W.findIn K (.ref a_) "__getattr__"=some none)
 (Ms:W.findIn K (.ref a_) "__class__"=some (some (.builtin "object.__class__")))
 (Mx:W.mroIn K a_ (.type "object")=some true)
 (Mw:W.mroIn K a_ (.type "BaseException")=some true)
 (Mn:W.excIn K f_ eR "ValueError.__new__"=true)
 (Ng:(W.clsIn K f_).isSome=true)
 (Nr:W.findIn K (.ref f_) "__getattribute__"=some (some (.builtin "BaseException.__getattribute__")))
 (Nt:W.findIn K (.ref f_) "__getattr__"=some none)
 (Nq:W.findIn K (.ref f_) "__class__"=some (some (.builtin "object.__class__")))
 (Nv:W.mroIn K f_ (.type "object")=some true)
 (Nu:W.mroIn K f_ (.type "BaseException")=some true)
 (Mo:W.excIn K g_ eR "ValueError.__new__"=true)
 (Nm:(W.clsIn K g_).isSome=true)
 (Ny:W.findIn K (.ref g_) "__getattribute__"=some (some (.builtin "BaseException.__getattribute__")))
 (Nz:W.findIn K (.ref g_) "__getattr__"=some none)
 (Nw:W.findIn K (.ref g_) "__class__"=some (some (.builtin "object.__class__")))
 (NB:W.mroIn K g_ (.type "object")=some true)
 (NA:W.mroIn K g_ (.type "BaseException")=some true)
 (u_:W.excIn K b_ eR "ValueError.__new__"=true)
 (My:(W.clsIn K b_).isSome=true)
 (MM:W.findIn K (.ref b_) "__getattribute__"=some (some (.builtin "BaseException.__getattribute__")))
 (MN:W.findIn K (.ref b_) "__getattr__"=some none)
 (ML:W.findIn K (.ref b_) "__class__"=some (some (.builtin "object.__class__")))
 (MQ:W.mroIn K b_ (.type "object")=some true)
 (MP:W.mroIn K b_ (.type "BaseException")=some true)
 (Em:W.excIn K c_ eR "ValueError.__new__"=true)
 (M3:(W.clsIn K c_).isSome=true)
 (M7:W.findIn K (.ref c_) "__getattribute__"=some (some (.builtin "BaseException.__getattribute__")))
 (M8:W.findIn K (.ref c_) "__getattr__"=some none)
 (M6:W.findIn K (.ref c_) "__class__"=some (some (.builtin "object.__class__")))
 (M_:W.mroIn K c_ (.type "object")=some true)
 (M9:W.mroIn K c_ (.type "BaseException")=some true)
 (H_:W.excIn K d_ eR "ValueError.__new__"=true)
 (M5:(W.clsIn K d_).isSome=true)
 (Ni:W.findIn K (.ref d_) "__getattribute__"=some (some (.builtin "BaseException.__getattribute__")))
 (Nj:W.findIn K (.ref d_) "__getattr__"=some none)
 (Nh:W.findIn K (.ref d_) "__class__"=some (some (.builtin "object.__class__")))
 (Nl:W.mroIn K d_ (.type "object")=some true)
 (Nk:W.mroIn K d_ (.type "BaseException")=some true)
 (i0:W.kitOne K (.type "NoneType") (.type "bool")=some false)
 (i1:W.kitOne K (.type "bool") (.type "bool")=some true)
 (i2:W.kitOne K (.type "int") (.type "bool")=some false)
 (i3:W.kitOne K (.type "str") (.type "bool")=some false)
 (i4:W.kitOne K (.type "tuple") (.type "bool")=some false)
 (i5:W.kitOne K (.type "list") (.type "bool")=some false)
 (i6:W.kitOne K (.type "dict") (.type "bool")=some false)
 (i7:W.kitOne K (.type "NoneType") (.type "int")=some false)
 (i8:W.kitOne K (.type "bool") (.type "int")=some true)
 (i9:W.kitOne K (.type "int") (.type "int")=some true)
 (ND:W.kitOne K (.type "str") (.type "int")=some false)
 (NF:W.kitOne K (.type "tuple") (.type "int")=some false)
 (i12:W.kitOne K (.type "list") (.type "int")=some false)
 (NG:W.kitOne K (.type "dict") (.type "int")=some false)
 (NH:W.kitOne K (.type "NoneType") (.type "list")=some false)
 (NJ:W.kitOne K (.type "bool") (.type "list")=some false)
 (NK:W.kitOne K (.type "int") (.type "list")=some false)
 (NL:W.kitOne K (.type "str") (.type "list")=some false)
 (NM:W.kitOne K (.type "tuple") (.type "list")=some false)
 (NN:W.kitOne K (.type "list") (.type "list")=some true)
 (NO:W.kitOne K (.type "dict") (.type "list")=some false)
 (NP:W.kitOne K (.type "NoneType") (.type "str")=some false)
 (NQ:W.kitOne K (.type "bool") (.type "str")=some false)
 (NR:W.kitOne K (.type "int") (.type "str")=some false)
 (NT:W.kitOne K (.type "str") (.type "str")=some true)
 (NU:W.kitOne K (.type "tuple") (.type "str")=some false)
 (NV:W.kitOne K (.type "list") (.type "str")=some false)
 (NW:W.kitOne K (.type "dict") (.type "str")=some false)
 (NX:W.kitOne K (.type "NoneType") (.type "tuple")=some false)
 (NY:W.kitOne K (.type "bool") (.type "tuple")=some false)
 (NZ:W.kitOne K (.type "int") (.type "tuple")=some false)
 (N0:W.kitOne K (.type "str") (.type "tuple")=some false)
 (N4:W.kitOne K (.type "tuple") (.type "tuple")=some true)
 (N5:W.kitOne K (.type "list") (.type "tuple")=some false)
 (N6:W.kitOne K (.type "dict") (.type "tuple")=some false)
 : Txt K mg a_ f_ g_ b_ c_ d_:=by
 have mNoBox:=QF X G K_
 have mNoFraction:=QF X G v_
 have mNoTree:=QF X G G_
 have mNoWay:=QF X G L_
 have mNoWeights:=QF X G t_
 have mTooMany:=QF X G D_
 exact {
 o_:=o_,
 K_:=mNoBox,
 v_:=mNoFraction,
 G_:=mNoTree,
 L_:=mNoWay,
 t_:=mNoWeights,
 D_:=mTooMany,
 MK:=MK,
 C_:=O1 X G C_,
 MX:=O1 X G MX,
 MR:=O1 X G MR,
 MY:=O1 X G MY,
 h_:=O1 X G h_,
 n_:=O1 X G n_,
 Mr:=O1 X G Mr,
 Nb:=O1 X G Nb,
 MZ:=O1 X G MZ,
 r_:=O1 X G r_,
 Nc:=O1 X G Nc,
 Nd:=O1 X G Nd,
 M0:=O1 X G M0,
 i_:=O1 X G i_,
 Nf:=O1 X G Nf,
 w_:=w_,
 Mn:=Mn,
 Mo:=Mo,
 u_:=u_,
 Em:=Em,
 H_:=H_,
 kits:=(aF i0 rfl rfl aZ
  (aF i1 rfl rfl aZ
  (aF i2 rfl rfl aZ
  (aF i3 rfl rfl aZ
  (aF i4 rfl rfl aZ
  (aF i5 rfl rfl aZ
  (aF i6 rfl rfl aZ
  (aF i7 rfl rfl aZ
  (aF i8 rfl rfl aZ
  (aF i9 rfl rfl aZ
  (aF ND rfl rfl aZ
  (aF NF rfl rfl aZ
  (aF i12 rfl rfl aZ
  (aF NG rfl rfl aZ
  (aF NH rfl rfl aZ
  (aF NJ rfl rfl aZ
  (aF NK rfl rfl aZ
  (aF NL rfl rfl aZ
  (aF NM rfl rfl aZ
  (aF NN rfl rfl aZ
  (aF NO rfl rfl aZ
  (aF NP rfl rfl aZ
  (aF NQ rfl rfl aZ
  (aF NR rfl rfl aZ
  (aF NT rfl rfl aZ
  (aF NU rfl rfl aZ
  (aF NV rfl rfl aZ
  (aF NW rfl rfl aZ
  (aF NX rfl rfl aZ
  (aF NY rfl rfl aZ
  (aF NZ rfl rfl aZ
  (aF N0 rfl rfl aZ
  (aF N4 rfl rfl aZ
  (aF N5 rfl rfl aZ
  (aF N6 rfl rfl aZ
  BM)))))))))))))))))))))))))))))))))))
 }
end KK
namespace PySem.W.Fast
def tw10117079879451474174:=()
def tw10190099275034539564:=()
def tw10215853360325337866:=()
def tw10301844425254450168:=()
def tw10338535011102916763:=()
def tw10360508203932471245:=()
def tw10421758157601435259:=()
def tw10424700087655661212:=()
def tw10573360358581248094:=()
def tw10607878067554078755:=()
def tw10758650941402426372:=()
def tw10894380156282571400:=()
def tw10912432972649999524:=()
def tw10962158099198699353:=()
def tw10973838922323618582:=()
def tw11013990475155755537:=()
def tw1104730109912396380:=()
def tw1105687490971564619:=()
def tw11147624044429337563:=()
def tw11153829801527739426:=()
def tw11221003707722791848:=()
def tw11281150566969182104:=()
def tw11290710452992994149:=()
def tw11302441830011826323:=()
def tw11306811049546445041:=()
def tw11310945247615557108:=()
def tw11371402622936392513:=()
def tw11376324756662883114:=()
def tw11465312574162857474:=()
def tw11543588021036326106:=()
def tw11553693894191938578:=()
def tw11561280719906775064:=()
def tw11571017045360779426:=()
def tw11589736631983748299:=()
def tw11628955056626406498:=()
def tw11684209386532432558:=()
def tw11797929911746883129:=()
def tw1188317246422696386:=()
def tw11896371106960173649:=()
def tw11933139976866521690:=()
def tw11972902667945910951:=()
def tw12070427980105903120:=()
def tw12141120653838368900:=()
def tw12231177879849195875:=()
def tw1223260179515635621:=()
def tw12417792203177178627:=()
def tw1242801781989710166:=()
def tw12453538183342398681:=()
def tw12587356709645134539:=()
def tw1259752503733316527:=()
def tw12614369001471959665:=()
def tw12641567263888466802:=()
def tw1266071613106426563:=()
def tw12694693108306148026:=()
def tw1269660247557355981:=()
def tw12747642208090711303:=()
def tw1275172107480240650:=()
def tw12877190544904847293:=()
def tw12976959514573369967:=()
def tw12982004158142931711:=()
def tw12996091173913149378:=()
def tw13000937583100376464:=()
def tw1313897074881348263:=()
def tw13141618373163025070:=()
def tw13160255371446301421:=()
def tw1319191889972526265:=()
def tw13301108266076891103:=()
def tw13370626158024269050:=()
def tw13384865767606527337:=()
def tw13389026329535588899:=()
def tw13413839027737095371:=()
def tw13453920481816602061:=()
def tw13585310454382238826:=()
def tw13701677982619395734:=()
def tw13704067153310619692:=()
def tw13803748149593978162:=()
def tw13906008706001322299:=()
def tw13930599348088693284:=()
def tw14043267375518096213:=()
def tw14094984081598848707:=()
def tw14115164151132402049:=()
def tw14150202970332468860:=()
def tw14246696939668797674:=()
def tw142841517518085002:=()
def tw14363224914577183065:=()
def tw14380788515802636015:=()
def tw14397053708300524752:=()
def tw14432756142135142898:=()
def tw145106793847109587:=()
def tw14750415132481246986:=()
def tw14766064726694298622:=()
def tw14852218960941098881:=()
def tw14998860716778479098:=()
def tw15199401331376005406:=()
def tw1520665445557527704:=()
def tw15419812295220915480:=()
def tw15519540467581524432:=()
def tw15590194746444403465:=()
def tw15603152461522850312:=()
def tw15619176844216048992:=()
def tw15734123136251023123:=()
def tw15868634828901839405:=()
def tw15871714483572490921:=()
def tw15918603547906682224:=()
def tw1597024872218691328:=()
def tw15995777340187612683:=()
def tw16046513537945942278:=()
def tw16093991788644367174:=()
def tw16175083347557450519:=()
def tw16212397816421832329:=()
def tw16266653647244167914:=()
def tw16283584884577764437:=()
def tw1631411722669791941:=()
def tw16345380900645068356:=()
def tw16360682613333365020:=()
def tw16390545750163174812:=()
def tw16396361000805018481:=()
def tw16539071124150857284:=()
def tw16549096764398065099:=()
def tw1662734237821992859:=()
def tw16635849281892569457:=()
def tw16675352771948875343:=()
def tw16753251784929226703:=()
def tw16815395972749823595:=()
def tw16875607815497500462:=()
def tw16923853703022231326:=()
def tw16926068554801025477:=()
def tw1692976712182629972:=()
def tw17115905272910754635:=()
def tw17178651794247131904:=()
def tw17238726777497229331:=()
def tw1732841466480255501:=()
def tw17361494412171506625:=()
def tw17389550704135070956:=()
def tw17405311615666536905:=()
def tw17409532163613211472:=()
def tw17483215270643067684:=()
def tw17750859209995052100:=()
def tw17781133910895631770:=()
def tw17814051846628051848:=()
def tw17815397748863125556:=()
def tw1784487468727374985:=()
def tw17847834484755217068:=()
def tw17923783892297083388:=()
def tw17931183528460833576:=()
def tw17991220708786230047:=()
def tw18046465514178836446:=()
def tw18088471769729559757:=()
def tw18206313292559546730:=()
def tw18212903972361148639:=()
def tw18233619570636164810:=()
def tw18275140470681382603:=()
def tw18310549700500355370:=()
def tw18319805316592687399:=()
def tw18348264173551479458:=()
def tw18354253371271136309:=()
def tw18365832217496561271:=()
def tw18386920707209992088:=()
def tw18419325196636663070:=()
def tw1852124952488312285:=()
def tw1867656363521375298:=()
def tw1872640129060732010:=()
def tw1906452137613287695:=()
def tw1963257667136435340:=()
def tw1972015391114980695:=()
def tw200311862808987070:=()
def tw2068449879087966302:=()
def tw2105151740418745849:=()
def tw21061173763801263:=()
def tw2266211320949700978:=()
def tw2400499403637649503:=()
def tw2401012680593259079:=()
def tw2431965748761437399:=()
def tw2472744110434490308:=()
def tw2475947106379824821:=()
def tw2478187386900097044:=()
def tw2507005953539366668:=()
def tw261516351900114453:=()
def tw2635012549320425058:=()
def tw2638828041435402317:=()
def tw2645690847926716715:=()
def tw271063662660287025:=()
def tw2852087678895590665:=()
def tw2915492948112783902:=()
def tw2920625636354618333:=()
def tw2954772741369975511:=()
def tw31332495523421332:=()
def tw3154156501665224501:=()
def tw3253312239981011870:=()
def tw3293260127884249435:=()
def tw33851272345877201:=()
def tw3422146685216076521:=()
def tw3447095794098945962:=()
def tw3574579249249708357:=()
def tw3605738578443616403:=()
def tw381667227509139312:=()
def tw3910205149980054895:=()
def tw3920882211731612187:=()
def tw3925085632614302466:=()
def tw405522827623561495:=()
def tw4103352736219649976:=()
def tw4139907882000547588:=()
def tw4260304755306939220:=()
def tw4268374227275579331:=()
def tw4350631464183503752:=()
def tw4404995935661378939:=()
def tw4423286906917249752:=()
def tw4453469917430167250:=()
def tw44672060599867698:=()
def tw4558723492837108273:=()
def tw4599805459640333643:=()
def tw4667576216365293087:=()
def tw4718433165755280170:=()
def tw4813564074644722401:=()
def tw4953606722035836057:=()
def tw503843579864925226:=()
def tw5075258716297502733:=()
def tw5104526895808187643:=()
def tw5111893920573466346:=()
def tw5176328461973365821:=()
def tw5260632998673053370:=()
def tw5274557877647875795:=()
def tw5511325045011251652:=()
def tw5587344726853353359:=()
def tw5631254845330653828:=()
def tw5639653359816213107:=()
def tw5653385918379939624:=()
def tw5661547505377674066:=()
def tw5740522248586637775:=()
def tw5760341719559354294:=()
def tw5764291678516902386:=()
def tw5766757983213252618:=()
def tw5836425281610628197:=()
def tw6030732900784429242:=()
def tw6105891688779071954:=()
def tw6185591922734962279:=()
def tw6292038823967853467:=()
def tw6370751635379790987:=()
def tw6409866812458256595:=()
def tw6436371552610615247:=()
def tw6455383876595437288:=()
def tw6489018697266212901:=()
def tw6716172508581650307:=()
def tw6742402103027582195:=()
def tw6757758335827206008:=()
def tw6786543555820917609:=()
def tw680556747359348272:=()
def tw6865865566960349572:=()
def tw6867297071038578115:=()
def tw6896764822783084947:=()
def tw6946058335055432326:=()
def tw6955181209787644250:=()
def tw6985076501190509803:=()
def tw7007587908553732844:=()
def tw7031826788345382767:=()
def tw7043793408563833855:=()
def tw7117147961981940628:=()
def tw7151381675874830818:=()
def tw7219764887957186489:=()
def tw7253312820574327108:=()
def tw732350653779443377:=()
def tw7403723082552912265:=()
def tw7625372169801881623:=()
def tw7694738327681518260:=()
def tw7755784069040693150:=()
def tw7826965929020769597:=()
def tw7843943164583465316:=()
def tw7928298536072257541:=()
def tw8022946956692506741:=()
def tw80230108129143759:=()
def tw8081563174255012259:=()
def tw8157020058501149331:=()
def tw8169137818609284041:=()
def tw8429379990439293982:=()
def tw84536165559271342:=()
def tw8574073347871101683:=()
def tw8643117883415121436:=()
def tw8653593003564820187:=()
def tw8657260119544416598:=()
def tw8686864351507683215:=()
def tw8735474049575994884:=()
def tw8737991087690073820:=()
def tw8753891242985669112:=()
def tw8847434809936022687:=()
def tw8860704175152038840:=()
def tw8939757712105939350:=()
def tw8980764735765842379:=()
def tw8997020938307766709:=()
def tw900380621772710973:=()
def tw9016868477226664626:=()
def tw9057203366383039500:=()
def tw9077973753407878308:=()
def tw9184734189059345267:=()
def tw933375332682409516:=()
def tw9360266088029264920:=()
def tw9377067678836817706:=()
def tw9421368523190319423:=()
def tw9546821794265268625:=()
def tw9664823577447725993:=()
def tw9747354621799661287:=()
def tw976173810260644231:=()
def tw9790122653000195565:=()
def tw9796312102610332448:=()
def tw9879138402834743967:=()
def tw9912197611660499163:=()
def tw9967716467589589666:=()
end PySem.W.Fast
open PySem PySem.W PyProof.Rows L2 L3 KK
set_option maxRecDepth 100000 in
set_option maxHeartbeats 0 in
theorem PySem.Challenge.cw_weightrooms_k14_plain_forms_holds : PySem.Challenge.rw_weightrooms_k14_plain_forms.Holds := by
 w_on;o_law;k_head;(case hw=>w_witness2)
 k_fill
 refine L2.walk_lawD (l:=PySem.Challenge.rw_weightrooms_k14_plain_forms) (x:="_law_script") (k:=52) rfl rfl ⟨rfl,by decide,by decide⟩ (λw h Y=>W.kIn_of Y) ?F ?D
 case F=>
  intro w mg h KX G base kb nb
  have TT:=by
   refine' Gf KX G ?K_ ?v_ ?G_ ?L_ ?t_ ?D_ ?C_ ?MX ?MR ?MY ?h_ ?n_ ?Mr ?Nb ?MZ ?r_ ?Nc ?Nd ?M0 ?i_ ?Nf ?o_ ?MK ?N8 ?N9 ?w_ ?Mq ?Mu ?Mv ?Ms ?Mx ?Mw ?Mn ?Ng ?Nr ?Nt ?Nq ?Nv ?Nu ?Mo ?Nm ?Ny ?Nz ?Nw ?NB ?NA ?u_ ?My ?MM ?MN ?ML ?MQ ?MP ?Em ?M3 ?M7 ?M8 ?M6 ?M_ ?M9 ?H_ ?M5 ?Ni ?Nj ?Nh ?Nl ?Nk ?i0 ?i1 ?i2 ?i3 ?i4 ?i5 ?i6 ?i7 ?i8 ?i9 ?ND ?NF ?i12 ?NG ?NH ?NJ ?NK ?NL ?NM ?NN ?NO ?NP ?NQ ?NR ?NT ?NU ?NV ?NW ?NX ?NY ?NZ ?N0 ?N4 ?N5 ?N6
   (case K_=>k_is)
   (case v_=>k_is)
   (case G_=>k_is)
   (case L_=>k_is)
   (case t_=>k_is)
   (case D_=>k_is)
   (case C_=>k_is)
   (case MX=>k_is)
   (case MR=>k_is)
   (case MY=>k_is)
   (case h_=>k_is)
   (case n_=>k_is)
   (case Mr=>k_is)
   (case Nb=>k_is)
   (case MZ=>k_is)
   (case r_=>k_is)
   (case Nc=>k_is)
   (case Nd=>k_is)
   (case M0=>k_is)
   (case i_=>k_is)
   (case Nf=>k_is)
   (case o_=>exact (by refine' Ii KX G ?a;(case a=>k_is)))
   (case MK=>exact (by refine' I0 (vs:=[.str "across",.str "down"]) (ds:=[.str "across",.str "down"]) KX G ?a ?l ?s ?v ?r;(case a=>k_is);(case l=>k_is);(case s=>decide);(case v=>exact (.cons ⟨_,rfl⟩ (.cons ⟨_,rfl⟩ .nil)));(case r=>exact λ_ _=>(.cons (.str _) (.cons (.str _) .nil)))))
   (case N8=>k_is)
   (case N9=>k_is)
   (case w_=>k_exc)
   (case Mq=>exact ON.mpr ⟨_,by k_is⟩)
   (case Mu=>k_is)
   (case Mv=>k_is)
   (case Ms=>k_is)
   (case Mx=>k_is)
   (case Mw=>k_is)
   (case Mn=>k_exc)
   (case Ng=>exact ON.mpr ⟨_,by k_is⟩)
   (case Nr=>k_is)
   (case Nt=>k_is)
   (case Nq=>k_is)
   (case Nv=>k_is)
   (case Nu=>k_is)
   (case Mo=>k_exc)
   (case Nm=>exact ON.mpr ⟨_,by k_is⟩)
   (case Ny=>k_is)
   (case Nz=>k_is)
   (case Nw=>k_is)
   (case NB=>k_is)
   (case NA=>k_is)
   (case u_=>k_exc)
   (case My=>exact ON.mpr ⟨_,by k_is⟩)
   (case MM=>k_is)
   (case MN=>k_is)
   (case ML=>k_is)
   (case MQ=>k_is)
   (case MP=>k_is)
   (case Em=>k_exc)
   (case M3=>exact ON.mpr ⟨_,by k_is⟩)
   (case M7=>k_is)
   (case M8=>k_is)
   (case M6=>k_is)
   (case M_=>k_is)
   (case M9=>k_is)
   (case H_=>k_exc)
   (case M5=>exact ON.mpr ⟨_,by k_is⟩)
   (case Ni=>k_is)
   (case Nj=>k_is)
   (case Nh=>k_is)
   (case Nl=>k_is)
   (case Nk=>k_is)
   (case i0=>kit_is)
   (case i1=>kit_is)
   (case i2=>kit_is)
   (case i3=>kit_is)
   (case i4=>kit_is)
   (case i5=>kit_is)
   (case i6=>kit_is)
   (case i7=>kit_is)
   (case i8=>kit_is)
   (case i9=>kit_is)
   (case ND=>kit_is)
   (case NF=>kit_is)
   (case i12=>kit_is)
   (case NG=>kit_is)
   (case NH=>kit_is)
   (case NJ=>kit_is)
   (case NK=>kit_is)
   (case NL=>kit_is)
   (case NM=>kit_is)
   (case NN=>kit_is)
   (case NO=>kit_is)
   (case NP=>kit_is)
   (case NQ=>kit_is)
   (case NR=>kit_is)
   (case NT=>kit_is)
   (case NU=>kit_is)
   (case NV=>kit_is)
   (case NW=>kit_is)
   (case NX=>kit_is)
   (case NY=>kit_is)
   (case NZ=>kit_is)
   (case N0=>kit_is)
   (case N4=>kit_is)
   (case N5=>kit_is)
   (case N6=>kit_is)
  have D_law_feed:=by
   refine' aR (x:="_law_feed") (st:=lj) KX G ?a ?l ?c ?k
   (case a=>k_is);(case l=>k_is);(case c=>k_is);(case k=>k_is)
  have D_law_next:=by
   refine' aR (x:="_law_next") (st:=kN) KX G ?a ?l ?c ?k
   (case a=>k_is);(case l=>k_is);(case c=>k_is);(case k=>k_is)
  have D_law_order:=by
   refine' aR (x:="_law_order") (st:=jC) KX G ?a ?l ?c ?k
   (case a=>k_is);(case l=>k_is);(case c=>k_is);(case k=>k_is)
  have D_law_chain:=by
   refine' aR (x:="_law_chain") (st:=jW) KX G ?a ?l ?c ?k
   (case a=>k_is);(case l=>k_is);(case c=>k_is);(case k=>k_is)
  have D_law_tree:=by
   refine' aR (x:="_law_tree") (st:=eU) KX G ?a ?l ?c ?k
   (case a=>k_is);(case l=>k_is);(case c=>k_is);(case k=>k_is)
  have D_law_plain:=by
   refine' aR (x:="_law_plain") (st:=fh) KX G ?a ?l ?c ?k
   (case a=>k_is);(case l=>k_is);(case c=>k_is);(case k=>k_is)
  have D_plain_form:=by
   refine' aR (x:="plain_form") (st:=gh) KX G ?a ?l ?c ?k
   (case a=>k_is);(case l=>k_is);(case c=>k_is);(case k=>k_is)
  have D_law_named:=by
   refine' aR (x:="_law_named") (st:=fi) KX G ?a ?l ?c ?k
   (case a=>k_is);(case l=>k_is);(case c=>k_is);(case k=>k_is)
  have D_law_low:=by
   refine' aR (x:="_law_low") (st:=l7) KX G ?a ?l ?c ?k
   (case a=>k_is);(case l=>k_is);(case c=>k_is);(case k=>k_is)
  have D_law_great:=by
   refine' aR (x:="_law_great") (st:=jU) KX G ?a ?l ?c ?k
   (case a=>k_is);(case l=>k_is);(case c=>k_is);(case k=>k_is)
  have D_law_room:=by
   refine' aR (x:="_law_room") (st:=kL) KX G ?a ?l ?c ?k
   (case a=>k_is);(case l=>k_is);(case c=>k_is);(case k=>k_is)
  have D_is_whole:=by
   refine' aR (x:="is_whole") (st:=kD) KX G ?a ?l ?c ?k
   (case a=>k_is);(case l=>k_is);(case c=>k_is);(case k=>k_is)
  have D_common_divisor:=by
   refine' aR (x:="common_divisor") (st:=fI) KX G ?a ?l ?c ?k
   (case a=>k_is);(case l=>k_is);(case c=>k_is);(case k=>k_is)
  have D_is_fraction:=by
   refine' aR (x:="is_fraction") (st:=iu) KX G ?a ?l ?c ?k
   (case a=>k_is);(case l=>k_is);(case c=>k_is);(case k=>k_is)
  have D_is_box:=by
   refine' aR (x:="is_box") (st:=kT) KX G ?a ?l ?c ?k
   (case a=>k_is);(case l=>k_is);(case c=>k_is);(case k=>k_is)
  have D_check_box:=by
   refine' aR (x:="check_box") (st:=jE) KX G ?a ?l ?c ?k
   (case a=>k_is);(case l=>k_is);(case c=>k_is);(case k=>k_is)
  have D_is_weight:=by
   refine' aR (x:="is_weight") (st:=jG) KX G ?a ?l ?c ?k
   (case a=>k_is);(case l=>k_is);(case c=>k_is);(case k=>k_is)
  have D_check_weights:=by
   refine' aR (x:="check_weights") (st:=eD) KX G ?a ?l ?c ?k
   (case a=>k_is);(case l=>k_is);(case c=>k_is);(case k=>k_is)
  have D_is_way:=by
   refine' aR (x:="is_way") (st:=ng) KX G ?a ?l ?c ?k
   (case a=>k_is);(case l=>k_is);(case c=>k_is);(case k=>k_is)
  have D_is_branch:=by
   refine' aR (x:="is_branch") (st:=jO) KX G ?a ?l ?c ?k
   (case a=>k_is);(case l=>k_is);(case c=>k_is);(case k=>k_is)
  have D_is_tree:=by
   refine' aR (x:="is_tree") (st:=lB) KX G ?a ?l ?c ?k
   (case a=>k_is);(case l=>k_is);(case c=>k_is);(case k=>k_is)
  have D_check_tree:=by
   refine' aR (x:="check_tree") (st:=ja) KX G ?a ?l ?c ?k
   (case a=>k_is);(case l=>k_is);(case c=>k_is);(case k=>k_is)
  have D_check_way:=by
   refine' aR (x:="check_way") (st:=jY) KX G ?a ?l ?c ?k
   (case a=>k_is);(case l=>k_is);(case c=>k_is);(case k=>k_is)
  have D_fraction:=by
   refine' aR (x:="fraction") (st:=kP) KX G ?a ?l ?c ?k
   (case a=>k_is);(case l=>k_is);(case c=>k_is);(case k=>k_is)
  have D_added:=by
   refine' aR (x:="added") (st:=pB) KX G ?a ?l ?c ?k
   (case a=>k_is);(case l=>k_is);(case c=>k_is);(case k=>k_is)
  have D_times:=by
   refine' aR (x:="times") (st:=pL) KX G ?a ?l ?c ?k
   (case a=>k_is);(case l=>k_is);(case c=>k_is);(case k=>k_is)
  have D_shares:=by
   refine' aR (x:="shares") (st:=m7) KX G ?a ?l ?c ?k
   (case a=>k_is);(case l=>k_is);(case c=>k_is);(case k=>k_is)
  have D_parted:=by
   refine' aR (x:="parted") (st:=jd) KX G ?a ?l ?c ?k
   (case a=>k_is);(case l=>k_is);(case c=>k_is);(case k=>k_is)
  have D_things_in:=by
   refine' aR (x:="things_in") (st:=jS) KX G ?a ?l ?c ?k
   (case a=>k_is);(case l=>k_is);(case c=>k_is);(case k=>k_is)
  have D_parts_of:=by
   refine' aR (x:="parts_of") (st:=iM) KX G ?a ?l ?c ?k
   (case a=>k_is);(case l=>k_is);(case c=>k_is);(case k=>k_is)
  have D_place:=by
   refine' aR (x:="place") (st:=mE) KX G ?a ?l ?c ?k
   (case a=>k_is);(case l=>k_is);(case c=>k_is);(case k=>k_is)
  have D_boxes_by:=by
   refine' aR (x:="boxes_by") (st:=iE) KX G ?a ?l ?c ?k
   (case a=>k_is);(case l=>k_is);(case c=>k_is);(case k=>k_is)
  have D_law:=by
   refine' aR (x:="law") (st:=kS) KX G ?a ?l ?c ?k
   (case a=>k_is);(case l=>k_is);(case c=>k_is);(case k=>k_is)
  have MU:=rB (P:=PySem.Challenge.rw_weightrooms_k14_plain_forms.prog) (w:=w) (base:=base) TT D_law_feed
  have e_:=tW (P:=PySem.Challenge.rw_weightrooms_k14_plain_forms.prog) (w:=w) (base:=base) TT D_law_next
  have MF:=qN (P:=PySem.Challenge.rw_weightrooms_k14_plain_forms.prog) (w:=w) (base:=base) TT D_law_order e_
  have MD:=qS (P:=PySem.Challenge.rw_weightrooms_k14_plain_forms.prog) (w:=w) (base:=base) TT D_law_chain e_
  have E_:=lu (P:=PySem.Challenge.rw_weightrooms_k14_plain_forms.prog) (w:=w) (base:=base) TT D_law_tree e_ 42
  have B_:=j4 (P:=PySem.Challenge.rw_weightrooms_k14_plain_forms.prog) (w:=w) (base:=base) TT D_law_plain 42
  have p_:=js (P:=PySem.Challenge.rw_weightrooms_k14_plain_forms.prog) (w:=w) (base:=base) TT D_plain_form 42
  have z_:=jZ (P:=PySem.Challenge.rw_weightrooms_k14_plain_forms.prog) (w:=w) (base:=base) TT D_law_named 42
  have x_:=uP (P:=PySem.Challenge.rw_weightrooms_k14_plain_forms.prog) (w:=w) (base:=base) TT D_law_low
  have s_:=qK (P:=PySem.Challenge.rw_weightrooms_k14_plain_forms.prog) (w:=w) (base:=base) TT D_law_great e_
  have MV:=tJ (P:=PySem.Challenge.rw_weightrooms_k14_plain_forms.prog) (w:=w) (base:=base) TT D_law_room e_ x_ s_
  have l_:=sd (P:=PySem.Challenge.rw_weightrooms_k14_plain_forms.prog) (w:=w) (base:=base) TT D_is_whole
  have j_:=lX (P:=PySem.Challenge.rw_weightrooms_k14_plain_forms.prog) (w:=w) (base:=base) TT D_common_divisor
  have I_:=nG (P:=PySem.Challenge.rw_weightrooms_k14_plain_forms.prog) (w:=w) (base:=base) TT D_is_fraction l_ j_
  have Nn:=wo (P:=PySem.Challenge.rw_weightrooms_k14_plain_forms.prog) (w:=w) (base:=base) TT D_is_box I_
  have y_:=qP (P:=PySem.Challenge.rw_weightrooms_k14_plain_forms.prog) (w:=w) (base:=base) TT D_check_box Nn
  have MC:=qQ (P:=PySem.Challenge.rw_weightrooms_k14_plain_forms.prog) (w:=w) (base:=base) TT D_is_weight l_
  have m_:=mK (P:=PySem.Challenge.rw_weightrooms_k14_plain_forms.prog) (w:=w) (base:=base) TT D_check_weights MC
  have F_:=xC (P:=PySem.Challenge.rw_weightrooms_k14_plain_forms.prog) (w:=w) (base:=base) TT D_is_way
  have MB:=qJ (P:=PySem.Challenge.rw_weightrooms_k14_plain_forms.prog) (w:=w) (base:=base) TT D_is_branch F_
  have M4:=uO (P:=PySem.Challenge.rw_weightrooms_k14_plain_forms.prog) (w:=w) (base:=base) TT D_is_tree MB l_
  have Mp:=oY (P:=PySem.Challenge.rw_weightrooms_k14_plain_forms.prog) (w:=w) (base:=base) TT D_check_tree M4
  have Mz:=qB (P:=PySem.Challenge.rw_weightrooms_k14_plain_forms.prog) (w:=w) (base:=base) TT D_check_way F_
  have k_:=sP (P:=PySem.Challenge.rw_weightrooms_k14_plain_forms.prog) (w:=w) (base:=base) TT D_fraction j_
  have NC:=zJ (P:=PySem.Challenge.rw_weightrooms_k14_plain_forms.prog) (w:=w) (base:=base) TT D_added k_
  have Na:=xS (P:=PySem.Challenge.rw_weightrooms_k14_plain_forms.prog) (w:=w) (base:=base) TT D_times k_
  have MW:=vY (P:=PySem.Challenge.rw_weightrooms_k14_plain_forms.prog) (w:=w) (base:=base) TT D_shares NC Na k_
  have Np:=wm (P:=PySem.Challenge.rw_weightrooms_k14_plain_forms.prog) (w:=w) (base:=base) TT D_parted y_ Mz m_ MW
  have MH:=qC (P:=PySem.Challenge.rw_weightrooms_k14_plain_forms.prog) (w:=w) (base:=base) TT D_things_in
  have A_:=sq (P:=PySem.Challenge.rw_weightrooms_k14_plain_forms.prog) (w:=w) (base:=base) TT D_parts_of Np MH
  have MJ:=oE (P:=PySem.Challenge.rw_weightrooms_k14_plain_forms.prog) (w:=w) (base:=base) TT D_place A_ 42
  have J_:=rE (P:=PySem.Challenge.rw_weightrooms_k14_plain_forms.prog) (w:=w) (base:=base) TT D_boxes_by y_ m_ Mp MJ
  have N7:=Dv (P:=PySem.Challenge.rw_weightrooms_k14_plain_forms.prog) (w:=w) (base:=base) TT D_law MU e_ MF MD E_ B_ p_ z_ MV J_
  exact AR N7 (law3 oA rfl Gw)
 case D=>
  intro w mg h KX G
  refine⟨kS,?_,(λ_ _ _ _ _ _=>ar1 λ_=>rfl)⟩
  refine' aR KX G ?a ?l ?c ?k
  (case a=>k_is);(case l=>k_is);(case c=>k_is);(case k=>k_is)
