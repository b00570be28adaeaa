import PyProof.Rows.All
import Wide.All
import OpenK.AllK
import Wide.FinOn
import Lean
import PyProof.EqAt
import PyProof.EqKinds
import PyProof.TupleCall
import PyProof.Rows.SumAny
import PyProof.EnumMake
import PyProof.Draws
import PyProof.ZipIter
import KE.KUnpack
import KE.KxIndex
import PyProof.SetRoads
import PyProof.SetNew
import PyProof.AutoSeq1
import KE.KRevSl
import PyProof.SeqI3
import PyProof.Rows.SortWalk
import PySem.Challenge.RW_weightrooms_k13_whole_relations_are_so
local macro_rules|`(tactic|trivial)=>`(tactic|first|exact Or.inl rfl|exact Or.inr rfl)
local macro_rules|`(tactic|decide)=>`(tactic|decide +kernel)
set_option genSizeOf false
set_option genInjectivity false
set_option bootstrap.genMatcherCode false
noncomputable section
set_option Elab.async false
set_option linter.all false
def i_:=@PySem.wpAny_bind
def j_:=@List.length_map
def k_:=@List.getElem?_eq_some_iff
def l_:=@List.mem_cons_of_mem
def m_:=@Nat.le_refl
def n_:=@List.mem_cons_self
def o_:=@List.map_cons
def p_:=@List.length_append
def r_:=@Bool.and_eq_true
def s_:=@Bool.false_ne_true
def t_:=@PySem.Heap.get?_push_of_some
def u_:=@decide_eq_false
def v_:=@List.length_cons
def w_:=@PySem.wpAny_pure
def x_:=@PySem.Heap.lt_size
def y_:=@List.size_toArray
def z_:=@List.getElem?_map
def A_:=@List.getElem?_eq_getElem
def B_:=@List.length_set
def C_:=@Option.some.inj
def D_:=@List.mem_cons
def Em:=@Nat.lt_of_lt_of_le
def E_:=@PySem.Heap.get?_push_size
def F_:=@Nat.le_trans
def G_:=@decide_eq_true
def H_:=@beq_eq_false_iff_ne
def I_:=@List.getElem?_append_right
def J_:=@List.getElem?_append_left
def K_:=@List.mem_map
def L_:=@Nat.ne_of_lt
def M_:=@Option.map_eq_some_iff
def N_:=@List.sum_cons
def OD:=@List.mem_append_right
def OE:=@List.length_nil
def OF:=@List.all_eq_true
def OG:=@Option.bind_eq_some_iff
def OH:=@Nat.zero_le
def OI:=@List.map_append
def OJ:=@List.map_nil
def OK:=@List.mem_singleton
def OL:=@PySem.wpAny_mono
def OM:=@List.find?_cons
def ON:=@Int.toNat_natCast
def OO:=@List.mem_of_getElem?
def OP:=@List.nil_append
def OQ:=@beq_iff_eq
def OR:=@Nat.mul_le_mul
def OS:=@List.append_nil
def OT:=@List.getD_eq_getElem?_getD
def OU:=@List.mem_append
def OV:=@Option.isSome_iff_exists
def OW:=@PySem.wpAny_field
def OX:=@List.getElem?_cons_succ
def OY:=@List.getElem?_replicate
def OZ:=@List.any_cons
def O0:=@List.map_map
def O1:=@Nat.lt_irrefl
def O2:=@Int.natAbs_mul
def O3:=@List.append_assoc
def O4:=@List.getElem?_nil
def O5:=@List.mem_map_of_mem
def O6:=@List.contains_iff_mem
def O7:=@List.length_replicate
def O8:=@Bool.false_eq_true
def O9:=@Int.mul_assoc
def O_:=@PySem.wpAny_newObj_type
def Pa:=@Rat.intCast_mul
def Pb:=@Nat.mul_le_mul_left
def Pc:=@PySem.mem_of_lookup
def Pd:=@if_true
def Pe:=@List.fst_mem_of_mem_zipIdx
def Pf:=@List.length_take
def Pg:=@congrArg
def Ph:=@List.find?_eq_none
def Pj:=@List.getElem?_eq_none
def Pk:=@List.mem_range
def Pl:=@List.getElem?_eq_none_iff
def Pm:=@List.mem_or_eq_of_mem_set
def Pn:=@Nat.mul_pos
def Pp:=@Nat.pow_le_pow_right
def Pq:=@List.length_range
def Pr:=@of_decide_eq_true
def Pt:=@PySem.wpAny_callSpecial?_slot
def Pu:=@List.filterMap_cons
def Pw:=@List.lookup_cons
def Px:=@PySem.wpAny_seqItems
def Py:=@List.take_of_length_le
def Pz:=@Nat.lt_of_le_of_lt
def PC:=@Nat.sub_self
def PD:=@PyProof.Rows.callWith_type1
def PF:=@decide_eq_true_iff
def PH:=@PySem.wpAny_setField_rec
def PJ:=@Int.natCast_mul
def PK:=@List.getElem?_zipWith
def PL:=@PySem.wpAny_passesOwn
def PM:=@PySem.F.slot_tuple_iterator_next
def PN:=@decide_eq_true_eq
def PQ:=@PySem.wpAny_truthy_bool
def PR:=@List.getElem?_set_ne
def PU:=@List.mem_append_left
def PV:=@Nat.mul_le_mul_right
def PX:=@PySem.Heap.size_push
def PY:=@and_true
def PZ:=@List.getElem?_range
def P0:=@List.length_zipWith
def P1:=@List.take_succ_cons
def P2:=@List.length_eq_zero_iff
def P4:=@List.take_nil
def P5:=@Bool.eq_iff_iff
def P6:=@List.nodup_cons
def P7:=@Nat.not_lt_zero
def P8:=@Nat.pow_add
def P9:=@if_false
def P_:=@Int.mul_left_comm
def Qa:=@List.getElem?_set
def Qb:=@List.dropLast_eq_take
def Qc:=@List.mapM_cons
def Qd:=@List.take_append_drop
def Qe:=@List.getElem?_of_mem
def Qf:=@List.length_drop
def Qg:=@beq_self_eq_true
def Qh:=@PySem.wpAny_call_entry
def Qi:=@PySem.Calls.Name_function_global
def Qj:=@Int.eq_of_mul_eq_mul_right
def Qk:=@List.all_cons
def Ql:=@List.drop_nil
def Qm:=@PySem.wpAny_holding
def Qn:=@Int.toNat_of_nonneg
def Qo:=@Classical.byContradiction
def Qp:=@Int.mul_ne_zero
def Qq:=@List.forIn_cons
def Qr:=@PySem.wpAny_execs_nil
def Qs:=@PySem.AutoSeq1.wpAny_loadPart'
def Qt:=@Int.mul_comm
def Qu:=@Int.mul_right_comm
def Qv:=@Nat.ne_of_gt
def Qw:=@PySem.F.args_tuple_add_2
def Qx:=@PySem.wpAny_Call_Name_kw
def Qy:=@PySem.wpAny_pyIter_tuple
def Qz:=@PySem.F.entry_tuple_add
def QA:=@List.flatten_cons
def QB:=@PySem.Heap.get?_update_other
def QC:=@List.getElem?_set_self
def QD:=@Nat.le_mul_of_pos_left
def QE:=@PySem.F.slot_tuple_add
def QF:=@Nat.mul_assoc
def QG:=@List.getElem_mem
def QH:=@Nat.le_add_right
def QI:=@or_false
def QJ:=@Bool.and_eq_false_iff
def QK:=@PySem.F.slot_zip_next
def QL:=@PySem.Heap.get?_none_of_le
def QM:=@List.getElem?_append
def QN:=@Nat.le_of_lt
def QO:=@Nat.lt_trans
def QP:=@Nat.min_eq_left
def QQ:=@Rat.intCast_add
def QR:=@PySem.wpAny_updateSeq_pair
def QS:=@Array.length_toList
def QT:=@List.length_pos_iff
def QU:=@List.forIn_nil
def QV:=@PySem.Paired.length
def QW:=@PySem.wpAny_attempt
def QX:=@PySem.wpAny_onRaise
def QY:=@PySem.wpAny_standAt
set_option maxRecDepth 100000
namespace L2
open PySem PySem.Spec PyProof.Rows
abbrev _root_.Ra:=Str->Option Value
abbrev _root_.Rb:=List (Addr×Obj)
abbrev _root_.Rg:=Value->Shared->Prop
abbrev _root_.Rh:=List (Option Nat)
abbrev Key:=Sum Int Str
def j7:Key->Value->Bool
 |.inl k,v=>Value.isInt k v
 |.inr x,v=>Value.isStrOf x v
def keyH(w:World):Key->Int
 |.inl k=>hashInt k
 |.inr x=>hashStr w x
theorem bF:∀{k:Key}{v:Value},j7 k v=true->(∃i t,k=Sum.inl i/\v=Value.int i t)\/(∃x t,k=Sum.inr x/\v=Value.str x t)
 |
  .inl i,v,h=>by
  obtain⟨t,e⟩:=Value.isInt_shape (k:=i) (v:=v) h
  exact .inl ⟨i,t,rfl,e⟩
 |
  .inr x,v,h=>by
  obtain⟨t,e⟩:=Value.isStrOf_shape (x:=x) (v:=v) h
  exact .inr ⟨x,t,rfl,e⟩
def yR(i:Int)(t:Tok):j7 (.inl i) (.int i t)=true:=by simp [j7,Value.isInt]
def zC(x:Str)(t:Tok):j7 (.inr x) (.str x t)=true:=by simp [j7,Value.isStrOf]
def HM(a b:Int):decide ((Sum.inl a:Key)=Sum.inl b)=(a==b):=by
 by_cases e:a=b
 ·subst e;simp
 ·have h:¬ (Sum.inl a:Key)=Sum.inl b:=λq=>e (Sum.inl.inj q)
  rw[u_ h]
  exact (H_.mpr e).symm
def HV(a b:Str):decide ((Sum.inr a:Key)=Sum.inr b)=decide (a=b):=by
 by_cases e:a=b
 ·subst e;simp
 ·have h:¬ (Sum.inr a:Key)=Sum.inr b:=λq=>e (Sum.inr.inj q)
  rw[u_ h,u_ e]
def Gq(a:Int)(b:Str):decide ((Sum.inl a:Key)=Sum.inr b)=false:=u_ (λq=>nomatch q)
def JL(a:Str)(b:Int):decide ((Sum.inr a:Key)=Sum.inl b)=false:=u_ (λq=>nomatch q)
def bB(prog:Program)(w:World):PySem.KeyKind prog w Key where
 is:=j7
 hash:=keyH w
 inj
  := λv a b ha hb=>by
  rcases bF ha with ⟨i,t,rfl,rfl⟩ |⟨x,t,rfl,rfl⟩
  ·rcases bF hb with ⟨j,u,rfl,e⟩ |⟨y,u,rfl,e⟩
   ·injection e with e1 _;rw[e1]
   ·exact nomatch e
  ·rcases bF hb with ⟨j,u,rfl,e⟩ |⟨y,u,rfl,e⟩
   ·exact nomatch e
   ·injection e with e1 _;rw[e1]
 byValue:=λk v h=>by
  rcases bF h with ⟨i,t,rfl,rfl⟩ |⟨x,t,rfl,rfl⟩ <;> rfl
 pyHash:=λhv h=>by
  rcases bF hv with ⟨i,t,rfl,rfl⟩ |⟨x,t,rfl,rfl⟩
  ·exact wpAny_pyHash_int h
  ·exact wpAny_pyHash_str h
 eqBool:=λhu hv h=>by
  rcases bF hu with ⟨i,t,rfl,rfl⟩ |⟨x,t,rfl,rfl⟩
  ·rcases bF hv with ⟨j,u,rfl,rfl⟩ |⟨y,u,rfl,rfl⟩
   ·rw[HM] at h;exact wpAny_eqBool_int h
   ·rw[Gq] at h;exact SeqAt.EqAt.int_str i t y u _ _ _ _ h
  ·rcases bF hv with ⟨j,u,rfl,rfl⟩ |⟨y,u,rfl,rfl⟩
   ·rw[JL] at h;exact SeqAt.EqAt.str_int x t j u _ _ _ _ h
   ·rw[HV] at h;exact wpAny_eqBool_str h
 «strs»:=λk x t v h=>by
  rcases bF h with ⟨i,u,rfl,e⟩ |⟨y,u,rfl,e⟩
  ·exact nomatch e
  ·injection e with e1 _
   subst e1
   cases v <;> rfl
def tW(prog:Program)(w:World)(i:Int)(t:Tok):(bB prog w).is (.inl i) (.int i t)=true:=yR i t
def uf(prog:Program)(w:World)(x:Str)(t:Tok):(bB prog w).is (.inr x) (.str x t)=true:=zC x t
inductive V where
 |non |bl (b:Bool) |int (i:Int) |str (x:Str) |byt (b:Array UInt8) |flt (b:UInt64) |ref (a:Addr) |ty (n:String)
 deriving DecidableEq
def RelV:V->Value->Prop
 |.non,u=>u=Value.none
 |.bl b,u=>u=Value.bool b
 |.int i,u=>∃t,u=Value.int i t
 |.str x,u=>∃t,u=Value.str x t
 |.byt b,u=>∃t,u=Value.bytes b t
 |.flt b,u=>∃t,u=Value.float b t
 |.ref a,u=>u=Value.ref a
 |.ty n,u=>u=Value.type n
abbrev Vals:List V->List Value->Prop:=Paired RelV
def Vals.length(r:Vals xs us):xs.length=us.length:=QV r
def Vals.get{xs:List V}{us:List Value}{i:Nat}{x:V}(r:Vals xs us)(e:xs[i]?=some x):∃u,us[i]?=some u/\RelV x u:=by
 induction r generalizing i with
 |nil=>rw[O4] at e;cases e
 |
  cons r t ih=>
  cases i with
  |zero=>cases e;exact⟨_,rfl,r⟩
  |succ i=>exact ih (i:=i) e
def Vals.set(r:RelV x u)(i:Nat)(q:Vals xs us):Vals (xs.set i x) (us.set i u):=by
 induction q generalizing i with
 |nil=>exact .nil
 |
  cons q t ih=>
  cases i with
  |zero=>exact .cons r t
  |succ i=>exact .cons q (ih i)
def Vals.append(r:Vals xs us)(s:Vals ys ws):Vals (xs++ys) (us++ws):=by
 induction r with
 |nil=>exact s
 |cons r t ih=>exact .cons r ih
def Vals.take(n:Nat)(r:Vals xs us):Vals (xs.take n) (us.take n):=by
 induction r generalizing n with
 |nil=>rw[P4,P4];exact .nil
 |
  cons r t ih=>
  cases n with
  |zero=>exact .nil
  |succ n=>exact .cons r (ih n)
def Vals.drop(n:Nat)(r:Vals xs us):Vals (xs.drop n) (us.drop n):=by
 induction r generalizing n with
 |nil=>rw[Ql,Ql];exact .nil
 |
  cons r t ih=>
  cases n with
  |zero=>exact .cons r t
  |succ n=>exact ih n
def RelO:Option V->Option Value->Prop
 |some v,some u=>RelV v u
 |none,none=>True
 |_,_=>False
def KV{κ:Type}:List (κ×V)->List (κ×Value)->Prop:=Paired λ(p:κ×V) (q:κ×Value)=>p.1=q.1/\RelV p.2 q.2
noncomputable def kV:Key->V
 |.inl i=>.int i
 |.inr x=>.str x
inductive HO where
 |lst (xs:List V)
 |tup (xs:List V)
 |dK (kvs:List (Key×V)) |dT (kvs:List (List Key×V))
 |set (S:Int->Bool) (n:Nat)
 |ins (C dx:Addr) (fs:List (Str×V))
 |own (x:Addr)
 |xd (fs:List (Str×V))
 |met (f x:Addr)
 |rng (lo hi:Int)
 |frz (o:Obj) (u:HO)
 |tbl (ps:Array Value)
 |ext (φ:Heap->Prop)
abbrev Hp:=Addr->Option HO
def upd(H:Hp)(a:Addr)(o:HO):Hp:=λb=>if b=a then some o else H b
def a8:upd H a o a=some o:=by unfold upd;rw[if_pos rfl]
def aE(h:b≠a):upd H a o b=H b:=by unfold upd;rw[if_neg h]
def N1{H:Hp}{a b:Addr}{o u:HO}(h:H a=some o)(h':H b=some u)(d:o≠u):a≠b:=by
 intro e;subst e;rw[h] at h';exact d (C_ h')
def bL{H:Hp}{a b:Addr}{o:HO}(h:H a=some o)(h':H b=none):a≠b:=by
 intro e;subst e;rw[h] at h';cases h'
section
variable(P:Program)(w:World)
def ObjOk(H:Hp)(h:Heap)(a:Addr):HO->Prop
 |.lst xs=>xs.length<=sizeLine/\∃(its:List Value) (n:Nat),Vals xs its/\h.get? a=some { cls:=.type "list",data:=.seq its.toArray n }
 |.tup xs=>xs.length<=sizeLine/\∃its:List Value,Vals xs its/\IsTup h a its.toArray
 |.dK kvs=>kvs.length<=sizeLine/\(a==sysModules)=false/\∃vs,KV kvs vs/\h.DictOf (bB P w) a vs
 |.dT kvs=>kvs.length<=sizeLine/\(a==sysModules)=false/\∃xs:List (List Key×Addr×Value),
  Paired (λ(p:List Key×V) (q:List Key×Addr×Value)=>p.1=q.1/\H q.2.1=some (.tup (p.1.map kV))/\RelV p.2 q.2.2) kvs xs/\
  ∃o es ep,h.get? a=some o/\o.ExactDict/\o.data=.dict es ep/\es.toList=xs.map (entryOfKey (tupleKind (bB P w)))/\(xs.map (·.1)).Nodup
 |.set S n=>h.SetOf (intKind P w) a S n
 |.ins C dx fs=>H dx=some (.own a)/\fs.length<=1000/\dx≠a/\h.get? a=some (W.instObj C dx)/\
  ∃mA,h.Ns1 dx mA/\(∀f,RelO (fs.lookup f) (mA f))/\PySem.Within mA (fs.map (·.1))
 |.own _=>∃o,h.get? a=some o
 |.xd fs=>∃mA,h.Ns1 a mA/\∀f,RelO (fs.lookup f) (mA f)
 |.rng lo hi=>∃t u v,h.get? a=some { cls:=.type "range",data:=.fields #[.int lo t,.int hi u,.int 1 v] }
 |.frz o u=>h.get? a=some o/\ObjOk H h a u
 |.tbl ps=>h.get? a=some { cls:=.none,data:=.fields ps }
 |.met f x=>h.get? a=some (W.methodObj (.ref f) (.ref x))
 |.ext φ=>φ h/\(∃o,h.get? a=some o)/\∀h1 h2:Heap,φ h1->(∀o,h1.get? a=some o->h2.get? a=some o)->φ h2
def HOk(H:Hp)(h:Heap):Prop:=∀a o,H a=some o->ObjOk P w H h a o
end
section
variable{P:Program}{w:World}{H H':Hp}{h h':Heap}{a:Addr}{o:HO}
def ObjOk.lt(x:ObjOk P w H h a o):a<h.objs.size:=by
 cases o with
 |lst xs=>obtain⟨_,_,_,_,e⟩:=x;exact x_ e
 |tup xs=>obtain⟨_,_,_,p⟩:=x;exact p.lt
 |dK kvs=>obtain⟨_,_,_,_,o,_,_,e,_⟩:=x;exact x_ e
 |dT kvs=>obtain⟨_,_,_,_,o,_,_,e,_⟩:=x;exact x_ e
 |set S n=>obtain⟨o,_,_,_,e,_⟩:=x;exact x_ e
 |ins C dx fs=>obtain⟨_,_,_,e,_⟩:=x;exact x_ e
 |own y=>obtain⟨_,e⟩:=x;exact x_ e
 |xd fs=>obtain⟨_,⟨_,_,_,e,_⟩,_⟩:=x;exact x_ e
 |rng lo hi=>obtain⟨_,_,_,e⟩:=x;exact x_ e
 |frz ob u=>obtain⟨e,_⟩:=x;exact x_ e
 |tbl ps=>exact x_ (show h.get? a=some _ from x)
 |met f y=>exact x_ (show h.get? a=some _ from x)
 |ext φ=>obtain⟨_,⟨_,e⟩,_⟩:=x;exact x_ e
def Paired.mapP(r:Paired F l₁ l₂)(f:∀a b,F a b->G a b):Paired G l₁ l₂:=by
 induction r with
 |nil=>exact .nil
 |cons r t ih=>exact .cons (f _ _ r) ih
def ObjOk.stay(x:ObjOk P w H h a o)(k:∀b u,(b=a\/H b=some (.own a))->h.get? b=some u->h'.get? b=some u)
 (ho:∀b,H b=some (.own a)->H' b=some (.own a)) (ht:∀b xs,H b=some (.tup xs)->H' b=some (.tup xs)):ObjOk P w H' h' a o:=by
 induction o with
 |lst xs=>obtain⟨z,its,n,r,e⟩:=x;exact⟨z,its,n,r,k _ _ (.inl rfl) e⟩
 |tup xs=>obtain⟨z,its,r,ob,e,c⟩:=x;exact⟨z,its,r,ob,k _ _ (.inl rfl) e,c⟩
 |dK kvs=>obtain⟨z,y,vs,r,ob,es,ep,e,c⟩:=x;exact⟨z,y,vs,r,ob,es,ep,k _ _ (.inl rfl) e,c⟩
 |
  dT kvs=>
  obtain⟨z,y,xs,r,ob,es,ep,e,c⟩:=x
  exact⟨z,y,xs,Paired.mapP r λp q z=>⟨z.1,ht _ _ z.2.1,z.2.2⟩,ob,es,ep,k _ _ (.inl rfl) e,c⟩
 |set S n=>obtain⟨ob,es,ep,t,e,c⟩:=x;exact⟨ob,es,ep,t,k _ _ (.inl rfl) e,c⟩
 |
  ins C dx fs=>
  obtain⟨d,z,ne,e,mA,⟨od,es,ep,e2,c⟩,r⟩:=x
  exact⟨ho _ d,z,ne,k _ _ (.inl rfl) e,mA,⟨od,es,ep,k _ _ (.inr d) e2,c⟩,r⟩
 |own y=>obtain⟨ob,e⟩:=x;exact⟨ob,k _ _ (.inl rfl) e⟩
 |xd fs=>obtain⟨mA,⟨od,es,ep,e,c⟩,r⟩:=x;exact⟨mA,⟨od,es,ep,k _ _ (.inl rfl) e,c⟩,r⟩
 |rng lo hi=>obtain⟨t,u,v,e⟩:=x;exact⟨t,u,v,k _ _ (.inl rfl) e⟩
 |frz ob u ih=>obtain⟨e,q⟩:=x;exact⟨k _ _ (.inl rfl) e,ih q⟩
 |
  tbl ps=>
  have e:h.get? a=some { cls:=.none,data:=.fields ps }:=x
  show h'.get? a=some { cls:=.none,data:=.fields ps }
  exact k a _ (.inl rfl) e
 |
  met f y=>
  have e:h.get? a=some (W.methodObj (.ref f) (.ref y)):=x
  show h'.get? a=some (W.methodObj (.ref f) (.ref y))
  exact k a _ (.inl rfl) e
 |ext φ=>obtain⟨p,⟨o,e⟩,st⟩:=x;exact⟨st _ _ p λo q=>k _ _ (.inl rfl) q,⟨o,k _ _ (.inl rfl) e⟩,st⟩
def HOk.lt(x:HOk P w H h)(e:H a=some o):a<h.objs.size:=(x a o e).lt
def HOk.fresh(x:HOk P w H h)(e:h.objs.size<=a):H a=none:=by
 cases q:H a with
 |none=>rfl
 |some u=>exact absurd (Em (x.lt q) e) (O1 _)
def HOk.kept(x:HOk P w H h)(k:∀b u,h.get? b=some u->h'.get? b=some u):HOk P w H h':=λa o e=>
 (x a o e).stay (λb u _ q=>k b u q) (λ_ q=>q) λ_ _ q=>q
def HOk.laid(x:HOk P w H h)(k:∀b u,h.get? b=some u->h'.get? b=some u)(hp:h.objs.size<=a)(new:ObjOk P w (upd H a o) h' a o):HOk P w (upd H a o) h':=λb u e=>by
 have hn:=x.fresh hp
 by_cases hb:b=a
 ·subst hb;rw[a8] at e;cases e;exact new
 ·rw[aE hb] at e
  exact (x b u e).stay (λc v _ q=>k c v q) (λc q=>by rw[aE (bL q hn)];exact q) λc xs q=>by rw[aE (bL q hn)];exact q
end
def Rd(H:Hp)(a:Addr)(u:HO):Prop:=H a=some u\/∃o,H a=some (.frz o u)
def Rd.ok(r:Rd H a u)(x:HOk P w H h):ObjOk P w H h a u:=by
 rcases r with r |⟨o,r⟩
 ·exact x a u r
 ·obtain⟨_,q⟩:=x a _ r
  exact q
def Mut:Option HO->Prop
 |some (.lst _)=>True
 |some (.dK _)=>True
 |some (.dT _)=>True
 |some (.set _ _)=>True
 |some (.ins _ _ _)=>True
 |some (.ext _)=>True
 |_=>False
section
variable{P:Program}{w:World}{H:Hp}{h h':Heap}{x e:Addr}{o':HO}
def HOk.write(ok:HOk P w H h)(mu:Mut (H x))(he:e=x\/H e=some (.own x))(k:∀b u,b≠e->h.get? b=some u->h'.get? b=some u)(heo:∃u,h'.get? e=some u)
 (new:ObjOk P w (upd H x o') h' x o'):HOk P w (upd H x o') h':=λb u q=>by
 have nown:∀c y,H c=some (.own y)->c≠x:=λc y r z=>by subst z;rw[r] at mu;exact mu
 have ntup:∀c xs,H c=some (.tup xs)->c≠x:=λc xs r z=>by subst z;rw[r] at mu;exact mu
 by_cases hb:b=x
 ·subst hb;rw[a8] at q;cases q;exact new
 ·rw[aE hb] at q
  by_cases hbe:b=e
  ·have q':H b=some (.own x):=by
    rcases he with z |z
    ·exact absurd (hbe.trans z) hb
    ·rw[hbe];exact z
   rw[q] at q';cases q'
   obtain⟨v,hv⟩:=heo
   exact⟨v,by rw[hbe];exact hv⟩
  ·refine (ok b u q).stay (λc v hc r=>k c v ?_ r) (λc r=>by rw[aE (nown c b r)];exact r) λc xs r=>by rw[aE (ntup c xs r)];exact r
   rcases hc with rfl |hc
   ·exact hbe
   ·rintro rfl
    rcases he with z |z
    ·exact nown c b hc z
    ·rw[hc] at z;cases z;exact hb rfl
end
structure Un(fs ex:List Addr)(H H':Hp)(h h':Heap):Prop where
 keep:∀b o,h.get? b=some o->H b=none->b∉fs->b∉ex->h'.get? b=some o
 slot:∀b o,h.get? b=some o->H b=none->b∈fs->b∉ex->∃sl,h'.get? b=some { o with slots:=sl }
 free:∀b o,h.get? b=some o->H b=none->b∉ex->H' b=none
 there:∀b o,h.get? b=some o->b∉ex->∃o',h'.get? b=some o'
 tups:∀b xs,H b=some (.tup xs)->H' b=some (.tup xs)
 frzs:∀b o u,H b=some (.frz o u)->H' b=some (.frz o u)
 tbls:∀b ps,H b=some (.tbl ps)->∃more,H' b=some (.tbl (ps++more))
section
variable{fs fs' ex ex':List Addr}{H H1 H2:Hp}{h h1 h2 h':Heap}{a x e:Addr}{o:HO}
def Un.any(u:Un fs ex H H1 h h1)(q:h.get? b=some ob)(n:H b=none)(hx:b∉ex):∃sl,h1.get? b=some { ob with slots:=sl }:=by
 by_cases hb:b∈fs
 ·exact u.slot b ob q n hb hx
 ·exact⟨ob.slots,u.keep b ob q n hb hx⟩
def Un.kept(k:∀b u,h.get? b=some u->h'.get? b=some u):Un fs ex H H h h':=
 ⟨λb ob q _ _ _=>k b ob q,λb ob q _ _ _=>⟨ob.slots,k b ob q⟩,λ_ _ _ n _=>n,λb ob q _=>⟨ob,k b ob q⟩,λ_ _ q=>q,λ_ _ _ q=>q,λ_ ps q=>⟨#[],by rw[q];simp⟩⟩
def Un.refl:Un fs ex H H h h:=Un.kept λ_ _ q=>q
def Un.laid(k:∀b u,h.get? b=some u->h'.get? b=some u)(hp:h.objs.size<=a)(hn:H a=none):Un fs ex H (upd H a o) h h' where
 keep:=λb u q _ _ _=>k b u q
 slot:=λb u q _ _ _=>⟨u.slots,k b u q⟩
 free:=λb u q n _=>by rw[aE (L_ (Em (x_ q) hp))];exact n
 there:=λb u q _=>⟨u,k b u q⟩
 tups:=λb xs q=>by rw[aE (bL q hn)];exact q
 frzs:=λb u xs q=>by rw[aE (bL q hn)];exact q
 tbls:=λb ps q=>⟨#[],by rw[aE (bL q hn),q];simp⟩
def Un.write(mu:Mut (H x))(he:e=x\/H e=some (.own x))(k:∀b u,b≠e->h.get? b=some u->h'.get? b=some u)(heo:∃u,h'.get? e=some u):Un fs ex H (upd H x o) h h':=by
 have hx:∀b,H b=none->b≠x:=λb n z=>by subst z;rw[n] at mu;exact mu
 have hb:∀b,H b=none->b≠e:=λb n z=>by
  subst z
  rcases he with r |r
  ·exact hx b n r
  ·rw[n] at r;cases r
 have hm:∀b u,H b=some u->¬ Mut (some u)->b≠x:=λb u q nm z=>by subst z;rw[q] at mu;exact nm mu
 refine⟨λb u q n _ _=>k b u (hb b n) q,λb u q n _ _=>⟨u.slots,k b u (hb b n) q⟩,λb u q n _=>by rw[aE (hx b n)];exact n,λb u q _=>?_,
  λb xs q=>by rw[aE (hm b _ q λz=>z)];exact q,λb u xs q=>by rw[aE (hm b _ q λz=>z)];exact q,λb ps q=>⟨#[],by rw[aE (hm b _ q λz=>z),q];simp⟩⟩
 by_cases hbe:b=e
 ·subst hbe;exact heo
 ·exact⟨u,k b u hbe q⟩
end
def trk(h:Heap)(H:Hp):List Addr:=(List.range h.objs.size).filter λa=>(H a).isSome
def jb(h:Heap)(H:Hp):Heap:=W.hideAll h (trk h H)
def y0(h:Heap)(H:Hp):(jb h H).objs.size=h.objs.size:=W.hideAll_size _ _
def Ac(e:h.get? b=some o)(n:H b=none):(jb h H).get? b=some o:=
 W.hideAll_get _ e λhm=>by
  have q:(H b).isSome=true:=(List.mem_filter.mp hm).2
  rw[n] at q;simp at q
def DR(e:(jb h H).get? b=some o):h.get? b=some o/\H b=none:=by
 have e':h.get? b=some o:=W.of_hideAll (trk h H) e
 refine⟨e',?_⟩
 cases q:H b with
 |none=>rfl
 |
  some x=>
  have hm:b∈trk h H:=List.mem_filter.mpr ⟨Pk.mpr (x_ e'),by simp [q]⟩
  have z:(jb h H).get? b=none:=W.hideAll_none (trk h H) hm
  rw[z] at e;cases e
def Dx(g h:Heap)(L:Addr):List (Addr×Obj):=(List.range h.objs.size).filterMap λa=>if a=L\/(g.get? a).isSome=true then none else (h.get? a).map λo=>(a,o)
def cQ(g h:Heap)(L d:Addr):List (Addr×Obj):=(Dx g h L).filter λp=>decide (p.1≠d)
structure Mod(K:W.Frag)(mg:Ra)(base:Heap):Prop where
 kin:K.In base
 glob:base.Ns mainGlobals mg
 blt:∃mb,base.Ns builtinsNs mb/\∀x:Str,x ≠ "__name__"->mb x=bootBuiltins x
 nolimit:base.NoLimit
structure Cx where
 prog:Program
 w:World
 K:W.Frag
 mg:Str->Option Value
 base:Heap
 A:Around
 N:List Str
 s₀:Shared
 H₀:Hp
 env:Env
 outer:List Env
 stack:List Env
 ex:List Addr
 fn:Str->Bool
 calm:Bool
 pn:List (Addr×Obj)
 xe:Value->Shared->Prop
def frs(l:List Env):List Addr:=l.filterMap (·.frame)
abbrev Cx.fs(X:Cx):List Addr:=frs X.outer
def Vis(sc:Scope)(x:Str):Prop:=sc.names.lookup x=some .local\/sc.names.lookup x=some .cell\/sc.names.lookup x=some .free
def Loc(sc:Scope)(x:Str):Prop:=sc.names.lookup x=some .local\/sc.names.lookup x=some .cell
def B8(env:Env)(h:Heap)(m:Ra)(x:Str)(u:Value):Prop:=
 (env.kindOf x=some .local/\m x=some u)\/((env.kindOf x=some .cell\/env.kindOf x=some .free)/\∃c,env.cells.lookup x=some c/\h.IsCell c (some u))
structure Cx.Ok(X:Cx):Prop where
 mod:Mod X.K X.mg X.base
 kind:X.env.scope.kind=.function
 glob:X.env.globals=mainGlobals
 blt:X.env.builtins=builtinsNs
 above:X.s₀.heap.objs.size<=X.env.locals
 inj:∀x y c,X.env.cells.lookup x=some c->X.env.cells.lookup y=some c->x=y
 has:∀x,(X.env.kindOf x=some .cell\/X.env.kindOf x=some .free)->∃c,X.env.cells.lookup x=some c
 cab:∀x c,X.fn x=true->X.env.cells.lookup x=some c->X.s₀.heap.objs.size<=c
 hd:X.calm=true->X.A.handled=none
 frames:X.A.frames=some X.stack
 stk:X.stack=X.outer\/(X.stack=X.env::X.outer/\X.env.frame=some X.env.locals)
 exf:∀b∈X.ex,b≠X.env.locals/\∀x c,X.env.cells.lookup x=some c->c≠b
 bs:∀b o,X.base.get? b=some o->X.s₀.heap.get? b=some o/\X.H₀ b=none
 bsz:X.base.objs.size<=X.s₀.heap.objs.size
 noex:∀b o,X.base.get? b=some o->b∉X.ex
 exfs:∀b∈X.ex,b∉X.fs
 funs:X.s₀.heap.FunFrames X.base X.outer
 frf:∀b∈X.fs,X.H₀ b=none
structure Inv(X:Cx)(pins:Rb)(σ:List (Option V))(H:Hp)(s:Shared):Prop where
 ok:X.Ok
 os:s.os=X.s₀.os
 bare:AllBare s.gens
 base:Un X.fs X.ex X.H₀ H X.s₀.heap s.heap
 loc:∃m,s.heap.Ns X.env.locals m/\∀(i:Nat) (x:Str) (v:V),X.N[i]?=some x->σ[i]?=some (some v)->Vis X.env.scope x->∃u,RelV v u/\B8 X.env s.heap m x u
 cell:∀x c,X.env.cells.lookup x=some c->∃v,s.heap.IsCell c v
 free:H X.env.locals=none
 freeC:∀x c,X.env.cells.lookup x=some c->H c=none
 pin:∀p∈X.pn++pins,s.heap.get? p.1=some p.2/\H p.1=none/\p.1≠X.env.locals/\p.1∉X.fs/\∀v,p.2.data ≠ .cell v
 hok:HOk X.prog X.w H s.heap
 len:σ.length=X.N.length
section
variable{X:Cx}{pins:Rb}{σ:List (Option V)}{H H':Hp}{s:Shared}{h':Heap}
def Cx.Ok.nofr(ok:X.Ok)(e:X.base.get? b=some o):b∉X.fs:=λhb=>by
 have:=(ok.funs.mem hb).1
 rw[e] at this;cases this
def Inv.bs(I:Inv X pins σ H s):∀b o,X.base.get? b=some o->s.heap.get? b=some o/\H b=none:=λb o e=>
 ⟨I.base.keep b o (I.ok.bs b o e).1 (I.ok.bs b o e).2 (I.ok.nofr e) (I.ok.noex b o e),I.base.free b o (I.ok.bs b o e).1 (I.ok.bs b o e).2 (I.ok.noex b o e)⟩
def Inv.bk(I:Inv X pins σ H s):∀b o,X.base.get? b=some o->s.heap.get? b=some o:=λb o e=>(I.bs b o e).1
def Inv.mod(I:Inv X pins σ H s):Mod X.K X.mg X.base:=I.ok.mod
def Inv.kIn(I:Inv X pins σ H s):X.K.In s.heap:=I.ok.mod.kin.keeps I.bk
def Inv.lt(I:Inv X pins σ H s):X.env.locals<s.heap.objs.size:=let ⟨_,hn,_⟩:=I.loc;hn.lt
def Inv.sz(I:Inv X pins σ H s):X.s₀.heap.objs.size<=s.heap.objs.size:=F_ I.ok.above (QN I.lt)
def Inv.nofs(I:Inv X pins σ H s)(h:s.heap.objs.size<=a):a∉X.fs:=λhb=>by
 obtain⟨_,o,ho,_⟩:=I.ok.funs.mem hb
 exact absurd (Em (x_ ho) (F_ I.sz h)) (O1 _)
def Inv.cne(I:Inv X pins σ H s):∀x c,X.env.cells.lookup x=some c->c≠X.env.locals:=λx c e z=>by
 obtain⟨v,o,ho,hd⟩:=I.cell x c e
 obtain⟨m,⟨o',es,ep,ho',hd',_⟩,_⟩:=I.loc
 rw[z,ho'] at ho;cases ho;rw[hd'] at hd;cases hd
def Inv.funs(I:Inv X pins σ H s):s.heap.FunFrames X.base X.outer:=by
 have all:∀(l:List Env),(∀b∈frs l,b∈X.fs)->X.s₀.heap.FunFrames X.base l->s.heap.FunFrames X.base l:=by
  intro l
  induction l with
  |nil=>intro _ _;trivial
  |
   cons env r ih=>
   intro hs hl
   obtain⟨hk,⟨L,o,hf,hn,ho,hd⟩,hr⟩:=hl
   have hL:L∈X.fs:=hs L (by unfold frs;rw[Pu,hf];exact n_)
   obtain⟨sl,e⟩:=I.base.slot L o ho (I.ok.frf L hL) hL λz=>I.ok.exfs L z hL
   exact⟨hk,⟨L,_,hf,hn,e,hd⟩,ih (λb hb=>hs b (by unfold frs;rw[Pu,hf];exact l_ _ hb)) hr⟩
 exact all X.outer (λ_ hb=>hb) I.ok.funs
def Inv.stack(I:Inv X pins σ H s):s.heap.FunFrames X.base X.stack:=by
 rcases I.ok.stk with e |⟨e,hf⟩
 ·rw[e];exact I.funs
 ·rw[e]
  obtain⟨m,hn,_⟩:=I.loc
  refine .cons (by rw[I.ok.kind];decide) hf hn ?_ I.funs
  exact QL (F_ I.ok.bsz I.ok.above)
def Inv.stkSub(I:Inv X pins σ H s):∀b∈frs X.stack,b∈X.env.locals::X.fs:=λb hb=>by
 rcases I.ok.stk with e |⟨e,hf⟩
 ·rw[e] at hb;exact l_ _ hb
 ·rw[e] at hb
  unfold frs at hb
  rw[Pu,hf] at hb
  exact hb
def Inv.stkFree(I:Inv X pins σ H s):∀b∈frs X.stack,H b=none:=λb hb=>by
 rcases D_.mp (I.stkSub b hb) with e |hb
 ·rw[e];exact I.free
 ·obtain⟨_,o,ho,_⟩:=I.ok.funs.mem hb
  exact I.base.free b o ho (I.ok.frf b hb) λz=>I.ok.exfs b z hb
def Inv.step{g':Array GenState}{t':Nat}{d':Drawn}{ch:List Addr}(I:Inv X pins σ H s)
 (hch:∀b∈ch,(b∈X.ex\/X.s₀.heap.objs.size<=b)/\b≠X.env.locals/\(∀x c,X.env.cells.lookup x=some c->c≠b)/\∀p∈X.pn++pins,p.1≠b)
 (keep:∀b o,b≠X.env.locals->b∉X.fs->b∉ch->s.heap.get? b=some o->H b=none->h'.get? b=some o)
 (slot:∀b o,b≠X.env.locals->b∈X.fs->b∉ch->s.heap.get? b=some o->H b=none->∃sl,h'.get? b=some { o with slots:=sl }) (free:∀b o,b∉ch->s.heap.get? b=some o->H b=none->H' b=none)
 (there:∀b o,b∉ch->s.heap.get? b=some o->∃o',h'.get? b=some o')
 (tups:∀b xs,H b=some (.tup xs)->H' b=some (.tup xs)) (frzs:∀b o u,H b=some (.frz o u)->H' b=some (.frz o u)) (tbls:∀b ps,H b=some (.tbl ps)->∃more,H' b=some (.tbl (ps++more)))
 (ns:∀m,s.heap.Ns X.env.locals m->h'.Ns X.env.locals m) (hok:HOk X.prog X.w H' h') (hg:AllBare g'):
 Inv X pins σ H' { s with heap:=h',gens:=g',drawn:=d',toks:=t' }:=by
 have neL:∀b o,X.s₀.heap.get? b=some o->b≠X.env.locals:=λb o e=>L_ (Em (x_ e) I.ok.above)
 have neC:∀b o,X.s₀.heap.get? b=some o->b∉X.ex->b∉ch:=λb o e hx hb=>by
  rcases (hch b hb).1 with z |z
  ·exact hx z
  ·exact absurd (Em (x_ e) z) (O1 _)
 have cellK:∀x c,X.env.cells.lookup x=some c->∀v,s.heap.IsCell c v->h'.IsCell c v:=λx c e v ⟨o,ho,hd⟩=>by
  have nch:c∉ch:=λz=>(hch c z).2.2.1 x c e rfl
  by_cases hc:c∈X.fs
  ·obtain⟨sl,q⟩:=slot c o (I.cne x c e) hc nch ho (I.freeC x c e)
   exact⟨_,q,hd⟩
  ·exact⟨o,keep c o (I.cne x c e) hc nch ho (I.freeC x c e),hd⟩
 refine⟨I.ok,I.os,hg,⟨λb o e n hb hx=>?_,λb o e n hb hx=>?_,λb o e n hx=>?_,λb o e hx=>?_,λb xs e=>tups b xs (I.base.tups b xs e),λb o xs e=>frzs b o xs (I.base.frzs b o xs e),λb ps e=>?_⟩,?_,λx c e=>?_,?_,λx c e=>?_,λp hp=>?_,hok,I.len⟩
 ·exact keep b o (neL b o e) hb (neC b o e hx) (I.base.keep b o e n hb hx) (I.base.free b o e n hx)
 ·obtain⟨sl,e1⟩:=I.base.slot b o e n hb hx
  obtain⟨sl',e2⟩:=slot b _ (neL b o e) hb (neC b o e hx) e1 (I.base.free b o e n hx)
  exact⟨sl',e2⟩
 ·obtain⟨o',e1⟩:=I.base.there b o e hx
  exact free b o' (neC b o e hx) e1 (I.base.free b o e n hx)
 ·obtain⟨o',e1⟩:=I.base.there b o e hx
  exact there b o' (neC b o e hx) e1
 ·obtain⟨m1,e1⟩:=I.base.tbls b ps e
  obtain⟨m2,e2⟩:=tbls b _ e1
  exact⟨m1++m2,by rw[e2,Array.append_assoc]⟩
 ·obtain⟨m,hn,hl⟩:=I.loc
  refine⟨m,ns m hn,λi x v e1 e2 e3=>?_⟩
  obtain⟨u,r,l⟩:=hl i x v e1 e2 e3
  refine⟨u,r,?_⟩
  rcases l with l |⟨k,c,e,z⟩
  ·exact .inl l
  ·exact .inr ⟨k,c,e,cellK x c e _ z⟩
 ·obtain⟨v,z⟩:=I.cell x c e
  exact⟨v,cellK x c e v z⟩
 ·obtain⟨m,⟨o,_,_,ho,_⟩,_⟩:=I.loc
  exact free _ o (λz=>(hch _ z).2.1 rfl) ho I.free
 ·obtain⟨v,o,ho,hd⟩:=I.cell x c e
  exact free c o (λz=>(hch c z).2.2.1 x c e rfl) ho (I.freeC x c e)
 ·obtain⟨e,n,ne,nf,d⟩:=I.pin p hp
  have nch:p.1∉ch:=λz=>(hch p.1 z).2.2.2 p hp rfl
  exact⟨keep p.1 p.2 ne nf nch e n,free p.1 p.2 nch e n,ne,nf,d⟩
def Inv.un{t':Nat}(I:Inv X pins σ H s)(u:Un X.fs [] H H' s.heap h')(hok:HOk X.prog X.w H' h'):Inv X pins σ H' { s with heap:=h',toks:=t' }:=by
 obtain⟨m,⟨o,es,ep,ho,r⟩,_⟩:=id I.loc
 obtain⟨sl,hL⟩:=u.any ho I.free (by simp)
 exact I.step (g':=s.gens) (d':=s.drawn) (ch:=[]) (λ_ z=>nomatch z) (λb o _ hb _ e n=>u.keep b o e n hb (by simp)) (λb o _ hb _ e n=>u.slot b o e n hb (by simp)) (λb o _ e n=>u.free b o e n (by simp)) (λb o _ e=>u.there b o e (by simp)) u.tups u.frzs u.tbls (λm' hm=>by
  obtain⟨o',es',ep',ho',r'⟩:=hm
  rw[ho] at ho';cases ho'
  exact⟨_,es',ep',hL,r'⟩) hok I.bare
def Inv.call{g':Array GenState}{t':Nat}{d':Drawn}{ch:List Addr}(I:Inv X pins σ H s)(u:Un (frs X.stack) ch H H' s.heap h')(hok:HOk X.prog X.w H' h')(hg:AllBare g')
 (hch:∀b∈ch,(b∈X.ex\/X.s₀.heap.objs.size<=b)/\b≠X.env.locals/\(∀x c,X.env.cells.lookup x=some c->c≠b)/\∀p∈X.pn++pins,p.1≠b):
 Inv X pins σ H' { s with heap:=h',gens:=g',drawn:=d',toks:=t' }:=by
 obtain⟨m,⟨o,es,ep,ho,r⟩,_⟩:=id I.loc
 obtain⟨sl,hL⟩:=u.any ho I.free λz=>(hch _ z).2.1 rfl
 exact I.step (ch:=ch) hch (λb o hL hb hc e n=>u.keep b o e n (λz=>(D_.mp (I.stkSub b z)).elim hL hb) hc) (λb o _ _ hc e n=>u.any e n hc) (λb o hc e n=>u.free b o e n hc) (λb o hc e=>u.there b o e hc) u.tups u.frzs u.tbls (λm' hm=>by
  obtain⟨o',es',ep',ho',r'⟩:=hm
  rw[ho] at ho';cases ho'
  exact⟨_,es',ep',hL,r'⟩) hok hg
def Inv.turned{t':Nat}{it:Addr}(I:Inv X pins σ H s)(k:∀b o,b≠it->s.heap.get? b=some o->h'.get? b=some o)(hn:H it=none)(hL:it≠X.env.locals)
 (h1:it∈X.ex\/X.s₀.heap.objs.size<=it) (h2:∀x c,X.env.cells.lookup x=some c->c≠it) (h3:∀p∈X.pn++pins,p.1≠it):Inv X pins σ H { s with heap:=h',toks:=t' }:=by
 have nit:∀b u,H b=some u->b≠it:=λb u e z=>by rw[z,hn] at e;cases e
 refine I.step (g':=s.gens) (d':=s.drawn) (ch:=[it]) (λb hb=>?_) (λb o _ _ hc e _=>k b o (λz=>hc (by simp [z])) e) (λb o _ _ hc e _=>⟨o.slots,k b o (λz=>hc (by simp [z])) e⟩) (λ_ _ _ _ n=>n)
  (λb o hc e=>⟨o,k b o (λz=>hc (by simp [z])) e⟩) (λ_ _ e=>e) (λ_ _ _ e=>e) (λb ps e=>⟨#[],by rw[e];simp⟩) (λm hm=>?_) (λb u e=>?_) I.bare
 ·have e:b=it:=by simpa using hb
  subst e
  exact⟨h1,hL,h2,h3⟩
 ·obtain⟨o,es,ep,ho,r⟩:=hm
  exact⟨o,es,ep,k _ o (Ne.symm hL) ho,r⟩
 ·refine (I.hok b u e).stay (λc v hc q=>k c v ?_ q) (λ_ q=>q) λ_ _ q=>q
  rcases hc with z |z
  ·rw[z];exact nit b u e
  ·exact nit c _ z
def Inv.tok(I:Inv X pins σ H s)(t:Nat):Inv X pins σ H { s with toks:=t }:=I.un (h':=s.heap) (t':=t) Un.refl I.hok
def Inv.kept(I:Inv X pins σ H s)(k:∀b u,s.heap.get? b=some u->h'.get? b=some u):Inv X pins σ H { s with heap:=h',toks:=t' }:=I.un (Un.kept k) (I.hok.kept k)
def Inv.laid(I:Inv X pins σ H s)(k:∀b u,s.heap.get? b=some u->h'.get? b=some u)(hp:s.heap.objs.size<=a)(new:ObjOk X.prog X.w (upd H a o) h' a o):
 Inv X pins σ (upd H a o) { s with heap:=h',toks:=t' }:=I.un (Un.laid k hp (I.hok.fresh hp)) (I.hok.laid k hp new)
def Inv.write(I:Inv X pins σ H s)(mu:Mut (H x))(he:e=x\/H e=some (.own x))(k:∀b u,b≠e->s.heap.get? b=some u->h'.get? b=some u)(heo:∃u,h'.get? e=some u)
 (new:ObjOk X.prog X.w (upd H x o) h' x o):Inv X pins σ (upd H x o) { s with heap:=h',toks:=t' }:=I.un (Un.write mu he k heo) (I.hok.write mu he k heo new)
def Inv.pins_of(I:Inv X pins σ H s)(h:∀p∈pins',s.heap.get? p.1=some p.2/\H p.1=none/\p.1≠X.env.locals/\p.1∉X.fs/\∀v,p.2.data ≠ .cell v):Inv X pins' σ H s:=
 ⟨I.ok,I.os,I.bare,I.base,I.loc,I.cell,I.free,I.freeC,λp hp=>(OU.mp hp).elim (λz=>I.pin p (PU _ z)) (h p),I.hok,I.len⟩
def lG{N:List Str}(hN:N.Nodup){i j:Nat}{x:Str}(a:N[i]?=some x)(b:N[j]?=some x):i=j:=by
 obtain⟨h1,e1⟩:=k_.mp a
 obtain⟨h2,e2⟩:=k_.mp b
 exact (List.getElem_inj hN).mp (e1.trans e2.symm)
def oV(I:Inv X pins σ H s)(hN:X.N.Nodup)(hi:X.N[i]?=some x)(hx:Loc X.env.scope x)(r:RelV v u)
 (h:∀s',Inv X pins (σ.set i (some v)) H s'->(∃a,Heap.SameBut a s.heap s'.heap/\(a=X.env.locals\/X.env.cells.lookup x=some a))->Q () s') (hf:X.fn x=true\/X.env.scope.names.lookup x=some .local):wpAny M A (storeName X.env x u) Q E s:=by
 obtain⟨m,hn,hl⟩:=id I.loc
 have hcls:(X.env.scope.kind == .class || (X.env.scope.kind == .module&&X.env.locals != X.env.globals))=false:=by rw[I.ok.kind];rfl
 have hiσ:i<σ.length:=by rw[I.len];exact (k_.mp hi).1
 have cne:=I.cne
 have tracked:∀{a:Addr}{h':Heap},(∃o,s.heap.get? a=some o/\H a=none)->Heap.SameBut a s.heap h'->HOk X.prog X.w H h':=λ{a h'} ha hs b ob e=>by
  obtain⟨_,_,hfree⟩:=ha
  refine (I.hok b ob e).stay (λc w' hc q=>(hs.2 c ?_).trans q) (λ_ q=>q) λ_ _ q=>q
  rintro rfl
  rcases hc with rfl |hc
  ·rw[hfree] at e;cases e
  ·rw[hfree] at hc;cases hc
 rcases hx with hk |hk
 ·refine wpAny_storeName_local hk hn (λh' hn' hs=>?_) hcls
  obtain⟨oL,_,_,hoL,_⟩:=id hn
  refine h _ ⟨I.ok,I.os,I.bare,⟨λb o e n hb hx=>?_,λb o e n hb hx=>?_,I.base.free,λb o e hx=>?_,I.base.tups,I.base.frzs,I.base.tbls⟩,⟨_,hn',λj y v' e1 e2 e3=>?_⟩,λy c e=>?_,I.free,I.freeC,λp hp=>?_,tracked ⟨oL,hoL,I.free⟩ hs,by simpa using I.len⟩ ⟨_,hs,.inl rfl⟩
  ·exact (hs.2 b (L_ (Em (x_ e) I.ok.above))).trans (I.base.keep b o e n hb hx)
  ·obtain⟨sl,e1⟩:=I.base.slot b o e n hb hx
   exact⟨sl,(hs.2 b (L_ (Em (x_ e) I.ok.above))).trans e1⟩
  ·obtain⟨o',e1⟩:=I.base.there b o e hx
   exact⟨o',(hs.2 b (L_ (Em (x_ e) I.ok.above))).trans e1⟩
  ·by_cases hj:j=i
   ·subst hj
    rw[hi] at e1;cases e1
    rw[QC hiσ] at e2
    cases e2
    exact⟨u,r,.inl ⟨hk,by simp⟩⟩
   ·rw[PR (Ne.symm hj)] at e2
    obtain⟨u',r',q⟩:=hl j y v' e1 e2 e3
    refine⟨u',r',?_⟩
    rcases q with ⟨k,e⟩ |⟨k,c,e,z⟩
    ·refine .inl ⟨k,?_⟩
     have:y≠x:=λe=>hj (lG hN e1 (e ▸ hi))
     simp [this,e]
    ·exact .inr ⟨k,c,e,z.sameBut hs (cne y c e)⟩
  ·obtain⟨w',z⟩:=I.cell y c e
   exact⟨w',z.sameBut hs (cne y c e)⟩
  ·obtain⟨e,n,ne,nf,d⟩:=I.pin p hp
   exact⟨(hs.2 p.1 ne).trans e,n,ne,nf,d⟩
 ·have hfn:X.fn x=true:=by
   rcases hf with z |z
   ·exact z
   ·rw[z] at hk;cases hk
  obtain⟨c,hc⟩:=I.ok.has x (.inl hk)
  obtain⟨w',z⟩:=I.cell x c hc
  refine wpAny_storeName_cell I.ok.kind hk hc z (λh' hc' hs=>?_)
  obtain⟨oc,hoc,hocd⟩:=id z
  refine h { s with heap:=h' } ⟨I.ok,I.os,I.bare,⟨λb o e n hb hx=>?_,λb o e n hb hx=>?_,I.base.free,λb o e hx=>?_,I.base.tups,I.base.frzs,I.base.tbls⟩,⟨m,hn.sameBut hs (Ne.symm (cne x c hc)),λj y v' e1 e2 e3=>?_⟩,λy c' e=>?_,I.free,I.freeC,λp hp=>?_,tracked ⟨oc,hoc,I.freeC x c hc⟩ hs,by simpa using I.len⟩ ⟨c,hs,.inr hc⟩
  ·exact (hs.2 b (L_ (Em (x_ e) (I.ok.cab x c hfn hc)))).trans (I.base.keep b o e n hb hx)
  ·obtain⟨sl,e1⟩:=I.base.slot b o e n hb hx
   exact⟨sl,(hs.2 b (L_ (Em (x_ e) (I.ok.cab x c hfn hc)))).trans e1⟩
  ·obtain⟨o',e1⟩:=I.base.there b o e hx
   exact⟨o',(hs.2 b (L_ (Em (x_ e) (I.ok.cab x c hfn hc)))).trans e1⟩
  ·by_cases hj:j=i
   ·subst hj
    rw[hi] at e1;cases e1
    rw[QC hiσ] at e2
    cases e2
    exact⟨u,r,.inr ⟨.inl hk,c,hc,hc'⟩⟩
   ·rw[PR (Ne.symm hj)] at e2
    obtain⟨u',r',q⟩:=hl j y v' e1 e2 e3
    refine⟨u',r',?_⟩
    rcases q with q |⟨k,c',e,z'⟩
    ·exact .inl q
    ·refine .inr ⟨k,c',e,z'.sameBut hs ?_⟩
     rintro rfl
     exact hj (lG hN e1 (I.ok.inj _ _ _ e hc ▸ hi))
  ·by_cases hcc:c'=c
   ·subst hcc;exact⟨_,hc'⟩
   ·obtain⟨w2,z2⟩:=I.cell y c' e
    exact⟨w2,z2.sameBut hs hcc⟩
  ·obtain⟨e,n,ne,nf,d⟩:=I.pin p hp
   refine⟨(hs.2 p.1 ?_).trans e,n,ne,nf,d⟩
   intro q
   rw[q,hoc] at e
   have q':oc=p.2:=C_ e
   exact d w' (by rw[<- q'];exact hocd)
def fJ(I:Inv X pins σ H s)(hN:X.N.Nodup)(hi:X.N[i]?=some x)(hx:Loc X.env.scope x)(r:RelV v u)
 (h:∀s',Inv X pins (σ.set i (some v)) H s'->Q () s') (hf:X.fn x=true\/X.env.scope.names.lookup x=some .local):wpAny M A (storeName X.env x u) Q E s:=
 oV I hN hi hx r (λs' I' _=>h s' I') hf
def Inv.call'(I:Inv X pins σ H s)(ho:s'.os=s.os)(u:Un (frs X.stack) ch H H' s.heap s'.heap)(hok:HOk X.prog X.w H' s'.heap)(hg:AllBare s'.gens)
 (hch:∀b∈ch,(b∈X.ex\/X.s₀.heap.objs.size<=b)/\b≠X.env.locals/\(∀x c,X.env.cells.lookup x=some c->c≠b)/\∀p∈X.pn++pins,p.1≠b):Inv X pins σ H' s':=by
 obtain⟨h',g',d',t',o'⟩:=s'
 have e:o'=s.os:=ho
 subst e
 exact I.call (g':=g') (t':=t') (d':=d') u hok hg hch
end
abbrev XK:=Value->Option Addr->Hp->Prop
abbrev St:=List (Option V)
abbrev VK:=V->Hp->Prop
abbrev TE:=St->Hp->VK->Prop
abbrev TT:=St->Hp->(Bool->Hp->Prop)->Prop
abbrev TA:=St->Hp->(List V->Hp->Prop)->Prop
structure Ends where
 nx:St->Hp->Prop
 rt:VK
 bk:St->Hp->Prop:=λ_ _=>False
 ct:St->Hp->Prop:=λ_ _=>False
abbrev TS:=Ends->St->Hp->Prop
def EP(X:Cx)(pins:Rb)(σ:St)(Q:VK)(u:Value)(s':Shared):Prop:=∃v H',Inv X pins σ H' s'/\RelV v u/\Q v H'
def TP(X:Cx)(pins:Rb)(σ:St)(Q:Bool->Hp->Prop)(b:Bool)(s':Shared):Prop:=∃H',Inv X pins σ H' s'/\Q b H'
def AP(X:Cx)(pins:Rb)(σ:St)(Q:List V->Hp->Prop)(us:List Value)(s':Shared):Prop:=∃vs H',Inv X pins σ H' s'/\Vals vs us/\Q vs H'
def SP(X:Cx)(pins:Rb)(D:Ends)(f:Flow)(s':Shared):Prop:=
 match f with
 |.next=>∃σ' H',Inv X pins σ' H' s'/\D.nx σ' H'
 |.brk=>∃σ' H',Inv X pins σ' H' s'/\D.bk σ' H'
 |.cont=>∃σ' H',Inv X pins σ' H' s'/\D.ct σ' H'
 |.ret u=>∃v σ' H',Inv X pins σ' H' s'/\RelV v u/\D.rt v H'
def PE(X:Cx)(e:Expr)(t:TE):Prop:=
 ∀(pins:Rb) (s:Shared) (σ:St) (H:Hp) (Q:VK),Inv X pins σ H s->t σ H Q->wpAny (model X.prog X.w) X.A (eval e X.env) (EP X pins σ Q) X.xe s
def PT(X:Cx)(e:Expr)(t:TT):Prop:=
 ∀(pins:Rb) (s:Shared) (σ:St) (H:Hp) (Q:Bool->Hp->Prop),Inv X pins σ H s->t σ H Q->wpAny (model X.prog X.w) X.A (isTrue e X.env (eval e X.env)) (TP X pins σ Q) X.xe s
def PW(X:Cx)(e:Expr)(t:TT):Prop:=
 ∀(c_:Sem Value) (pins:Rb) (s:Shared) (σ:St) (H:Hp) (Q:Bool->Hp->Prop),Inv X pins σ H s->t σ H Q->wpAny (model X.prog X.w) X.A (isTrue e X.env c_) (TP X pins σ Q) X.xe s
def PW.pt(h:PW X e t):PT X e t:=h _
def PA(X:Cx)(es:List Expr)(t:TA):Prop:=
 ∀(pos:Pos) (pins:Rb) (s:Shared) (σ:St) (H:Hp) (Q:List V->Hp->Prop),Inv X pins σ H s->t σ H Q->wpAny (model X.prog X.w) X.A (spliced (backTo pos (starEach es X.env))) (AP X pins σ Q) X.xe s
def PS(X:Cx)(st:Stmt)(t:TS):Prop:=
 ∀(pins:Rb) (s:Shared) (σ:St) (H:Hp) (D:Ends),Inv X pins σ H s->t D σ H->wpAny (model X.prog X.w) X.A (exec st X.env) (SP X pins D) X.xe s
def PSs(X:Cx)(st:List Stmt)(t:TS):Prop:=
 ∀(pins:Rb) (s:Shared) (σ:St) (H:Hp) (D:Ends),Inv X pins σ H s->t D σ H->wpAny (model X.prog X.w) X.A (execs st X.env) (SP X pins D) X.xe s
def thn(h:wpAny M A t Q E s)(hQ:∀a s,Q a s->Q' a s):wpAny M A t Q' E s:=OL h hQ λ_ _ x=>x
section
variable{X:Cx}
def tVar(i:Nat):TE:=λσ H Q=>∃v,σ[i]?=some (some v)/\Q v H
def tC(v:V):TE:=λ_ H Q=>Q v H
def Kl(hN:X.N[i]?=some x)(hv:Vis X.env.scope x)(hd:(x==("__debug__" : Str))=false)(hcd:(x==("__classdict__" : Str))=false):PE X (.Name x pos) (tVar i):=by
 intro pins s σ H Q I h
 obtain⟨v,e,h⟩:=h
 obtain⟨m,hn,hl⟩:=I.loc
 obtain⟨u,r,l⟩:=hl i x v hN e hv
 have gl:EP X pins σ Q u s:=⟨v,H,I,r,h⟩
 rcases l with ⟨hk,hm⟩ |⟨hk,c,hc,hcell⟩
 ·exact wpAny_Name (wpAny_loadName_local I.ok.kind hk hn hm gl) hd
 ·rcases hk with hk |hk
  ·exact wpAny_Name (wpAny_loadName_cell I.ok.kind hk hc hcell gl) hd
  ·exact wpAny_Name (wpAny_loadName_free I.ok.kind hk hc hcell gl hcd) hd
def Kg{i j pos}:PE X (.Constant (.int i) j pos) (tC (.int i)):=λ_ _ _ H _ I h=>wpAny_Constant_int ⟨.int i,H,I.tok _,⟨_,rfl⟩,h⟩
def LX{b j pos}:PE X (.Constant (.bool b) j pos) (tC (.bl b)):=λ_ _ _ H _ I h=>Constant_bool ⟨.bl b,H,I,rfl,h⟩
def Il{j pos}:PE X (.Constant .none j pos) (tC .non):=λ_ _ _ H _ I h=>Constant_none ⟨.non,H,I,rfl,h⟩
def zp{x j pos}:PE X (.Constant (.str x) j pos) (tC (.str x)):=λ_ _ _ H _ I h=>Calls.Constant_str ⟨.str x,H,I.tok _,⟨_,rfl⟩,h⟩
def Gl(X:Cx)(x:Str):Prop:=X.env.kindOf x=some .globalImplicit
def nK(I:Inv X pins σ H s)(hg:Gl X x)(hm:X.mg x=some u)(h:Q u s)
 (hd:(x==("__debug__" : Str))=false):wpAny (model X.prog X.w) X.A (eval (.Name x pos) X.env) Q E s:=
 Qi I.ok.kind hg (Calls.loadGlobal_global (by rw[I.ok.glob];exact I.mod.glob.keeps I.bk) hm h) hd
def gR(I:Inv X pins σ H s)(hg:Gl X x)(hm:X.mg x=none)(hv:bootBuiltins x=some u)(h:Q u s)
 (hn:x ≠ "__name__":=by decide) (hd:(x==("__debug__" : Str))=false:=by decide):wpAny (model X.prog X.w) X.A (eval (.Name x pos) X.env) Q E s:=by
 obtain⟨mb,h1,h2⟩:=I.mod.blt
 exact Qi I.ok.kind hg (Calls.loadGlobal_builtin (by rw[I.ok.glob];exact I.mod.glob.keeps I.bk) hm (by rw[I.ok.blt];exact h1.keeps I.bk) ((h2 x hn).trans hv) h) hd
def vh(hg:Gl X x)(hm:X.mg x=some u)(r:RelV v u)(hd:(x==("__debug__" : Str))=false):PE X (.Name x pos) (tC v):=
 λ_ _ _ H _ I h=>nK I hg hm ⟨v,H,I,r,h⟩ hd
def DV(hg:Gl X x)(hm:X.mg x=none)(hv:bootBuiltins x=some u)(r:RelV v u)(hn:x ≠ "__name__")(hd:(x==("__debug__" : Str))=false):PE X (.Name x pos) (tC v):=
 λ_ _ _ H _ I h=>gR I hg hm hv ⟨v,H,I,r,h⟩ hn hd
variable{a b:Expr}{ta tb:TE}{pos:Pos}
def tB(t:TE):TT:=λσ H Q=>t σ H λx H1=>∃c,x=.bl c/\Q c H1
def Ii(h:PE X e t)(he:∀c_,isTrue e X.env c_=(do let v <- c_;standAt e.pos;holding [v] (truthy v))):PT X e (tB t):=by
 intro pins s σ H Q I hw
 refine isTrue_plain (thn (h pins s σ H _ I hw) λv s1 ⟨x,H1,I1,r1,q1⟩=>?_) (he _)
 obtain⟨d,rfl,q⟩:=q1
 cases r1
 exact PQ ⟨H1,I1,q⟩
variable{tA tB':TT}{cQ:List Expr}
def tAnd(t u:TT):TT:=λσ H Q=>t σ H λc H1=>if c=true then u σ H1 Q else Q false H1
def tOr(t u:TT):TT:=λσ H Q=>t σ H λc H1=>if c=true then Q true H1 else u σ H1 Q
def tNot(t:TT):TT:=λσ H Q=>t σ H λc H1=>Q (!c) H1
def EV(ha:PT X a tA):PW X (.BoolOp .And [a] pos) tA:=by
 intro wh pins s σ H Q I h
 refine isTrue_and (thn (ha pins s σ H Q I h) λc s1 e=>?_)
 cases c with
 |true=>exact isTrue_and_nil e
 |false=>exact e
def KD(ha:PT X a tA):PW X (.BoolOp .Or [a] pos) tA:=by
 intro wh pins s σ H Q I h
 refine isTrue_or (thn (ha pins s σ H Q I h) λc s1 e=>?_)
 cases c with
 |false=>exact isTrue_or_nil e
 |true=>exact e
def IA(ha:PT X a tA)(hb:PW X (.BoolOp .And (b::cQ) pos) tB'):PW X (.BoolOp .And (a::b::cQ) pos) (tAnd tA tB'):=by
 intro wh pins s σ H Q I h
 refine isTrue_and (thn (ha pins s σ H _ I h) λc s1 ⟨H1,I1,q1⟩=>?_)
 cases c with
 |true=>exact hb wh pins s1 σ H1 Q I1 q1
 |false=>exact⟨H1,I1,q1⟩
def Lu(ha:PT X a tA)(hb:PW X (.BoolOp .Or (b::cQ) pos) tB'):PW X (.BoolOp .Or (a::b::cQ) pos) (tOr tA tB'):=by
 intro wh pins s σ H Q I h
 refine isTrue_or (thn (ha pins s σ H _ I h) λc s1 ⟨H1,I1,q1⟩=>?_)
 cases c with
 |true=>exact⟨H1,I1,q1⟩
 |false=>exact hb wh pins s1 σ H1 Q I1 q1
def Kt(ha:PT X a tA):PT X (.UnaryOp .Not a pos) (tNot tA):=by
 intro pins s σ H Q I h
 exact isTrue_not (ha pins s σ H (λc H1=>Q (!c) H1) I h)
def LA(ta tb:TE):TE:=λσ H Q=>ta σ H λx H1=>∃c,x=.bl c/\if c=true then tb σ H1 Q else Q (.bl false) H1
def N3(ta:TE):TE:=λσ H Q=>ta σ H λx H1=>∃c,x=.bl c/\Q (.bl (!c)) H1
def J2{op}(h:PE X a t):PE X (.BoolOp op [a] pos) t:=λpins s σ H Q I hw=>BoolOp_one (h pins s σ H Q I hw)
def GL(ha:PE X a ta)(hb:PE X (.BoolOp .And (b::cQ) pos) tb):PE X (.BoolOp .And (a::b::cQ) pos) (LA ta tb):=by
 intro pins s σ H Q I h
 refine BoolOp_and (thn (ha pins s σ H _ I h) λv s1 ⟨x,H1,I1,r1,q1⟩=>?_)
 obtain⟨c,rfl,q1⟩:=q1
 cases r1
 refine PQ ?_
 cases c with
 |true=>exact hb pins s1 σ H1 Q I1 q1
 |false=>exact⟨.bl false,H1,I1,rfl,q1⟩
def Ig(ha:PE X a ta):PE X (.UnaryOp .Not a pos) (N3 ta):=by
 intro pins s σ H Q I h
 refine UnaryOp_ (thn (ha pins s σ H _ I h) λv s1 ⟨x,H1,I1,r1,q1⟩=>?_)
 obtain⟨c,rfl,q1⟩:=q1
 cases r1
 exact not_of (PQ ⟨.bl (!c),H1,I1,rfl,q1⟩)
def tIf(t:TT)(ta tb:TE):TE:=λσ H Q=>t σ H λc H1=>if c=true then ta σ H1 Q else tb σ H1 Q
def Bj(hc:PT X c tA)(ha:PE X a ta)(hb:PE X b tb):PE X (.IfExp c a b pos) (tIf tA ta tb):=by
 intro pins s σ H Q I h
 refine wpAny_IfExp (thn (hc pins s σ H _ I h) λd s1 ⟨H1,I1,q1⟩=>?_)
 cases d with
 |true=>exact ha pins s1 σ H1 Q I1 q1
 |false=>exact hb pins s1 σ H1 Q I1 q1
end
def SqL(K:W.Frag)(H:Hp)(a:Addr)(xs:List V):Prop:=
 Rd H a (.lst xs)\/
  ∃(o:Obj) (its:Array Value) (n:Nat),K.lookup a=some o/\o.cls=.type "list" /\ o.dict=none/\o.data=.seq its n/\its.size<=sizeLine/\Vals xs its.toList
def SqT(K:W.Frag)(H:Hp)(a:Addr)(xs:List V):Prop:=
 Rd H a (.tup xs)\/
  ∃(o:Obj) (its:Array Value) (n:Nat),K.lookup a=some o/\o.cls=.type "tuple" /\ o.data=.seq its n/\its.size<=sizeLine/\Vals xs its.toList
noncomputable def absV:Value->Option V
 |.none=>some .non
 |.bool b=>some (.bl b)
 |.int i _=>some (.int i)
 |.str x _=>some (.str x)
 |.bytes b _=>some (.byt b)
 |.float b _=>some (.flt b)
 |.ref a=>some (.ref a)
 |.type n=>some (.ty n)
 |_=>none
def RelV.abs(r:RelV x u):absV u=some x:=by
 cases x with
 |non=>cases r;rfl
 |bl _=>cases r;rfl
 |int _=>obtain⟨t,rfl⟩:=r;rfl
 |str _=>obtain⟨t,rfl⟩:=r;rfl
 |byt _=>obtain⟨t,rfl⟩:=r;rfl
 |flt _=>obtain⟨t,rfl⟩:=r;rfl
 |ref _=>cases r;rfl
 |ty _=>cases r;rfl
def RelV.inj(r:RelV x u)(q:RelV y u):x=y:=C_ (r.abs.symm.trans q.abs)
def Vals.inj(r:Vals xs us)(q:Vals ys us):xs=ys:=by
 induction r generalizing ys with
 |nil=>cases q;rfl
 |
  cons r t ih=>
  cases q with
  |cons q t'=>rw[r.inj q,ih t']
section
variable{X:Cx}{pins:Rb}{σ:St}{H:Hp}{s:Shared}{a:Addr}{xs ys:List V}
def SqL.of{K:W.Frag}(h:H a=some (.lst xs)):SqL K H a xs:=.inl (.inl h)
def SqT.of{K:W.Frag}(h:H a=some (.tup xs)):SqT K H a xs:=.inl (.inl h)
def Inv.list(I:Inv X pins σ H s)(h:SqL X.K H a xs):∃its:List Value,Vals xs its/\PlainL s.heap a its.toArray/\xs.length<=sizeLine:=by
 rcases h with h |⟨o,its,n,hk,hc,hd,hs,hz,r⟩
 ·obtain⟨z,its,n,r,e⟩:=h.ok I.hok
  exact⟨its,r,⟨_,n,e,rfl,rfl,rfl⟩,z⟩
 ·refine⟨its.toList,r,⟨o,n,I.kIn a o hk,hc,hd,by simpa using hs⟩,?_⟩
  have e:=r.length
  simp only[QS] at e
  omega
def Inv.tuple(I:Inv X pins σ H s)(h:SqT X.K H a xs):∃its:List Value,Vals xs its/\IsTup s.heap a its.toArray/\xs.length<=sizeLine:=by
 rcases h with h |⟨o,its,n,hk,hc,hs,hz,r⟩
 ·obtain⟨z,its,r,p⟩:=h.ok I.hok
  exact⟨its,r,p,z⟩
 ·refine⟨its.toList,r,⟨o,I.kIn a o hk,hc,n,by simpa using hs⟩,?_⟩
  have e:=r.length
  simp only[QS] at e
  omega
def Inv.list_inj(I:Inv X pins σ H s)(h:SqL X.K H a xs)(h':SqL X.K H a ys):xs=ys:=by
 obtain⟨its,r,⟨o,n,e,_,_,d⟩,_⟩:=I.list h
 obtain⟨its',r',⟨o',n',e',_,_,d'⟩,_⟩:=I.list h'
 rw[e] at e';cases e'
 rw[d] at d'
 injection d' with d1 _
 have:its=its':=by simpa using Pg Array.toList d1
 subst this
 exact r.inj r'
def Inv.tuple_inj(I:Inv X pins σ H s)(h:SqT X.K H a xs)(h':SqT X.K H a ys):xs=ys:=by
 obtain⟨its,r,⟨o,e,_,n,d⟩,_⟩:=I.tuple h
 obtain⟨its',r',⟨o',e',_,n',d'⟩,_⟩:=I.tuple h'
 rw[e] at e';cases e'
 rw[d] at d'
 injection d' with d1 _
 have:its=its':=by simpa using Pg Array.toList d1
 subst this
 exact r.inj r'
end
section
variable{X:Cx}{pins:Rb}{σ:St}{H:Hp}{s:Shared}{E:Rg}
end
section
variable{X:Cx}{st:Stmt}{cQ:List Stmt}{t u:TS}{e:Expr}{te:TE}{pos:Pos}
def N8:TS:=λD σ H=>D.nx σ H
def tSeq(t u:TS):TS:=λD σ H=>t { D with nx:=u D } σ H
def DM:PSs X [] N8:=λ_ _ σ H _ I h=>Qr ⟨σ,H,I,h⟩
def Bt(h1:PS X st t)(h2:PSs X cQ u):PSs X (st::cQ) (tSeq t u):=by
 intro pins s σ H D I h
 refine wpAny_execs_cons (thn (h1 pins s σ H { D with nx:=u D } I h) λf s1 q=>?_)
 cases f with
 |
  next=>
  obtain⟨σ',H',I',q⟩:=q
  exact h2 pins s1 σ' H' D I' q
 |ret v=>exact q
 |brk=>exact q
 |cont=>exact q
def ER(h1:PS X st t):PSs X [st] t:=by
 intro pins s σ H D I h
 refine wpAny_execs_cons (thn (h1 pins s σ H D I h) λf s1 q=>?_)
 cases f with
 |next=>exact Qr q
 |ret v=>exact q
 |brk=>exact q
 |cont=>exact q
def Inv.quiet(I:Inv X pins σ H s):interactive X.env=false:=by simp [interactive,I.ok.kind]
def LN(te:TE):TS:=λD σ H=>te σ H λ_ H1=>D.nx σ H1
def FD(he:PE X e te)(hs:swapsWith e none pos.line X.env=pure false):PS X (.Expr e pos) (LN te):=by
 intro pins s σ H D I h
 exact wpAny_Expr_any (thn (he pins s σ H _ I h) λv s1 ⟨x,H1,I1,r1,q1⟩=>⟨σ,H1,I1,q1⟩) I.quiet hs
def tRet(te:TE):TS:=λD σ H=>te σ H D.rt
def Kv(he:PE X e te):PS X (.Return (some e) pos) (tRet te):=by
 intro pins s σ H D I h
 exact wpAny_Return_some (thn (he pins s σ H _ I h) λv s1 ⟨x,H1,I1,r1,q1⟩=>⟨x,σ,H1,I1,r1,q1⟩)
def NR:TS:=λD _ H=>D.rt .non H
def Fv:PS X (.Return none pos) NR:=λ_ _ σ H _ I h=>wpAny_Return_none ⟨.non,σ,H,I,rfl,h⟩
def tIfS(c:TT)(t u:TS):TS:=λD σ H=>c σ H λb H1=>if b=true then t D σ H1 else u D σ H1
def LJ(hc:PT X c tc)(ha:PSs X a t)(hb:PSs X b u):PS X (.If c a b pos) (tIfS tc t u):=by
 intro pins s σ H D I h
 refine wpAny_If (thn (hc pins s σ H _ I h) λd s1 ⟨H1,I1,q1⟩=>?_)
 cases d with
 |true=>exact ha pins s1 σ H1 D I1 q1
 |false=>exact hb pins s1 σ H1 D I1 q1
end
abbrev TG:=V->St->Hp->(St->Hp->Prop)->Prop
abbrev TGs:=List V->St->Hp->(St->Hp->Prop)->Prop
def PG(X:Cx)(target:Expr)(t:TG):Prop:=
 ∀
  (pins:Rb) (s:Shared) (σ:St) (H:Hp) (v:V) (u:Value) (Q:St->Hp->Prop),Inv X pins σ H s->RelV v u->t v σ H Q->
  wpAny (model X.prog X.w) X.A (assign target X.env u) (λ_ s'=>∃σ' H',Inv X pins σ' H' s'/\Q σ' H') X.xe s
def PGs(X:Cx)(ts:List Expr)(t:TGs):Prop:=
 ∀
  (pins:Rb) (s:Shared) (σ:St) (H:Hp) (vs:List V) (us:List Value) (Q:St->Hp->Prop),Inv X pins σ H s->Vals vs us->t vs σ H Q->
  wpAny (model X.prog X.w) X.A (assignInOrder ((assignEach ts X.env).map (·.2)) us) (λ_ s'=>∃σ' H',Inv X pins σ' H' s'/\Q σ' H') X.xe s
abbrev vY:=V->V->V->Hp->(Hp->Prop)->Prop
def rQ(X:Cx)(t:vY):Prop:=
 ∀
  (pins:Rb) (s:Shared) (σ:St) (H:Hp) (o i v:V) (ov iv u:Value) (Q:Hp->Prop),Inv X pins σ H s->RelV o ov->RelV i iv->RelV v u->t o i v H Q->
  wpAny (model X.prog X.w) X.A (setItem ov iv u) (λ_ s'=>∃H',Inv X pins σ H' s'/\Q H') X.xe s
abbrev TIp:=V->V->Hp->VK->Prop
def PIp(X:Cx)(op:Operator)(t:TIp):Prop:=
 ∀
  (pins:Rb) (s:Shared) (σ:St) (H:Hp) (x y:V) (v u:Value) (Q:VK),Inv X pins σ H s->RelV x v->RelV y u->t x y H Q->
  wpAny (model X.prog X.w) X.A (inplaceOp op v u) (EP X pins σ Q) X.xe s
section
variable{X:Cx}{pos:Pos}
def mr(i:Nat):TG:=λv σ H Q=>Q (σ.set i (some v)) H
def Fd(hN:X.N.Nodup)(hi:X.N[i]?=some x)(hx:Loc X.env.scope x)(hf:X.fn x=true\/X.env.scope.names.lookup x=some .local):PG X (.Name x pos) (mr i):=by
 intro pins s σ H v u Q I r h
 exact wpAny_assign_Name (fJ I hN hi hx r (λs' I'=>⟨_,H,I',h⟩) hf)
def gNil:TGs:=λvs σ H Q=>vs=[]/\Q σ H
def NT(t:TG)(u:TGs):TGs:=λvs σ H Q=>∃v r,vs=v::r/\t v σ H λσ' H'=>u r σ' H' Q
def FA:PGs X [] gNil:=by
 intro pins s σ H vs us Q I r h
 obtain⟨e,h⟩:=h
 subst e
 cases r
 exact assignInOrder_nil ⟨σ,H,I,h⟩
def CD(h1:PG X e t)(h2:PGs X es u)
 (hs:(assignEach (e::es) X.env).map (·.2)=assign e X.env::(assignEach es X.env).map (·.2)):PGs X (e::es) (NT t u):=by
 intro pins s σ H vs us Q I r h
 obtain⟨v,vr,e1,h⟩:=h
 subst e1
 cases r with
 |
  cons r rr=>
  rw[hs]
  refine assignInOrder_cons (thn (h1 pins s σ H _ _ _ I r h) λ_ s1 ⟨σ1,H1,I1,q1⟩=>?_)
  exact h2 pins s1 σ1 H1 _ _ Q I1 rr q1
def gTup(K:W.Frag)(n:Nat)(t:TGs):TG:=λv σ H Q=>∃a xs,v=.ref a/\SqT K H a xs/\xs.length=n/\t xs σ H Q
def HN(hc:X.calm=true)(h:PGs X es t)
 (hn:(assignEach es X.env).length=n) (hst:(assignEach es X.env).findIdx? (·.1)=none):PG X (.Tuple es k pos) (gTup X.K n t):=by
 intro pins s σ H v u Q I r hw
 obtain⟨a,xs,e1,hq,hl,hw⟩:=hw
 subst e1
 cases r
 obtain⟨its,rv,ht,hz⟩:=I.tuple hq
 refine assign_Tuple_tuple (I.ok.hd hc) ht (by simp [hn,<- hl,rv.length]) hst λh' hx=>?_
 have I1:Inv X pins σ H { s with heap:=h' }:=I.kept (t':=s.toks) λb o e=>hx b o (L_ (x_ e)) e
 exact h pins _ σ H xs _ Q I1 (by simpa using rv) hw
def gSub(to ti:TE)(t:vY):TG:=λv σ H Q=>to σ H λo H1=>ti σ H1 λi H2=>t o i v H2 λH3=>Q σ H3
def Kz(ho:PE X o to)(hi:PE X i ti)(hs:rQ X t)
 (ha:∀v,assign (.Subscript o i pos) X.env v=(do
  let ov <- holding [v] (eval o X.env)
  let iv <- holding [v,ov] (eval i X.env)
  standAt pos
  holding [v,ov,iv] (setItem ov iv v)
  release [v,ov,iv] [])):PG X (.Subscript o i pos) (gSub to ti t):=by
 intro pins s σ H v u Q I r h
 rw[ha]
 refine i_ (Qm (thn (ho pins s σ H _ I h) λov s1 ⟨x,H1,I1,r1,q1⟩=>?_))
 refine i_ (Qm (thn (hi pins s1 σ H1 _ I1 q1) λiv s2 ⟨y,H2,I2,r2,q2⟩=>?_))
 refine i_ (QY (i_ (Qm (thn (hs pins s2 σ H2 x y v ov iv u _ I2 r1 r2 r q2) λ_ s3 ⟨H3,I3,q3⟩=>?_))))
 exact wpAny_release ⟨σ,H3,I3,q3⟩
def tF(te:TE)(g:TG):TS:=λD σ H=>te σ H λx H1=>g x σ H1 D.nx
def GI(he:PE X e te)(hg:PG X tg g)(hs:swapsWithSole [tg] e pos.line X.env=pure false)(hw:swappedStores [tg] e X.env=pure none)
 (h1:(assignEach [tg] X.env).map (·.2)=[assign tg X.env]):PS X (.Assign [tg] e pos) (tF te g):=by
 intro pins s σ H D I h
 refine wpAny_Assign_stores (thn (he pins s σ H _ I h) λv s1 ⟨x,H1,I1,r1,q1⟩=>?_) hs hw
 rw[h1]
 exact thn (hg pins s1 σ H1 x v _ I1 r1 q1) λ_ s2 q=>q
def JU(hN:X.N.Nodup)(hi:X.N[i]?=some x)(hx:Loc X.env.scope x)(he:PE X e te)(hs:swapsWith e (some (.Name x ii)) pos.line X.env=pure false)(hf:X.fn x=true\/X.env.scope.names.lookup x=some .local):
 PS X (.Assign [.Name x ii] e pos) (tF te (mr i)):=by
 intro pins s σ H D I h
 refine wpAny_Assign_Name (thn (he pins s σ H _ I h) λv s1 ⟨y,H1,I1,r1,q1⟩=>?_) hs
 exact fJ I1 hN hi hx r1 (λs2 I2=>⟨_,H1,I2,q1⟩) hf
def tPar(i j:Nat)(ta:TA):TS:=λD σ H=>ta σ H λvs H1=>∃v w,vs=[v,w]/\D.nx ((σ.set i (some v)).set j (some w)) H1
def Lk{kt k2 pt2}(hc:X.calm=true)(hN:X.N.Nodup)(hi:X.N[i]?=some x)(hj:X.N[j]?=some y)(im:i≠j)
 (hx:X.env.scope.names.lookup x=some .local) (hy:X.env.scope.names.lookup y=some .local) (ha:PA X [a,b] ta)
 (hw:swappedStores [.Tuple [.Name x px,.Name y py] kt pt] (.Tuple [a,b] k2 pt2) X.env=pure (some [x,y]))
 (hs:swapsWithSole [.Tuple [.Name x px,.Name y py] kt pt] (.Tuple [a,b] k2 pt2) pos.line X.env=pure false):
 PS X (.Assign [.Tuple [.Name x px,.Name y py] kt pt] (.Tuple [a,b] k2 pt2) pos) (tPar i j ta):=by
 intro pins s σ H D I h
 rw[exec_Assign_arm]
 refine i_ (QY ?_)
 rw[hs]
 refine i_ (w_ ?_)
 rw[if_neg (by decide)]
 refine i_ (Tuple_ (thn (ha _ pins s σ H _ I h) λus s1 ⟨vs,H1,I1,r1,q1⟩=>?_))
 obtain⟨v,w,e1,q1⟩:=q1
 subst e1
 obtain⟨u1,u2,rfl,rv,rw'⟩:∃u1 u2,us=[u1,u2]/\RelV v u1/\RelV w u2:=by
  cases r1 with
  |
   cons p q=>
   cases q with
   |
    cons p' q'=>
    cases q'
    exact⟨_,_,rfl,p,p'⟩
 refine O_ ?_ (by show 2<=sizeLine;decide)
 have I2:Inv X pins σ H1 { s1 with heap:=s1.heap.push { cls:=.type "tuple",data:=.seq [u1,u2].toArray } }:=I1.kept (t':=s1.toks) λb o e=>t_ _ e
 rw[hw]
 refine i_ (w_ ?_)
 show wpAny (model X.prog X.w) X.A (do rule "assign.swapped-stores";let items <- unpackItems (.ref s1.heap.objs.size) 2 none;assignInOrder [λv=>bindName X.env y v,λv=>bindName X.env x v] items.reverse;pure Flow.next) _ _ _
 refine i_ (wpAny_rule (i_ (unpackItems_tuple (items:=#[u1,u2]) (I.ok.hd hc) (IsTup.new s1.heap _) λh' hx'=>?_)))
 have I3:=I2.kept (h':=h') (t':=s1.toks) λb o e=>hx' b o (L_ (x_ e)) e
 show wpAny _ _ (assignInOrder [λv=>bindName X.env y v,λv=>bindName X.env x v] [u2,u1] >>= λ_=>pure Flow.next) _ _ _
 refine i_ (assignInOrder_cons (wpAny_bindName (fJ I3 hN hj (.inl hy) rw' (λs2 I4=>?_) (.inr hy))))
 refine assignInOrder_cons (wpAny_bindName (fJ I4 hN hi (.inl hx) rv (λs3 I5=>assignInOrder_nil (w_ ?_)) (.inr hx)))
 rw[List.set_comm _ _ (Ne.symm im)] at I5
 exact⟨_,H1,I5,q1⟩
def tAug(i:Nat)(te:TE)(ti:TIp):TS:=λD σ H=>∃x,σ[i]?=some (some x)/\te σ H λy H1=>ti x y H1 λz H2=>D.nx (σ.set i (some z)) H2
def JG(hN:X.N.Nodup)(hi:X.N[i]?=some x)(hx:Loc X.env.scope x)(he:PE X e te)(ho:PIp X op ti)(hf:X.fn x=true\/X.env.scope.names.lookup x=some .local):
 PS X (.AugAssign (.Name x ii) op e pos) (tAug i te ti):=by
 intro pins s σ H D I h
 obtain⟨v,e1,h⟩:=h
 obtain⟨m,hn,hl⟩:=I.loc
 have vis:Vis X.env.scope x:=by rcases hx with k |k;exact .inl k;exact .inr (.inl k)
 obtain⟨u,r,l⟩:=hl i x v hi e1 vis
 refine wpAny_AugAssign_Name ?_
 have go:wpAny (model X.prog X.w) X.A (eval e X.env) (λw s₂=>wpAny (model X.prog X.w) X.A (inplaceOp op u w) (λr s₃=>wpAny (model X.prog X.w) X.A (storeName X.env x r) (λ_=>SP X pins D .next) X.xe s₃) X.xe s₂) X.xe s:=by
  refine thn (he pins s σ H _ I h) λw s1 ⟨y,H1,I1,r1,q1⟩=>?_
  refine thn (ho pins s1 σ H1 v y u w _ I1 r r1 q1) λz s2 ⟨zv,H2,I2,r2,q2⟩=>?_
  exact fJ I2 hN hi hx r2 (λs3 I3=>⟨_,H2,I3,q2⟩) hf
 rcases l with ⟨hk,hm⟩ |⟨hk,c,hc,hcell⟩
 ·exact wpAny_loadName_local I.ok.kind hk hn hm go
 ·rcases hk with hk |hk
  ·exact wpAny_loadName_cell I.ok.kind hk hc hcell go
  ·rcases hx with k |k
   ·have:X.env.scope.names.lookup x=some .free:=hk
    rw[k] at this;cases this
   ·have:X.env.scope.names.lookup x=some .free:=hk
    rw[k] at this;cases this
def ipI(f:Int->Int->Int):TIp:=λx y H Q=>∃i j,x=.int i/\y=.int j/\Q (.int (f i j)) H
def GX:PIp X .Add (ipI λi j=>i+j):=by
 intro pins s σ H x y v u Q I r1 r2 h
 obtain⟨i,j,e1,e2,q⟩:=h
 subst e1;subst e2
 obtain⟨t,rfl⟩:=r1
 obtain⟨t',rfl⟩:=r2
 exact iadd_int ⟨.int _,H,I.tok _,⟨_,rfl⟩,q⟩
end
section
variable{X:Cx}{pos:Pos}
def GO(c:TT)(tb:TS):TS:=λD σ H=>∃W:Nat->St->Hp->Prop,(∃m,W m σ H)/\∀m σ H,W m σ H->
 c σ H λb H1=>if b=true then ∃N:St->Hp->Prop,(∀σ' H',N σ' H'->∃m',m'<m/\W m' σ' H')/\tb { D with nx:=N,ct:=N,bk:=D.nx } σ H1 else D.nx σ H1
def Bs(hp:PassesOwn (model X.prog X.w) X.A X.env X.xe)(hc:PT X c tc)(hb:PSs X body tb):PS X (.While c body [] pos) (GO tc tb):=by
 intro pins s σ H D I h
 obtain⟨W,⟨m0,w0⟩,turn⟩:=h
 refine wpAny_While (codeAny_whileLoop (λn s'=>∃σ' H',Inv X pins σ' H' s'/\W n σ' H') ?_ m0 ⟨σ,H,I,w0⟩)
 rintro n s1 ⟨σ1,H1,I1,w1⟩
 refine PL hp (thn (hc pins s1 σ1 H1 _ I1 (turn n σ1 H1 w1)) λb s2 ⟨H2,I2,q2⟩=>?_)
 cases b with
 |
  true=>
  obtain⟨N,hN,q2⟩:=q2
  rw[if_pos rfl]
  refine PL hp (thn (hb pins s2 σ1 H2 _ I2 q2) λf s3 q3=>?_)
  cases f with
  |
   next=>
   obtain⟨σ3,H3,I3,n3⟩:=q3
   obtain⟨m',hm,w3⟩:=hN σ3 H3 n3
   exact⟨m',hm,σ3,H3,I3,w3⟩
  |
   cont=>
   obtain⟨σ3,H3,I3,n3⟩:=q3
   obtain⟨m',hm,w3⟩:=hN σ3 H3 n3
   exact⟨m',hm,σ3,H3,I3,w3⟩
  |brk=>exact q3
  |ret v=>exact q3
 |
  false=>
  rw[if_neg s_]
  exact Qr ⟨σ1,H2,I2,q2⟩
end
structure It where
 go:Nat->Hp->Prop
 yld:Nat->Hp->V->Hp->Prop
 stop:Nat->Hp->Prop
def FpOk(X:Cx)(pins:Rb)(H:Hp)(b:Addr):Prop:=
 H b=none/\b≠X.env.locals/\b∉X.fs/\(b∈X.ex\/X.s₀.heap.objs.size<=b)/\(∀x c,X.env.cells.lookup x=some c->c≠b)/\∀p∈X.pn++pins,p.1≠b
def Inv.fpOk(I:Inv X pins σ H s)(hb:s.heap.objs.size<=b)(hn:H' b=none):FpOk X pins H' b:=by
 refine⟨hn,Qv (Em I.lt hb),I.nofs hb,.inr (F_ I.sz hb),λx c e z=>?_,λp hp z=>?_⟩
 ·obtain⟨v,q⟩:=I.cell x c e
  exact absurd (Em q.lt (by rw[z];exact hb)) (O1 _)
 ·exact absurd (Em (x_ (I.pin p hp).1) (by rw[z];exact hb)) (O1 _)
structure Turn(P:Program)(w:World)(K:W.Frag)(tg:Expr)(J:It)(fp:List Addr)(it:Addr)(tn:Nat->Heap->Prop):Prop where
 mem:it∈fp
 obj:∀i h,tn i h->∀b∈fp,∃o,h.get? b=some o/\∀v,o.data ≠ .cell v
 keep:∀i h h',tn i h->(∀b∈fp,∀o,h.get? b=some o->h'.get? b=some o)->tn i h'
 item:∀(X:Cx),X.prog=P->X.w=w->X.K=K->X.calm=true->∀(i:Nat) (pins:Rb) (s:Shared) (σ:St) (H:Hp) (E:Rg),Inv X pins σ H s->(∀b∈fp,FpOk X pins H b)->tn i s.heap->J.go i H->
  wpAny (model P w) X.A (pyNext (.ref it)) (λr s1=>∃u,r=some u/\
   wpAny (model P w) X.A (letOwnedTupleGo tg (.ref it) u) (λ_ s2=>∃x H',Inv X pins σ H' s2/\RelV x u/\J.yld i H x H'/\tn (i+1) s2.heap/\∀b∈fp,H' b=none) E s1) E s
 done:∀(X:Cx),X.prog=P->X.w=w->X.K=K->X.calm=true->∀(i:Nat) (pins:Rb) (s:Shared) (σ:St) (H:Hp) (E:Rg),Inv X pins σ H s->(∀b∈fp,FpOk X pins H b)->tn i s.heap->J.stop i H->
  wpAny (model P w) X.A (pyNext (.ref it)) (λr s1=>r=none/\Inv X pins σ H s1) E s
 self:∀(A:Around) (i:Nat) (s:Shared) (Q:Rg) (E:Rg),tn i s.heap->Q (.ref it) s->wpAny (model P w) A (pyIter (.ref it)) Q E s
abbrev TI:=St->Hp->(It->Hp->Prop)->Prop
def PIE(X:Cx)(pins:Rb)(σ:St)(tg:Expr)(R:It->Hp->Prop)(itv:Value)(s2:Shared):Prop:=
 ∃(it:Addr) (fp:List Addr) (tn:Nat->Heap->Prop) (J:It) (H':Hp),itv=.ref it/\Inv X pins σ H' s2/\Turn X.prog X.w X.K tg J fp it tn/\tn 0 s2.heap/\(∀b∈fp,FpOk X pins H' b)/\R J H'
def PI(X:Cx)(tg am:Expr)(wi:TI):Prop:=
 ∀
  (pins:Rb) (s:Shared) (σ:St) (H:Hp) (R:It->Hp->Prop),Inv X pins σ H s->wi σ H R->
  wpAny (model X.prog X.w) X.A (eval am X.env) (λv s1=>wpAny (model X.prog X.w) X.A (pyIter v) (PIE X pins σ tg R) X.xe s1) X.xe s
def wD(ho:s.heap.get? it=some o)(hc:o.cls=.type n)(hd:o.data=.fields vs)
 (hn:["enumerate", "zip", "dict_itemiterator", "dict_reverseitemiterator", "odict_iterator", "itertools.zip_longest", "itertools.pairwise"].contains n=false) (hQ:Q () s):wpAny M A (letOwnedTupleGo tg (.ref it) u) Q E s:=by
 unfold letOwnedTupleGo
 cases tg
  <;> first
  |exact w_ hQ
  |(cases u <;> first
   |exact w_ hQ
   |(
    refine i_ (wpAny_load ho ?_)
    rw[hc,hd]
    show wpAny M A (if (["enumerate", "zip", "dict_itemiterator", "dict_reverseitemiterator", "odict_iterator", "itertools.zip_longest", "itertools.pairwise"].contains n&&vs[0]?==some (rawInt _))=true then _ else _) Q E s
    rw[if_neg (by intro h;rw[hn,Bool.false_and] at h;cases h)]
    exact w_ hQ))
def Itl(K:W.Frag)(a:Addr):It:=
 ⟨λi H=>∃xs x,SqL K H a xs/\xs[i]?=some x,λi H x H'=>H'=H/\∀xs,SqL K H a xs->xs[i]?=some x,λi H=>∃xs,SqL K H a xs/\xs.length<=i⟩
def Itt(K:W.Frag)(a:Addr):It:=
 ⟨λi H=>∃xs x,SqT K H a xs/\xs[i]?=some x,λi H x H'=>H'=H/\∀xs,SqT K H a xs->xs[i]?=some x,λi H=>∃xs,SqT K H a xs/\xs.length<=i⟩
def Itr(lo:Int)(n:Nat):It:=⟨λi _=>i<n,λi H x H'=>H'=H/\x=.int (lo+i),λi _=>n<=i⟩
def xQ{P:Program}{w:World}{K:W.Frag}{tg:Expr}(a it:Addr):Turn P w K tg (Itl K a) [it] it (λi h=>h.IsListIter it a i) where
 mem:=by simp
 obj:=λi h st b hb=>by
  have e:b=it:=by simpa using hb
  subst e
  obtain⟨o,e,c,d⟩:=st
  exact⟨o,e,λv z=>by rw[d] at z;cases z⟩
 keep:=λi h h' st k=>st.at λo e=>k it (by simp) o e
 item:=by
  intro X hP hw hK hc i pins s σ H E I hf st hg
  subst hP hw hK
  obtain⟨xs,x,hq,hx⟩:=hg
  obtain⟨its,rv,p,hz⟩:=I.list hq
  obtain⟨u,hu,ru⟩:=rv.get hx
  obtain⟨f0,f1,f2,f3,f4,f5⟩:=hf it (by simp)
  refine wpAny_pyNext_list_item st p.isList (x:=u) (by simpa using hu) λh' st' sb=>?_
  have I1:Inv X pins σ H { s with heap:=h' }:=I.turned (t':=s.toks) (λb o hb e=>(sb.2 b hb).trans e) f0 f1 f3 f4 f5
  obtain⟨o,e,c,d⟩:=id st'
  exact⟨u,rfl,wD (s:={ s with heap:=h' }) e c d (by decide) ⟨x,H,I1,ru,⟨rfl,λys hy=>by rw[I.list_inj hy hq];exact hx⟩,st',λb hb=>(hf b hb).1⟩⟩
 done:=by
  intro X hP hw hK hc i pins s σ H E I hf st hg
  subst hP hw hK
  obtain⟨xs,hq,hx⟩:=hg
  obtain⟨its,rv,p,hz⟩:=I.list hq
  obtain⟨f0,f1,f2,f3,f4,f5⟩:=hf it (by simp)
  have hl:=rv.length
  exact wpAny_pyNext_list_end (I.ok.hd hc) st p.isList (by simp;omega) λh' eb=>⟨rfl,I.turned (t':=s.toks) (λb o hb e=>eb b o hb e) f0 f1 f3 f4 f5⟩
 self:=λ_ _ _ _ _ st h=>wpAny_pyIter_listiter st h
def xt{P:Program}{w:World}{K:W.Frag}{tg:Expr}(a it:Addr):Turn P w K tg (Itt K a) [it] it (λi h=>h.IsTupleIter it a i) where
 mem:=by simp
 obj:=λi h st b hb=>by
  have e:b=it:=by simpa using hb
  subst e
  obtain⟨o,e,c,d⟩:=st
  exact⟨o,e,λv z=>by rw[d] at z;cases z⟩
 keep:=λi h h' st k=>st.at λo e=>k it (by simp) o e
 item:=by
  intro X hP hw hK hc i pins s σ H E I hf st hg
  subst hP hw hK
  obtain⟨xs,x,hq,hx⟩:=hg
  obtain⟨its,rv,p,hz⟩:=I.tuple hq
  obtain⟨u,hu,ru⟩:=rv.get hx
  obtain⟨f0,f1,f2,f3,f4,f5⟩:=hf it (by simp)
  refine wpAny_pyNext_tuple_item st (show s.heap.IsTuple a its.toArray from p) (x:=u) (by simpa using hu) λh' st' sb=>?_
  have I1:Inv X pins σ H { s with heap:=h' }:=I.turned (t':=s.toks) (λb o hb e=>(sb.2 b hb).trans e) f0 f1 f3 f4 f5
  obtain⟨o,e,c,d⟩:=id st'
  exact⟨u,rfl,wD (s:={ s with heap:=h' }) e c d (by decide) ⟨x,H,I1,ru,⟨rfl,λys hy=>by rw[I.tuple_inj hy hq];exact hx⟩,st',λb hb=>(hf b hb).1⟩⟩
 done:=by
  intro X hP hw hK hc i pins s σ H E I hf st hg
  subst hP hw hK
  obtain⟨xs,hq,hx⟩:=hg
  obtain⟨its,rv,p,hz⟩:=I.tuple hq
  obtain⟨f0,f1,f2,f3,f4,f5⟩:=hf it (by simp)
  have hl:=rv.length
  exact wpAny_pyNext_tuple_end (I.ok.hd hc) st (show s.heap.IsTuple a its.toArray from p) (by simp;omega) λh' eb=>⟨rfl,I.turned (t':=s.toks) (λb o hb e=>eb b o hb e) f0 f1 f3 f4 f5⟩
 self:=λ_ _ _ _ _ st h=>wpAny_pyIter_tupleiter st h
def wC{P:Program}{w:World}{K:W.Frag}{tg:Expr}(it:Addr)(lo:Int)(n:Nat):Turn P w K tg (Itr lo n) [it] it (λi h=>IsRangeIter h it (lo+(i:Nat)*1) ((n:Int)-(i:Nat)) 1) where
 mem:=by simp
 obj
  := λi h st b hb=>by
  have e:b=it:=by simpa using hb
  subst e
  exact⟨_,st,λv z=>by
   have z':Data.fields _=Data.cell v:=z
   cases z'⟩
 keep:=λi h h' st k=>k it (by simp) _ st
 item:=by
  intro X hP hw hK hc i pins s σ H E I hf st hg
  subst hP hw hK
  obtain⟨f0,f1,f2,f3,f4,f5⟩:=hf it (by simp)
  have W:=Walks.range (prog:=X.prog) (w:=X.w) (I.ok.hd hc) it lo 1 n
  refine W.item i s _ _ hg st λv h' tk hv st' kk=>?_
  obtain⟨t,rfl⟩:=hv
  have I1:Inv X pins σ H { s with heap:=h',toks:=tk }:=I.turned (λb o hb e=>kk b o (by simpa using hb) e) f0 f1 f3 f4 f5
  refine⟨_,rfl,wD (s:={ s with heap:=h',toks:=tk }) (n:="range_iterator") st' rfl rfl (by decide) ⟨.int (lo+i),H,I1,⟨t,?_⟩,⟨rfl,rfl⟩,st',λb hb=>(hf b hb).1⟩⟩
  rw[Int.mul_one]
 done:=by
  intro X hP hw hK hc i pins s σ H E I hf st hg
  subst hP hw hK
  obtain⟨f0,f1,f2,f3,f4,f5⟩:=hf it (by simp)
  exact wpAny_pyNext_range_end (I.ok.hd hc) st (by have:n<=i:=hg;omega) λh' eb=>⟨rfl,I.turned (t':=s.toks) (λb o hb e=>eb b o hb e) f0 f1 f3 f4 f5⟩
 self:=λ_ _ _ _ _ st h=>wpAny_pyIter_rangeiter st h
section
variable{X:Cx}{tg:Expr}
def Cn{pins:Rb}{σ:St}{H:Hp}{s:Shared}{R:It->Hp->Prop}{E:Rg}{lo hi:Int}{t u v:Tok}{tk:Nat}(I:Inv X pins σ H s)(h1:-(2^62)<=lo)(h2:lo<2^62)(h3:-(2^62)<=hi)(h4:hi<2^62)
 (q:R (Itr lo (hi-lo).toNat) H):wpAny (model X.prog X.w) X.A (pyIter (.ref s.heap.objs.size)) (PIE X pins σ tg R) E { s with heap:=s.heap.push { cls:=.type "range",data:=.fields #[.int lo t,.int hi u,.int 1 v] },toks:=tk }:=by
 refine wpAny_pyIter_range (IsRange.new ..) (small_one h1 h2 h3 h4) ?_
 have I1:Inv X pins σ H { s with heap:=s.heap.push { cls:=.type "range",data:=.fields #[.int lo t,.int hi u,.int 1 v] },toks:=tk }:=I.kept λb o e=>t_ _ e
 refine⟨(s.heap.push { cls:=.type "range",data:=.fields #[.int lo t,.int hi u,.int 1 v] }).objs.size,[(s.heap.push { cls:=.type "range",data:=.fields #[.int lo t,.int hi u,.int 1 v] }).objs.size],_,_,H,rfl,
  I1.kept (t':=tk) λb o e=>t_ _ e,wC _ lo (hi-lo).toNat,?_,λb hb=>?_,q⟩
 ·have e1:lo+((0:Nat):Int)*1=lo:=by simp
  have e2:(((hi-lo).toNat:Nat):Int)-((0:Nat):Int)=Builtin.Range.rangeSize lo hi 1:=by rw[rangeSize_one];split <;> omega
  show IsRangeIter _ _ (lo+((0:Nat):Int)*1) ((((hi-lo).toNat:Nat):Int)-((0:Nat):Int)) 1
  rw[e1,e2]
  exact E_ _ rfl
 ·have e:b=(s.heap.push { cls:=.type "range",data:=.fields #[.int lo t,.int hi u,.int 1 v] }).objs.size:=by simpa using hb
  subst e
  exact I1.fpOk (m_ _) (I1.hok.fresh (m_ _))
def Mf(ta:TA):TI:=λσ H R=>ta σ H λvs H1=>∃j:Int,vs=[.int j]/\-(2^62)<=j/\j<2^62/\R (Itr 0 j.toNat) H1
def yp(hg:Gl X "range")(hm:X.mg "range"=none)(ha:PA X [a] ta)(hs:starEach [a] X.env=[(false,eval a X.env)]):PI X tg (.Call (.Name "range" p) [a] [] pos) (Mf ta):=by
 intro pins s σ H R I h
 refine Call_ (gR I hg hm boot_range (PD (thn (ha pos pins s σ H _ I h) λus s1 ⟨vs,H1,I1,r1,q1⟩=>?_) hs rfl))
 obtain⟨j,e,q1,q2,q⟩:=q1
 subst e
 cases r1 with
 |
  cons r rr=>
  cases rr
  obtain⟨t,rfl⟩:=r
  exact call_range_1 (Cn I1 (by omega) (by omega) q1 q2 (by simpa using q))
def tFor(wi:TI)(g:TG)(tb:TS):TS:=λD σ H=>wi σ H λJ H1=>∃W:Nat->Nat->St->Hp->Prop,(∃m,W 0 m σ H1)/\∀i m σ H,W i m σ H->
 (J.stop i H/\D.nx σ H)\/(J.go i H/\∃N:St->Hp->Prop,(∀σ' H',N σ' H'->∃m',m'<m/\W (i+1) m' σ' H')/\∀x H',J.yld i H x H'->g x σ H' λσ2 H2=>tb { D with nx:=N,ct:=N,bk:=D.nx } σ2 H2)
def jQ(fp:List Addr)(h:Heap):List (Addr×Obj):=fp.filterMap λb=>(h.get? b).map λo=>(b,o)
def gu(hb:b∈fp)(e:h.get? b=some o):(b,o)∈jQ fp h:=List.mem_filterMap.mpr ⟨b,hb,by rw[e];rfl⟩
def xZ(hp:p∈jQ fp h):p.1∈fp/\h.get? p.1=some p.2:=by
 obtain⟨b,hb,e⟩:=List.mem_filterMap.mp hp
 cases q:h.get? b with
 |none=>rw[q] at e;cases e
 |
  some o=>
  rw[q] at e
  have e':(b,o)=p:=C_ e
  subst e'
  exact⟨hb,q⟩
def Inv.pinned(I:Inv X pins σ H s)(hf:∀b∈fp,FpOk X pins H b)(ho:∀b∈fp,∃o,s.heap.get? b=some o/\∀v,o.data ≠ .cell v):Inv X (pins++jQ fp s.heap) σ H s:=
 I.pins_of λp hp=>(OU.mp hp).elim (λz=>I.pin p (OD _ z)) λz=>by
  obtain⟨hb,e⟩:=xZ z
  obtain⟨f0,f1,f2,_⟩:=hf p.1 hb
  obtain⟨o,e',d⟩:=ho p.1 hb
  rw[e] at e';cases e'
  exact⟨e,f0,f1,f2,d⟩
def Inv.unpinned(I:Inv X (pins++pl) σ H s):Inv X pins σ H s:=I.pins_of λp hp=>I.pin p (OD _ (PU _ hp))
def Li(hp:PassesOwn (model X.prog X.w) X.A X.env X.xe)(hc:X.calm=true)(hi:PI X tg am wi)(hg:PG X tg g)(hb:PSs X body tb)
 (hs:∀x,foldedSetIterable am X.env x=pure x):PS X (.For tg am body [] pos) (tFor wi g tb):=by
 intro pins s σ H D I h
 refine wpAny_For (thn (hi pins s σ H _ I h) λv s1 h1=>thn h1 λitv s2 h2=>?_) hs
 obtain⟨it,fp,tn,J,H2,e,I2,T,st2,f2,W,⟨m0,w0⟩,turn⟩:=h2
 subst e
 have stat:∀{H':Hp},(∀b∈fp,H' b=none)->∀b∈fp,FpOk X pins H' b:=λhn b hb=>⟨hn b hb,(f2 b hb).2⟩
 refine codeAny_forLoop_any (λn s'=>∃i σ' H',Inv X pins σ' H' s'/\tn i s'.heap/\(∀b∈fp,H' b=none)/\W i n σ' H') ?_ m0 ⟨0,σ,H2,I2,st2,λb hb=>(f2 b hb).1,w0⟩
 rintro n s3 ⟨i,σ3,H3,I3,st3,fr3,w3⟩
 rcases turn i n σ3 H3 w3 with ⟨stop,qn⟩ |⟨go,N,hN,step⟩
 ·refine PL hp (thn (T.done X rfl rfl rfl hc i pins s3 σ3 H3 X.xe I3 (stat fr3) st3 stop) λr s4 ⟨hr,I4⟩=>?_)
  subst hr
  exact Qr ⟨σ3,H3,I4,qn⟩
 ·refine PL hp (thn (T.item X rfl rfl rfl hc i pins s3 σ3 H3 X.xe I3 (stat fr3) st3 go) λr s4 ⟨u,hr,h4⟩=>?_)
  subst hr
  refine PL hp (thn h4 λ_ s5 ⟨x,H5,I5,r5,y5,st5,fr5⟩=>?_)
  have I5':=I5.pinned (stat fr5) (T.obj _ _ st5)
  refine PL hp (thn (hg _ s5 σ3 H5 x u _ I5' r5 (step x H5 y5)) λ_ s6 ⟨σ6,H6,I6,q6⟩=>?_)
  refine PL hp (thn (hb _ s6 σ6 H6 _ I6 q6) λf s7 q7=>?_)
  have again:∀{σ7:St}{H7:Hp},Inv X (pins++jQ fp s5.heap) σ7 H7 s7->N σ7 H7->∃m,m<n/\∃i σ' H',Inv X pins σ' H' s7/\tn i s7.heap/\(∀b∈fp,H' b=none)/\W i m σ' H':=λ{σ7 H7} I7 n7=>by
   obtain⟨m',hm,w7⟩:=hN σ7 H7 n7
   refine⟨m',hm,i+1,σ7,H7,I7.unpinned,T.keep _ _ _ st5 λb hb o e=>(I7.pin (b,o) (OD _ (OD _ (gu hb e)))).1,λb hb=>?_,w7⟩
   obtain⟨o,e,d⟩:=T.obj _ _ st5 b hb
   exact (I7.pin (b,o) (OD _ (OD _ (gu hb e)))).2.1
  cases f with
  |next=>obtain⟨σ7,H7,I7,n7⟩:=q7;exact again I7 n7
  |cont=>obtain⟨σ7,H7,I7,n7⟩:=q7;exact again I7 n7
  |brk=>obtain⟨σ7,H7,I7,q7⟩:=q7;exact⟨σ7,H7,I7.unpinned,q7⟩
  |ret v=>obtain⟨x7,σ7,H7,I7,r7,q7⟩:=q7;exact⟨x7,σ7,H7,I7.unpinned,r7,q7⟩
end
abbrev R2:=V->V->Hp->VK->Prop
def OpR(X:Cx)(f:Value->Value->Sem Value)(r:R2):Prop:=
 ∀
  (pins:Rb) (s:Shared) (σ:St) (H:Hp) (x y:V) (v u:Value) (Q:VK),Inv X pins σ H s->RelV x v->RelV y u->r x y H Q->
  wpAny (model X.prog X.w) X.A (f v u) (EP X pins σ Q) X.xe s
def UnR(X:Cx)(f:Value->Sem Value)(r:V->Hp->VK->Prop):Prop:=
 ∀
  (pins:Rb) (s:Shared) (σ:St) (H:Hp) (x:V) (v:Value) (Q:VK),Inv X pins σ H s->RelV x v->r x H Q->
  wpAny (model X.prog X.w) X.A (f v) (EP X pins σ Q) X.xe s
def CallR(X:Cx)(f:Value)(r:List V->Hp->VK->Prop):Prop:=
 ∀
  (pins:Rb) (s:Shared) (σ:St) (H:Hp) (xs:List V) (us:List Value) (Q:VK),Inv X pins σ H s->Vals xs us->r xs H Q->
  wpAny (model X.prog X.w) X.A (call f us) (EP X pins σ Q) X.xe s
def TruR(X:Cx)(r:V->Hp->(Bool->Hp->Prop)->Prop):Prop:=
 ∀
  (pins:Rb) (s:Shared) (σ:St) (H:Hp) (x:V) (v:Value) (Q:Bool->Hp->Prop),Inv X pins σ H s->RelV x v->r x H Q->
  wpAny (model X.prog X.w) X.A (truthy v) (TP X pins σ Q) X.xe s
def tOp(r:R2)(ta tb:TE):TE:=λσ H Q=>ta σ H λx H1=>tb σ H1 λy H2=>r x y H2 Q
def tUn(r:V->Hp->VK->Prop)(ta:TE):TE:=λσ H Q=>ta σ H λx H1=>r x H1 Q
def rI(C:Int->Int->Prop)(g:Int->Int->V):R2:=λx y H Q=>∃i j,x=.int i/\y=.int j/\C i j/\Q (g i j) H
def rI0(g:Int->Int->V):R2:=λx y H Q=>∃i j,x=.int i/\y=.int j/\Q (g i j) H
def rU(g:Int->V):V->Hp->VK->Prop:=λx H Q=>∃i,x=.int i/\Q (g i) H
section
variable{X:Cx}{a b c:Expr}{ta tb tc:TE}{pos:Pos}
def Ca(ha:PE X a ta)(hb:PE X b tb){pins:Rb}{s:Shared}{σ:St}{H:Hp}{R:V->V->Hp->Prop}(I:Inv X pins σ H s)
 (h:ta σ H λx H1=>tb σ H1 λy H2=>R x y H2) {Q:Rg}{f:Value->Value->Sem Value}
 (hf:∀v u s2 x y H2,Inv X pins σ H2 s2->RelV x v->RelV y u->R x y H2->wpAny (model X.prog X.w) X.A (f v u) Q X.xe s2):
 wpAny (model X.prog X.w) X.A (eval a X.env) (λv s₁=>wpAny (model X.prog X.w) X.A (eval b X.env) (λu s₂=>wpAny (model X.prog X.w) X.A (f v u) Q X.xe s₂) X.xe s₁) X.xe s:=by
 refine thn (ha pins s σ H _ I h) λv s1 ⟨x,H1,I1,r1,q1⟩=>?_
 refine thn (hb pins s1 σ H1 _ I1 q1) λu s2 ⟨y,H2,I2,r2,q2⟩=>?_
 exact hf v u s2 x y H2 I2 r1 r2 q2
def NG(ho:OpR X (binaryOp op) r)(ha:PE X a ta)(hb:PE X b tb):PE X (.BinOp a op b pos) (tOp r ta tb):=by
 intro pins s σ H Q I h
 exact wpAny_BinOp (Ca ha hb I h λv u s2 x y H2 I2 rx ry q=>ho pins s2 σ H2 x y v u Q I2 rx ry q)
def Nh(ho:UnR X (unaryOp op) r)(ha:PE X a ta):PE X (.UnaryOp op a pos) (tUn r ta):=by
 intro pins s σ H Q I h
 exact UnaryOp_ (thn (ha pins s σ H _ I h) λv s1 ⟨x,H1,I1,r1,q1⟩=>ho pins s1 σ H1 x v Q I1 r1 q1)
def opI{f:Value->Value->Sem Value}{C:Int->Int->Prop}{g:Int->Int->Int}
 (rule:∀(i j:Int) (t u:Tok) (s:Shared) (Q:Rg) (E:Rg),C i j->Q (.int (g i j) s.toks) { s with toks:=s.toks+1 }->wpAny (model X.prog X.w) X.A (f (.int i t) (.int j u)) Q E s):
 OpR X f (rI C λi j=>.int (g i j)):=by
 intro pins s σ H x y v u Q I rx ry h
 obtain⟨i,j,rfl,rfl,hc,q⟩:=h
 obtain⟨t,rfl⟩:=rx
 obtain⟨t',rfl⟩:=ry
 exact rule i j t t' s _ _ hc ⟨.int (g i j),H,I.tok _,⟨_,rfl⟩,q⟩
def opI0{f:Value->Value->Sem Value}{g:Int->Int->Int}
 (rule:∀(i j:Int) (t u:Tok) (s:Shared) (Q:Rg) (E:Rg),Q (.int (g i j) s.toks) { s with toks:=s.toks+1 }->wpAny (model X.prog X.w) X.A (f (.int i t) (.int j u)) Q E s):
 OpR X f (rI0 λi j=>.int (g i j)):=by
 intro pins s σ H x y v u Q I rx ry h
 obtain⟨i,j,rfl,rfl,q⟩:=h
 obtain⟨t,rfl⟩:=rx
 obtain⟨t',rfl⟩:=ry
 exact rule i j t t' s _ _ ⟨.int (g i j),H,I.tok _,⟨_,rfl⟩,q⟩
def wJ{f:Value->Value->Sem Value}{g:Int->Int->Bool}
 (rule:∀(i j:Int) (t u:Tok) (s:Shared) (Q:Rg) (E:Rg),Q (.bool (g i j)) s->wpAny (model X.prog X.w) X.A (f (.int i t) (.int j u)) Q E s):
 OpR X f (rI0 λi j=>.bl (g i j)):=by
 intro pins s σ H x y v u Q I rx ry h
 obtain⟨i,j,rfl,rfl,q⟩:=h
 obtain⟨t,rfl⟩:=rx
 obtain⟨t',rfl⟩:=ry
 exact rule i j t t' s _ _ ⟨.bl (g i j),H,I,rfl,q⟩
def gi(i j:Int):Prop:=0<=j/\j<=1000000/\i.natAbs<2^64
def CMul(i j:Int):Prop:=(-(2^64)<i/\i<2^64)\/(-(2^64)<j/\j<2^64)
def CMul.ok(h:CMul i j):IntMulOk i j:=by
 rcases h with ⟨h1,h2⟩ |⟨h1,h2⟩
 ·exact .of_left (intBits_le_64 h1 h2)
 ·exact .of_right (intBits_le_64 h1 h2)
def GQ:OpR X (binaryOp .Add) (rI0 λi j=>.int (i+j)):=opI0 λ_ _ _ _ _ _ _ q=>add_int q
def JY:OpR X (binaryOp .Sub) (rI0 λi j=>.int (i-j)):=opI0 λ_ _ _ _ _ _ _ q=>sub_int q
def Jq:OpR X (binaryOp .Mult) (rI CMul λi j=>.int (i*j)):=opI λ_ _ _ _ _ _ _ hc q=>mul_int q hc.ok
def DP:OpR X (binaryOp .Mod) (rI (λ_ j=>j≠0) λi j=>.int (i.fmod j)):=opI λ_ _ _ _ _ _ _ hc q=>mod_int' hc q
def KR:OpR X (binaryOp .Pow) (rI gi λi j=>.int (i^j.toNat)):=opI λ_ _ _ _ _ _ _ hc q=>pow_int_small hc.1 hc.2.1 hc.2.2 q
def Kp:OpR X (binaryOp .LShift) (rI gi λi j=>.int (i*2^j.toNat)):=opI λ_ _ _ _ _ _ _ hc q=>lshift_int_small hc.1 hc.2.1 hc.2.2 q
def unI{f:Value->Sem Value}{g:Int->Int}
 (rule:∀(i:Int) (t:Tok) (s:Shared) (Q:Rg) (E:Rg),Q (.int (g i) s.toks) { s with toks:=s.toks+1 }->wpAny (model X.prog X.w) X.A (f (.int i t)) Q E s):
 UnR X f (rU λi=>.int (g i)):=by
 intro pins s σ H x v Q I rx h
 obtain⟨i,rfl,q⟩:=h
 obtain⟨t,rfl⟩:=rx
 exact rule i t s _ _ ⟨.int (g i),H,I.tok _,⟨_,rfl⟩,q⟩
def Hm:UnR X (unaryOp .USub) (rU λi=>.int (-i)):=unI λ_ _ _ _ _ q=>neg_int q
end
section
variable{X:Cx}{a b c:Expr}{ta tb tc:TE}{pos:Pos}
def lQ(I:Inv X pins σ H s)(q:Q (.bl k) H)(e:k=k'):EP X pins σ Q (.bool k') s:=by
 subst e
 exact⟨.bl k,H,I,rfl,q⟩
def C3:OpR X (compareOp .Lt) (rI0 λi j=>.bl (decide (i<j))):=wJ λ_ _ _ _ _ _ _ q=>lt_int q
def Lz:OpR X (compareOp .LtE) (rI0 λi j=>.bl (decide (i<=j))):=wJ λ_ _ _ _ _ _ _ q=>le_int q
def Dw:OpR X (compareOp .Gt) (rI0 λi j=>.bl (decide (j<i))):=wJ λ_ _ _ _ _ _ _ q=>gt_int q
def C0:OpR X (compareOp .GtE) (rI0 λi j=>.bl (decide (j<=i))):=wJ λ_ _ _ _ _ _ _ q=>ge_int q
def HP:OpR X (compareOp .Is) (λx y H Q=>y=.non/\Q (.bl (decide (x=.non))) H):=by
 intro pins s σ H x y v u Q I rx ry h
 obtain⟨rfl,q⟩:=h
 cases ry
 refine is_none_gen (lQ I q ?_)
 cases x <;> first
  |(cases rx;rfl)
  |(obtain⟨t,rfl⟩:=rx;rfl)
def FP:OpR X (compareOp .IsNot) (λx y H Q=>y=.non/\Q (.bl (!decide (x=.non))) H):=by
 intro pins s σ H x y v u Q I rx ry h
 obtain⟨rfl,q⟩:=h
 cases ry
 refine isnot_none_gen (lQ I q ?_)
 cases x <;> first
  |(cases rx;rfl)
  |(obtain⟨t,rfl⟩:=rx;rfl)
def OpR.or(h:OpR X f r)(h':OpR X f r'):OpR X f (λx y H Q=>r x y H Q\/r' x y H Q):=by
 intro pins s σ H x y v u Q I rx ry q
 rcases q with q |q
 ·exact h pins s σ H x y v u Q I rx ry q
 ·exact h' pins s σ H x y v u Q I rx ry q
def yo(b:Expr)(h:op ≠ .In:=by decide)(h2:op ≠ .NotIn:=by decide):behindInMarks op b=false:=by
 have e1:(op==CmpOp.In)=false:=by cases op <;> first |rfl |exact absurd rfl h
 have e2:(op==CmpOp.NotIn)=false:=by cases op <;> first |rfl |exact absurd rfl h2
 cases b <;> simp [behindInMarks,e1,e2]
def FV(ho:OpR X (compareOp op) r)(ha:PE X a ta)(hb:PE X b tb)(hm:behindInMarks op b=false):PE X (.Compare a [op] [b] pos) (tOp r ta tb):=by
 intro pins s σ H Q I h
 exact wpAny_Compare1 (Ca ha hb I h λv u s2 x y H2 I2 rx ry q=>ho pins s2 σ H2 x y v u Q I2 rx ry q) hm
def MY(t:TE):TT:=λσ H Q=>t σ H λx H'=>∃k,x=.bl k/\Q k H'
def Ei(ho:OpR X (compareOp op) r)(ha:PE X a ta)(hb:PE X b tb)(hm:behindInMarks op b=false):PT X (.Compare a [op] [b] pos) (MY (tOp r ta tb)):=by
 intro pins s σ H Q I h
 refine wpAny_isTrue_Compare1 (thn (ha pins s σ H _ I h) λv s1 ⟨x,H1,I1,r1,q1⟩=>thn (hb pins s1 σ H1 _ I1 q1) λu s2 ⟨y,H2,I2,r2,q2⟩=>
  thn (ho pins s2 σ H2 x y v u _ I2 r1 r2 q2) λc s3 ⟨z,H3,I3,r3,k,e,q3⟩=>?_) hm
 subst e
 cases r3
 exact PQ ⟨H3,I3,q3⟩
def zS(K:W.Frag)(x:V)(H:Hp)(k:Bool):Prop:=
 match x with
 |.non=>k=false
 |.bl b=>k=b
 |.int i=>k=(i != 0)
 |.str y=>y.length<=sizeLine/\k=((y.length:Int) != 0)
 |.byt y=>y.size<=sizeLine/\k=((y.size:Int) != 0)
 |.ref p=>(∃xs,SqL K H p xs/\k=!xs.isEmpty)\/(∃xs,SqT K H p xs/\k=!xs.isEmpty)\/∃kvs,H p=some (.dK kvs)/\k=!kvs.isEmpty
 |_=>False
def v8(r:KV kvs vs):(!vs.isEmpty)=!kvs.isEmpty:=by
 cases r <;> rfl
def nh(r:Vals xs its):(!its.toArray.isEmpty)=!xs.isEmpty:=by
 cases r <;> simp
def iS:(sizeLine:Nat)<2^63:=by rw[sizeLine_eq];decide
def KH:TruR X (λx H Q=>∃k,zS X.K x H k/\Q k H):=by
 intro pins s σ H x v Q I rx h
 obtain⟨k,e,q⟩:=h
 have hl:=iS
 have hs:sizeLine=16777216:=sizeLine_eq
 cases x with
 |
  non=>
  cases rx
  have e':k=false:=e
  subst e'
  exact truthy_none ⟨H,I,q⟩
 |
  bl b=>
  cases rx
  have e':k=b:=e
  subst e'
  exact PQ ⟨H,I,q⟩
 |
  int i=>
  obtain⟨t,rfl⟩:=rx
  have e':k=(i != 0):=e
  subst e'
  exact PySem.P.truthy_int ⟨H,I,q⟩
 |
  str y=>
  obtain⟨t,rfl⟩:=rx
  obtain⟨hy,e'⟩:y.length<=sizeLine/\k=((y.length:Int) != 0):=e
  subst e'
  exact PySem.P.truthy_str (by omega) ⟨H,I.tok _,q⟩
 |
  byt y=>
  obtain⟨t,rfl⟩:=rx
  obtain⟨hy,e'⟩:y.size<=sizeLine/\k=((y.size:Int) != 0):=e
  subst e'
  exact W.truthy_bytes (by omega) ⟨H,I.tok _,q⟩
 |
  ref p=>
  cases rx
  have e':(∃xs,SqL X.K H p xs/\k=!xs.isEmpty)\/(∃xs,SqT X.K H p xs/\k=!xs.isEmpty)\/∃kvs,H p=some (.dK kvs)/\k=!kvs.isEmpty:=e
  rcases e' with ⟨xs,hx,e'⟩ |⟨xs,hx,e'⟩ |⟨kvs,hx,e'⟩
  ·subst e'
   obtain⟨its,r,pl,hz⟩:=I.list hx
   have bd:=r.length
   exact wpAny_truthy_list pl.isList (by simp only[y_];omega) ⟨H,I.tok _,by rw[nh r];exact q⟩
  ·subst e'
   obtain⟨its,r,pl,hz⟩:=I.tuple hx
   have bd:=r.length
   exact truthy_tuple pl (by simp only[y_];omega) ⟨H,I.tok _,by rw[nh r];exact q⟩
  ·subst e'
   obtain⟨hz,hS,vs,r,m⟩:kvs.length<=sizeLine/\(p==sysModules)=false/\∃vs,KV kvs vs/\s.heap.DictOf (bB X.prog X.w) p vs:=I.hok p _ hx
   have bd:kvs.length=vs.length:=QV r
   exact wpAny_truthy_dict hS m (by omega) ⟨H,I.tok _,by rw[v8 r];exact q⟩
 |_=>exact (show False from e).elim
def Bn(ha:PE X a ta)(he:∀c_,isTrue a X.env c_=(do let v <- c_;standAt a.pos;holding [v] (truthy v))):
 PT X a (λσ H Q=>ta σ H λx H'=>∃k,zS X.K x H' k/\Q k H'):=by
 intro pins s σ H Q I h
 exact isTrue_plain (thn (ha pins s σ H _ I h) λv s1 ⟨x,H1,I1,r1,q1⟩=>KH pins s1 σ H1 x v Q I1 r1 q1) (he _)
def ji(r:Vals [x] us):∃u,us=[u]/\RelV x u:=by
 cases r with
 |cons r1 r2=>cases r2;exact⟨_,rfl,r1⟩
def mO(r:Vals [x,y] us):∃u w',us=[u,w']/\RelV x u/\RelV y w':=by
 cases r with
 |
  cons r1 r2=>
  cases r2 with
  |cons r3 r4=>cases r4;exact⟨_,_,rfl,r1,r3⟩
def BA:CallR X (.builtin "abs") (λxs H Q=>∃i,xs=[.int i]/\Q (.int (if i<0 then -i else i)) H):=by
 intro pins s σ H xs us Q I r h
 obtain⟨i,rfl,q⟩:=h
 obtain⟨u,rfl,t,rfl⟩:=ji r
 exact call_abs_int λu tk=>⟨.int (if i<0 then -i else i),H,I.tok _,⟨_,rfl⟩,q⟩
def x5(hc:X.calm=true):CallR X (.builtin "max") (λxs H Q=>∃i j,xs=[.int i,.int j]/\Q (.int (if j>i then j else i)) H):=by
 intro pins s σ H xs us Q I r h
 obtain⟨i,j,rfl,q⟩:=h
 obtain⟨u,w',rfl,⟨t,rfl⟩,⟨t',rfl⟩⟩:=mO r
 refine max_two_ints (I.ok.hd hc) λh' tk k=>⟨_,H,I.kept k,?_,q⟩
 by_cases hj:j>i
 ·rw[if_pos hj,if_pos hj];exact⟨_,rfl⟩
 ·rw[if_neg hj,if_neg hj];exact⟨_,rfl⟩
def yC(hc:X.calm=true):CallR X (.builtin "min") (λxs H Q=>∃i j,xs=[.int i,.int j]/\Q (.int (if j<i then j else i)) H):=by
 intro pins s σ H xs us Q I r h
 obtain⟨i,j,rfl,q⟩:=h
 obtain⟨u,w',rfl,⟨t,rfl⟩,⟨t',rfl⟩⟩:=mO r
 refine min_two_ints (I.ok.hd hc) λh' tk k=>⟨_,H,I.kept k,?_,q⟩
 by_cases hj:j<i
 ·rw[if_pos hj,if_pos hj];exact⟨_,rfl⟩
 ·rw[if_neg hj,if_neg hj];exact⟨_,rfl⟩
end
structure ObjM(h:Heap)(x dx C:Addr)(mA:Ra):Prop where
 obj:h.get? x=some (W.instObj C dx)
 ns:h.Ns1 dx mA
 ne:dx≠x
def yq{h:Heap}{dx:Addr}{mA:Ra}(n:h.Ns1 dx mA):∃od,h.get? dx=some od/\∀name,W.lookIn name od=some (mA name):=by
 obtain⟨o,es,ep,ho,hd,hk,_,hm⟩:=n
 refine⟨o,ho,λname=>?_⟩
 have e:=hm name
 unfold nsFind findBy at e
 rw[<- Array.find?_toList] at e
 unfold W.lookIn
 rw[hd]
 dsimp only
 split
 ·rename_i y q
  rw[q] at e
  exact Pg some e
 ·rename_i q
  rw[q] at e
  have a:es.toList.any (·.refKey)=false:=by
   rw[List.any_eq_false]
   intro y hy
   obtain⟨z,t,hkey⟩:=hk y (Array.mem_toList_iff.mp hy)
   simp [DictEntry.refKey,hkey]
  have a':¬ es.toList.any (·.refKey)=true:=by rw[a];exact s_
  rw[if_neg a']
  exact Pg some e
def ObjM.look(I:ObjM h x dx C mA):∃od,W.InstAt h x (W.instObj C dx) C (some od)/\∀name,W.lookIn name od=some (mA name):=
 let ⟨od,ho,hl⟩:=yq I.ns
 ⟨od,⟨I.obj,rfl,rfl,ho⟩,hl⟩
section
variable{prog:Program}{w:World}{A:Around}{E:Rg}{s:Shared}{K:W.Frag}{x dx C f:Addr}{mA:Ra}{name:Str}{v:Value}
end
def RelO.some_of(r:RelO (some v) o):∃u,o=some u/\RelV v u:=by
 cases o with
 |none=>exact (show False from r).elim
 |some u=>exact⟨u,rfl,r⟩
section
variable{P:Program}{w:World}{H H':Hp}{h h':Heap}{a C dx:Addr}{fs fs':List (Str×V)}
def Eh(hok:HOk P w H h)(e:H a=some (.ins C dx fs)):∃mA,ObjM h a dx C mA/\(∀f,RelO (fs.lookup f) (mA f))/\PySem.Within mA (fs.map (·.1))/\fs.length<=1000/\H dx=some (.own a):=by
 obtain⟨d,z,ne,ob,mA,n,r,q⟩:=(show ObjOk P w H h a (.ins C dx fs) from hok a _ e)
 exact⟨mA,⟨ob,n,ne⟩,r,q,z,d⟩
end
structure Cls(K:W.Frag)(C:Addr):Prop where
 pg:W.plainGet K C Str.empty=true
 hd:W.hasDictIn K C=true
 po:W.plainOver K C=true
 sa:W.findIn K (.ref C) "__setattr__"=some (some (.builtin "object.__setattr__"))
def Cls.get{K:W.Frag}{C:Addr}(c:Cls K C)(f:Str):W.plainGet K C f=true:=c.pg
structure Con(K:W.Frag)(C:Addr)(f:Str)(v:V)(u:Value):Prop where
 at_:W.findIn K (.ref C) f=some (some u)
 rel:RelV v u
 get:W.specialIn K u "__get__"=some none
 cp:W.copiedNames.contains f=false
structure Meth(K:W.Frag)(C:Addr)(m:Str)(f:Addr):Prop where
 at_:W.findIn K (.ref C) m=some (some (.ref f))
 fn:W.isFn K (.ref f)=true
 kp:W.keepIn K (.ref f)=true
section
variable{X:Cx}{pins:Rb}{σ:St}{H:Hp}{s:Shared}{a C dx:Addr}{fs:List (Str×V)}{f:Str}{v:V}{A:Around}{E:Rg}
end
section
variable{X:Cx}{o e value:Expr}{f:Str}{pos ii tpos:Pos}{ta tv:TE}
end
section
variable{X:Cx}{pins:Rb}{σ:St}{H:Hp}{s:Shared}{A:Around}{E:Rg}{Q:Rg}{c:Value}{b:Bool}
inductive TyOf(K:W.Frag)(H:Hp):V->Value->Prop where
 |non:TyOf K H .non (.type "NoneType")
 |bl (x:Bool):TyOf K H (.bl x) (.type "bool")
 |int (i:Int):TyOf K H (.int i) (.type "int")
 |str (x:Str):TyOf K H (.str x) (.type "str")
 |flt (x:UInt64):TyOf K H (.flt x) (.type "float")
 |lst {a:Addr}{xs:List V} (e:H a=some (.lst xs)):TyOf K H (.ref a) (.type "list")
 |frz {a:Addr}{o:Obj}{xs:List V} (e:H a=some (.frz o (.lst xs))):TyOf K H (.ref a) (.type "list")
 |tup {a:Addr}{xs:List V} (e:H a=some (.tup xs)):TyOf K H (.ref a) (.type "tuple")
 |dK {a:Addr}{kvs:List (Key×V)} (e:H a=some (.dK kvs)):TyOf K H (.ref a) (.type "dict")
 |dT {a:Addr}{kvs:List (List Key×V)} (e:H a=some (.dT kvs)):TyOf K H (.ref a) (.type "dict")
 |ins {a C dx:Addr}{fs:List (Str×V)} (e:H a=some (.ins C dx fs)) (cl:Cls K C) (ha:W.findIn K (.ref C) "__class__"=some (some (.builtin "object.__class__")))
  (hn:W.specialIn K (.builtin "object.__class__") "__get__"=some (some (.builtin "getset_descriptor.__get__"))) (htk:W.takesIn K (.builtin "object.__class__")=some true)
  (hm:W.mroIn K C (.type "object")=some true):TyOf K H (.ref a) (.ref C)
end
structure Room(k:Nat)(A:Around):Prop where
 hd:A.handled=none
 dp:A.depth+3*k+5<recursionLimit
 un:A.units+16*k+200<cLine
def Room.mono(r:Room k A)(h:j<=k):Room j A:=⟨r.hd,by have:=r.dp;omega,by have:=r.un;omega⟩
def Room.deeper(r:Room (k+1) A)(env:Env):Room k (A.deeper env):=
 ⟨r.hd,by have:=r.dp;show A.depth+1+3*k+5<_;omega,by have:=r.un;show A.units+3+16*k+200<_;omega⟩
def Room.depth(r:Room k A):A.depth<recursionLimit:=by have:=r.dp;omega
def Room.units(r:Room k A):A.units+64<cLine:=by have:=r.un;omega
def tNil:TA:=λ_ H Q=>Q [] H
def Nm(ta:TE)(tr:TA):TA:=λσ H Q=>ta σ H λx H1=>tr σ H1 λxs H2=>Q (x::xs) H2
section
variable{X:Cx}{e:Expr}{es:List Expr}{te:TE}{t:TA}{pos:Pos}
def J6:PA X [] tNil:=λ_ _ _ _ H Q I h=>Calls.spliced_nil ⟨[],H,I,.nil,h⟩
def Fq(ha:PE X e te)(hr:PA X es t)(hs:starEach (e::es) X.env=(false,eval e X.env)::starEach es X.env):PA X (e::es) (Nm te t):=by
 intro pos pins s σ H Q I h
 rw[hs]
 show wpAny _ _ (spliced ((false,eval e X.env)::backTo pos (starEach es X.env))) _ _ s
 refine Calls.spliced_cons (thn (ha pins s σ H _ I h) λu s1 ⟨x,H1,I1,r1,q1⟩=>?_)
 exact thn (hr pos pins s1 σ H1 _ I1 q1) λus s2 ⟨xs,H2,I2,r2,q2⟩=>⟨x::xs,H2,I2,.cons r1 r2,q2⟩
def tTup(t:TA):TE:=λσ H Q=>t σ H λxs H1=>xs.length<=sizeLine/\∀p,H1 p=none->Q (.ref p) (upd H1 p (.tup xs))
def tLst(t:TA):TE:=λσ H Q=>t σ H λxs H1=>xs.length<=sizeLine/\∀p,H1 p=none->Q (.ref p) (upd H1 p (.lst xs))
def Jf{x1}(h:PA X es t):PE X (.Tuple es x1 pos) (tTup t):=by
 intro pins s σ H Q I hq
 refine wpAny_Tuple_spliced (thn (h pos pins s σ H _ I hq) λus s1 ⟨xs,H1,I1,r,z,q⟩=>⟨by rw[<- r.length];exact z,?_⟩)
 have hf:H1 s1.heap.objs.size=none:=I1.hok.fresh (m_ _)
 refine⟨.ref s1.heap.objs.size,upd H1 s1.heap.objs.size (.tup xs),I1.laid (t':=s1.toks) (λb u e=>t_ _ e) (m_ _) ?_,rfl,q _ hf⟩
 exact⟨z,us,r,⟨_,E_ _ rfl,rfl,_,rfl⟩⟩
def Jh(h:PA X es t):PE X (.List es pos) (tLst t):=by
 intro pins s σ H Q I hq
 refine wpAny_List_spliced (thn (h pos pins s σ H _ I hq) λus s1 ⟨xs,H1,I1,r,z,q⟩=>⟨by rw[<- r.length];exact z,?_⟩)
 have hf:H1 s1.heap.objs.size=none:=I1.hok.fresh (m_ _)
 refine⟨.ref s1.heap.objs.size,upd H1 s1.heap.objs.size (.lst xs),I1.laid (t':=s1.toks) (λb u e=>t_ _ e) (m_ _) ?_,rfl,q _ hf⟩
 exact⟨z,us,0,r,E_ _ rfl⟩
end
abbrev Sp:=List V->Hp->VK->XK->Prop
abbrev CXT:=List Env->Hp->Shared->XK->Value->Shared->Prop
structure Env0(P:Program)(w:World)(K:W.Frag)(mg:Ra)(base:Heap)(A:Around)(outer:List Env)(s:Shared)(H:Hp):Prop where
 frames:A.frames=some outer
 mod:Mod K mg base
 bs:∀b o,base.get? b=some o->s.heap.get? b=some o/\H b=none
 bsz:base.objs.size<=s.heap.objs.size
 funs:s.heap.FunFrames base outer
 frf:∀b∈frs outer,H b=none
 hok:HOk P w H s.heap
 bare:AllBare s.gens
def CE(outer:List Env)(P:Program)(w:World)(H:Hp)(s:Shared)(Q:VK)(u:Value)(s':Shared):Prop:=
 ∃v H',s'.os=s.os/\AllBare s'.gens/\Un (frs outer) [] H H' s.heap s'.heap/\HOk P w H' s'.heap/\RelV v u/\Q v H'
def CR(CX:CXT)(outer:List Env)(P:Program)(w:World)(H:Hp)(s:Shared)(Q:VK)(E:XK)(r:Result)(s':Shared):Prop:=
 match r with
 |.ok (.ret u)=>CE outer P w H s Q u s'
 |.ok _=>False
 |.error e=>CX outer H s E e s'
structure FnOk(P:Program)(w:World)(K:W.Frag)(mg:Ra)(base:Heap)(CX:CXT)(k:Nat)(f:Addr)(fd:FuncData)(ps:List Str)(sp:Sp):Prop where
 len:∀vs H Q E,sp vs H Q E->vs.length=ps.length
 run:∀(A:Around) (outer:List Env) (s:Shared) (H:Hp) (args:Args) (us:List Value) (vs:List V) (Q:VK) (E:XK),Room k A->Env0 P w K mg base A outer s H->BindsTo s fd args (ps.zip us)->Vals vs us->sp vs H Q E->
  codeAny (model P w) A (.call (.ref f) args) (CR CX outer P w H s Q E) s
def FnOk.imp{P:Program}{w:World}{K:W.Frag}{mg:Ra}{base:Heap}{CX:CXT}{k:Nat}{f:Addr}{fd:FuncData}{ps:List Str}{sp sp':Sp}(F:FnOk P w K mg base CX k f fd ps sp)
 (h:∀vs H Q E,sp' vs H Q E->sp vs H Q E):FnOk P w K mg base CX k f fd ps sp':=
 ⟨λvs H Q E q=>F.len vs H Q E (h _ _ _ _ q),λA outer s H args us vs Q E hr he hb hv hs=>F.run A outer s H args us vs Q E hr he hb hv (h _ _ _ _ hs)⟩
section
variable{X:Cx}{pins:Rb}{σ:St}{H:Hp}{s s':Shared}
def Inv.env0(I:Inv X pins σ H s):Env0 X.prog X.w X.K X.mg X.base X.A X.stack s H:=
 ⟨I.ok.frames,I.ok.mod,I.bs,F_ I.ok.bsz I.sz,I.stack,I.stkFree,I.hok,I.bare⟩
def Inv.after(I:Inv X pins σ H s)(h:CE X.stack X.prog X.w H s Q u s'):EP X pins σ Q u s':=by
 obtain⟨v,H',os,bare,un,hok,r,q⟩:=h
 obtain⟨hh,g,d,t,os'⟩:=s'
 obtain rfl:os'=s.os:=os
 exact⟨v,H',I.call (h':=hh) (g':=g) (d':=d) (t':=t) (ch:=[]) un hok bare (λb z=>absurd z (by simp)),r,q⟩
end
def Binds(K:W.Frag)(fd:FuncData)(ps:List Str)(ds:List Value):Prop:=
 ∀(s:Shared) (us:List Value),K.In s.heap->(us++ds).length=ps.length->BindsTo s fd ⟨us,[]⟩ (ps.zip (us++ds))
def Binds.all{K:W.Frag}{fd:FuncData}{ps:List Str}(h:∀us:List Value,us.length=ps.length->bindArgs fd ⟨us,[]⟩=pure (ps.zip us)):Binds K fd ps []:=λs us _ hl=>by
 rw[OS] at hl ⊢
 exact .of_eq (h us hl)
def qI(CX:CXT)(X:Cx)(E:XK):Prop:=∀(pins:Rb) (σ:St) (H:Hp) (s:Shared) (e:Value) (s':Shared),Inv X pins σ H s->CX X.stack H s E e s'->X.xe e s'
section
variable{X:Cx}{CX:CXT}{k:Nat}{f C:Addr}{fd:FuncData}{ps:List Str}{sp:Sp}{dvs:List V}{ds:List Value}{E:XK}{x m:Str}{p pos apos:Pos}{e o:Expr}{es:List Expr}{ta:TE}{t:TA}
structure Mk(K:W.Frag)(C f:Addr):Prop where
 makes:W.makesIn K C=true
 init:W.findIn K (.ref C) "__init__"=some (some (.ref f))
 fn:W.isFn K (.ref f)=true
 kp:W.keepIn K (.ref C)=true
end
section
variable{X:Cx}{CX:CXT}{k:Nat}{f C:Addr}{fd:FuncData}{ps ks:List Str}{sp:Sp}{E:XK}{x m:Str}{p pos apos kpos:Pos}{e o:Expr}{es:List Expr}{kws:List Keyword}{te ta:TE}{t tk:TA}{nm:Option Str}
structure KBinds(K:W.Frag)(fd:FuncData)(ps ks:List Str)(g:List Value->List Value->List Value)(gV:List V->List V->List V):Prop where
 to:∀(s:Shared) (us ws:List Value),K.In s.heap->(g us ws).length=ps.length->BindsTo s fd ⟨us,ks.zip ws⟩ (ps.zip (g us ws))
 rel:∀{vs:List V}{us:List Value}{zs:List V}{ws:List Value},Vals vs us->Vals zs ws->Vals (gV vs zs) (g us ws)
variable{g:List Value->List Value->List Value}{gV:List V->List V->List V}
end
structure FnScope(N P:List Str)(sc:Scope):Prop where
 kind:sc.kind=.function
 co:sc.isCoroutine=false
 gen:sc.isGenerator=false
 nd:N.Nodup
 pre:N.take P.length=P
 par:∀x∈P,sc.names.lookup x=some .local\/sc.names.lookup x=some .cell
 nofree:∀y∈sc.names,y.2 ≠ .free
theorem oH{kindOf:Str->Option NameKind}{x:Str}:∀{binds:List (Str×Value)}{m:Ra},(∀v,(x,v)∉binds)->bindL kindOf binds m x=m x
 | [],_,_=>rfl
 |
  (n,v)::r,m,h=>by
  unfold bindL
  rw[oH λw hw=>h w (l_ _ hw)]
  split
  ·have:x≠n:=by rintro rfl;exact h v n_
   simp [this]
  ·rfl
theorem oJ{kindOf:Str->Option NameKind}{x:Str}:∀{binds:List (Str×Value)}{m:Ra},(∀v,(x,v)∉binds)->bindC kindOf binds m x=m x
 | [],_,_=>rfl
 |
  (n,v)::r,m,h=>by
  unfold bindC
  rw[oJ λw hw=>h w (l_ _ hw)]
  split
  ·rfl
  ·have:x≠n:=by rintro rfl;exact h v n_
   simp [this]
theorem pb{kindOf:Str->Option NameKind}{x:Str}{v:Value}:∀{P:List Str}{vs:List Value}{i:Nat}{m:Ra},P.Nodup->P[i]?=some x->vs[i]?=some v->kindOf x=some .local->
 bindL kindOf (P.zip vs) m x=some v
 | [],_,_,_,_,h,_,_=>by simp at h
 |_::_,[],_,_,_,_,h,_=>by simp at h
 |
  p::P,w::vs,0,m,nd,h1,h2,hk=>by
  simp at h1 h2;subst h1;subst h2
  show bindL kindOf ((p,w)::P.zip vs) m p=_
  unfold bindL
  rw[oH λv hv=>(P6.mp nd).1 (List.of_mem_zip hv).1,if_pos hk]
  simp
 |
  p::P,w::vs,i+1,m,nd,h1,h2,hk=>by
  show bindL kindOf ((p,w)::P.zip vs) m x=_
  unfold bindL
  exact pb (i:=i) (P6.mp nd).2 (by simpa using h1) (by simpa using h2) hk
theorem oI{kindOf:Str->Option NameKind}{x:Str}{v:Value}:∀{P:List Str}{vs:List Value}{i:Nat}{m:Ra},P.Nodup->P[i]?=some x->vs[i]?=some v->kindOf x≠some .local->
 bindC kindOf (P.zip vs) m x=some v
 | [],_,_,_,_,h,_,_=>by simp at h
 |_::_,[],_,_,_,_,h,_=>by simp at h
 |
  p::P,w::vs,0,m,nd,h1,h2,hk=>by
  simp at h1 h2;subst h1;subst h2
  show bindC kindOf ((p,w)::P.zip vs) m p=_
  unfold bindC
  rw[oJ λv hv=>(P6.mp nd).1 (List.of_mem_zip hv).1,if_neg hk]
  simp
 |
  p::P,w::vs,i+1,m,nd,h1,h2,hk=>by
  show bindC kindOf ((p,w)::P.zip vs) m x=_
  unfold bindC
  exact oI (i:=i) (P6.mp nd).2 (by simpa using h1) (by simpa using h2) hk
def fc(N:List Str)(vs:List V):St:=vs.map some++List.replicate (N.length-vs.length) none
noncomputable def dg(CX:CXT)(P:Program)(w:World)(K:W.Frag)(mg:Ra)(base:Heap)(N:List Str)(qual:Str)(scope:Scope)(f:Addr)(cd:Value)(A:Around)(outer:List Env)(s:Shared)(H:Hp)(E:XK):Cx where
 prog:=P
 w:=w
 K:=K
 mg:=mg
 base:=base
 A:=A.deeper (envOfC qual scope s.heap.objs.size f cd)
 N:=N
 s₀:=s
 H₀:=H
 env:=envOfC qual scope s.heap.objs.size f cd
 outer:=outer
 stack:=envOfC qual scope s.heap.objs.size f cd::outer
 ex:=[]
 calm:=true
 fn:=λ_=>true
 pn:=[]
 xe:=λe s'=>wpAny (model P w) (A.deeper (envOfC qual scope s.heap.objs.size f cd)) (leaving (envOfC qual scope s.heap.objs.size f cd) e) (λ_ s''=>CX outer H s E e s'') (λe' s''=>CX outer H s E e' s'') s'
def qF{sc:Scope}{n:Nat}{x:Str}(h:sc.names.lookup x=some .cell):∃c,(cellsFrom n sc.names []).lookup x=some c:=by
 have q:=W.cellsFrom_some sc.names n [] (.inl h)
 exact OV.mp q
def zE{CX:CXT}{P:Program}{w:World}{K:W.Frag}{mg:Ra}{base:Heap}{N ps:List Str}{qual:Str}{scope:Scope}{f:Addr}{cd:Value}{A:Around}{outer:List Env}{s s1:Shared}{H:Hp}{E:XK}{us:List Value}{vs:List V}
 (S:FnScope N ps scope) (hd:A.handled=none) (e0:Env0 P w K mg base A outer s H) (hl:vs.length=ps.length) (r:Vals vs us)
 (x:InCallC s s.heap.objs.size (bindL (envOfC qual scope s.heap.objs.size f cd).kindOf (ps.zip us) λ_=>none) (cellsFrom (s.heap.objs.size+1) scope.names []) (bindC (envOfC qual scope s.heap.objs.size f cd).kindOf (ps.zip us) λ_=>none) s1):
 Inv (dg CX P w K mg base N qual scope f cd A outer s H E) [] (fc N vs) H s1:=by
 have hpl:ps.length<=N.length:=by have:=Pg List.length S.pre;rw[Pf] at this;omega
 obtain⟨h1,tk,rfl,hk⟩:=x.done
 have noA:∀b:Addr,b∉(dg CX P w K mg base N qual scope f cd A outer s H E).ex:=λb z=>absurd (show b∈([]:List Addr) from z) (by simp)
 refine⟨⟨e0.mod,S.kind,rfl,rfl,m_ _,λy z c h1 h2=>?_,λy hy=>?_,λy c _ h=>?_,λ_=>hd,Around.frames_deeper e0.frames,.inr ⟨rfl,rfl⟩,λb z=>absurd z (noA b),e0.bs,e0.bsz,λb _ _=>noA b,λb z=>absurd z (noA b),e0.funs,e0.frf⟩,
  rfl,e0.bare,Un.kept hk,⟨_,x.toInCall.ns,λi y v h1 h2 h3=>?_⟩,λy c h=>⟨_,x.cell y c h⟩,e0.hok.fresh (m_ _),λy c h=>?_,λp hp=>absurd (show p∈([]:Rb) from hp) (by simp),e0.hok.kept hk,?_⟩
 ·exact name_of_addr x.apart (Pc h1) (Pc h2)
 ·have hy:scope.names.lookup y=some .cell\/scope.names.lookup y=some .free:=hy
  rcases hy with hy |hy
  ·exact qF hy
  ·exact absurd rfl (S.nofree _ (Pc hy))
 ·exact QN (x.above y c (Pc h))
 ·have hi:i<vs.length:=by
   unfold fc at h2
   by_cases hi:i<vs.length
   ·exact hi
   ·rw[I_ (by simpa using hi)] at h2
    rw[OY] at h2
    split at h2 <;> cases h2
  have ha:vs[i]?=some v:=by
   unfold fc at h2
   rw[J_ (by simpa using hi),z_] at h2
   cases e:vs[i]? with
   |none=>rw[e] at h2;cases h2
   |some a=>rw[e] at h2;cases h2;rfl
  obtain⟨u,hu,rv⟩:=r.get ha
  have hp:ps[i]?=some y:=by
   rw[<- S.pre,List.getElem?_take_of_lt (by omega)];exact h1
  have ndP:ps.Nodup:=by rw[<- S.pre];exact S.nd.sublist (List.take_sublist _ _)
  refine⟨u,rv,?_⟩
  rcases S.par y (OO hp) with k |k
  ·exact .inl ⟨k,pb ndP hp hu k⟩
  ·obtain⟨c,e⟩:=qF (n:=s.heap.objs.size+1) k
   refine .inr ⟨.inl k,c,e,?_⟩
   have q:=x.cell y c e
   rw[oI ndP hp hu (by show scope.names.lookup y≠_;rw[k];decide)] at q
   exact q
 ·exact e0.hok.fresh (QN (x.above y c (Pc h)))
 ·unfold fc
  show _=N.length
  rw[p_,j_,O7]
  omega
def M4{CX:CXT}{P:Program}{w:World}{K:W.Frag}{mg:Ra}{base:Heap}{k:Nat}{f:Addr}{name qual:Str}{params:Arguments}{body:List Stmt}{scope:Scope}{dV kV doc pm cdv ct oc:Value}{an od:Option Addr}
 {osl:Array (Option Value)}{N ps:List Str}{sp:Sp} (lk:K.lookup f=some ⟨oc,od,.func (W.fnOf name qual params body scope dV kV doc pm an cdv ct),osl⟩) (hcd:W.codeIn K cdv qual=true) (S:FnScope N ps scope)
 (len:∀vs H Q E,sp vs H Q E->vs.length=ps.length)
 (ge:∀(A:Around) (outer:List Env) (s:Shared) (H:Hp) (vs:List V) (Q:VK) (E:XK),Room k (A.deeper (envOfC qual scope s.heap.objs.size f cdv))->sp vs H Q E->
  ∃t,PSs (dg CX P w K mg base N qual scope f cdv A outer s H E) body t/\t { nx:=λ_ H'=>Q .non H',rt:=Q } (fc N vs) H):
 FnOk P w K mg base CX (k+1) f (W.fnOf name qual params body scope dV kV doc pm an cdv ct) ps sp:=by
 refine⟨len,λA outer s H args us vs Q E hr e0 hb r hsp=>?_⟩
 have hl:=len _ _ _ _ hsp
 have KX:K.In s.heap:=e0.mod.kin.keeps λb o e=>(e0.bs b o e).1
 have lim:s.heap.NoLimit:=e0.mod.nolimit.keeps λb o e=>(e0.bs b o e).1
 have hkind:∀y∈ps.zip us,scope.names.lookup y.1=some .local\/(scope.names.lookup y.1=some .cell/\((cellsFrom (s.heap.objs.size+1) scope.names []).lookup y.1).isSome=true):=λ⟨n,v⟩ hy=>by
  rcases S.par n (List.of_mem_zip hy).1 with q |q
  ·exact .inl q
  ·exact .inr ⟨q,W.cellsFrom_some _ _ _ (.inl q)⟩
 refine codeAny_call_function hr.depth (KX _ _ lk) rfl S.co S.gen rfl (W.codeRec_of KX hcd) (hb _ _ _ _ ?_)
 refine wpAny_newFunctionEnv_cells S.kind hkind λenv he s1 x=>?_
 subst he
 refine⟨lim.keeps x.toInCall.keep,codeAny_func ?_⟩
 obtain⟨t,ht,hq⟩:=ge A outer s H vs Q E (hr.deeper _) hsp
 have I:Inv (dg CX P w K mg base N qual scope f cdv A outer s H E) [] (fc N vs) H s1:=zE S hr.hd e0 hl r x
 refine OL (ht [] s1 (fc N vs) H _ I hq) (λfl s' hs=>?_) λe s' hs=>hs
 have gl:∀{σ':St}{H':Hp}{v:V}{u:Value},Inv (dg CX P w K mg base N qual scope f cdv A outer s H E) [] σ' H' s'->RelV v u->Q v H'->CE outer P w H s Q u s':=
  λ{σ' H' v u} J rv q=>⟨v,H',J.os,J.bare,J.base,J.hok,rv,q⟩
 cases fl with
 |
  ret u=>
  obtain⟨v,σ',H',J,rv,q⟩:=hs
  exact gl J rv q
 |
  next=>
  obtain⟨σ',H',J,q⟩:=hs
  exact gl (v:=V.non) (u:=Value.none) J rfl q
 |
  brk=>
  obtain⟨_,_,_,q⟩:=hs
  exact False.elim q
 |
  cont=>
  obtain⟨_,_,_,q⟩:=hs
  exact False.elim q
section
variable{X:Cx}{x:Str}{p pos:Pos}{e:Expr}{es:List Expr}{t:TA}{id T:String}{r:List V->Hp->VK->Prop}
def tCB(r:List V->Hp->VK->Prop)(t:TA):TE:=λσ H Q=>t σ H λvs H1=>r vs H1 Q
def B5(hc:CallR X (.builtin id) r)(hg:Gl X x)(hm:X.mg x=none)(hv:bootBuiltins x=some (.builtin id))(ha:PA X (e::es) t)(hn:x ≠ "__name__")(hdb:(x==("__debug__" : Str))=false)
 (he:starEach (e::es) X.env=(false,eval e X.env)::starEach es X.env) (hpl:(backTo pos (starEach es X.env)).any (·.1)=false):PE X (.Call (.Name x p) (e::es) [] pos) (tCB r t):=by
 intro pins s σ H Q I h
 refine Qx (gR I hg hm hv ?_ hn hdb)
 exact PyProof.Rows.callWith_builtin1 (thn (ha pos pins s σ H _ I h) λus s1 ⟨vs,H1,I1,r1,q1⟩=>hc pins s1 σ H1 vs us Q I1 r1 q1) he hpl
def yU(hc:CallR X (.type T) r)(hg:Gl X x)(hm:X.mg x=none)(hv:bootBuiltins x=some (.type T))(ha:PA X (e::es) t)(hn:x ≠ "__name__")(hdb:(x==("__debug__" : Str))=false)
 (he:starEach (e::es) X.env=(false,eval e X.env)::starEach es X.env) (hpl:(backTo pos (starEach es X.env)).any (·.1)=false):PE X (.Call (.Name x p) (e::es) [] pos) (tCB r t):=by
 intro pins s σ H Q I h
 refine Qx (gR I hg hm hv ?_ hn hdb)
 exact PD (thn (ha pos pins s σ H _ I h) λus s1 ⟨vs,H1,I1,r1,q1⟩=>hc pins s1 σ H1 vs us Q I1 r1 q1) he hpl
def xk(hc:CallR X (.type T) r)(hg:Gl X x)(hm:X.mg x=none)(hv:bootBuiltins x=some (.type T))(hn:x ≠ "__name__")(hdb:(x==("__debug__" : Str))=false):
 PE X (.Call (.Name x p) [] [] pos) (tCB r tNil):=by
 intro pins s σ H Q I h
 refine Qx (gR I hg hm hv ?_ hn hdb)
 exact PyProof.Rows.callWith_type0 (hc pins s σ H [] [] Q I .nil h)
end
end L2
namespace HT
open PySem PyProof.Rows
section
open PySem.SeqAt
open PySem.AutoSeq1 (wpAny_loadPart')
open PySem.MeetsSeq PySem.MeetsSeq2 PySem.MeetsSeq3
end
section
variable{prog:Program}{w:World}{A:Around}{E:Rg}{s:Shared}
def cat_tup(ht:IsTup s.heap t vs.toArray)(hb:IsTup s.heap b ws.toArray)(hv:vs≠[])
 (h1:ws=[]->Q (.ref t) s) (h2:ws≠[]->Q (.ref s.heap.objs.size) { s with heap:=s.heap.push { cls:=.type "tuple",data:=.seq (vs++ws).toArray } })
 (hsz:vs.length+ws.length<=sizeLine):wpAny (model prog w) A (binaryOp .Add (.ref t) (.ref b)) Q E s:=by
 obtain⟨⟨cls,dd,data,sl⟩,ho,hc,n,hd⟩:=id ht
 obtain⟨⟨cls2,dd2,data2,sl2⟩,ho2,hc2,n2,hd2⟩:=id hb
 simp only at hc hd hc2 hd2
 subst hc hd hc2 hd2
 have e:vs.toArray++ws.toArray=(vs++ws).toArray:=by simp
 by_cases hw:ws=[]
 ·exact concat_meets ⟨_,ho,rfl⟩ ⟨_,ho2,rfl⟩ noFill_tuple_add seq_tuple_add QE Qz (Qw _ _)
   (tuple_addW1 t b vs.toArray ws.toArray n n2 dd dd2 sl sl2 (by simpa using hv) (by simp [hw])) ⟨ho,ho2,h1 hw⟩
 ·refine concat_meets ⟨_,ho,rfl⟩ ⟨_,ho2,rfl⟩ noFill_tuple_add seq_tuple_add QE Qz (Qw _ _)
   (tuple_addW2 t b vs.toArray ws.toArray n n2 dd dd2 sl sl2 (by simpa using hv) (by simpa using hw) (by rw[y_,y_];exact hsz)) ⟨ho,ho2,?_⟩
  rw[e]
  exact h2 hw
noncomputable def sIx(n d:Nat):Option Int->Nat
 |none=>d
 |some v=>if v<0 then (v+(n:Int)).toNat else min v.toNat n
def sIx_none(n d:Nat):sIx n d none=d:=rfl
def sIx_nat(n d k:Nat):sIx n d (some (k:Int))=min k n:=by
 show (if (k:Int)<0 then ((k:Int)+(n:Int)).toNat else min (k:Int).toNat n)=min k n
 rw[if_neg (by omega),ON]
def K4(n d:Nat)(hd:d<=n)(o:Option Int):sIx n d o<=n:=by
 cases o with
 |none=>exact hd
 |
  some v=>
  show (if v<0 then (v+(n:Int)).toNat else min v.toNat n)<=n
  by_cases hv:v<0
  ·rw[if_pos hv];omega
  ·rw[if_neg hv];exact Nat.min_le_right _ _
def vb(v:Int)(n d:Nat):(if v<0 then max (v+(n:Int)) 0 else min v (n:Int))=((sIx n d (some v):Nat):Int):=by
 show (if v<0 then max (v+(n:Int)) 0 else min v (n:Int))=(((if v<0 then (v+(n:Int)).toNat else min v.toNat n):Nat):Int)
 by_cases hv:v<0
 ·simp only[if_pos hv];omega
 ·simp only[if_neg hv];omega
def vE(lo hi:Option Int)(n:Nat):Builtin.Slice.sliceAdjust lo hi 1 (n:Int)=(((sIx n 0 lo:Nat):Int),((sIx n n hi:Nat):Int)):=by
 have h1:¬ ((1:Int)<0):=by omega
 unfold Builtin.Slice.sliceAdjust
 simp only[h1,P9]
 refine Prod.ext ?_ ?_
 ·cases lo with
  |none=>rfl
  |some v=>exact vb v n 0
 ·cases hi with
  |none=>rfl
  |some v=>exact vb v n n
def wG(i j:Nat):Builtin.Slice.slicePlaces (i:Int) (j:Int) 1=j-i:=by
 unfold Builtin.Slice.slicePlaces
 have h1:(1:Int)>0:=by omega
 simp only[h1,Pd,Int.ediv_one]
 split <;> omega
def mX(p:IsPart v o)(h:Q o s):wpAny (model prog w) A (Builtin.Slice.slicePartIndex v) Q E s:=by
 cases p with
 |none=>exact slicePart_none h
 |int i t=>exact slicePart_int h
def k8{sl:Addr}{vl vu:Value}{lo hi:Option Int}{n:Nat}{Q:Int×Int×Nat->Shared->Prop}(hs:s.heap.IsSliceOf sl vl vu .none)(pl:IsPart vl lo)(pu:IsPart vu hi)
 (h:Q (((sIx n 0 lo:Nat):Int),1,sIx n n hi-sIx n 0 lo) s):wpAny (model prog w) A (Builtin.Slice.sliceApplied (.ref sl) (pure (n:Int))) Q E s:=by
 obtain⟨os,hos,hcs,hds⟩:=id hs
 unfold Builtin.Slice.sliceApplied Builtin.Slice.sliceFields
 refine i_ (i_ (OW hos hds (x:=vl) rfl (i_ (OW hos hds (x:=vu) rfl (i_ (OW hos hds (x:=.none) rfl (w_ ?_)))))))
 refine i_ (slicePart_none ?_)
 show wpAny _ _ (if ((1:Int)==0)=true then _ else _) _ _ s
 rw[if_neg (by decide)]
 refine i_ (mX pl (i_ (mX pu (i_ (w_ ?_)))))
 show wpAny _ _ (match Builtin.Slice.sliceAdjust lo hi 1 (n:Int) with |(lo,hi)=>pure (lo,(1:Int),Builtin.Slice.slicePlaces lo hi 1)) _ _ s
 rw[vE lo hi n]
 show wpAny _ _ (pure (((sIx n 0 lo:Nat):Int),(1:Int),Builtin.Slice.slicePlaces ((sIx n 0 lo:Nat):Int) ((sIx n n hi:Nat):Int) 1)) _ _ s
 rw[wG]
 exact w_ h
def A8(xs:Array Value)(i k:Nat):((List.range k).filterMap λ(m:Nat)=>xs[((i:Int)+(m:Int)*1).toNat]?).toArray=((xs.toList.drop i).take k).toArray:=by
 have e:(λ(m:Nat)=>xs[((i:Int)+(m:Int)*1).toNat]?)=λm=>xs[i+m]?:=by
  funext m
  have:((i:Int)+(m:Int)*1).toNat=i+m:=by omega
  rw[this]
 rw[e]
 have:=pick_run xs i k
 rw[List.filterMap_map] at this
 have e2:((λx=>xs[x]?) ∘ λx=>i+x)=λm=>xs[i+m]?:=rfl
 rw[e2] at this
 rw[this]
def getItem_tuple_cut{t sl:Addr}{items:Array Value}{vl vu:Value}{lo hi:Option Int}{Q:Rg}(ht:IsTup s.heap t items)(hs:s.heap.IsSliceOf sl vl vu .none)(pl:IsPart vl lo)(pu:IsPart vu hi)
 (hw:¬ (sIx items.size 0 lo=0/\sIx items.size items.size hi=items.size))
 (h:Q (.ref s.heap.objs.size) { s with heap:=s.heap.push { cls:=.type "tuple",data:=.seq ((items.toList.drop (sIx items.size 0 lo)).take (sIx items.size items.size hi-sIx items.size 0 lo)).toArray } })
 (hsz:items.size<=sizeLine):wpAny (model prog w) A (getItem (.ref t) (.ref sl)) Q E s:=by
 have htake:sizeOk (.seq ((items.toList.drop (sIx items.size 0 lo)).take (sIx items.size items.size hi-sIx items.size 0 lo)).toArray):=by
  show ((items.toList.drop (sIx items.size 0 lo)).take (sIx items.size items.size hi-sIx items.size 0 lo)).toArray.size<=sizeLine
  rw[y_,Pf,Qf,QS]
  omega
 have hj:sIx items.size items.size hi<=items.size:=K4 _ _ (m_ _) hi
 obtain⟨os,hos,hcs,hds⟩:=id hs
 have hTs:s.TypeIs (.ref sl) "slice":=⟨os,hos,hcs⟩
 unfold getItem
 try with_reducible refine Qm ?_
 first |refine i_ (w_ ?_) |skip
 refine i_ (wpAny_sequenceKey ht.typeIs (by decide) ?_)
 refine i_ (Pt (name:=Str.ofString "__getitem__") ht.typeIs PyProof.Rows.slot_tuple_getitem
  (Qh PyProof.Rows.slot_tuple_getitem ht.typeIs entry_tuple_getitem ?_ (args_tuple_getitem _ _)))
 show wpAny _ _ (Builtin.Tuple.tupleItemsOf (.ref t) >>= _) _ _ s
 refine i_ (tupleItemsOf_ ht ?_)
 refine i_ (wpAny_typeOf hTs ?_)
 rw[if_pos (by decide)]
 refine i_ (k8 hs pl pu ?_)
 have hno:¬ ((((sIx items.size 0 lo:Nat):Int)==0&&(1:Int)==1&&(sIx items.size items.size hi-sIx items.size 0 lo)==items.size)=true):=by
  intro q
  rw[r_,r_] at q
  have q1:((sIx items.size 0 lo:Nat):Int)=0:=eq_of_beq q.1.1
  have q2:sIx items.size items.size hi-sIx items.size 0 lo=items.size:=eq_of_beq q.2
  exact hw ⟨by omega,by omega⟩
 show wpAny _ _ (if (((sIx items.size 0 lo:Nat):Int)==0&&(1:Int)==1&&(sIx items.size items.size hi-sIx items.size 0 lo)==items.size)=true then _ else _) _ _ s
 rw[if_neg hno,A8]
 first
  |exact i_ (m:=Builtin.Tuple.tupleExact _) (O_ (w_ ⟨_,rfl,w_ h⟩) htake)
  |exact i_ (m:=Builtin.Tuple.tupleExact _) (O_ (i_ (w_ (w_ ⟨_,rfl,w_ h⟩))) htake)
  |exact i_ (i_ (m:=Builtin.Tuple.tupleExact _) (O_ (w_ (w_ ⟨_,rfl,w_ h⟩)) htake))
  |exact i_ (i_ (m:=Builtin.Tuple.tupleExact _) (O_ (w_ ⟨_,rfl,w_ h⟩) htake))
end
end HT
namespace L2
open PySem PySem.Spec PyProof.Rows
abbrev TO:=St->Hp->(Option Int->Hp->Prop)->Prop
def PO(X:Cx)(e:Option Expr)(t:TO):Prop:=
 ∀
  (pins:Rb) (s:Shared) (σ:St) (H:Hp) (Q:Option Int->Hp->Prop),Inv X pins σ H s->t σ H Q->
  wpAny (model X.prog X.w) X.A (evalPart e X.env) (λu s'=>∃o H',Inv X pins σ H' s'/\IsPart u o/\Q o H') X.xe s
def FT:TO:=λ_ H Q=>Q none H
def N9(t:TE):TO:=λσ H Q=>t σ H λx H1=>∃i,x=.int i/\Q (some i) H1
section
variable{X:Cx}{e:Expr}{te:TE}{lo hi:Option Expr}{tl th:TO}{pos p2:Pos}
def EJ:PO X none FT:=by
 intro pins s σ H Q I h
 rw[evalPart_none]
 exact w_ ⟨none,H,I,.none,h⟩
def DZ(h:PE X e te):PO X (some e) (N9 te):=by
 intro pins s σ H Q I hw
 rw[evalPart_some]
 refine thn (h pins s σ H _ I hw) λu s1 ⟨x,H1,I1,r1,q1⟩=>?_
 obtain⟨i,rfl,q⟩:=q1
 obtain⟨t,rfl⟩:=r1
 exact⟨some i,H1,I1,.int i t,q⟩
def SlR(X:Cx)(r:V->Option Int->Option Int->Hp->VK->Prop):Prop:=
 ∀
  (pins:Rb) (s:Shared) (σ:St) (H:Hp) (x:V) (v vl vu:Value) (lo hi:Option Int) (sl:Addr) (Q:VK),Inv X pins σ H s->RelV x v->s.heap.IsSliceOf sl vl vu .none->IsPart vl lo->IsPart vu hi->r x lo hi H Q->
  ∃T id,typeLookup (.type T) "__getitem__"=pure (some (.builtin id))/\s.TypeIs v T/\wpAny (model X.prog X.w) X.A (getItem v (.ref sl)) (EP X pins σ Q) X.xe s
def SlR.or(h:SlR X r)(h':SlR X r'):SlR X (λx lo hi H Q=>r x lo hi H Q\/r' x lo hi H Q):=by
 intro pins s σ H x v vl vu lo hi sl Q I rx hs pl pu q
 rcases q with q |q
 ·exact h pins s σ H x v vl vu lo hi sl Q I rx hs pl pu q
 ·exact h' pins s σ H x v vl vu lo hi sl Q I rx hs pl pu q
def tSl(r:V->Option Int->Option Int->Hp->VK->Prop)(te:TE)(tl th:TO):TE:=λσ H Q=>te σ H λx H1=>tl σ H1 λl H2=>th σ H2 λu H3=>r x l u H3 Q
def AB(hr:SlR X r)(he:PE X e te)(hl:PO X lo tl)(hu:PO X hi th):PE X (.Subscript e (.Slice lo hi none p2) pos) (tSl r te tl th):=by
 intro pins s σ H Q I h
 refine Subscript_ (thn (he pins s σ H _ I h) λv s1 ⟨x,H1,I1,r1,q1⟩=>?_)
 refine wpAny_Slice (thn (hl pins s1 σ H1 _ I1 q1) λvl s2 ⟨l,H2,I2,pl,q2⟩=>thn (hu pins s2 σ H2 _ I2 q2) λvu s3 ⟨u,H3,I3,pu,q3⟩=>?_)
 rw[evalPart_none]
 refine w_ ?_
 have I4:Inv X pins σ H3 { s3 with heap:=s3.heap.push { cls:=.type "slice",data:=.fields #[vl,vu,.none] } }:=I3.kept (t':=s3.toks) λb ob q=>t_ _ q
 obtain⟨T,id,hT,ht,hg⟩:=hr pins { s3 with heap:=s3.heap.push { cls:=.type "slice",data:=.fields #[vl,vu,.none] } } σ H3 x v vl vu l u s3.heap.objs.size Q I4 r1 (Heap.IsSliceOf.new ..) pl pu q3
 show wpAny (model X.prog X.w) X.A (subscriptTail e (.Slice lo hi none p2) v (.ref s3.heap.objs.size)) (EP X pins σ Q) X.xe { s3 with heap:=s3.heap.push { cls:=.type "slice",data:=.fields #[vl,vu,.none] } }
 exact tail_any (ops:=[.ref s3.heap.objs.size,v]) ht hT hg (by with_unfolding_all rfl)
def jG(xs:List V)(lo hi:Option Int):List V:=(xs.drop (HT.sIx xs.length 0 lo)).take (HT.sIx xs.length xs.length hi-HT.sIx xs.length 0 lo)
def kE(xs:List V)(lo hi:Option Int):(jG xs lo hi).length<=xs.length:=by
 unfold jG
 rw[Pf,Qf]
 omega
def rSlT(K:W.Frag):V->Option Int->Option Int->Hp->VK->Prop:=λx lo hi H Q=>∃a xs,x=.ref a/\SqT K H a xs/\
 ¬ (HT.sIx xs.length 0 lo=0/\HT.sIx xs.length xs.length hi=xs.length)/\∀p,H p=none->Q (.ref p) (upd H p (.tup (jG xs lo hi)))
def Ia:SlR X (rSlT X.K):=by
 intro pins s σ H x v vl vu lo hi sl Q I rx hs pl pu h
 obtain⟨a,xs,rfl,hx,hw,q⟩:=h
 cases rx
 obtain⟨its,r,ht,hz⟩:=I.tuple hx
 have bd:its.toArray.size=xs.length:=by rw[y_];exact r.length.symm
 refine⟨"tuple",_,PyProof.Rows.slot_tuple_getitem.lookup,ht.typeIs,?_⟩
 refine HT.getItem_tuple_cut ht hs pl pu (by rw[bd];exact hw) ?_ (by rw[bd];exact hz)
 rw[bd]
 refine⟨.ref s.heap.objs.size,_,I.laid (t':=s.toks) (o:=.tup (jG xs lo hi)) (λb ob q=>t_ _ q) (m_ _) ?_,rfl,q _ (I.hok.fresh (m_ _))⟩
 exact⟨F_ (kE xs lo hi) hz,_,(r.drop (HT.sIx xs.length 0 lo)).take (HT.sIx xs.length xs.length hi-HT.sIx xs.length 0 lo),IsTup.new _ _⟩
def j4(K:W.Frag):R2:=λx y H Q=>∃a b xs ys,x=.ref a/\y=.ref b/\SqT K H a xs/\SqT K H b ys/\xs≠[]/\xs.length+ys.length<=sizeLine/\
 (ys=[]->Q (.ref a) H)/\(ys≠[]->∀p,H p=none->Q (.ref p) (upd H p (.tup (xs++ys))))
def Vals.nil_iff(r:Vals xs us):us=[] ↔ xs=[]:=by
 cases r with
 |nil=>simp
 |cons _ _=>simp
def Et:OpR X (binaryOp .Add) (j4 X.K):=by
 intro pins s σ H x y v u Q I rx ry h
 obtain⟨a,b,xs,ys,rfl,rfl,ha,hb,hx,hz,q1,q2⟩:=h
 cases rx
 cases ry
 obtain⟨its,r1,p1,_⟩:=I.tuple ha
 obtain⟨its2,r2,p2,_⟩:=I.tuple hb
 refine HT.cat_tup p1 p2 (λz=>hx (r1.nil_iff.mp z)) (λz=>⟨.ref a,H,I,rfl,q1 (r2.nil_iff.mp z)⟩) (λz=>?_) (by rw[<- r1.length,<- r2.length];exact hz)
 refine⟨.ref s.heap.objs.size,_,I.laid (t':=s.toks) (o:=.tup (xs++ys)) (λb ob q=>t_ _ q) (m_ _) ?_,rfl,q2 (λw=>z (r2.nil_iff.mpr w)) _ (I.hok.fresh (m_ _))⟩
 exact⟨by rw[p_];exact hz,_,r1.append r2,IsTup.new _ _⟩
end
noncomputable def ixN(n:Nat)(i:Int):Option Nat:=if 0<=i then (if i<n then some i.toNat else none) else if -(n:Int)<=i then some (i+n).toNat else none
def atI{α:Type}(xs:List α)(i:Int):Option α:=(ixN xs.length i).bind λj=>xs[j]?
def uE(h:ixN n i=some j):seqIndex? i n=some j/\j<n/\-(n:Int)<=i/\i<n:=by
 unfold ixN at h
 by_cases h0:0<=i
 ·rw[if_pos h0] at h
  by_cases h1:i<n
  ·rw[if_pos h1] at h
   have e:i.toNat=j:=C_ h
   exact⟨by rw[seqIndex_of h0 h1,e],by omega,by omega,h1⟩
  ·rw[if_neg h1] at h;cases h
 ·rw[if_neg h0] at h
  by_cases h1:-(n:Int)<=i
  ·rw[if_pos h1] at h
   have e:(i+n).toNat=j:=C_ h
   exact⟨by rw[seqIndex_neg (by omega) h1,e],by omega,h1,by omega⟩
  ·rw[if_neg h1] at h;cases h
def uF(h:atI xs i=some v):∃j,seqIndex? i xs.length=some j/\xs[j]?=some v/\j<xs.length/\-(xs.length:Int)<=i/\i<xs.length:=by
 unfold atI at h
 cases e:ixN xs.length i with
 |none=>rw[e] at h;cases h
 |
  some j=>
  rw[e] at h
  obtain⟨h1,h2,h3,h4⟩:=uE e
  exact⟨j,h1,h,h2,h3,h4⟩
def kc(b:Expr):Prop:=∀o i,subscripted b false o i=operate [o,i] (getItem o i)
def IxR(X:Cx)(r:R2):Prop:=
 ∀
  (value h_:Expr) (pins:Rb) (s:Shared) (σ:St) (H:Hp) (x y:V) (v u:Value) (Q:VK),Inv X pins σ H s->RelV x v->RelV y u->r x y H Q->
  subscripted h_ false v u=operate [v,u] (getItem v u)->wpAny (model X.prog X.w) X.A (subscriptTail value h_ v u) (EP X pins σ Q) X.xe s
def MtR(X:Cx)(id:String)(r:V->List V->Hp->VK->Prop):Prop:=
 ∀
  (pins:Rb) (s:Shared) (σ:St) (H:Hp) (x:V) (xs:List V) (v:Value) (us:List Value) (Q:VK),Inv X pins σ H s->RelV x v->Vals xs us->r x xs H Q->
  wpAny (model X.prog X.w) X.A (call (.builtin id) (v::us)) (EP X pins σ Q) X.xe s
section
variable{X:Cx}{a b:Expr}{ta tb:TE}{pos:Pos}
def IxR.or(h:IxR X r)(h':IxR X r'):IxR X (λx y H Q=>r x y H Q\/r' x y H Q):=by
 intro value h_ pins s σ H x y v u Q I rx ry q hs
 rcases q with q |q
 ·exact h value h_ pins s σ H x y v u Q I rx ry q hs
 ·exact h' value h_ pins s σ H x y v u Q I rx ry q hs
def Np(hr:IxR X r)(ha:PE X a ta)(hb:PE X b tb)(hs:kc b):PE X (.Subscript a b pos) (tOp r ta tb):=by
 intro pins s σ H Q I h
 exact Subscript_ (Ca ha hb I h λv u s2 x y H2 I2 rx ry q=>hr a b pins s2 σ H2 x y v u Q I2 rx ry q (hs _ _))
def vS(K:W.Frag):R2:=λx y H Q=>∃p xs i v,x=.ref p/\y=.int i/\SqL K H p xs/\atI xs i=some v/\Q v H
def vU(K:W.Frag):R2:=λx y H Q=>∃p xs i v,x=.ref p/\y=.int i/\SqT K H p xs/\atI xs i=some v/\Q v H
def F7:IxR X (vS X.K):=by
 intro value h_ pins s σ H x y v u Q I rx ry h hs
 obtain⟨p,xs,i,z,rfl,rfl,hq,he,q⟩:=h
 cases rx
 obtain⟨t,rfl⟩:=ry
 obtain⟨its,r,pl,hz⟩:=I.list hq
 obtain⟨j,h1,h2,h3,h4,h5⟩:=uF he
 obtain⟨w,ew,rw'⟩:=r.get h2
 have hl:=r.length
 have hn:=iS
 have gl:EP X pins σ Q w s:=⟨z,H,I,rw',q⟩
 by_cases h0:0<=i
 ·have hj:i.toNat=j:=by
   rw[seqIndex_of h0 h5] at h1
   exact C_ h1
  exact item_listR pl.isList h0 (by omega) (by rw[hj];simpa using ew) gl hs
 ·have hj:(i+(its.toArray.size:Int)).toNat=j:=by
   rw[seqIndex_neg (by omega) h4] at h1
   rw[y_,<- hl]
   exact C_ h1
  exact subscriptTail_builtinR (x:=w) pl.isList.typeIs slot_list_getitem.lookup
   (wpAny_getItem_list_neg (Q:=λr s'=>r=w/\EP X pins σ Q r s') pl.isList (by omega) (by rw[y_] <;> omega) (by omega) (by rw[hj];simpa using ew) ⟨rfl,gl⟩) hs
def ID:IxR X (vU X.K):=by
 intro value h_ pins s σ H x y v u Q I rx ry h hs
 obtain⟨p,xs,i,z,rfl,rfl,hq,he,q⟩:=h
 cases rx
 obtain⟨t,rfl⟩:=ry
 obtain⟨its,r,pl,hz⟩:=I.tuple hq
 obtain⟨j,h1,h2,h3,h4,h5⟩:=uF he
 obtain⟨w,ew,rw'⟩:=r.get h2
 have hl:=r.length
 have hn:=iS
 have gl:EP X pins σ Q w s:=⟨z,H,I,rw',q⟩
 exact subscriptTail_builtinR (x:=w) pl.typeIs slot_tuple_getitem.lookup
  (getItem_tuple (j:=j) (Q:=λr s'=>r=w/\EP X pins σ Q r s') pl (by omega) (by omega) (by rw[y_,<- hl];exact h1) (by simpa using ew) ⟨rfl,gl⟩) hs
def vI(its:List Value)(n j:Nat)(u:Value):Obj.mapSeq (·.setIfInBounds j u) { cls:=.type "list",data:=.seq its.toArray n }={ cls:=.type "list",data:=.seq (its.set j u).toArray n }:=by
 simp [Obj.mapSeq]
def Inv.lst(I:Inv X pins σ H s)(h:H p=some (.lst xs)):
 ∃(its:List Value) (n:Nat),Vals xs its/\s.heap.get? p=some { cls:=.type "list",data:=.seq its.toArray n }/\xs.length<=sizeLine:=by
 obtain⟨z,its,n,r,e⟩:=I.hok p _ h
 exact⟨its,n,r,e,z⟩
def Inv.lstUpd{pins:Rb}{σ:St}{H:Hp}{s:Shared}{p:Addr}{xs ys:List V}{its its':List Value}{n n':Nat}{f:Obj->Obj}(I:Inv X pins σ H s)(h:H p=some (.lst xs))
 (ho:s.heap.get? p=some { cls:=.type "list",data:=.seq its.toArray n }) (hf:f { cls:=.type "list",data:=.seq its.toArray n }={ cls:=.type "list",data:=.seq its'.toArray n' }) (r:Vals ys its') (hz:ys.length<=sizeLine) (t:Nat):
 Inv X pins σ (upd H p (.lst ys)) { s with heap:=s.heap.update p f,toks:=t }:=by
 have e:(s.heap.update p f).get? p=some { cls:=.type "list",data:=.seq its'.toArray n' }:=by
  rw[Heap.get?_update_self f ho (by rw[hf] <;> rfl),hf]
 refine I.write (x:=p) (e:=p) (by rw[h];trivial) (.inl rfl) (λb u hb q=>(QB _ _ (Ne.symm hb)).trans q) ⟨_,e⟩ ?_
 exact⟨hz,its',n',r,e⟩
def wO:V->V->V->Hp->(Hp->Prop)->Prop:=λo i v H Q=>∃p xs k j,o=.ref p/\i=.int k/\H p=some (.lst xs)/\ixN xs.length k=some j/\Q (upd H p (.lst (xs.set j v)))
def CB:rQ X wO:=by
 intro pins s σ H o i v ov iv u Q I ro ri rv h
 obtain⟨p,xs,k,j,rfl,rfl,hp,hj,q⟩:=h
 cases ro
 obtain⟨t,rfl⟩:=ri
 obtain⟨its,n,r,ho,hz⟩:=I.lst hp
 obtain⟨h1,h2,h3,h4⟩:=uE hj
 have hl:=r.length
 have hn:=iS
 have I':Inv X pins σ (upd H p (.lst (xs.set j v))) { s with heap:=s.heap.update p (Obj.mapSeq (·.setIfInBounds j u)) }:=
  I.lstUpd hp ho (vI its n j u) (r.set rv j) (by rw[B_];exact hz) s.toks
 by_cases h0:0<=k
 ·have hk:k.toNat=j:=by
   rw[seqIndex_of h0 h4] at h1
   exact C_ h1
  exact W.ki_setAt ho h0 (by omega) (by rw[y_,<- hl];exact h4) (by rw[hk];exact⟨_,I',q⟩)
 ·have hk:(k+(its.toArray.size:Int)).toNat=j:=by
   rw[seqIndex_neg (by omega) h3] at h1
   rw[y_,<- hl]
   exact C_ h1
  exact W.ki_setBack ho (by omega) (by rw[y_,<- hl];exact h3) (by omega) (by rw[hk];exact⟨_,I',q⟩)
def tD(lo hi:Option Int)(n:Nat):(sliceBounds lo hi none n).1=((HT.sIx n 0 lo:Nat):Int)/\(sliceBounds lo hi none n).2.1=((HT.sIx n n hi:Nat):Int)/\(sliceBounds lo hi none n).2.2=1:=by
 refine⟨?_,?_,rfl⟩
 ·cases lo with
  |none=>simp [sliceBounds,HT.sIx]
  |
   some i=>
   simp only[sliceBounds,HT.sIx,Option.getD_none,show (1:Int)>0 by decide,Pd]
   by_cases h:i<0
   ·simp only[h,Pd] <;> omega
   ·simp only[h,P9] <;> omega
 ·cases hi with
  |none=>simp [sliceBounds,HT.sIx]
  |
   some i=>
   simp only[sliceBounds,HT.sIx,Option.getD_none,show (1:Int)>0 by decide,Pd]
   by_cases h:i<0
   ·simp only[h,Pd] <;> omega
   ·simp only[h,P9] <;> omega
def pS(its:List Value)(lo hi:Option Int):slicePick its.toArray lo hi none=((its.drop (HT.sIx its.length 0 lo)).take (HT.sIx its.length its.length hi-HT.sIx its.length 0 lo)).toArray:=by
 obtain⟨h1,h2,h3⟩:=tD lo hi its.toArray.size
 unfold slicePick
 rw[h1,h2,h3]
 simp only[sliceRange_one,pick_run,y_] <;> rfl
def rSlL(K:W.Frag):V->Option Int->Option Int->Hp->VK->Prop:=λx lo hi H Q=>∃a xs,x=.ref a/\SqL K H a xs/\∀p,H p=none->Q (.ref p) (upd H p (.lst (jG xs lo hi)))
def FX:SlR X (rSlL X.K):=by
 intro pins s σ H x v vl vu lo hi sl Q I rx hs pl pu h
 obtain⟨a,xs,rfl,hx,q⟩:=h
 cases rx
 obtain⟨its,r,ht,hz⟩:=I.list hx
 have bd:=r.length
 refine⟨"list",_,slot_list_getitem.lookup,ht.isList.typeIs,?_⟩
 refine wpAny_getItem_list_slice ht.isList hs pl pu .none (by simp) ?_ (by rw[y_] <;> omega)
 rw[pS,<- bd]
 refine⟨.ref s.heap.objs.size,_,I.laid (t':=s.toks) (o:=.lst (jG xs lo hi)) (λb ob q=>t_ _ q) (m_ _) ?_,rfl,q _ (I.hok.fresh (m_ _))⟩
 exact⟨F_ (kE xs lo hi) hz,_,0,(r.drop (HT.sIx xs.length 0 lo)).take (HT.sIx xs.length xs.length hi-HT.sIx xs.length 0 lo),E_ _ rfl⟩
noncomputable def aK:V->Bool
 |.non=>true
 |.bl _=>true
 |.int _=>true
 |.str _=>true
 |_=>false
noncomputable def eqV:V->V->Bool
 |.non,.non=>true
 |.bl a,.bl b=>a==b
 |.bl a,.int b=>(if a then 1 else 0)==b
 |.int a,.bl b=>a==(if b then 1 else 0)
 |.int a,.int b=>a==b
 |.str a,.str b=>a==b
 |_,_=>false
def K3(ry:RelV y u)(rx:RelV x v)(fy:aK y=true)(fx:aK x=true):SeqAt.EqAt A s u v (eqV y x):=by
 cases y with
 |
  non=>
  cases ry
  cases x with
  |non=>cases rx;exact SeqAt.EqAt.same _
  |bl b=>cases rx;exact SeqAt.EqAt.none_bool b
  |int b=>obtain⟨t,rfl⟩:=rx;exact SeqAt.EqAt.none_int b t
  |str b=>obtain⟨t,rfl⟩:=rx;exact SeqAt.EqAt.none_str b t
  |_=>exact absurd (show false=true from fx) s_
 |
  bl a=>
  cases ry
  cases x with
  |non=>cases rx;exact SeqAt.EqAt.bool_none a
  |bl b=>cases rx;exact SeqAt.EqAt.bool_bool a b
  |int b=>obtain⟨t,rfl⟩:=rx;exact SeqAt.EqAt.bool_int a b t
  |str b=>obtain⟨t,rfl⟩:=rx;exact SeqAt.EqAt.bool_str a b t
  |_=>exact absurd (show false=true from fx) s_
 |
  int a=>
  obtain⟨t',rfl⟩:=ry
  cases x with
  |non=>cases rx;exact SeqAt.EqAt.int_none a t'
  |bl b=>cases rx;exact SeqAt.EqAt.int_bool a t' b
  |int b=>obtain⟨t,rfl⟩:=rx;exact SeqAt.EqAt.int_int a t' b t
  |str b=>obtain⟨t,rfl⟩:=rx;exact SeqAt.EqAt.int_str a t' b t
  |_=>exact absurd (show false=true from fx) s_
 |
  str a=>
  obtain⟨t',rfl⟩:=ry
  cases x with
  |non=>cases rx;exact SeqAt.EqAt.str_none a t'
  |bl b=>cases rx;exact SeqAt.EqAt.str_bool a t' b
  |int b=>obtain⟨t,rfl⟩:=rx;exact SeqAt.EqAt.str_int a t' b t
  |str b=>obtain⟨t,rfl⟩:=rx;exact SeqAt.EqAt.str_str a t' b t
  |_=>exact absurd (show false=true from fx) s_
 |_=>exact absurd (show false=true from fy) s_
noncomputable def eqU(x:V)(u:Value):Bool:=match u with
 |.none=>eqV .non x
 |.bool b=>eqV (.bl b) x
 |.int i _=>eqV (.int i) x
 |.str z _=>eqV (.str z) x
 |_=>false
def xO(r:RelV y u)(f:aK y=true):eqU x u=eqV y x:=by
 cases y with
 |non=>cases r;rfl
 |bl b=>cases r;rfl
 |int i=>obtain⟨t,rfl⟩:=r;rfl
 |str z=>obtain⟨t,rfl⟩:=r;rfl
 |_=>exact absurd (show false=true from f) s_
theorem nF:∀{xs:List V}{us:List Value},Vals xs us->xs.all aK=true->us.any (eqU x)=xs.any λy=>eqV y x
 |_,_,.nil,_=>rfl
 |
  y::xs,u::us,.cons r t,f=>by
  rw[Qk,r_] at f
  rw[OZ,OZ,xO r f.1,nF t f.2]
theorem lB(rx:RelV x v)(fx:aK x=true):∀{xs:List V}{us:List Value},Vals xs us->xs.all aK=true->∀u∈us,SeqAt.EqAt A s u v (eqU x u)
 |_,_,.nil,_=>λu hu=>by cases hu
 |
  y::xs,u::us,.cons r t,f=>λu' hu=>by
  rw[Qk,r_] at f
  rcases D_.mp hu with rfl |hu
  ·rw[xO r f.1];exact K3 r rx f.1 fx
  ·exact lB rx fx t f.2 u' hu
def inV(x:V)(xs:List V):Bool:=xs.any λy=>eqV y x
def rIn(K:W.Frag)(neg:Bool):R2:=λx y H Q=>∃p xs,y=.ref p/\(SqL K H p xs\/SqT K H p xs)/\aK x=true/\xs.all aK=true/\Q (.bl (if neg then !inV x xs else inV x xs)) H
def xH:OpR X (compareOp .In) (rIn X.K false):=by
 intro pins s σ H x y v u Q I rx ry h
 obtain⟨p,xs,rfl,hq,fx,fs,q⟩:=h
 cases ry
 rcases hq with hq |hq
 ·obtain⟨its,r,pl,hz⟩:=I.list hq
  refine SeqAt.in_listAt (eqU x) pl.isList (λw hw=>lB rx fx r fs w (by simpa using hw)) ⟨.bl _,H,I,rfl,?_⟩
  rw[show its.toArray.any (eqU x)=its.any (eqU x) by simp,nF r fs]
  exact q
 ·obtain⟨its,r,pl,hz⟩:=I.tuple hq
  refine SeqAt.in_tupleAt (eqU x) pl (λw hw=>lB rx fx r fs w (by simpa using hw)) ⟨.bl _,H,I,rfl,?_⟩
  rw[show its.toArray.any (eqU x)=its.any (eqU x) by simp,nF r fs]
  exact q
def rX:CallR X (.builtin "len") (λxs H Q=>∃p ys,xs=[.ref p]/\(SqL X.K H p ys\/SqT X.K H p ys)/\Q (.int ys.length) H):=by
 intro pins s σ H xs us Q I r h
 obtain⟨p,ys,rfl,hq,q⟩:=h
 obtain⟨u,rfl,rx⟩:=ji r
 cases rx
 have hn:=iS
 rcases hq with hq |hq
 ·obtain⟨its,r',pl,hz⟩:=I.list hq
  have bd:=r'.length
  exact Calls.call_len_list pl.isList (by simp only[y_] <;> omega) ⟨.int ys.length,H,I.tok _,⟨s.toks+1,by rw[y_,bd]⟩,q⟩
 ·obtain⟨its,r',pl,hz⟩:=I.tuple hq
  have bd:=r'.length
  exact len_tuple pl (by simp only[y_] <;> omega) ⟨.int ys.length,H,I.tok _,⟨s.toks+1,by rw[y_,bd]⟩,q⟩
def qW:CallR X (.builtin "len") (λxs H Q=>∃z,xs=[.str z]/\z.length<=sizeLine/\Q (.int z.length) H):=by
 intro pins s σ H xs us Q I r h
 obtain⟨z,rfl,hz,q⟩:=h
 obtain⟨u,rfl,t,rfl⟩:=ji r
 have hn:=iS
 exact len_str (by omega) ⟨.int z.length,H,I.tok _,⟨_,rfl⟩,q⟩
def CallR.or(h:CallR X f r)(h':CallR X f r'):CallR X f (λxs H Q=>r xs H Q\/r' xs H Q):=by
 intro pins s σ H xs us Q I rs q
 rcases q with q |q
 ·exact h pins s σ H xs us Q I rs q
 ·exact h' pins s σ H xs us Q I rs q
def pJ:CallR X (.type "tuple") (λxs H Q=>∃p ys,xs=[.ref p]/\((SqL X.K H p ys/\∀l,H l=none->Q (.ref l) (upd H l (.tup ys)))\/(SqT X.K H p ys/\Q (.ref p) H))):=by
 intro pins s σ H xs us Q I r h
 obtain⟨p,ys,rfl,h⟩:=h
 obtain⟨u,rfl,rx⟩:=ji r
 cases rx
 rcases h with ⟨hq,q⟩ |⟨hq,q⟩
 ·obtain⟨its,r',pl,hz⟩:=I.list hq
  have bd:=r'.length
  refine call_tuple_list pl.isList (λh' kp=>?_) (by simp only[y_] <;> omega)
  have I1:Inv X pins σ H { s with heap:=h' }:=I.kept (t':=s.toks) kp
  have I2:Inv X pins σ (upd H h'.objs.size (.tup ys)) { s with heap:=h'.push { cls:=.type "tuple",data:=.seq its.toArray } }:=
   I1.laid (t':=s.toks) (λb o e=>t_ _ e) (m_ _) (show ObjOk X.prog X.w _ _ _ (.tup ys) from ⟨hz,its,r',IsTup.new _ _⟩)
  exact⟨.ref h'.objs.size,_,I2,rfl,q _ (I1.hok.fresh (m_ _))⟩
 ·obtain⟨its,r',pl,hz⟩:=I.tuple hq
  exact call_tuple_same pl ⟨.ref p,H,I,rfl,q⟩
def tyV(K:W.Frag)(T:String)(x:V)(H:Hp):Prop:=match x with
 |.str _=>T="str"
 |.int _=>T="int"
 |.ref p=>(T="list" /\ ∃xs,SqL K H p xs)\/(T="tuple" /\ ∃o,K.lookup p=some o/\o.cls=.type "tuple" /\ o.dict=none)\/
  (T="dict" /\ ((∃kvs,H p=some (.dK kvs))\/∃kvs,H p=some (.dT kvs)))\/(T="set" /\ ∃S n,H p=some (.set S n))
 |_=>False
def xM(I:Inv X pins σ H s)(r:RelV x v)(ty:tyV X.K T x H):
 s.TypeIs v T/\∀a,v=.ref a->∃ob,s.heap.get? a=some ob/\ob.dict=none:=by
 cases x with
 |
  str z=>
  obtain⟨t,rfl⟩:=r
  cases (show T="str" from ty)
  exact⟨typeIs_str s z t,λ_ e=>nomatch e⟩
 |
  int i=>
  obtain⟨t,rfl⟩:=r
  cases (show T="int" from ty)
  exact⟨typeIs_int s i t,λ_ e=>nomatch e⟩
 |
  ref p=>
  cases r
  rcases ty with ⟨rfl,xs,hq⟩ |⟨rfl,o,hk,hc,hd⟩ |⟨rfl,hk⟩ |⟨rfl,S,n,hk⟩
  ·obtain⟨its,_,pl,_⟩:=I.list hq
   refine⟨pl.isList.typeIs,λa e=>?_⟩
   cases e
   obtain⟨o,n,e,c,hd,_⟩:=pl
   exact⟨o,e,hd⟩
  ·refine⟨⟨o,I.kIn p o hk,hc⟩,λa e=>?_⟩
   cases e
   exact⟨o,I.kIn _ o hk,hd⟩
  ·have z:∃o,s.heap.get? p=some o/\o.ExactDict:=by
    rcases hk with ⟨kvs,hk⟩ |⟨kvs,hk⟩
    ·obtain⟨_,_,_,_,o,_,_,e,ex,_⟩:=I.hok p _ hk
     exact⟨o,e,ex⟩
    ·obtain⟨_,_,_,_,o,_,_,e,ex,_⟩:=I.hok p _ hk
     exact⟨o,e,ex⟩
   obtain⟨o,e,ex⟩:=z
   refine⟨⟨o,e,ex.1⟩,λa e2=>?_⟩
   cases e2
   exact⟨o,e,ex.2.1⟩
  ·obtain⟨o,_,_,_,e,ex,_⟩:=I.hok p _ hk
   refine⟨⟨o,e,ex.1⟩,λa e2=>?_⟩
   cases e2
   exact⟨o,e,ex.2.1⟩
 |_=>exact False.elim ty
def tBM0(K:W.Frag)(T:String)(r:V->List V->Hp->VK->Prop)(to:TE):TE:=λσ H Q=>to σ H λx H1=>tyV K T x H1/\r x [] H1 Q
def tBM(K:W.Frag)(T:String)(r:V->List V->Hp->VK->Prop)(to:TE)(t:TA):TE:=λσ H Q=>to σ H λx H1=>tyV K T x H1/\t σ H1 λxs H2=>r x xs H2 Q
variable{o e:Expr}{es:List Expr}{to:TE}{t:TA}{name:Str}{apos cpos:Pos}{T id:String}{r:V->List V->Hp->VK->Prop}
def Gx(pa:PlainAttrs T)(slot:Slot T name id)(hty:typeOf (.builtin id)=pure (.type "method_descriptor"))(hm:MtR X id r)(ho:PE X o to)
 (d_:attributeBase o name X.env (eval o X.env)=eval o X.env) (e_:(apos.endLine==cpos.line)=true):PE X (.Call (.Attribute o name apos) [] [] cpos) (tBM0 X.K T r to):=by
 intro pins s σ H Q I h
 refine wpAny_Call_method0_late d_ e_ (thn (ho pins s σ H _ I h) λv s1 ⟨x,H1,I1,r1,ty,q1⟩=>?_)
 obtain⟨h1,h2⟩:=xM I1 r1 ty
 exact⟨T,id,pa,slot,hty,h1,h2,Calls.callWith_builtin rfl (PySem.evalArgs_none (hm pins s1 σ H1 x [] v [] Q I1 r1 .nil q1))⟩
def CI(pa:PlainAttrs T)(slot:Slot T name id)(hty:typeOf (.builtin id)=pure (.type "method_descriptor"))(hm:MtR X id r)(ho:PE X o to)(ha:PA X (e::es) t)
 (d_:attributeBase o name X.env (eval o X.env)=eval o X.env)
 (hfew:((backTo cpos (starEach (e::es) X.env)).all (λx=>!x.1)&&(backToKw cpos (keywordEach [] X.env)).all (λx=>x.1.isSome)
  && decide ((e::es).length+([]:List Keyword).length+(if ([]:List Keyword).isEmpty then 0 else 1)<30))=true)
 (e_:(apos.endLine==cpos.line)=true) (hs:starEach (e::es) X.env=(false,eval e X.env)::starEach es X.env) (ci:(backTo cpos (starEach es X.env)).any (·.1)=false):
 PE X (.Call (.Attribute o name apos) (e::es) [] cpos) (tBM X.K T r to t):=by
 intro pins s σ H Q I h
 refine wpAny_Call_method_late d_ hfew e_ rfl (thn (ho pins s σ H _ I h) λv s1 ⟨x,H1,I1,r1,ty,q1⟩=>?_)
 obtain⟨h1,h2⟩:=xM I1 r1 ty
 refine⟨T,id,pa,slot,hty,h1,h2,?_⟩
 have hA:=ha cpos pins s1 σ H1 _ I1 q1
 rw[hs] at hA ⊢
 refine Calls.callWith_builtin (by show (false || (backTo cpos (starEach es X.env)).any (·.1))=false;rw[ci] <;> rfl) (Calls.evalArgs_plain ?_)
 exact thn hA λus s2 ⟨vs,H2,I2,r2,q2⟩=>hm pins s2 σ H2 x vs v us Q I2 r1 r2 q2
end
def MtM(X:Cx)(id:String)(r:V->List V->Hp->VK->Prop):Prop:=
 ∀
  (pins:Rb) (s:Shared) (σ:St) (H:Hp) (x:V) (xs:List V) (v:Value) (us:List Value) (Q:VK),Inv X pins σ H s->RelV x v->Vals xs us->r x xs H Q->
  wpAny (model X.prog X.w) X.A (call (.builtin id) (v::us)) (EP X pins σ Q) X.xe s
def Vals.one(r:Vals [x] us):∃u,us=[u]/\RelV x u:=by
 cases r with
 |cons r t=>cases t;exact⟨_,rfl,r⟩
theorem Vals.zero:∀{us:List Value},Vals [] us->us=[]
 |_,.nil=>rfl
def Vals.dropLast(h:Vals xs us):Vals xs.dropLast us.dropLast:=by
 induction h with
 |nil=>exact .nil
 |
  cons r t ih=>
  cases t with
  |nil=>exact .nil
  |cons q t'=>exact .cons r ih
def xB{α:Type}(l:List α):l.eraseIdx (l.length-1)=l.dropLast:=by
 induction l with
 |nil=>rfl
 |
  cons a r ih=>
  cases r with
  |nil=>rfl
  |
   cons b r=>
   have e:(a::b::r).length-1=((b::r).length-1)+1:=by
    have h1:(a::b::r).length=r.length+2:=rfl
    have h2:(b::r).length=r.length+1:=rfl
    omega
   rw[e,List.eraseIdx_cons_succ,ih]
   all_goals rfl
section
variable{X:Cx}{pins:Rb}{σ:St}{H:Hp}{s:Shared}{l b:Addr}{xs ys zs:List V}
def Inv.lset{its its':List Value}{n:Nat}{f:Array Value->Array Value}{t':Nat}(I:Inv X pins σ H s)(hH:H l=some (.lst xs))
 (e:s.heap.get? l=some { cls:=.type "list",data:=.seq its.toArray n }) (hf:f its.toArray=its'.toArray) (hv:Vals ys its') (hz:ys.length<=sizeLine):
 Inv X pins σ (upd H l (.lst ys)) { s with heap:=s.heap.update l (Obj.mapSeq f),toks:=t' }:=by
 have q:=PySem.IsL.update e f
 rw[hf] at q
 refine I.write (x:=l) (e:=l) (by rw[hH];exact trivial) (.inl rfl) (λb' u hb hu=>(QB s.heap (Obj.mapSeq f) (Ne.symm hb)).trans hu) ⟨_,q⟩ ?_
 exact⟨hz,its',_,hv,q⟩
def Inv.lnew(I:Inv X pins σ H s)(hv:Vals ys its)(hz:ys.length<=sizeLine):
 Inv X pins σ (upd H s.heap.objs.size (.lst ys)) { s with heap:=s.heap.push { cls:=.type "list",data:=.seq its.toArray },toks:=t' }:=
 I.laid (λ_ _ q=>t_ _ q) (m_ _) ⟨hz,its,0,hv,E_ _ rfl⟩
def Inv.fresh(I:Inv X pins σ H s):H s.heap.objs.size=none:=I.hok.fresh (m_ _)
def Inv.lstM(I:Inv X pins σ H s)(hH:H l=some (.lst xs)):xs.length<=sizeLine/\∃(its:List Value) (n:Nat),Vals xs its/\xs.length=its.length/\s.heap.get? l=some { cls:=.type "list",data:=.seq its.toArray n }:=by
 obtain⟨z,its,n,r,e⟩:=I.hok l _ hH
 exact⟨z,its,n,r,r.length,e⟩
def zV{n:Nat}(h:n<=sizeLine):Builtin.List.listTooLong n=false:=by
 unfold Builtin.List.listTooLong
 exact u_ (by omega)
end
section
variable{X:Cx}
def oB:V->List V->Hp->VK->Prop:=λx vs H Q=>∃l xs y,x=.ref l/\vs=[y]/\H l=some (.lst xs)/\xs.length<sizeLine/\Q .non (upd H l (.lst (xs++[y])))
def oG:MtM X "list.append" oB:=by
 intro pins s σ H x vs v us Q I rx rv h
 obtain⟨l,xs,y,rfl,rfl,hH,hz,q⟩:=h
 cases rx
 obtain⟨u,rfl,ru⟩:=rv.one
 obtain⟨z,its,n,r,hl,e⟩:=I.lstM hH
 refine call_meets F.slot_list_append ⟨_,e,rfl⟩ F.entry_list_append (F.args_list_append_2 _ _) (PySem.list_append l its.toArray n u (by rw[y_];omega)) ⟨e,?_⟩
 refine⟨.non,_,I.lset (its':=its++[u]) hH e (by simp) (r.append (.cons ru .nil)) ?_,rfl,q⟩
 rw[p_,List.length_singleton]
 omega
def By:V->List V->Hp->VK->Prop:=λx vs H Q=>∃l xs y,x=.ref l/\vs=[]/\H l=some (.lst xs)/\xs[xs.length-1]?=some y/\Q y (upd H l (.lst xs.dropLast))
def GK:MtM X "list.pop" By:=by
 intro pins s σ H x vs v us Q I rx rv h
 obtain⟨l,xs,y,rfl,rfl,hH,hy,q⟩:=h
 cases rx
 have hus:=rv.zero
 subst hus
 obtain⟨z,its,n,r,hl,e⟩:=I.lstM hH
 obtain⟨u,hu,ru⟩:=r.get hy
 have hy':its.toArray[its.toArray.size-1]?=some u:=by
  show its.toArray[its.length-1]?=some u
  rw[<- Array.getElem?_toList,<- hl]
  exact hu
 refine call_meets F.slot_list_pop ⟨_,e,rfl⟩ F.entry_list_pop (F.args_list_pop_1 _) (MeetsSeq.list_pop_last l its.toArray n u hy' (by rw[y_];omega)) ⟨e,?_⟩
 refine⟨y,_,I.lset (its':=its.dropLast) hH e ?_ r.dropLast ?_,ru,q⟩
 ·show its.toArray.eraseIdxIfInBounds (its.toArray.size-1)=its.dropLast.toArray
  rw[y_,List.eraseIdxIfInBounds_toArray,xB]
 ·rw[List.length_dropLast]
  omega
def n8:R2:=λx y H Q=>∃l b xs zs,x=.ref l/\y=.ref b/\H l=some (.lst xs)/\H b=some (.lst zs)/\xs.length+zs.length<=sizeLine/\∀p,H p=none->Q (.ref p) (upd H p (.lst (xs++zs)))
def JS:OpR X (binaryOp .Add) n8:=by
 intro pins s σ H x y v u Q I rx ry h
 obtain⟨l,b,xs,zs,rfl,rfl,hH,hB,hz,q⟩:=h
 cases rx
 cases ry
 obtain⟨z,its,n,r,hl,e⟩:=I.lstM hH
 obtain⟨z2,its2,n2,r2,hl2,e2⟩:=I.lstM hB
 refine PySem.P.add_list e e2 ?_ (by rw[y_,y_];omega)
 have ea:its.toArray++its2.toArray=(its++its2).toArray:=by simp
 rw[ea]
 exact⟨.ref _,_,I.lnew (t':=s.toks) (r.append r2) (by rw[p_];omega),rfl,q _ I.fresh⟩
end
section
variable{prog:Program}{w:World}{A:Around}{E:Rg}{s:Shared}
set_option maxRecDepth 100000 in
end
section
variable{X:Cx}
end
end L2
namespace Att
open PySem PySem.W PySem.Calls PyProof.Rows
def mi:∀(ns:List Int) (vs:List Value),WellAll P h vs (ns.map WData.int)->IntsAre vs ns:=by
 intro ns
 induction ns with
 |
  nil=>
  intro vs w
  rw[OJ] at w
  cases w
  exact .nil
 |
  cons n ns ih=>
  intro vs w
  rw[o_] at w
  cases w with
  |
   cons a b=>
   cases a
   exact .cons _ _ (ih _ b)
def xG{l:OpenLaw}{n:Nat}(hn:l.most=some n){P:Params}{h:Heap}{args:List WData}{vals:List Value}
 (hpre:l.row.toRowW.claim.pre args=true) (hwl:WellAll P h vals args):
 ∃a vs ns,vals=[Value.ref a]/\args=[WData.list (ns.map WData.int)]/\h.get? a=some { cls:=.type "list",data:=.seq vs.toArray }/\IntsAre vs ns/\ns.length<=n:=by
 have hsh:WShape.hasAll [] args [.list .int]=true:=(pre_splitW hpre).1
 have hc:l.pre.holds [] { args:=args }=true:=(pre_splitW hpre).2
 obtain⟨d,r,rfl,h1,h2⟩:=hasAllW_cons hsh
 obtain rfl:=hasAllW_nil h2
 obtain⟨xs,rfl,h3⟩:=hasW_list h1
 obtain⟨ns,rfl⟩:=items_int h3
 have bd:ns.length<=n:=by
  unfold OpenLaw.pre at hc
  have h4:(WTm.not (.lt (.lit (.int (n:Int))) (.len (.arg 0)))).holds [] { args:=[.list (ns.map .int)] }=true:=by
   have h4:=(holds_andW hc).1
   rw[hn] at h4
   exact h4
  have h5:=condW_of h4 (w_not (w_lt w_lit (w_len_list (w_arg rfl))))
  rw[j_] at h5
  refine Nat.le_of_not_lt λq=>?_
  have q':(n:Int)<((ns.length:Nat):Int):=by omega
  first
   |(rw[G_ q'] at h5;exact absurd h5 (by decide))
   |(simp at h5;omega)
 cases hwl with
 |
  cons w1 w2=>
  cases w2
  cases w1 with
  |list ho hall=>exact⟨_,_,ns,rfl,rfl,ho,mi ns _ hall,bd⟩
def zr(l:OpenLaw)(args:List WData):l.row.toRowW.claim.post args (.bool true) args=true:=
 postW_of (r:=l.row.toRowW) (X:=(true==true))
  (show WShape.has [] (.bool true) .bool=true by first |rfl |decide |simp [WShape.has,WShape.arms,WShape.armsAll])
  (show (WTm.eq .res (.lit (.bool true))).value [] { args:=args,res:=some (.bool true),after:=args }=some (.bool (true==true)) from w_eq_bool (w_res rfl) w_lit) rfl
def attach_call{l:OpenLaw}{n:Nat}{q:Program}{loose:List Str}{XP:(Str->Option Value)->Heap->Prop}{YP:World->Heap->Prop}{d:DefRec}
 (hn:l.most=some n) (hdf:d.params.defaults=[])
 (call:∀(w:World) (s₀ s₁:Shared) (mg mb:Ra) (fa:Addr) (o:Obj) (pm cd doc:Value) (a:Addr) (vs:List Value) (ns:List Int),
  Ground q loose [] XP w s₀ mg mb s₁.heap->YP w s₁.heap->
  s₁.heap.get? fa=some o->o.data=.func (docDef d.name d.params d.body d.scope pm cd doc)->s₁.heap.CodeRec cd d.name->mg d.name=some (.ref fa)->
  s₁.heap.get? a=some { cls:=.type "list",data:=.seq vs.toArray }->IntsAre vs ns->ns.length<=n->s₁.gens=#[]->
  codeAny (model l.prog w) callerA (.call (.ref fa) ⟨[.ref a],[]⟩) (λr s'=>r=.ok (.ret (.bool true))/\OldK s₁.heap s'.heap/\s'.os=s₁.os/\AllBare s'.gens) s₁):
 WalkO q loose XP YP l.row.toRowW d [] (λf vs=>PySem.call f vs):=by
 intro w s₀ s₁ mg mb G Y fa o pm cd doc dV kV ho hd hcd hD hmg hg args vals as hpre hlay hrd hwl hlo
 obtain rfl:dV=.none:=Dflts.none hD hdf
 obtain rfl:kV=.none:=Dflts.noKw hD
 obtain⟨a,vs,ns,rfl,rfl,hobj,hints,bd⟩:=xG hn hpre hwl
 refine enter_call (codeAny_mono (call w s₀ s₁ mg mb fa o pm cd doc a vs ns G Y ho (fd_plain hd) hcd hmg hobj hints bd hg) λr s' hq=>?_)
 obtain⟨rfl,h2,h3,h4⟩:=hq
 exact⟨.inl ⟨.bool true,.bool true,[],rfl,λ_=>rfl,.bool true,zr l _,λ_=>⟨List.Pairwise.nil,λ_ hm=>(nomatch hm)⟩⟩,h2,h3,h4⟩
section
variable{prog:Program}{w:World}{A:Around}{E:Rg}{s:Shared}{K:Frag}
def ledger(h:Heap)(L d:Addr):List (Addr×Obj):=(List.range h.objs.size).filterMap λa=>if a=L\/a=d then none else (h.get? a).map λo=>(a,o)
end
end Att
namespace L2
open PySem PySem.Spec PyProof.Rows
theorem oU:∀{vs:List Value}{ns:List Int},IntsAre vs ns->Vals (ns.map V.int) vs
 |_,_,.nil=>.nil
 |_,_,.cons n t h=>.cons ⟨t,rfl⟩ (oU h)
def nI(H:Hp):Prop:=∀b,H b=none\/∃o xs,H b=some (.frz o (.lst xs))
def B7{P:Program}{w:World}{K:W.Frag}{mg mb:Ra}{CX:CXT}{k:Nat}{fa a:Addr}{fd:FuncData}{x:Str}{sp:Sp}{s₁:Shared}{vs:List Value}{ns:List Int}
 (KX:K.In s₁.heap) (hns:s₁.heap.Ns mainGlobals mg) (hb:s₁.heap.Ns builtinsNs mb) (hbb:∀x:Str,x ≠ "__name__"->mb x=bootBuiltins x) (hlim:s₁.heap.NoLimit) (hg:s₁.gens=#[])
 (ha:s₁.heap.get? a=some { cls:=.type "list",data:=.seq vs.toArray }) (hi:IntsAre vs ns) (hl:ns.length<=sizeLine) (hr:Room k callerA)
 (F:∀base:Heap,K.In base->base.Ns mainGlobals mg->FnOk P w K mg base CX k fa fd [x] sp) (hbind:∀(s:Shared) (u:Value),BindsTo s fd ⟨[u],[]⟩ [(x,u)])
 (hsp:∀H:Hp,nI H->SqL K H a (ns.map V.int)->sp [.ref a] H (λv _=>v=.bl true) λ_ _ _=>False)
 (hCX:∀H e s',CX [] H s₁ (λ_ _ _=>False) e s'->False):
 codeAny (model P w) callerA (.call (.ref fa) ⟨[.ref a],[]⟩) (λr s'=>r=.ok (.ret (.bool true))/\OldK s₁.heap s'.heap/\s'.os=s₁.os/\AllBare s'.gens) s₁:=by
 have rv:=oU hi
 have lenV:=hi.length
 have core
  : ∀H:Hp,nI H->SqL K H a (ns.map V.int)->HOk P w H s₁.heap->(∀b,H b≠none->b=a)->(H a≠none->K.lookup a=none)->
  codeAny (model P w) callerA (.call (.ref fa) ⟨[.ref a],[]⟩) (λr s'=>r=.ok (.ret (.bool true))/\OldK s₁.heap s'.heap/\s'.os=s₁.os/\AllBare s'.gens) s₁:=by
  intro H hO hS hok hA hK
  have base_of:∀{b:Addr}{o:Obj},s₁.heap.get? b=some o->H b=none->(jb s₁.heap H).get? b=some o:=λe n=>Ac e n
  have noA:∀{b:Addr}{o:Obj}{es:Array DictEntry}{ep:Nat},s₁.heap.get? b=some o->o.data=.dict es ep->H b=none:=λ{b o es ep} e d=>by
   cases q:H b with
   |none=>rfl
   |
    some u=>
    have e':b=a:=hA b (by rw[q];simp)
    subst e'
    rw[ha] at e;cases e
    have d':Data.seq vs.toArray _=Data.dict es ep:=d
    cases d'
  have nsK:∀{b:Addr}{m:Ra},s₁.heap.Ns b m->(jb s₁.heap H).Ns b m:=λ{b m} ⟨o,es,ep,e,d,r⟩=>⟨o,es,ep,base_of e (noA e d),d,r⟩
  have hKb:K.In (jb s₁.heap H):=λb o e=>base_of (KX b o e) (by
   cases q:H b with
   |none=>rfl
   |
    some u=>
    have e':b=a:=hA b (by rw[q];simp)
    subst e'
    rw[hK (by rw[q];simp)] at e;cases e)
  have hM:Mod K mg (jb s₁.heap H):=⟨hKb,nsK hns,⟨mb,nsK hb,hbb⟩,let ⟨mc,h1,h2⟩:=hlim;⟨mc,nsK h1,h2⟩⟩
  have e0:Env0 P w K mg (jb s₁.heap H) callerA [] s₁ H:=⟨rfl,hM,λb o e=>DR e,Nat.le_of_eq (y0 _ _),trivial,λb hb=>absurd (show b∈([]:List Addr) from hb) (by simp),hok,.of_eq hg⟩
  refine codeAny_mono ((F _ hKb (nsK hns)).run callerA [] s₁ H ⟨[.ref a],[]⟩ [.ref a] [.ref a] _ _ hr e0 (hbind s₁ (.ref a)) (.cons rfl .nil) (hsp H hO hS)) λr s' h=>?_
  cases r with
  |error e=>exact (hCX H e s' h).elim
  |
   ok fl=>
   cases fl with
   |next=>exact False.elim h
   |brk=>exact False.elim h
   |cont=>exact False.elim h
   |
    ret u=>
    obtain⟨v,H',os,bare,un,hok',r',q⟩:=h
    have q':v=.bl true:=q
    subst q'
    obtain rfl:u=Value.bool true:=r'
    refine⟨rfl,OldK.of_keep λb o e=>?_,os,bare⟩
    cases q:H b with
    |none=>exact un.keep b o e q (by intro z;exact absurd (show b∈([]:List Addr) from z) (by simp)) (by simp)
    |
     some u=>
     rcases hO b with z |⟨ob,xs,z⟩
     ·rw[q] at z;cases z
     ·have z2:=un.frzs b ob _ z
      obtain⟨e1,_⟩:=hok b _ z
      obtain⟨e2,_⟩:=hok' b _ z2
      rw[e] at e1;cases e1
      exact e2
 cases hk:K.lookup a with
 |
  some o=>
  have e:=KX a o hk
  rw[ha] at e
  cases e
  refine core (λ_=>none) (λ_=>.inl rfl) (.inr ⟨_,vs.toArray,_,hk,rfl,rfl,rfl,by rw[y_,lenV];exact hl,by simpa using rv⟩) (λb u z=>by have z':(none:Option HO)=some u:=z;cases z') (λb z=>absurd rfl z) λz=>absurd rfl z
 |
  none=>
  refine core (λb=>if b=a then some (.frz { cls:=.type "list",data:=.seq vs.toArray } (.lst (ns.map V.int))) else none) (λb=>?_) (.inl (.inr ⟨{ cls:=.type "list",data:=.seq vs.toArray },if_pos rfl⟩)) (λb u z=>?_) (λb z=>?_) λ_=>hk
  ·by_cases hb:b=a
   ·exact .inr ⟨_,_,if_pos hb⟩
   ·exact .inl (if_neg hb)
  ·by_cases hb:b=a
   ·have z':=(if_pos hb).symm.trans z
    cases z'
    subst hb
    exact⟨ha,by rw[j_];exact hl,vs,_,rv,ha⟩
   ·have z':=(if_neg hb).symm.trans z
    cases z'
  ·by_cases hb:b=a
   ·exact hb
   ·exact absurd (if_neg hb) z
abbrev KOf{K:W.Frag}{h:Heap}(_:K.In h):W.Frag:=K
def walk_of{l:W.OpenLaw}{n k:Nat}{q:Program}{loose:List Str}{XP:(Str->Option Value)->Heap->Prop}{YP:World->Heap->Prop}{d:DefRec}{K:Params->W.Frag}{CX:World->CXT}{sp:World->Sp}{x:Str}
 (hn:l.most=some n) (hn2:n<=sizeLine) (hdf:d.params.defaults=[]) (hr:Room k callerA)
 (hY:∀(w:World) (h:Heap),YP w h->(K w.params).In h)
 (F:∀(w:World) (mg:Ra) (fa:Addr) (h:Heap),(K w.params).In h->h.Ns mainGlobals mg->mg d.name=some (.ref fa)->
  ∃
   fd:FuncData,(∀(s:Shared) (u:Value),BindsTo s fd ⟨[u],[]⟩ [(x,u)])/\
   ∀base:Heap,(K w.params).In base->base.Ns mainGlobals mg->FnOk l.prog w (K w.params) mg base (CX w) k fa fd [x] (sp w))
 (hsp:∀(w:World) (H:Hp) (a:Addr) (ns:List Int),ns.length<=n->nI H->SqL (K w.params) H a (ns.map V.int)->sp w [.ref a] H (λv _=>v=.bl true) λ_ _ _=>False)
 (hCX:∀(w:World) (H:Hp) (s:Shared) (e:Value) (s':Shared),CX w [] H s (λ_ _ _=>False) e s'->False):
 W.WalkO q loose XP YP l.row.toRowW d [] (λf vs=>PySem.call f vs):=by
 refine Att.attach_call hn hdf λw s₀ s₁ mg mb fa o pm cd doc a vs ns G Y ho hd hcd hmg hobj hints bd hg=>?_
 have KX:=hY w _ Y
 obtain⟨fd,hb,hF⟩:=F w mg fa _ KX G.T.g hmg
 exact B7 KX G.T.g G.T.b G.T.builtins G.T.nolimit hg hobj hints (F_ bd hn2) hr hF hb (λH hO hS=>hsp w H a ns bd hO hS) λH e s'=>hCX w H s₁ e s'
def b0(s:Stmt):Arguments:=match s with
 |.FunctionDef _ a _ _ _ _ _ _ _ _=>a
 |_=>{ posonlyargs:=[],args:=[],vararg:=none,kwonlyargs:=[],kw_defaults:=[],kwarg:=none,defaults:=[] }
def aY(s:Stmt):List Stmt:=match s with
 |.FunctionDef _ _ b _ _ _ _ _ _ _=>b
 |_=>[]
def au(s:Stmt):Scope:=match s with
 |.FunctionDef _ _ _ _ _ _ sc _ _ _=>sc
 |_=>{ kind:=.function,names:=[],isGenerator:=false,isCoroutine:=false }
abbrev E0:XK:=λ_ _ _=>False
structure Fun(K:W.Frag)(x qual:Str)(st:Stmt)(f:Addr)(fd:FuncData):Prop where
 ex:∃(oc:Value) (od:Option Addr) (kV doc pm:Value) (an:Option Addr) (cdv ct:Value) (osl:Array (Option Value)),
  fd=W.fnOf x qual (b0 st) (aY st) (au st) .none kV doc pm an cdv ct/\K.lookup f=some ⟨oc,od,.func fd,osl⟩/\W.codeIn K cdv qual=true
 kp:W.keepIn K (.ref f)=true
section
variable{P:Program}{w:World}{K:W.Frag}{mg:Ra}{base:Heap}
def Fun.binds{x qual:Str}{st:Stmt}{f:Addr}{fd:FuncData}{ps:List Str}(F:Fun K x qual st f fd)
 (h:∀(kV doc pm:Value) (an:Option Addr) (cdv ct:Value) (us:List Value),us.length=ps.length->bindArgs (W.fnOf x qual (b0 st) (aY st) (au st) .none kV doc pm an cdv ct) ⟨us,[]⟩=pure (ps.zip us)):Binds K fd ps []:=by
 obtain⟨oc,od,kV,doc,pm,an,cdv,ct,osl,rfl,lk,hcd⟩:=F.ex
 exact .all (h kV doc pm an cdv ct)
def He{x qual:Str}{st:Stmt}{f:Addr}{oc:Value}{od an:Option Addr}{osl:Array (Option Value)}{kV doc pm cdv ct:Value}(l:K.lookup f=some ⟨oc,od,.func (W.fnOf x qual (b0 st) (aY st) (au st) .none kV doc pm an cdv ct),osl⟩)
 (c:W.codeIn K cdv qual=true) (k:W.keepIn K (.ref f)=true):Fun K x qual st f (W.fnOf x qual (b0 st) (aY st) (au st) .none kV doc pm an cdv ct):=⟨⟨oc,od,kV,doc,pm,an,cdv,ct,osl,rfl,l,c⟩,k⟩
end
def OB(hr:Room k A):A.units+1<cLine:=Pz (Nat.add_le_add_left (by decide:1<=64) _) hr.units
section
variable{X:Cx}
end
section
variable{X:Cx}{pins:Rb}{σ:St}{H:Hp}{s:Shared}
def Inv.track{a:Addr}{o:HO}(I:Inv X pins σ H s)(hn:H a=none)(h0:X.s₀.heap.get? a=none)(hL:a≠X.env.locals)(hc:∀x c,X.env.cells.lookup x=some c->c≠a)
 (hp:∀p∈X.pn++pins,p.1≠a) (new:ObjOk X.prog X.w (upd H a o) s.heap a o):Inv X pins σ (upd H a o) s:=by
 have ne:∀b u,H b=some u->b≠a:=λb u e z=>by rw[z,hn] at e;cases e
 have ne0:∀b u,X.s₀.heap.get? b=some u->b≠a:=λb u e z=>by rw[z,h0] at e;cases e
 refine⟨I.ok,I.os,I.bare,⟨I.base.keep,I.base.slot,λb u e n hx=>?_,I.base.there,λb xs e=>?_,λb u xs e=>?_,λb ps e=>?_⟩,I.loc,I.cell,?_,λx c e=>?_,λp hp'=>?_,λb u e=>?_,I.len⟩
 ·rw[aE (ne0 b u e)];exact I.base.free b u e n hx
 ·have q:=I.base.tups b xs e
  rw[aE (ne _ _ q)];exact q
 ·have q:=I.base.frzs b u xs e
  rw[aE (ne _ _ q)];exact q
 ·obtain⟨m,q⟩:=I.base.tbls b ps e
  exact⟨m,by rw[aE (ne _ _ q)];exact q⟩
 ·rw[aE (Ne.symm hL)];exact I.free
 ·rw[aE (hc x c e)];exact I.freeC x c e
 ·obtain⟨e,n,r⟩:=I.pin p hp'
  exact⟨e,by rw[aE (hp p hp')];exact n,r⟩
 ·by_cases hb:b=a
  ·subst hb;rw[a8] at e;cases e;exact new
  ·rw[aE hb] at e
   exact (I.hok b u e).stay (λc v _ q=>q) (λc q=>by rw[aE (ne _ _ q)];exact q) λc xs q=>by rw[aE (ne _ _ q)];exact q
end
theorem ja{env:Env}:∀{names:List (Str×NameKind)} (cs:List (Str×Addr)),(∀x∈names,x.2=.free->∃c,env.cells.lookup x.1=some c)->(∀x c,cs.lookup x=some c->env.cells.lookup x=some c)->
 ∃
  cl,(forIn names cs λ(x:Str×NameKind) (r:List (Str×Addr))=>if (x.2==NameKind.free)=true then do let a <- cellOf env x.1;pure (ForInStep.yield ((x.1,a)::r)) else pure (ForInStep.yield r):Sem (List (Str×Addr)))=pure cl/\
  (∀x c,cl.lookup x=some c->env.cells.lookup x=some c)/\(∀x c,cs.lookup x=some c->∃c',cl.lookup x=some c')/\∀x∈names,x.2=.free->∃c,cl.lookup x.1=some c
 | [],cs,_,h=>⟨cs,by simp,h,λx c e=>⟨c,e⟩,λ_ hx=>nomatch hx⟩
 |
  (n,k)::r,cs,hf,h=>by
  rw[Qq]
  by_cases hk:k=.free
  ·subst hk
   obtain⟨c,hc⟩:=hf (n,.free) n_ rfl
   have hcell:cellOf env n=pure c:=by unfold cellOf;rw[hc]
   have h':∀x d,((n,c)::cs).lookup x=some d->env.cells.lookup x=some d:=λx d e=>by
    rw[Pw] at e
    cases q:x==n with
    |true=>rw[q] at e;cases e;rw[OQ.mp q];exact hc
    |false=>rw[q] at e;exact h x d e
   obtain⟨cl,e1,e2,e3,e4⟩:=ja (env:=env) (names:=r) ((n,c)::cs) (λx hx=>hf x (l_ _ hx)) h'
   have top:∃c',cl.lookup n=some c':=e3 n c (by rw[Pw];simp)
   refine⟨cl,?_,e2,λx d e=>?_,λx hx hfr=>?_⟩
   ·simp only[Qg,Pd,hcell]
    exact e1
   ·by_cases q:x=n
    ·rw[q];exact top
    ·exact e3 x d (by rw[Pw,(H_.mpr q:(x==n)=false)];exact e)
   ·rcases D_.mp hx with rfl |hx
    ·exact top
    ·exact e4 x hx hfr
  ·have hb:(k==NameKind.free)=false:=by simpa using hk
   obtain⟨cl,e1,e2,e3,e4⟩:=ja (env:=env) (names:=r) cs (λx hx=>hf x (l_ _ hx)) h
   refine⟨cl,?_,e2,e3,λx hx hfr=>?_⟩
   ·simp only[hb,O8,P9]
    exact e1
   ·rcases D_.mp hx with rfl |hx
    ·exact absurd hfr hk
    ·exact e4 x hx hfr
def pQ{env:Env}{scope:Scope}(hf:∀x∈scope.names,x.2=.free->∃c,env.cells.lookup x.1=some c):
 ∃cl,closureFor scope env=pure cl/\(∀x c,cl.lookup x=some c->env.cells.lookup x=some c)/\∀x∈scope.names,x.2=.free->∃c,cl.lookup x.1=some c:=by
 obtain⟨cl,e1,e2,_,e4⟩:=ja (env:=env) (names:=scope.names) [] hf (λx c e=>by simp at e)
 refine⟨cl,?_,e2,e4⟩
 unfold closureFor
 simp only[e1]
 rfl
noncomputable def aO(X:Cx)(N:List Str)(scope:Scope)(cl:List (Str×Addr))(C:Addr)(s₂:Shared)(H:Hp)(fp:List Addr):Cx:=
 { X with N:=N,s₀:=s₂,H₀:=H,env:=compEnvC scope cl C X.env,outer:=X.stack,stack:=X.stack,ex:=fp,fn:=λ_=>false,pn:=[],xe:=λ_ _=>False }
def fN(sub:Rh)(σ:St):St:=sub.map λo=>o.bind λi=>(σ[i]?).bind id
def LcW(J:It)(sub:Rh)(g:TG)(tc:TT)(te:TE)(σ:St)(H1:Hp)(Q:VK):Prop:=∃W:Nat->Nat->List V->St->Hp->Prop,(∃m,W 0 m [] (fN sub σ) H1)/\∀i m ys σ H,W i m ys σ H->
 (J.stop i H/\ys.length<=sizeLine/\∀D,H D=none->Q (.ref D) (upd H D (.lst ys)))\/
 (J.go i H/\ys.length<sizeLine/\∃Nx:List V->St->Hp->Prop,(∀ys' σ' H',Nx ys' σ' H'->∃m',m'<m/\W (i+1) m' ys' σ' H')/\
  ∀x H',J.yld i H x H'->g x σ H' λσ2 H2=>tc σ2 H2 λb H3=>if b=true then te σ2 H3 λy H4=>Nx (ys++[y]) σ2 H4 else Nx ys σ2 H3)
def jv(wi:TI)(sub:Rh)(g:TG)(tc:TT)(te:TE):TE:=λσ H Q=>wi σ H λJ H1=>LcW J sub g tc te σ H1 Q
abbrev Aq:TT:=λ_ H Q=>Q true H
section
variable{prog:Program}{w:World}{A:Around}{R:Result->Shared->Prop}{s:Shared}
def qz{g_ target am:Expr}{ifs:List Expr}{scope:Scope}{pos:Pos}{it acc:Value}{env:Env}(I:Nat->Shared->Prop)
 (turn
  : ∀n s,I n s->wpAny (model prog w) A (pyNext it) (λr s₁=>match r with
  |none=>R (.ok .next) s₁
  |some v=>wpAny (model prog w) A (letOwnedTupleGo target it v) (λ_ s₁'=>wpAny (model prog w) A (assign target env v) (λ_ s₂=>
   wpAny (model prog w) A (forIn ifs true λc r=>if r=true then do let ok <- isTrue c env (eval c env);pure (ForInStep.yield ok) else pure (ForInStep.yield r))
    (λok s₃=>if ok=true then wpAny (model prog w) A (eval g_ env) (λx s₄=>wpAny (model prog w) A (call (.builtin "list.append") [acc,x]) (λ_ s₅=>∃m,m<n/\I m s₅) (λ_ _=>False) s₄) (λ_ _=>False) s₃
     else ∃m,m<n/\I m s₃) (λ_ _=>False) s₂) (λ_ _=>False) s₁') (λ_ _=>False) s₁) (λ_ _=>False) s)
 (n:Nat) (h:I n s):
 codeAny (model prog w) A (.compLoop (.ListComp g_ [⟨target,am,ifs,0⟩] scope pos) 0 it acc env) R s:=by
 refine codeAny_loop rfl I (λn s hI=>?_) n h
 show wpAny _ _ ((compTurn (.ListComp g_ [⟨target,am,ifs,0⟩] scope pos) 0 it acc env).onRaise (λx=>do noteFrame x env;theTreesLotGoes x)) _ _ s
 refine wpAny_noted ?_
 rw[compTurn_list]
 refine OL (E:=λ_ _=>False) ?_ (λ_ _ q=>q) λ_ _ q=>q.elim
 refine i_ (QY (i_ (OL (turn n s hI) (λr s₁ h₁=>?_) λ_ _ h'=>h')))
 cases r with
 |none=>exact w_ h₁
 |
  some v=>
  refine i_ (OL h₁ (λ_ s₁' h₁'=>?_) λ_ _ h'=>h')
  refine i_ (OL h₁' (λ_ s₂ h₂=>?_) λ_ _ h'=>h')
  refine i_ (OL h₂ (λok s₃ h₃=>?_) λ_ _ h'=>h')
  cases ok with
  |
   true=>
   simp only[Pd] at h₃ ⊢
   refine i_ (i_ (OL h₃ (λx s₄ h₄=>?_) λ_ _ h'=>h'))
   refine i_ (OL h₄ (λ_ s₅ h₅=>?_) λ_ _ h'=>h')
   exact w_ (w_ ⟨rfl,h₅⟩)
  |
   false=>
   simp only[O8,P9] at h₃ ⊢
   first
    |exact i_ (w_ (w_ ⟨rfl,h₃⟩))
    |exact w_ ⟨rfl,h₃⟩
end
section
variable{X:Cx}
def PTs(X:Cx)(ifs:List Expr)(t:TT):Prop:=
 ∀
  (pins:Rb) (s:Shared) (σ:St) (H:Hp) (Q:Bool->Hp->Prop),Inv X pins σ H s->t σ H Q->
  wpAny (model X.prog X.w) X.A (forIn ifs true λc r=>if r=true then do let ok <- isTrue c X.env (eval c X.env);pure (ForInStep.yield ok) else pure (ForInStep.yield r)) (TP X pins σ Q) X.xe s
def vt:PTs X [] (λ_ H Q=>Q true H):=λpins s σ H Q I h=>by
 rw[QU]
 exact w_ ⟨H,I,h⟩
structure LcEnd(X:Cx)(pins:Rb)(σ:St)(Q:VK)(D C:Addr)(s4:Shared):Prop where
 ns:∃m,s4.heap.Ns C m
 dc:D<C
 fr:X.env.locals<D
 cell:∀x c,X.env.cells.lookup x=some c->c<D
 pin:∀p∈X.pn++pins,p.1<D
 sz:X.s₀.heap.objs.size<=D
 inv:∃H',H' C=none/\Q (.ref D) H'/\∀h',Heap.SameBut C s4.heap h'->Inv X pins σ H' { s4 with heap:=h' }
def u5{g_ am tg:Expr}{ifs:List Expr}{scope:Scope}{pos:Pos}{wi:TI}{g:TG}{tc:TT}{te:TE}{N:List Str}{sub:Rh}{use:Option (Value->Sem Unit)}{R:Rg}{pins:Rb}{s:Shared}{σ:St}{H:Hp}{Q:VK}{fpos:Pos}
 (hc:X.calm=true) (hi:PI X tg am wi)
 (hk:scope.kind=.function) (hnc:∀x∈scope.names,x.2 ≠ .cell) (b_:∀x∈scope.names,x.2=.local->scope.names.lookup x.1=some .local)
 (hfr:∀x∈scope.names,x.2=.free->X.env.kindOf x.1=some .cell\/X.env.kindOf x.1=some .free)
 (hsl:sub.length=N.length) (f_:∀(j i:Nat) (x:Str),sub[j]?=some (some i)->N[j]?=some x->X.N[i]?=some x/\scope.names.lookup x=some .free)
 (hg:∀cl C s₂ H fp,PG (aO X N scope cl C s₂ H fp) tg g) (ht:∀cl C s₂ H fp,PTs (aO X N scope cl C s₂ H fp) ifs tc) (he:∀cl C s₂ H fp,PE (aO X N scope cl C s₂ H fp) g_ te)
 (hs:∀x,foldedSetIterable am X.env x=pure x) (I:Inv X pins σ H s) (h:jv wi sub g tc te σ H Q)
 (gl:∀D C s4,LcEnd X pins σ Q D C s4->compPost (model X.prog X.w) X.A X.xe use R (.ref D) C (.ok .next) s4):
 wpAny (model X.prog X.w) X.A (comprehension (.ListComp g_ [⟨tg,am,ifs,0⟩] scope pos) scope X.env fpos (newList []) false (eval am X.env) use) R X.xe s:=by
 obtain⟨cl,hclos,hcl,hclf⟩:=pQ (env:=X.env) (scope:=scope) λx hx hf=>I.ok.has x.1 (hfr x hx hf)
 refine wpAny_comprehension_free rfl hs hclos hk b_ ?_
 show wpAny _ _ (eval am X.env) _ _ _
 refine thn (hi pins s σ H _ I h) λv s1 h1=>thn h1 λitv s2 h2=>?_
 obtain⟨it,fp,tn,J,H2,e,I2,T,st2,f2,W,⟨m0,w0⟩,turn⟩:=h2
 subst e
 refine O_ (wpAny_newFunctionEnv hnc (by intro y hy;simp at hy) (λh₁ hns₁ hsb₁=>?_) hk)
 dsimp only at hns₁ hsb₁ ⊢
 generalize hH2:s2.heap.push { cls:=.type "list",dict:=none,data:=.seq ([]:List Value).toArray }=G2 at hns₁ hsb₁ ⊢
 have hC:G2.objs.size=s2.heap.objs.size+1:=by rw[<- hH2,PX]
 have hDC:s2.heap.objs.size≠G2.objs.size:=by omega
 have below:∀b,b<s2.heap.objs.size->b≠G2.objs.size/\b≠s2.heap.objs.size:=λb hb=>⟨by omega,by omega⟩
 have old:∀b o,s2.heap.get? b=some o->h₁.get? b=some o:=λb o e=>hsb₁.extBut b o (below b (x_ e)).1 (t_ _ (hH2 ▸ t_ _ e))
 have hD₁:h₁.get? s2.heap.objs.size=some { cls:=.type "list",dict:=none,data:=.seq ([]:List Value).toArray }:=hsb₁.extBut _ _ hDC (t_ _ (hH2 ▸ E_ _ rfl))
 have fresh:∀a,s2.heap.objs.size<=a->s2.heap.get? a=none:=λa ha=>QL ha
 have cellOld:∀x c,cl.lookup x=some c->c<s2.heap.objs.size:=λx c e=>by
  obtain⟨v,z⟩:=I2.cell x c (hcl x c e)
  exact z.lt
 have fpOld:∀b∈fp,b<s2.heap.objs.size:=λb hb=>by
  obtain⟨o,e,_⟩:=T.obj _ _ st2 b hb
  exact x_ e
 let Y:Cx:=aO X N scope cl G2.objs.size s2 H2 fp
 have okY:Y.Ok
  := by
  refine⟨I2.ok.mod,?_,I2.ok.glob,I2.ok.blt,?_,λx y c e1 e2=>I2.ok.inj x y c (hcl x c e1) (hcl y c e2),λx hx=>?_,λx c hfn _=>absurd hfn s_,I2.ok.hd,I2.ok.frames,.inl rfl,
   λb hb=>⟨?_,λx c e z=>?_⟩,I2.bs,F_ I2.ok.bsz I2.sz,λb o e hb=>?_,λb hb hf=>?_,I2.stack,I2.stkFree⟩
  ·show (relabel scope X.env).kind=.function
   exact hk
  ·show s2.heap.objs.size<=G2.objs.size
   omega
  ·have hx':(
    relabel scope X.env).names.lookup x=some .cell\/(relabel scope X.env).names.lookup x=some .free:=hx
   have:∃k,
    (x,k)∈scope.names/\k=.free:=by
    have gen:∀(names:List (Str×NameKind)),(∀y∈names,y.2 ≠ .cell)->∀kk,(kk=NameKind.cell\/kk=NameKind.free)->(names.map λ(n,k)=>if (k==NameKind.free&&X.env.scope.kind == .function&&X.env.kindOf n==some .cell) then (n,NameKind.cell) else (n,k)).lookup x=some kk->∃k,(x,k)∈names/\k=.free:=by
     intro names
     induction names with
     |nil=>intro _ kk _ e;simp at e
     |
      cons y r ih=>
      intro hn kk hkk e
      obtain⟨n,k⟩:=y
      rw[o_,Pw] at e
      by_cases hkf:k=.free
      ·subst hkf
       by_cases hxn:x=n
       ·exact⟨.free,by rw[hxn];exact n_,rfl⟩
       ·have hb:(x==(if (NameKind.free==NameKind.free&&X.env.scope.kind == .function&&X.env.kindOf n==some .cell)=true then (n,NameKind.cell) else (n,NameKind.free)).1)=false:=by
         split <;> exact H_.mpr hxn
        rw[hb] at e
        obtain⟨k',m,q⟩:=ih (λz hz=>hn z (l_ _ hz)) kk hkk e
        exact⟨k',l_ _ m,q⟩
      ·have hb0:(k==NameKind.free&&X.env.scope.kind == .function&&X.env.kindOf n==some .cell)=false:=by
        have:(k==NameKind.free)=false:=by simpa using hkf
        rw[this];rfl
       rw[hb0] at e
       simp only[O8,P9] at e
       cases q:x==n with
       |
        true=>
        rw[q] at e
        have e':k=kk:=C_ e
        subst e'
        rcases hkk with z |z
        ·exact absurd z (hn (n,k) n_)
        ·exact absurd z hkf
       |
        false=>
        rw[q] at e
        obtain⟨k',m,q⟩:=ih (λz hz=>hn z (l_ _ hz)) kk hkk e
        exact⟨k',l_ _ m,q⟩
    rcases hx' with z |z
    ·exact gen scope.names hnc _ (.inl rfl) z
    ·exact gen scope.names hnc _ (.inr rfl) z
   obtain⟨k,m,q⟩:=this
   exact hclf (x,k) m q
  ·show b≠G2.objs.size
   exact (below b (fpOld b hb)).1
  ·exact (f2 b hb).2.2.2.2.1 x c (hcl x c e) z
  ·rcases (f2 b hb).2.2.2.1 with z |z
   ·exact I2.ok.noex b o e z
   ·exact absurd (Em (x_ e) (F_ I2.ok.bsz z)) (O1 _)
  ·have hf':b∈frs X.stack:=hf
   rcases D_.mp (I2.stkSub b hf') with z |z
   ·exact (f2 b hb).2.1 z
   ·exact (f2 b hb).2.2.1 z
 have startLoc
  : ∃m,h₁.Ns G2.objs.size m/\∀(i:Nat) (x:Str) (v:V),N[i]?=some x->(fN sub σ)[i]?=some (some v)->Vis (relabel scope X.env) x->∃u,RelV v u/\B8 Y.env h₁ m x u:=by
  refine⟨_,hns₁,λj x v e1 e2 e3=>?_⟩
  unfold fN at e2
  rw[z_] at e2
  cases q:sub[j]? with
  |none=>rw[q] at e2;cases e2
  |
   some o=>
   rw[q] at e2
   cases o with
   |none=>cases e2
   |
    some i=>
    obtain⟨hNi,hfree⟩:=f_ j i x q e1
    have e2':(σ[i]?).bind id=some v:=C_ e2
    have e2'':σ[i]?=some (some v):=by
     cases z:σ[i]? with
     |none=>rw[z] at e2';cases e2'
     |some y=>rw[z] at e2';rw[show y=some v from e2']
    obtain⟨m2,hn2,hl2⟩:=I2.loc
    have hkx:=hfr (x,.free) (Pc hfree) rfl
    obtain⟨u,r,l⟩:=hl2 i x v hNi e2'' (by rcases hkx with z |z;exact .inr (.inl z);exact .inr (.inr z))
    refine⟨u,r,.inr ⟨?_,?_⟩⟩
    ·rcases e3
      with z |z |z
     ·exfalso
      have gen:∀(names:List (Str×NameKind)),names.lookup x=some .free->(names.map λ(n,k)=>if (k==NameKind.free&&X.env.scope.kind == .function&&X.env.kindOf n==some .cell) then (n,NameKind.cell) else (n,k)).lookup x=some .local->False:=by
       intro names
       induction names with
       |nil=>intro e _;simp at e
       |
        cons y r ih=>
        intro e1 e2
        obtain⟨n,k⟩:=y
        rw[Pw] at e1
        rw[o_,Pw] at e2
        by_cases hxn:x=n
        ·have hb1:(x==n)=true:=OQ.mpr hxn
         rw[hb1] at e1
         have:k=.free:=C_ e1
         subst this
         split at e2
         ·rename_i hq
          split at e2 <;> cases e2
         ·rename_i hq
          split at hq <;> (rw[hb1] at hq;cases hq)
        ·have hb1:(x==n)=false:=H_.mpr hxn
         rw[hb1] at e1
         refine ih e1 ?_
         split at e2
         ·rename_i hq
          split at hq <;> (rw[hb1] at hq;cases hq)
         ·exact e2
      exact gen scope.names hfree z
     ·exact .inl z
     ·exact .inr z
    ·obtain⟨c,hc'⟩:=hclf (x,.free) (Pc hfree) rfl
     refine⟨c,hc',?_⟩
     rcases l with ⟨k,_⟩ |⟨_,c2,ec2,z⟩
     ·rcases hkx with z |z <;> (rw[k] at z;cases z)
     ·have:=hcl x c hc'
      rw[ec2] at this
      cases this
      obtain⟨oc,hoc,hd⟩:=z
      exact⟨oc,old _ _ hoc,hd⟩
 have pinD:∀{σ':St}{H':Hp}{s':Shared}{pl:Rb}{o:Obj},Inv Y pl σ' H' s'->s'.heap.get? s2.heap.objs.size=some o->(∀v,o.data ≠ .cell v)->H' s2.heap.objs.size=none->Inv Y [(s2.heap.objs.size,o)] σ' H' s':=λ{σ' H' s' pl o} IY e d n=>
  IY.pins_of λp hp=>by
   have e':p=(s2.heap.objs.size,o):=by simpa using hp
   subst e'
   refine⟨e,n,?_,?_,d⟩
   ·show s2.heap.objs.size≠G2.objs.size
    omega
   ·intro hf
    have hf':s2.heap.objs.size∈frs X.stack:=hf
    obtain⟨_,o',ho',_⟩:=I2.stack.mem hf'
    exact absurd (x_ ho') (O1 _)
 have fpY:∀{H':Hp}{pl:Rb},(∀b∈fp,H' b=none)->(∀p∈pl,p.1∉fp)->∀b∈fp,FpOk Y pl H' b:=λ{H' pl} hn hp b hb=>by
  refine⟨hn b hb,?_,?_,.inl hb,λx c e=>?_,λp hp'=>?_⟩
  ·exact (okY.exf b hb).1
  ·exact okY.exfs b hb
  ·exact (okY.exf b hb).2 x c e
  ·intro z
   have hp'':p∈pl:=by simpa [Y,aO] using hp'
   exact hp p hp'' (by rw[z];exact hb)
 have hDfp:s2.heap.objs.size∉fp:=λz=>O1 _ (fpOld _ z)
 have loop
  : ∀s₃:Shared,s₃={ s2 with heap:=h₁,toks:=s2.toks+([]:List (Str×Value)).length }->
  codeAny (model X.prog X.w) X.A (.compLoop (.ListComp g_ [⟨tg,am,ifs,0⟩] scope pos) 0 (.ref it) (.ref s2.heap.objs.size) (compEnvC scope cl G2.objs.size X.env))
   (compPost (model X.prog X.w) X.A X.xe use R (.ref s2.heap.objs.size) G2.objs.size) s₃:=by
  rintro s₃ rfl
  have IY0:Inv Y [(s2.heap.objs.size,{ cls:=.type "list",dict:=none,data:=.seq ([]:List Value).toArray })] (fN sub σ) H2 { s2 with heap:=h₁,toks:=s2.toks+([]:List (Str×Value)).length }:=by
   have J0:Inv Y [] (fN sub σ) H2 { s2 with heap:=h₁,toks:=s2.toks+([]:List (Str×Value)).length }:=by
    refine⟨okY,rfl,I2.bare,Un.kept old,startLoc,λx c e=>?_,I2.hok.fresh (by show s2.heap.objs.size<=G2.objs.size;omega),λx c e=>I2.freeC x c (hcl x c e),λp hp=>absurd (show p∈([]:Rb) from hp) (by simp),I2.hok.kept old,?_⟩
    ·obtain⟨v,oc,hoc,hd⟩:=I2.cell x c (hcl x c e)
     exact⟨v,oc,old _ _ hoc,hd⟩
    ·show (fN sub σ).length=N.length
     unfold fN
     rw[j_];exact hsl
   exact pinD J0 hD₁ (λv z=>by cases z) I2.fresh
  refine qz (λn s'=>∃(i:Nat) (ys:List V) (its:List Value) (k:Nat) (σ':St) (H':Hp),Inv Y [(s2.heap.objs.size,{ cls:=.type "list",dict:=none,data:=.seq its.toArray k })] σ' H' s'/\Vals ys its/\tn i s'.heap/\(∀b∈fp,H' b=none)/\W i n ys σ' H') ?_ m0
   ⟨0,[],[],0,fN sub σ,H2,IY0,.nil,T.keep _ _ _ st2 (λb hb o e=>old b o e),λb hb=>(f2 b hb).1,w0⟩
  rintro n s3 ⟨i,ys,its,k,σ3,H3,I3,rv,st3,fr3,w3⟩
  have npl:∀(o:Obj),∀p∈[(s2.heap.objs.size,o)],p.1∉fp:=λo p hp=>by
   have e':p=(s2.heap.objs.size,o):=by simpa using hp
   subst e'
   exact hDfp
  rcases turn i n ys σ3 H3 w3 with ⟨stop,hz,qn⟩ |⟨go,hz,Nx,hNx,step⟩
  ·refine OL (T.done Y rfl rfl rfl hc i _ s3 σ3 H3 (λ_ _=>False) I3 (fpY fr3 (npl _)) st3 stop) (λr s4 ⟨hr,I4⟩=>?_) λ_ _ z=>z
   subst hr
   obtain⟨m4,hn4,_⟩:=I4.loc
   have hCfree:H3 G2.objs.size=none:=I4.free
   have hD4:=I4.pin (s2.heap.objs.size,{ cls:=.type "list",dict:=none,data:=.seq its.toArray k }) (OD _ n_)
   have un4:Un (frs X.stack) fp H2 H3 s2.heap s4.heap:=I4.base
   have ne2:∀b o,s2.heap.get? b=some o->b≠G2.objs.size:=λb o e=>(below b (x_ e)).1
   have hDfree:H3 s2.heap.objs.size=none:=hD4.2.1
   have sz0:X.s₀.heap.objs.size<=s2.heap.objs.size:=I2.sz
   refine gl s2.heap.objs.size G2.objs.size s4 ⟨⟨m4,hn4⟩,by rw[hC];exact Nat.lt_succ_self _,I2.lt,λx c e=>?_,λp hp=>x_ (I2.pin p hp).1,sz0,upd H3 s2.heap.objs.size (.lst ys),by rw[aE (Ne.symm hDC)];exact hCfree,qn _ hDfree,λh' hs'=>?_⟩
   ·obtain⟨v,q⟩:=I2.cell x c e
    exact q.lt
   have up:∀b o,b≠G2.objs.size->s4.heap.get? b=some o->h'.get? b=some o:=λb o hb e=>hs'.extBut b o hb e
   have un5:Un (frs X.stack) fp H2 H3 s2.heap h':=by
    refine⟨λb o e n hb hx=>up b o (ne2 b o e) (un4.keep b o e n hb hx),λb o e n hb hx=>?_,un4.free,λb o e hx=>?_,un4.tups,un4.frzs,un4.tbls⟩
    ·obtain⟨sl,q⟩:=un4.slot b o e n hb hx
     exact⟨sl,up b _ (ne2 b o e) q⟩
    ·obtain⟨o',q⟩:=un4.there b o e hx
     exact⟨o',up b _ (ne2 b o e) q⟩
   have hok5:HOk X.prog X.w H3 h':=λb u e=>(I4.hok b u e).stay (λc v hcc q=>up c v (λz=>by
    rcases hcc with zz |zz
    ·rw[zz] at z;rw[z,hCfree] at e;cases e
    ·rw[z,hCfree] at zz;cases zz) q) (λ_ q=>q) λ_ _ q=>q
   have I5:Inv X pins σ H3 { s4 with heap:=h' }:=I2.call' (s':={ s4 with heap:=h' }) (ch:=fp) I4.os un5 hok5 I4.bare λb hb=>by
    obtain⟨_,g1,_,g3,g4,g5⟩:=f2 b hb
    exact⟨g3,g1,g4,g5⟩
   refine I5.track (o:=.lst ys) hDfree (QL sz0) (Qv I2.lt) (λx c e z=>?_) (λp hp z=>?_) ?_
   ·obtain⟨v,q⟩:=I2.cell x c e
    exact absurd q.lt (by rw[z];exact O1 _)
   ·exact absurd (x_ (I2.pin p hp).1) (by rw[z];exact O1 _)
   ·exact⟨hz,its,k,rv,up _ _ hDC hD4.1⟩
  ·refine OL (T.item Y rfl rfl rfl hc i _ s3 σ3 H3 (λ_ _=>False) I3 (fpY fr3 (npl _)) st3 go) (λr s4 ⟨u,hr,h4⟩=>?_) λ_ _ z=>z
   subst hr
   refine OL h4 (λ_ s5 ⟨x,H5,I5,r5,y5,st5,fr5⟩=>?_) λ_ _ z=>z
   have I5':=I5.pinned (fpY fr5 (npl _)) (T.obj _ _ st5)
   refine OL (hg cl G2.objs.size s2 H2 fp _ s5 σ3 H5 x u _ I5' r5 (step x H5 y5)) (λ_ s6 ⟨σ6,H6,I6,q6⟩=>?_) λ_ _ z=>z
   refine OL (ht cl G2.objs.size s2 H2 fp _ s6 σ6 H6 _ I6 q6) (λok s7 ⟨H7,I7,q7⟩=>?_) λ_ _ z=>z
   have back:∀{σ':St}{H':Hp}{s':Shared},Inv Y ([(s2.heap.objs.size,{ cls:=.type "list",dict:=none,data:=.seq its.toArray k })]++jQ fp s5.heap) σ' H' s'->tn (i+1) s'.heap/\∀b∈fp,H' b=none:=λ{σ' H' s'} IB=>by
    refine⟨T.keep _ _ _ st5 λb hb o e=>(IB.pin (b,o) (OD _ (OD _ (gu hb e)))).1,λb hb=>?_⟩
    obtain⟨o,e,d⟩:=T.obj _ _ st5 b hb
    exact (IB.pin (b,o) (OD _ (OD _ (gu hb e)))).2.1
   cases ok with
   |
    false=>
    rw[if_neg s_] at q7
    obtain⟨m',hm,w7⟩:=hNx _ _ _ q7
    rw[if_neg s_]
    obtain⟨t7,f7⟩:=back I7
    exact⟨m',hm,i+1,ys,its,k,σ6,H7,I7.unpinned,rv,t7,f7,w7⟩
   |
    true=>
    rw[if_pos rfl] at q7
    rw[if_pos rfl]
    refine OL (he cl G2.objs.size s2 H2 fp _ s7 σ6 H7 _ I7 q7) (λy s8 ⟨yv,H8,I8,r8,q8⟩=>?_) λ_ _ z=>z
    obtain⟨m',hm,w8⟩:=hNx _ _ _ q8
    obtain⟨t8,f8⟩:=back I8
    have I9:=I8.unpinned
    have hD9:=I9.pin (s2.heap.objs.size,{ cls:=.type "list",dict:=none,data:=.seq its.toArray k }) (OD _ n_)
    have e9:s8.heap.get? s2.heap.objs.size=some { cls:=.type "list",dict:=none,data:=.seq its.toArray k }:=hD9.1
    have bd:=rv.length
    refine call_meets F.slot_list_append ⟨_,e9,rfl⟩ F.entry_list_append (F.args_list_append_2 _ _) (PySem.list_append _ its.toArray k y (by rw[y_];omega)) ⟨e9,?_⟩
    have q9:=PySem.IsL.update e9 (λxs=>xs.push y)
    have ea:its.toArray.push y=(its++[y]).toArray:=by simp
    rw[ea] at q9
    have k9:∀b o,b≠s2.heap.objs.size->s8.heap.get? b=some o->(s8.heap.update s2.heap.objs.size (Obj.mapSeq λxs=>xs.push y)).get? b=some o:=λb o hb e=>(QB _ _ (Ne.symm hb)).trans e
    have I10:Inv Y [] σ6 H8 { s8 with heap:=s8.heap.update s2.heap.objs.size (Obj.mapSeq λxs=>xs.push y) }:=
     (I9.pins_of (pins':=[]) (λp hp=>nomatch hp)).turned (t':=s8.toks) k9 hD9.2.1 hD9.2.2.1 (.inr (m_ _)) (λx c e z=>absurd (cellOld x c e) (by rw[z];exact O1 _))
      (λp hp=>absurd (show p∈([]:Rb) from hp) (by simp))
    refine⟨m',hm,i+1,ys++[yv],its++[y],_,σ6,H8,pinD I10 q9 (λv z=>by cases z) hD9.2.1,rv.append (.cons r8 .nil),?_,f8,w8⟩
    exact T.keep _ _ _ t8 λb hb o e=>k9 b o (λz=>hDfp (by rw[<- z];exact hb)) e
 exact codeAny_compStart_list (loop _ rfl) (T.self _ 0 _ _ _ (T.keep _ _ _ st2 λb hb o e=>old b o e) (loop _ rfl))
def Lb{g_ am tg:Expr}{ifs:List Expr}{scope:Scope}{pos:Pos}{wi:TI}{g:TG}{tc:TT}{te:TE}{N:List Str}{sub:Rh}
 (hc:X.calm=true) (hi:PI X tg am wi)
 (hk:scope.kind=.function) (hnc:∀x∈scope.names,x.2 ≠ .cell) (b_:∀x∈scope.names,x.2=.local->scope.names.lookup x.1=some .local)
 (hfr:∀x∈scope.names,x.2=.free->X.env.kindOf x.1=some .cell\/X.env.kindOf x.1=some .free)
 (hsl:sub.length=N.length) (f_:∀(j i:Nat) (x:Str),sub[j]?=some (some i)->N[j]?=some x->X.N[i]?=some x/\scope.names.lookup x=some .free)
 (hg:∀cl C s₂ H fp,PG (aO X N scope cl C s₂ H fp) tg g) (ht:∀cl C s₂ H fp,PTs (aO X N scope cl C s₂ H fp) ifs tc) (he:∀cl C s₂ H fp,PE (aO X N scope cl C s₂ H fp) g_ te)
 (hs:∀x,foldedSetIterable am X.env x=pure x):
 PE X (.ListComp g_ [⟨tg,am,ifs,0⟩] scope pos) (jv wi sub g tc te):=by
 intro pins s σ H Q I h
 rw[eval_ListComp]
 refine u5 hc hi hk hnc b_ hfr hsl f_ hg ht he hs I h λD C s4 e=>?_
 obtain⟨m,hm⟩:=e.ns
 obtain⟨H',_,q,i⟩:=e.inv
 exact⟨m,hm,λh' hs'=>⟨.ref D,H',i h' hs',rfl,q⟩⟩
def fO(M:List Str)(names:List (Str×NameKind))(sub:Rh)(N:List Str):Bool:=(sub.zip N).all λp=>match p.1 with
 |none=>true
 |some i=>M[i]?==some p.2&&names.lookup p.2==some .free
def su{M:List Str}{names:List (Str×NameKind)}{sub:Rh}{N:List Str}(h:fO M names sub N=true)(j i:Nat)(x:Str)(h1:sub[j]?=some (some i))(h2:N[j]?=some x):
 M[i]?=some x/\names.lookup x=some .free:=by
 unfold fO at h
 rw[OF] at h
 have hm:(some i,x)∈sub.zip N:=by
  refine OO (i:=j) ?_
  rw[List.getElem?_zip_eq_some]
  exact⟨h1,h2⟩
 have q:=h _ hm
 simp only[r_,OQ] at q
 exact q
def ij(kn names:List (Str×NameKind)):Bool:=names.all λx=>x.2 != .free || kn.lookup x.1==some .cell || kn.lookup x.1==some .free
def uu{kn names:List (Str×NameKind)}(h:ij kn names=true):∀x∈names,x.2=.free->kn.lookup x.1=some .cell\/kn.lookup x.1=some .free:=λx hx hf=>by
 unfold ij at h
 rw[OF] at h
 have q:=h x hx
 rw[hf] at q
 simpa using q
def Oa{g_ am tg:Expr}{scope:Scope}{pos:Pos}{wi:TI}{g:TG}{te:TE}(M:List Str)(kn:List (Str×NameKind))(N:List Str)(sub:Rh)
 (hc:X.calm=true) (hi:PI X tg am wi)
 (hg:∀cl C s₂ H fp,PG (aO X N scope cl C s₂ H fp) tg g) (he:∀cl C s₂ H fp,PE (aO X N scope cl C s₂ H fp) g_ te)
 (hM:X.N=M) (hkn:X.env.scope.names=kn) (f_:fO M scope.names sub N=true)
 (hk:scope.kind=.function) (hnc:∀x∈scope.names,x.2 ≠ .cell) (b_:∀x∈scope.names,x.2=.local->scope.names.lookup x.1=some .local)
 (hfr:ij kn scope.names=true)
 (hsl:sub.length=N.length) (hs:∀x,foldedSetIterable am X.env x=pure x):
 PE X (.ListComp g_ [⟨tg,am,[],0⟩] scope pos) (jv wi sub g Aq te):=
 Lb hc hi hk hnc b_ (by subst hkn;exact uu hfr) hsl (by subst hM;exact su f_) hg (λcl C s₂ H fp=>vt) he hs
end
end L2
namespace L2
open PySem PySem.Spec PyProof.Rows PySem.W PySem.Builtin PySem.Builtin.ObjectAttr PySem.Builtin.Getset_descriptor
structure XCls(K:W.Frag)(C:Addr):Prop where
 cls:(clsIn K C).isSome=true
 ga:findIn K (.ref C) "__getattribute__"=some (some (.builtin "BaseException.__getattribute__"))
 gt:findIn K (.ref C) "__getattr__"=some none
 at_:findIn K (.ref C) "__class__"=some (some (.builtin "object.__class__"))
 gs:specialIn K (.builtin "object.__class__") "__get__"=some (some (.builtin "getset_descriptor.__get__"))
 tk:takesIn K (.builtin "object.__class__")=some true
 mo:mroIn K C (.type "object")=some true
 mb:mroIn K C (.type "BaseException")=some true
section
variable{prog:Program}{w:World}{A:Around}{E:Rg}{K:W.Frag}{x C:Addr}{o:Obj}
def gK(hx:h.get? x=some o)(hc:o.cls=.ref C):Looks M h (typeOf (.ref x)) (.ref C):=hc ▸ (Looks.ld hx).andThen .now
def CF(X:K.In h)(T:XCls K C):Looks M h (find (.ref x) (.ref C) "__class__") (.bind (.builtin "getset_descriptor.__get__") (.builtin "object.__class__")):=by
 have L1:=looks_findIn (M:=M) X T.at_
 have L2:Looks M h (getOf (some (.builtin "object.__class__"))) (some (.builtin "getset_descriptor.__get__")):=looks_specialIn X T.gs
 have L3:=looks_takesIn (M:=M) X T.tk
 refine L1.andThen (L2.andThen ?_)
 exact (show Looks M h (dataDescriptor? (some (.builtin "object.__class__")) (some (.builtin "getset_descriptor.__get__"))) (some (.builtin "getset_descriptor.__get__",.builtin "object.__class__")) from L3.andThen .now).andThen (Looks.tag .now)
def pL(X:K.In s.heap)(hx:s.heap.get? x=some o)(hc:o.cls=.ref C)(T:XCls K C)
 (h:R (.ok (.ret (.ref C))) s):codeAny (model prog w) A (.call (.builtin "getset_descriptor.__get__") ⟨[.builtin "object.__class__",.ref x,tp],[]⟩) R s:=by
 obtain⟨hh,g,dr,t,os⟩:=s
 have L0:=gK (M:=model prog w) hx hc
 have L1:=looks_mroIn (M:=model prog w) X T.mo
 refine codeAny_call_builtin KF.slot_gs.plain KF.entry_gs (KF.slot_gs.check _ _ _ _ _ _ _ _ KF.type_class (KF.args_gs _ _ _) ?_)
 unfold Builtin.«getset_descriptor.__get__» descrGet
 rw[dga_obj]
 refine i_ (w_ ?_)
 unfold descrGetter descrCheckInstance descrNameAndClass isInstance
 simp only[KF.owner_class]
 repeat lk
 refine⟨Code.quiet_builtin _ (by decide),codeAny_builtin KF.entry_class ?_⟩
 unfold Builtin.«object.__class__» shownTypeOf
 repeat lk
 exact h
def yc(X:K.In s.heap)(hx:s.heap.get? x=some o)(hc:o.cls=.ref C)(T:XCls K C)(hq:Q () s):
 wpAny M A (checkBuiltinCall "BaseException.__getattribute__" ⟨[.ref x,nameV],[]⟩) Q E s:=by
 obtain⟨h,g,dr,t,os⟩:=s
 have hk:builtinKind "BaseException.__getattribute__"=some .slot:=by decide
 have hsplit:splitId "BaseException.__getattribute__"=some ("BaseException", "__getattribute__"):=by decide
 have ha:=PySem.F.args_bexc_ga (.ref x) nameV
 have L0:=gK (M:=M) hx hc
 have LM:=looks_mroIn (M:=M) X T.mb
 have LI:Looks M h (isInstance (.ref x) (.type "BaseException")) true:=L0.andThen LM
 simp only[checkBuiltinCall,hk,hsplit]
 refine i_ ?_
 refine LI.at ?_
 repeat (first |wp_step)
 all_goals exact hq
def Hr(X:K.In s.heap)(hx:s.heap.get? x=some o)(hc:o.cls=.ref C)(T:XCls K C)(h:Q (some (.ref C)) { s with toks:=s.toks+1 }):
 wpAny (model prog w) A (getAttr? (.ref x) "__class__") Q E s:=by
 obtain⟨hh,g,d,t,os⟩:=s
 have L0:=gK (M:=model prog w) hx hc
 have L1:=looks_findIn (M:=model prog w) X T.ga
 have L2:=looks_findIn (M:=model prog w) X T.gt
 have LF:=CF (M:=model prog w) (x:=x) X T
 have f3:=PySem.F.excAttr_ValueError.ga.bind (.ref x)
 have hx2:(Value.builtin "BaseException.__getattribute__" == Value.builtin "object.__getattribute__")=false:=by decide
 unfold getAttr? getAttrBy? getAttrBy
 refine i_ (wpAny_mkText (i_ (QW (Qm (i_ (L0.at (i_ (L1.at ?_))))))))
 dsimp only
 rw[if_neg (by rw[hx2];simp)]
 unfold getAttrByItsOwn hookBefore
 rw[if_pos (show onTheHeap (Value.ref C)=true from rfl)]
 refine i_ (L2.at ?_)
 unfold callGetattribute
 refine i_ (QW (Qm ?_))
 rw[if_neg (by simp)]
 unfold boundAndCalled
 refine i_ (wpAny_of_eq f3 ?_)
 refine wpAny_call (codeAny_call_builtin PySem.F.excAttr_ValueError.ga.plain PySem.F.entry_bexc_ga (yc X hx hc T ?_))
 unfold Builtin.«object.__getattribute__»
 repeat (first |(refine i_ (L0.at ?_)) |(refine i_ (LF.at ?_)) |wp_step)
 refine pL (s:=⟨hh,g,d,t+1,os⟩) X hx hc T ?_
 repeat (first |exact h |wp_step)
def oq(x:Addr)(C:Addr)(h:Heap):Prop:=∃o vs,h.get? x=some o/\o.cls=.ref C/\o.data=.fields vs
def Cw(T:XCls K C):KitX K (.ref x) (.ref C) (oq x C) where
 ty:=λM h _ ⟨o,_,hx,hc,_⟩=>gK hx hc
 it:=λM h X _=>by
  obtain⟨cd,hcd⟩:=OV.mp T.cls
  unfold clsIn at hcd
  split at hcd
  ·rename_i c' d' cd' sl' ho
   intro A' Q' E' s' k q
   unfold isType loadHead
   exact i_ (wpAny_loadPart (k _ _ (X _ _ ho)) (w_ q))
  ·cases hcd
 ne:=λh tp dd its n sl X htp=>by
  obtain⟨cd,hcd⟩:=OV.mp T.cls
  refine Bool.eq_false_iff.mpr λq=>?_
  have e:C=tp:=Value.ref.inj (OQ.mp q)
  subst e
  unfold clsIn at hcd
  split at hcd
  ·rename_i c' d' cd' sl' ho
   have z:=(X _ _ ho).symm.trans htp
   cases z
  ·cases hcd
 ca:=λX ⟨o,_,hx,hc,_⟩ k=>Hr X hx hc T k
end
inductive TyX(K:W.Frag)(H:Hp):V->Value->Prop where
 |of {x:V}{t:Value} (h:TyOf K H x t):TyX K H x t
 |exc {a C:Addr} (e:H a=some (.ext (oq a C))) (T:XCls K C):TyX K H (.ref a) (.ref C)
 |sqT {a:Addr}{xs:List V} (h:SqT K H a xs):TyX K H (.ref a) (.type "tuple")
 |sqL {a:Addr}{xs:List V} (h:SqL K H a xs):TyX K H (.ref a) (.type "list")
section
variable{X:Cx}{pins:Rb}{σ:St}{H:Hp}{s:Shared}{A:Around}{E:Rg}{Q:Rg}{c:Value}{b:Bool}
def vc(I:Inv X pins σ H s)(rx:RelV x u)(ty:TyX X.K H x t):∃Hh:Heap->Prop,KitX X.K u t Hh/\Hh s.heap/\u ≠ .builtin "__main__.__loader__#opaque":=by
 cases ty with
 |
  exc ea T=>
  cases (show u=Value.ref _ from rx)
  exact⟨_,Cw T,(I.hok _ _ ea).1,λz=>nomatch z⟩
 |
  sqT h=>
  cases (show u=Value.ref _ from rx)
  obtain⟨its,rv,⟨o,e,c,_⟩,_⟩:=I.tuple h
  exact⟨_,kitx_tuple,⟨o,e,c⟩,λz=>nomatch z⟩
 |
  sqL h=>
  cases (show u=Value.ref _ from rx)
  obtain⟨its,rv,⟨o,n,e,c,_⟩,_⟩:=I.list h
  exact⟨_,kitx_list,⟨o,e,c⟩,λz=>nomatch z⟩
 |
  of ty=>
  cases ty with
  |non=>cases (show u=Value.none from rx);exact⟨_,kitx_none,True.intro,λz=>nomatch z⟩
  |bl y=>cases (show u=Value.bool y from rx);exact⟨_,kitx_bool,True.intro,λz=>nomatch z⟩
  |int i=>obtain⟨t,q⟩:=(show ∃t,u=Value.int i t from rx);cases q;exact⟨_,kitx_int,True.intro,λz=>nomatch z⟩
  |str y=>obtain⟨t,q⟩:=(show ∃t,u=Value.str y t from rx);cases q;exact⟨_,kitx_str,True.intro,λz=>nomatch z⟩
  |flt y=>obtain⟨t,q⟩:=(show ∃t,u=Value.float y t from rx);cases q;exact⟨_,kitx_float,True.intro,λz=>nomatch z⟩
  |
   @lst a xs ea=>
   cases (show u=Value.ref a from rx)
   obtain⟨_,_,n,_,h1⟩:=(show ObjOk X.prog X.w H s.heap a (.lst xs) from I.hok a _ ea)
   exact⟨_,kitx_list,⟨_,h1,rfl⟩,λz=>nomatch z⟩
  |
   @frz a ob xs ea=>
   cases (show u=Value.ref a from rx)
   obtain⟨_,_,_,n,_,h1⟩:=(show ObjOk X.prog X.w H s.heap a (.frz ob (.lst xs)) from I.hok a _ ea)
   exact⟨_,kitx_list,⟨_,h1,rfl⟩,λz=>nomatch z⟩
  |
   @tup a xs ea=>
   cases (show u=Value.ref a from rx)
   obtain⟨_,_,_,p⟩:=(show ObjOk X.prog X.w H s.heap a (.tup xs) from I.hok a _ ea)
   obtain⟨o,h1,h2,_⟩:=p
   exact⟨_,kitx_tuple,⟨o,h1,h2⟩,λz=>nomatch z⟩
  |
   @dK a kvs ea=>
   cases (show u=Value.ref a from rx)
   obtain⟨_,_,vs,_,p⟩:=(show ObjOk X.prog X.w H s.heap a (.dK kvs) from I.hok a _ ea)
   obtain⟨o,es,ep,h1,h2,_⟩:=p
   exact⟨_,kitx_dict,⟨o,h1,h2.1⟩,λz=>nomatch z⟩
  |
   @dT a kvs ea=>
   cases (show u=Value.ref a from rx)
   obtain⟨_,_,xs,_,o,es,ep,h1,h2,_⟩:=(show ObjOk X.prog X.w H s.heap a (.dT kvs) from I.hok a _ ea)
   exact⟨_,kitx_dict,⟨o,h1,h2.1⟩,λz=>nomatch z⟩
  |
   @ins a C dx fs ea cl ha hn htk hm=>
   cases (show u=Value.ref a from rx)
   obtain⟨mA,O,_⟩:=Eh I.hok ea
   obtain⟨od,J,_⟩:=O.look
   exact⟨_,kitx_own (cl.get _) cl.hd ha hn htk hm,J,λz=>nomatch z⟩
end
section
variable{X:Cx}
noncomputable def eQ:V->Option Value
 |.ref C=>some (.ref C)
 |.ty T=>some (.type T)
 |_=>none
def rF(h:eQ c=some v)(r:RelV c u):u=v:=by
 cases c with
 |ref C=>cases r;exact C_ h
 |ty T=>cases r;exact C_ h
 |_=>cases h
theorem pf:∀{cs:List V}{us vs:List Value},cs.mapM eQ=some vs->Vals cs us->us=vs
 |
  [],_,vs,h,.nil=>by
  have h':some ([]:List Value)=some vs:=h
  exact C_ h'
 |
  c::cs,_,vs,h,.cons r rr=>by
  rw[Qc] at h
  cases q:eQ c with
  |none=>rw[q] at h;cases h
  |
   some v=>
   rw[q] at h
   cases q2:cs.mapM eQ with
   |none=>rw[q2] at h;cases h
   |
    some vs'=>
    rw[q2] at h
    have h':some (v::vs')=some vs:=h
    cases h'
    rw[rF q r,pf q2 rr]
def A6:CallR X (.builtin "isinstance") (λxs H Q=>∃x c t v b,xs=[x,c]/\TyX X.K H x t/\eQ c=some v/\kitOne X.K t v=some b/\Q (.bl b) H):=by
 intro pins s σ H xs us Q I r h
 obtain⟨x,c,t,v,b,rfl,ty,hc,hk,q⟩:=h
 obtain⟨u,w',rfl,rx,rc⟩:=mO r
 obtain rfl:=rF hc rc
 obtain⟨Hh,Z,p,hne⟩:=vc I rx ty
 exact kia_one Z I.kIn p hk hne λtk=>⟨.bl b,H,I.tok _,rfl,q⟩
end
end L2
namespace L2
open PySem PySem.Spec PyProof.Rows
def ObjOk.there(x:ObjOk P w H h a o):∃u,h.get? a=some u:=by
 cases o with
 |lst xs=>obtain⟨_,_,_,_,e⟩:=x;exact⟨_,e⟩
 |tup xs=>obtain⟨_,_,_,ob,e,_⟩:=x;exact⟨_,e⟩
 |dK kvs=>obtain⟨_,_,_,_,o,_,_,e,_⟩:=x;exact⟨_,e⟩
 |dT kvs=>obtain⟨_,_,_,_,o,_,_,e,_⟩:=x;exact⟨_,e⟩
 |set S n=>obtain⟨o,_,_,_,e,_⟩:=x;exact⟨_,e⟩
 |ins C dx fs=>obtain⟨_,_,_,e,_⟩:=x;exact⟨_,e⟩
 |own y=>exact x
 |xd fs=>obtain⟨_,⟨_,_,_,e,_⟩,_⟩:=x;exact⟨_,e⟩
 |rng lo hi=>obtain⟨_,_,_,e⟩:=x;exact⟨_,e⟩
 |frz ob u=>obtain⟨e,_⟩:=x;exact⟨_,e⟩
 |tbl ps=>exact⟨_,show h.get? a=some _ from x⟩
 |met f y=>exact⟨_,show h.get? a=some _ from x⟩
 |ext φ=>obtain⟨_,e,_⟩:=x;exact e
structure Fly(P:Program)(w:World)(outer:List Env)(H:Hp)(h₀:Heap)(H':Hp)(ea:Addr)(cls:Value)(h:Heap)(B:Heap)(t:Addr):Prop where
 un:Un (frs outer) [] H H' h₀ h
 hok:HOk P w H' h
 fl:Heap.FlyingW B outer ea cls (.ref t) h
 old:∀b o,h₀.get? b=some o->b∉frs outer->∃o',B.get? b=some o'
 trk:∀b o,H' b=some o->∃o',B.get? b=some o'
def CX1(P:Program)(w:World):CXT:=λouter H s E e s'=>∃(ea t:Addr) (cls:Value) (H':Hp) (B:Heap),e=.ref ea/\s'.os=s.os/\AllBare s'.gens/\Fly P w outer H s.heap H' ea cls s'.heap B t/\E cls none H'
def sZ(h:env.frame=some L):frs (env::outer)=L::frs outer:=by
 unfold frs
 rw[Pu,h]
section
variable{P:Program}{w:World}{outer:List Env}{H H':Hp}{h₀ h h' B:Heap}{ea t L:Addr}{cls:Value}
def Fly.step(F:Fly P w outer H h₀ H' ea cls h B t)(fl':Heap.FlyingW B outer' ea cls (.ref t) h')(up:h.UpToSlots h'):
 Un (frs outer) [] H H' h₀ h'/\HOk P w H' h':=by
 have st:=F.fl.1
 have same:∀b o,(∃o',B.get? b=some o')->h.get? b=some o->h'.get? b=some o:=λb o ⟨o',e⟩ q=>by
  have z:=st b o' e
  rw[q] at z;cases z
  exact fl'.1 b _ e
 have frame:∀b o,b∈frs outer->h.get? b=some o->∃sl,h'.get? b=some { o with slots:=sl }:=λb o hb q=>by
  obtain⟨_,o',ho',hd⟩:=F.fl.2.2.1.mem hb
  rw[q] at ho';cases ho'
  exact up b o q hd
 refine⟨⟨λb o e n hb hx=>same b o (F.old b o e hb) (F.un.keep b o e n hb hx),λb o e n hb hx=>?_,F.un.free,λb o e hx=>?_,F.un.tups,F.un.frzs,F.un.tbls⟩,λa o e=>?_⟩
 ·obtain⟨sl,q⟩:=F.un.slot b o e n hb hx
  obtain⟨sl',q'⟩:=frame b _ hb q
  exact⟨sl',q'⟩
 ·obtain⟨o',q⟩:=F.un.there b o e hx
  by_cases hb:b∈frs outer
  ·obtain⟨sl,q'⟩:=frame b _ hb q
   exact⟨_,q'⟩
  ·exact⟨o',same b o' (F.old b o e hb) q⟩
 ·refine (F.hok a o e).stay (λb u hb q=>same b u ?_ q) (λ_ q=>q) λ_ _ q=>q
  rcases hb with z |z
  ·rw[z];exact F.trk a o e
  ·exact F.trk b _ z
end
structure Cx.Top(X:Cx):Prop where
 ex:X.ex=[]
 stk:X.stack=X.env::X.outer
 fr:X.env.frame=some X.env.locals
section
variable{X:Cx}{pins:Rb}{σ:St}{H:Hp}{s s':Shared}{E:XK}{e:Value}
def xP(T:X.Top)(hA:A.frames=some X.stack)(I:Inv X pins σ H s)(h:CX1 X.prog X.w X.stack H s E e s'):
 wpAny (model X.prog X.w) A (leaving X.env e) (λ_ s''=>CX1 X.prog X.w X.outer X.H₀ X.s₀ E e s'') E' s':=by
 obtain⟨ea,t,cls,H',B,rfl,os,bare,F,q⟩:=h
 have F0:=F
 rw[T.stk] at F
 have hf:=sZ (outer:=X.outer) T.fr
 refine wpAny_leaves_onW (by rw[hA,T.stk]) T.fr F.fl λh'' fl'' up=>?_
 obtain⟨un2,hok2⟩:=F.step fl'' up
 have exn:∀b,b∉X.ex:=λb z=>by rw[T.ex] at z;cases z
 have neL:∀b o,X.s₀.heap.get? b=some o->b≠X.env.locals:=λb o e=>L_ (Em (x_ e) I.ok.above)
 have notin:∀b o,X.s₀.heap.get? b=some o->b∉frs X.outer->b∉frs (X.env::X.outer):=λb o e hb z=>by
  rw[hf] at z
  rcases D_.mp z with z |z
  ·exact neL b o e z
  ·exact hb z
 refine⟨ea,t,cls,H',B,rfl,os.trans I.os,bare,⟨⟨λb o e n hb hx=>?_,λb o e n hb hx=>?_,λb o e n hx=>?_,λb o e hx=>?_,λb xs e=>un2.tups b xs (I.base.tups b xs e),λb o xs e=>un2.frzs b o xs (I.base.frzs b o xs e),λb ps e=>?_⟩,hok2,fl'',λb o e hb=>?_,F.trk⟩,q⟩
 ·exact un2.keep b o (I.base.keep b o e n hb (exn b)) (I.base.free b o e n (exn b)) (notin b o e hb) (by simp)
 ·obtain⟨sl,e1⟩:=I.base.slot b o e n hb (exn b)
  obtain⟨sl',e2⟩:=un2.slot b _ e1 (I.base.free b o e n (exn b)) (by rw[hf];exact l_ _ hb) (by simp)
  exact⟨sl',e2⟩
 ·obtain⟨o',e1⟩:=I.base.there b o e (exn b)
  exact un2.free b o' e1 (I.base.free b o e n (exn b)) (by simp)
 ·obtain⟨o',e1⟩:=I.base.there b o e (exn b)
  exact un2.there b o' e1 (by simp)
 ·obtain⟨m1,e1⟩:=I.base.tbls b ps e
  obtain⟨m2,e2⟩:=un2.tbls b _ e1
  exact⟨m1++m2,by rw[e2,Array.append_assoc]⟩
 ·obtain⟨o',e1⟩:=I.base.there b o e (exn b)
  exact F.old b o' e1 (notin b o e hb)
def AL(T:X.Top)(hA:A.frames=some X.stack)(I:Inv X pins σ H s)(hx:Heap.MadeExcOf s.heap h' ea cls args)(q:E cls none H):
 wpAny (model X.prog X.w) A (leaving X.env (.ref ea)) (λ_ s''=>CX1 X.prog X.w X.outer X.H₀ X.s₀ E (.ref ea) s'') E' { s with heap:=h' }:=by
 have hf:=sZ (outer:=X.outer) T.fr
 have stk:=I.stack
 rw[T.stk] at stk
 have hin:∀env∈(X.env::X.outer),∀b,env.frame=some b->b∈frs (X.env::X.outer):=λenv he b hb=>List.mem_filterMap.mpr ⟨env,he,hb⟩
 refine wpAny_leaves_madeW (base:=W.hideAll s.heap (frs (X.env::X.outer))) (h:=s.heap) (by rw[hA,T.stk]) T.fr (λb o q=>W.of_hideAll _ q) (W.funFrames_hide stk hin) hx λh'' t fl tup tn up=>?_
 have inB:∀b o,s.heap.get? b=some o->b∉frs (X.env::X.outer)->(W.hideAll s.heap (frs (X.env::X.outer))).get? b=some o:=λb o e hb=>W.hideAll_get _ e hb
 have free:∀b∈frs (X.env::X.outer),H b=none:=λb hb=>I.stkFree b (by rw[T.stk];exact hb)
 have up2:s.heap.UpToSlots h'':=(Heap.UpToSlots.of_keeps hx.keeps).trans up
 have exn:∀b,b∉X.ex:=λb z=>by rw[T.ex] at z;cases z
 have neL:∀b o,X.s₀.heap.get? b=some o->b≠X.env.locals:=λb o e=>L_ (Em (x_ e) I.ok.above)
 have notin:∀b o,X.s₀.heap.get? b=some o->b∉frs X.outer->b∉frs (X.env::X.outer):=λb o e hb z=>by
  rw[hf] at z
  rcases D_.mp z with z |z
  ·exact neL b o e z
  ·exact hb z
 have trk:∀b o,H b=some o->∃o',(W.hideAll s.heap (frs (X.env::X.outer))).get? b=some o':=λb o e=>by
  obtain⟨u,hu⟩:=(I.hok b o e).there
  exact⟨u,inB b u hu λz=>by rw[free b z] at e;cases e⟩
 refine⟨ea,t,cls,H,_,rfl,I.os,I.bare,⟨⟨λb o e n hb hx=>?_,λb o e n hb hx=>?_,λb o e n hx=>?_,λb o e hx=>?_,I.base.tups,I.base.frzs,I.base.tbls⟩,λa o e=>?_,fl,λb o e hb=>?_,trk⟩,q⟩
 ·exact fl.1 b o (inB b o (I.base.keep b o e n hb (exn b)) (notin b o e hb))
 ·obtain⟨sl,e1⟩:=I.base.slot b o e n hb (exn b)
  obtain⟨_,o',ho',hd⟩:=I.ok.funs.mem hb
  rw[e] at ho';cases ho'
  obtain⟨sl',e2⟩:=up2 b _ e1 hd
  exact⟨sl',e2⟩
 ·exact I.base.free b o e n (exn b)
 ·obtain⟨o',e1⟩:=I.base.there b o e (exn b)
  by_cases hb:b∈frs X.outer
  ·obtain⟨_,o2,ho2,hd⟩:=I.funs.mem hb
   rw[e1] at ho2;cases ho2
   obtain⟨sl',e2⟩:=up2 b _ e1 hd
   exact⟨_,e2⟩
  ·exact⟨o',fl.1 b o' (inB b o' e1 (notin b o e hb))⟩
 ·refine (I.hok a o e).stay (λb u hb q=>?_) (λ_ q=>q) λ_ _ q=>q
  refine fl.1 b u (inB b u q λz=>?_)
  rcases hb with y |y
  ·rw[y] at z;rw[free a z] at e;cases e
  ·rw[free b z] at y;cases y
 ·obtain⟨o',e1⟩:=I.base.there b o e (exn b)
  exact⟨o',inB b o' e1 (notin b o e hb)⟩
def qU{h6:Heap}{ea t:Addr}{C:Addr}{H':Hp}{B:Heap}{g':Shared}(T:X.Top)(I:Inv X pins σ H s)(F:Fly X.prog X.w X.stack H s.heap H' ea (.ref C) s'.heap B t)(os:s'.os=s.os)(bare:AllBare s'.gens)
 (fl6:Heap.FlyingW B X.stack ea (.ref C) (.ref t) h6) (up:s'.heap.UpToSlots h6):
 H' ea=none/\Inv X pins σ (upd H' ea (.ext (oq ea C))) { s' with heap:=h6 }:=by
 obtain⟨un2,hok2⟩:=F.step fl6 up
 obtain⟨oe,vs,he,hc,hd,_⟩:=fl6.first
 have hB:B.get? ea=none:=fl6.2.1
 have hn:H' ea=none:=by
  cases q:H' ea with
  |none=>rfl
  |
   some o=>
   obtain⟨o',z⟩:=F.trk ea o q
   rw[hB] at z;cases z
 have hnf:ea∉frs X.stack:=λz=>by
  obtain⟨_,o,ho,hdd⟩:=fl6.2.2.1.mem z
  rw[he] at ho;cases ho
  exact hdd vs hd
 have hs:s.heap.get? ea=none:=by
  cases q:s.heap.get? ea with
  |none=>rfl
  |
   some o=>
   obtain⟨o',z⟩:=F.old ea o q hnf
   rw[hB] at z;cases z
 have I5:Inv X pins σ H' { s' with heap:=h6 }:=I.call' (s':={ s' with heap:=h6 }) (ch:=[]) os un2 hok2 bare λb hb=>nomatch hb
 refine⟨hn,I5.track hn ?_ ?_ (λx c e z=>?_) (λp hp z=>?_) ⟨⟨oe,vs,he,hc,hd⟩,⟨oe,he⟩,λh1 h2 ⟨o1,v1,e1,r⟩ k=>⟨o1,v1,k o1 e1,r⟩⟩⟩
 ·cases q:X.s₀.heap.get? ea with
  |none=>rfl
  |
   some o=>
   obtain⟨o',z⟩:=I.base.there ea o q (by rw[T.ex];simp)
   rw[hs] at z;cases z
 ·intro z
  obtain⟨m,⟨o,es,ep,ho,hdd,_⟩,_⟩:=I.loc
  rw[<- z,hs] at ho;cases ho
 ·obtain⟨v,o,ho,_⟩:=I.cell x c e
  rw[z,hs] at ho;cases ho
 ·have:=(I.pin p hp).1
  rw[z,hs] at this;cases this
end
section
variable{P:Program}{w:World}{K:W.Frag}{mg:Ra}{base:Heap}{N:List Str}{qual:Str}{scope:Scope}{f:Addr}{cd:Value}{A:Around}{outer:List Env}{s:Shared}{H:Hp}{E:XK}
def vN:(dg (CX1 P w) P w K mg base N qual scope f cd A outer s H E).Top:=⟨rfl,rfl,rfl⟩
def Lw:qI (CX1 P w) (dg (CX1 P w) P w K mg base N qual scope f cd A outer s H E) E:=λpins σ H s e s' I h=>xP vN I.ok.frames I h
def MU:qI (CX1 P w) X E0:=λpins σ H s e s' I ⟨_,_,_,_,_,_,_,_,_,q⟩=>q.elim
def own1:PassesOwn (model P w) (dg (CX1 P w) P w K mg base N qual scope f cd A outer s H E).A (dg (CX1 P w) P w K mg base N qual scope f cd A outer s H E).env (dg (CX1 P w) P w K mg base N qual scope f cd A outer s H E).xe:=PassesOwn.leaving
def Rz(X:Cx)(E:XK):Prop:=∀(pins:Rb) (σ:St) (H:Hp) (s:Shared) (h':Heap) (ea:Addr) (cls:Value) (args:List Value),Inv X pins σ H s->Heap.MadeExcOf s.heap h' ea cls args->E cls none H->X.xe (.ref ea) { s with heap:=h' }
def rz1:Rz (dg (CX1 P w) P w K mg base N qual scope f cd A outer s H E) E:=λpins σ H s h' ea cls args I hx q=>AL vN I.ok.frames I hx q
def Fun.okR{x qual:Str}{st:Stmt}{f:Addr}{fd:FuncData}{N ps:List Str}{k:Nat}{sp:Sp}(F:Fun K x qual st f fd)(S:FnScope N ps (au st))(len:∀vs H Q E,sp vs H Q E->vs.length=ps.length)
 (ge:∀(cdv:Value) (A:Around) (outer:List Env) (s:Shared) (H:Hp) (vs:List V) (Q:VK) (E:XK),Room k (A.deeper (envOfC qual (au st) s.heap.objs.size f cdv))->sp vs H Q E->
  ∃t,PSs (dg (CX1 P w) P w K mg base N qual (au st) f cdv A outer s H E) (aY st) t/\t { nx:=λ_ H'=>Q .non H',rt:=Q } (fc N vs) H):FnOk P w K mg base (CX1 P w) (k+1) f fd ps sp:=by
 obtain⟨oc,od,kV,doc,pm,an,cdv,ct,osl,rfl,lk,hcd⟩:=F.ex
 exact M4 lk hcd S len λA outer s H vs Q E hr hsp=>ge cdv A outer s H vs Q E hr hsp
end
abbrev lg:List Value:=[.type "ValueError",.type "Exception",.type "BaseException",.type "object"]
def zd{K:W.Frag}{h:Heap}{C:Addr}(X:K.In h)(q:W.excIn K C lg "ValueError.__new__"=true):
 ∃bm N nm q' bs hdct sn sub ab col dd k0 k1 k2 k3 k5 mN,h.get? C=some (excClassObj nm q' C N bs bm hdct sn sub ab col dd k0 k1 k2 k3 k5 "ValueError.__new__")/\h.Ns N mN/\mN "__init__"=none/\OwnTail h lg bm:=by
 unfold W.excIn at q
 split at q
 ·rename_i dd cd sl ho
  split at q
  ·rename_i C' bm k0 k1 k2 k3 n k5 hm hs
   simp only[r_,OQ,Bool.not_eq_true'] at q
   obtain⟨⟨⟨⟨⟨rfl,rfl⟩,hdel⟩,ht⟩,hok⟩,hni⟩:=q
   obtain⟨nm,bs,mro,ns,qn,hd,sn,sub,ab,col,del⟩:=cd
   dsimp only at hm hdel hok hni
   subst hm hdel
   have hsl:sl=#[k0,k1,k2,k3,some (.builtin "ValueError.__new__"),k5]:=by
    obtain⟨l⟩:=sl
    simp only at hs
    rw[hs]
   subst hsl
   exact⟨bm,ns,nm,qn,bs,hd,sn,sub,ab,col,dd,k0,k1,k2,k3,k5,_,X _ _ ho,.of_isNs (W.isNs_of_in X hok),W.nsMap_none_of_in X hok hni,W.tail_of_in X ht⟩
  ·cases q
 ·cases q
section
variable{X:Cx}{x:Str}{C:Addr}{E:XK}{np cpos pos:Pos}{e₀:Expr}{es:List Expr}{ta:TA}
def Hz(C:Addr)(E:XK)(ta:TA):TS:=λ_ σ H=>ta σ H λvs H1=>vs.length<=sizeLine/\E (.ref C) none H1
def Bu(hc:X.calm=true)(hR:Rz X E)(hg:Gl X x)(hm:X.mg x=some (.ref C))(hq:W.excIn X.K C lg "ValueError.__new__"=true)(ha:PA X (e₀::es) ta)
 (he:starEach (e₀::es) X.env=(false,eval e₀ X.env)::starEach es X.env) (ci:(backTo cpos (starEach es X.env)).any (·.1)=false) (hd:(x==("__debug__" : Str))=false):
 PS X (.Raise (some (.Call (.Name x np) (e₀::es) [] cpos)) none pos) (Hz C E ta):=by
 intro pins s σ H D I h
 obtain⟨bm,N,nm,q',bs,hdct,sn,sub,ab,col,dd,k0,k1,k2,k3,k5,mN,hC,hN,hni,T⟩:=zd I.ok.mod.kin hq
 refine wpAny_Raise_call_subT (C:=C) (nm:=nm) (q:=q') (N:=N) (bs:=bs) (bm:=bm) (hdct:=hdct) (sn:=sn) (sub:=sub) (ab:=ab) (col:=col) (dd:=dd) (k0:=k0) (k1:=k1) (k2:=k2) (k3:=k3) (k5:=k5)
  PySem.F.excBase_ValueError (mN:=mN) (T.hasType PySem.F.excBase_ValueError.hasBase) (I.ok.hd hc) (by rw[he];show (false || (backTo cpos (starEach es X.env)).any (·.1))=false;rw[ci];rfl) hni (nK I hg hm ⟨rfl,?_⟩ hd)
 have hA:=ha cpos pins s σ H _ I h
 rw[he] at hA ⊢
 refine Calls.evalArgs_plain (thn hA λus s2 ⟨vs,H2,I2,r2,hz,q2⟩=>⟨rfl,by rw[<- r2.length];exact hz,I2.bk _ _ hC,hN.keeps I2.bk,T.keeps I2.bk,λh' e hm'=>?_⟩)
 exact hR pins σ H2 s2 h' e _ _ I2 hm' q2
end
abbrev XS:=St->XK
abbrev TEx:=St->Hp->VK->XK->Prop
abbrev TSx:=Ends->XS->St->Hp->Prop
def XP(X:Cx)(pins:Rb)(E:XS)(e:Value)(s':Shared):Prop:=∃σ1 H1 s1,Inv X pins σ1 H1 s1/\CX1 X.prog X.w X.stack H1 s1 (E σ1) e s'
def PEx(X:Cx)(e:Expr)(t:TEx):Prop:=
 ∀(pins:Rb) (s:Shared) (σ:St) (H:Hp) (Q:VK) (E:XS),Inv X pins σ H s->t σ H Q (E σ)->wpAny (model X.prog X.w) X.A (eval e X.env) (EP X pins σ Q) (XP X pins E) s
def PSsx(X:Cx)(st:List Stmt)(t:TSx):Prop:=
 ∀(pins:Rb) (s:Shared) (σ:St) (H:Hp) (D:Ends) (E:XS),Inv X pins σ H s->t D E σ H->wpAny (model X.prog X.w) X.A (execs st X.env) (SP X pins D) (XP X pins E) s
section
variable{X:Cx}{st:Stmt}{cQ:List Stmt}{t u:TSx}{e:Expr}{es:List Expr}{te:TEx}{pos p:Pos}{x:Str}{f:Addr}{fd:FuncData}{ps:List Str}{sp:Sp}{k:Nat}{ta:TA}{dvs:List V}{ds:List Value}
end
noncomputable def gy(X:Cx)(ea:Addr):Cx:={ X with A:=X.A.mark (some (.ref ea)),calm:=false,xe:=λ_ _=>False }
section
variable{X:Cx}{pins:Rb}{σ:St}{H:Hp}{s:Shared}{ea:Addr}
def Inv.suite(I:Inv X pins σ H s):Inv (gy X ea) pins σ H s:=
 ⟨⟨I.ok.mod,I.ok.kind,I.ok.glob,I.ok.blt,I.ok.above,I.ok.inj,I.ok.has,I.ok.cab,λz=>absurd z s_,I.ok.frames,I.ok.stk,I.ok.exf,I.ok.bs,I.ok.bsz,I.ok.noex,I.ok.exfs,I.ok.funs,I.ok.frf⟩,I.os,I.bare,I.base,I.loc,I.cell,I.free,I.freeC,I.pin,I.hok,I.len⟩
def Inv.unsuite(ok:X.Ok)(I:Inv (gy X ea) pins σ H s):Inv X pins σ H s:=
 ⟨ok,I.os,I.bare,I.base,I.loc,I.cell,I.free,I.freeC,I.pin,I.hok,I.len⟩
def xE{M:Model}{A:Around}{E:Rg}{K:W.Frag}{C Ce:Addr}{o:Obj}{Q:Bool->Shared->Prop}(KX:K.In s.heap)(he:s.heap.get? ea=some o)(hc:o.cls=.ref Ce)
 (hty:W.typeIn K (.ref C)=some (.type "type")) (hcl:(W.clsIn K C).isSome=true) (hb:W.mroIn K C (.type "BaseException")=some true) (hm:W.mroIn K Ce (.ref C)=some true) (q:Q true s):
 wpAny M A (excMatches (.ref ea) (.ref C)) Q E s:=by
 obtain⟨h,g,d,tk,os⟩:=s
 have L0:=gK (M:=M) he hc
 have L1:=W.looks_typeIn (M:=M) KX hty
 have L2:=W.looks_mroIn (M:=M) KX hb
 have L3:=W.looks_mroIn (M:=M) KX hm
 have L4:W.Looks M h (isType (.ref C)) true:=by
  obtain⟨cd,hcd⟩:=OV.mp hcl
  unfold W.clsIn at hcd
  split at hcd
  ·rename_i c' d' cd' sl' ho
   intro A' Q' E' s' k q
   unfold isType loadHead
   exact i_ (wpAny_loadPart (k _ _ (KX _ _ ho)) (w_ q))
  ·cases hcd
 have LT:W.Looks M h (isInstance (.ref C) (.type "tuple")) false:=L1.andThen (W.Looks.of_pure tc_notTuple)
 have LE:W.Looks M h (isExcClass (.ref C)) true:=by
  unfold isExcClass
  exact L4.andThen L2
 unfold excMatches
 refine i_ (LT.at ?_)
 rw[if_neg s_]
 refine i_ (w_ ?_)
 dsimp only
 refine i_ ?_
 rw[Qq]
 refine i_ (i_ (LE.at ?_))
 simp only[Bool.not_true,O8,P9]
 refine w_ ?_
 dsimp only
 rw[QU]
 refine w_ ?_
 refine i_ (L0.at (i_ ?_))
 rw[Qq]
 refine i_ (i_ (L3.at ?_))
 simp only[Pd]
 exact w_ (w_ (w_ q))
def Inv.unbind(I:Inv X pins σ H s)(hN:X.N.Nodup)(hi:X.N[i]?=some n)(hl:X.env.kindOf n=some .local)
 (hm:∀(i:Nat) (x:Str) (v:V),X.N[i]?=some x->σ[i]?=some (some v)->Vis X.env.scope x->∃u,RelV v u/\B8 X.env s.heap m x u) (hn:s.heap.Ns X.env.locals m)
 (hn':h'.Ns X.env.locals (λx=>if x=n then v else m x)) (hs:Heap.SameBut X.env.locals s.heap h'):Inv X pins (σ.set i none) H { s with heap:=h',toks:=tk }:=by
 have cne:=I.cne
 have neL:∀b o,X.s₀.heap.get? b=some o->b≠X.env.locals:=λb o e=>L_ (Em (x_ e) I.ok.above)
 refine⟨I.ok,I.os,I.bare,⟨λb o e n hb hx=>?_,λb o e n hb hx=>?_,I.base.free,λb o e hx=>?_,I.base.tups,I.base.frzs,I.base.tbls⟩,⟨_,hn',λj y v' e1 e2 e3=>?_⟩,λy c e=>?_,I.free,I.freeC,λp hp=>?_,λb ob e=>?_,by simpa using I.len⟩
 ·exact (hs.2 b (neL b o e)).trans (I.base.keep b o e n hb hx)
 ·obtain⟨sl,e1⟩:=I.base.slot b o e n hb hx
  exact⟨sl,(hs.2 b (neL b o e)).trans e1⟩
 ·obtain⟨o',e1⟩:=I.base.there b o e hx
  exact⟨o',(hs.2 b (neL b o e)).trans e1⟩
 ·by_cases hj:j=i
  ·subst hj
   have hiσ:j<σ.length:=by rw[I.len];exact (k_.mp hi).1
   rw[QC hiσ] at e2
   cases e2
  ·rw[PR (Ne.symm hj)] at e2
   obtain⟨u',r',q⟩:=hm j y v' e1 e2 e3
   refine⟨u',r',?_⟩
   rcases q with ⟨k,e⟩ |⟨k,c,e,z⟩
   ·refine .inl ⟨k,?_⟩
    have:y≠n:=λe=>hj (lG hN e1 (e ▸ hi))
    simp [this,e]
   ·exact .inr ⟨k,c,e,z.sameBut hs (cne y c e)⟩
 ·obtain⟨w',z⟩:=I.cell y c e
  exact⟨w',z.sameBut hs (cne y c e)⟩
 ·obtain⟨e,n,ne,nf,d⟩:=I.pin p hp
  exact⟨(hs.2 p.1 ne).trans e,n,ne,nf,d⟩
 ·refine (I.hok b ob e).stay (λc w' hc q=>(hs.2 c ?_).trans q) (λ_ q=>q) λ_ _ q=>q
  rintro rfl
  rcases hc with z |hc
  ·rw[<- z,I.free] at e;cases e
  ·rw[I.free] at hc;cases hc
def Bm(I:Inv X pins σ H s)(hg:Gl X x)(hm:X.mg x=some u)(h:Q u s)
 (hd:(x==("__debug__" : Str))=false):wpAny (model X.prog X.w) A (eval (.Name x pos) X.env) Q E s:=
 Qi I.ok.kind hg (Calls.loadGlobal_global (by rw[I.ok.glob];exact I.mod.glob.keeps I.bk) hm h) hd
end
structure XHand(K:W.Frag)(C:Addr):Prop where
 ty:W.typeIn K (.ref C)=some (.type "type")
 cls:(W.clsIn K C).isSome=true
 mb:W.mroIn K C (.type "BaseException")=some true
def CW(i:Nat)(D:Ends):Ends:={ nx:=λσ H=>D.nx (σ.set i none) H,rt:=D.rt,bk:=λσ H=>D.bk (σ.set i none) H,ct:=λσ H=>D.ct (σ.set i none) H }
def tTry(K:W.Frag)(C:Addr)(i:Nat)(tb:TSx)(ts:TS):TS:=λD σ H=>
 tb D (λσ1 cls _ H1=>∃Ce,cls=.ref Ce/\W.mroIn K Ce (.ref C)=some true/\∀ea,H1 ea=none->ts (CW i D) (σ1.set i (some (.ref ea))) (upd H1 ea (.ext (oq ea Ce)))) σ H
section
variable{X:Cx}{x n:Str}{C:Addr}{i:Nat}{body suite:List Stmt}{b₀:Stmt}{tb:TSx}{ts:TS}{np hpos pos:Pos}
def GH(T:X.Top)(hN:X.N.Nodup)(hi:X.N[i]?=some n)(hl:X.env.kindOf n=some .local)(hg:Gl X x)(hm:X.mg x=some (.ref C))(hh:XHand X.K C)(hb:PSsx X body tb)(hs:∀ea,PSs (gy X ea) (b₀::suite) ts)
 (hd:(x==("__debug__" : Str))=false):PS X (.Try body [.ExceptHandler (some (.Name x np)) (some n) (b₀::suite) hpos] [] [] pos) (tTry X.K C i tb ts):=by
 intro pins s σ H D I h
 refine wpAny_Try_except (OL (hb pins s σ H D _ I h) (λf s1 q=>?_) λe s1 hx=>?_)
 ·cases f with
  |next=>exact Qr q
  |ret v=>exact q
  |brk=>exact q
  |cont=>exact q
 ·obtain⟨σ1,H1,s0,I1,ea,t,cls,H',B,rfl,os,bare,F,Ce,rfl,hme,q⟩:=hx
  have F1:=F.fl
  rw[T.stk] at F1
  have hfr:X.A.frames=some (X.env::X.outer):=by rw[I1.ok.frames,T.stk]
  refine wpAny_looks_onW hfr T.fr F1 λh4 held4 up4=>?_
  refine wpAny_landsW held4 λh5 fl5 up5=>?_
  have fl5':=fl5
  rw[<- T.stk] at fl5'
  obtain⟨hn5,I5⟩:=qU (g':=s1) T I1 F os bare fl5' (up4.trans up5)
  obtain⟨o5,he5,hc5⟩:=fl5.there
  refine wpAny_handleBy_cons (codeAny_handlers_test (Bm I5 hg hm ?_ hd)) (by intro q;cases q)
  refine xE I5.kIn he5 hc5 hh.ty hh.cls hh.mb hme ?_
  refine codeAny_handlers_suite_as ?_
  refine lands_againW fl5 λh6 fl6 up6=>?_
  have fl6':=fl6
  rw[<- T.stk] at fl6'
  obtain⟨hn6,I6⟩:=qU (g':=s1) T I1 F os bare fl6' ((up4.trans up5).trans up6)
  refine fJ (v:=.ref ea) I6 hN hi (.inl hl) rfl (λs7 I7=>?_) (.inr hl)
  refine OL (hs ea pins s7 _ _ (CW i D) I7.suite (q ea hn6)) (λf s8 h8=>?_) λ_ _ z=>False.elim z
  have go:∀{σ8:St}{H8:Hp},Inv (gy X ea) pins σ8 H8 s8->(∀s9,Inv X pins (σ8.set i none) H8 s9->SP X pins D f s9)->
   wpAny (model X.prog X.w) X.A (do bindName X.env n .none;unbindBehindTheSuite X.env n hpos) (λ_ s9=>SP X pins D f s9) X.xe s8:=λ{σ8 H8} I8' k=>by
   have I8:=I8'.unsuite I.ok
   obtain⟨m,hn,hm⟩:=I8.loc
   exact wpAny_nameGoes_keeps hl hn (by rw[I8.ok.kind];rfl) λh' v hn' hs'=>k _ (I8.unbind hN hi hl hm hn hn' hs')
  cases f with
  |next=>obtain⟨σ8,H8,I8,q8⟩:=h8;exact go I8 λs9 I9=>⟨_,_,I9,q8⟩
  |brk=>obtain⟨σ8,H8,I8,q8⟩:=h8;exact go I8 λs9 I9=>⟨_,_,I9,q8⟩
  |cont=>obtain⟨σ8,H8,I8,q8⟩:=h8;exact go I8 λs9 I9=>⟨_,_,I9,q8⟩
  |ret u=>obtain⟨v,σ8,H8,I8,r8,q8⟩:=h8;exact go I8 λs9 I9=>⟨v,_,_,I9,r8,q8⟩
end
mutual
inductive Rep(K:W.Frag)(H:Hp):V->PyData->Prop where
 |non:Rep K H .non .none
 |bl (b:Bool):Rep K H (.bl b) (.bool b)
 |int (i:Int):Rep K H (.int i) (.int i)
 |str (x:Str):Rep K H (.str x) (.str x)
 |tup {a:Addr}{xs:List V}{ds:List PyData} (h:SqT K H a xs) (r:Reps K H xs ds):Rep K H (.ref a) (.tuple ds)
 |lst {a:Addr}{xs:List V}{ds:List PyData} (h:SqL K H a xs) (r:Reps K H xs ds):Rep K H (.ref a) (.list ds)
inductive Reps(K:W.Frag)(H:Hp):List V->List PyData->Prop where
 |nil:Reps K H [] []
 |cons {x:V}{d:PyData}{xs:List V}{ds:List PyData} (r:Rep K H x d) (rr:Reps K H xs ds):Reps K H (x::xs) (d::ds)
end
section
variable{X:Cx}{pins:Rb}{σ:St}{H H':Hp}{s:Shared}{K:W.Frag}
def Rep.reads(I:Inv X pins σ H s)(r:Rep X.K H v d)(q:RelV v u):∃as,Reads s.heap u d as:=
 Rep.rec (motive_1:=λv d _=>∀u,RelV v u->∃as,Reads s.heap u d as) (motive_2:=λvs ds _=>∀us,Vals vs us->∃as,ReadsAll s.heap us ds as)
  (λu r=>by cases r;exact⟨_,.none⟩) (λb u r=>by cases r;exact⟨_,.bool b⟩) (λi u r=>by obtain⟨t,rfl⟩:=r;exact⟨_,.int i t⟩) (λx u r=>by obtain⟨t,rfl⟩:=r;exact⟨_,.str x t⟩)
  (λh _ ih u r=>by
   cases r
   obtain⟨its,rv,⟨o,e,c,n,d⟩,_⟩:=I.tuple h
   obtain⟨as,q⟩:=ih _ rv
   exact⟨as,.tuple e c d (by simpa using q)⟩)
  (λh _ ih u r=>by
   cases r
   obtain⟨its,rv,⟨o,n,e,c,_,d⟩,_⟩:=I.list h
   obtain⟨as,q⟩:=ih _ rv
   exact⟨_,.list e c d (by simpa using q)⟩)
  (λus r=>by cases r;exact⟨_,.nil⟩)
  (λ_ _ a b us q=>by
   cases q with
   |
    cons q1 q2=>
    obtain⟨as,h1⟩:=a _ q1
    obtain⟨bs,h2⟩:=b _ q2
    exact⟨_,.cons h1 h2⟩) r u q
end
section
variable{X:Cx}
def shp(d:PyData):Bool:=d.canLay0&&decide (d.depth<=160)
def j9(h:shp d=true):d.canLay0=true:=(Bool.and_eq_true_iff.mp h).1
def sO{A:Around}{d e:PyData}(h:shp d=true)(hu:A.units+180<cLine):A.units+min d.depth e.depth<cLine:=by
 have h1:d.depth<=160:=Pr (Bool.and_eq_true_iff.mp h).2
 have h2:min d.depth e.depth<=d.depth:=Nat.min_le_left _ _
 omega
def xo(K:W.Frag):R2:=λx y H Q=>∃dx dy,Rep K H x dx/\Rep K H y dy/\shp dx=true/\shp dy=true/\Q (.bl (PyData.eqv dx dy)) H
def wQ(K:W.Frag):R2:=λx y H Q=>∃dx dy,Rep K H x dx/\Rep K H y dy/\shp dx=true/\shp dy=true/\Q (.bl (!PyData.eqv dx dy)) H
def Iz(hu:X.A.units+180<cLine):OpR X (compareOp .Eq) (xo X.K):=by
 intro pins s σ H x y v u Q I rx ry h
 obtain⟨dx,dy,r1,r2,h1,h2,q⟩:=h
 obtain⟨as,q1⟩:=r1.reads I rx
 obtain⟨bs,q2⟩:=r2.reads I ry
 exact SeqAt.compareEq_reads q1 q2 (j9 h1) (j9 h2) (sO h1 hu) (lQ I q rfl)
def Jx(hu:X.A.units+180<cLine):OpR X (compareOp .NotEq) (wQ X.K):=by
 intro pins s σ H x y v u Q I rx ry h
 obtain⟨dx,dy,r1,r2,h1,h2,q⟩:=h
 obtain⟨as,q1⟩:=r1.reads I rx
 obtain⟨bs,q2⟩:=r2.reads I ry
 exact SeqAt.compareNe_reads q1 q2 (j9 h1) (j9 h2) (sO h1 hu) (lQ I q rfl)
open PySem.Builtin.Int (intBits)
def CDivB(i j:Int):Prop:=j≠0/\intBits j<=8000
def Dq(i j:Int):Prop:=intBits i<=100000/\intBits j<=100000
def B4:OpR X (binaryOp .FloorDiv) (rI CDivB λi j=>.int (i.fdiv j)):=opI λi j _ _ _ _ _ hc q=>floordiv_int hc.1 q (.inl (PyProof.noPylong_of_log2 (by
 have h:=hc.2
 have h0:=hc.1
 unfold intBits at h
 have hb:(j==0)=false:=by simpa using h0
 rw[hb] at h
 simp only[O8,P9] at h
 omega)))
def DH:OpR X (binaryOp .Mult) (rI Dq λi j=>.int (i*j)):=opI λi j _ _ _ _ _ hc q=>mul_int q (PySem.IntMulOk.of_le hc.1 hc.2 (by decide))
def zq(bs:List Bool):((List.range bs.length).all λi=>bs.getD i false)=bs.all id:=by
 rw[P5,OF,OF]
 constructor
 ·intro h x hx
  obtain⟨i,hi,rfl⟩:=List.mem_iff_getElem.mp hx
  have:=h i (Pk.mpr hi)
  simpa [OT,hi] using this
 ·intro h i hi
  have hi':=Pk.mp hi
  have:=h bs[i] (QG hi')
  simpa [OT,hi'] using this
def BW(hc:X.calm=true):CallR X (.builtin "all") (λxs H Q=>∃(a:Addr) (bs:List Bool),xs=[.ref a]/\SqL X.K H a (bs.map V.bl)/\Q (.bl (bs.all id)) H):=by
 intro pins s σ H xs us Q I r h
 obtain⟨a,bs,rfl,hq,q⟩:=h
 obtain⟨u,rfl,ru⟩:=ji r
 cases ru
 obtain⟨its,rv,p,hz⟩:=I.list hq
 have hl:=rv.length
 rw[j_] at hl
 have hlt:a<s.heap.objs.size:=by obtain⟨o,n,e,_⟩:=p;exact x_ e
 refine call_all_walk (wpAny_pyIter_list p.isList ?_)
 refine⟨s.heap.objs.size,_,_,_,_,_,λi=>bs.getD i false,rfl,Walks.list (A:=X.A.in1) (I.ok.hd hc) s.heap.objs.size a (L_ hlt) its.toArray,⟨⟨_,E_ _ rfl,rfl,rfl⟩,(p.keeps λb o e=>t_ _ e).isList⟩,λi v s' Q' E' hP hQ=>?_,λh' tk hk=>?_⟩
 ·have hP':its[i]?=some v:=by simpa using hP
  have hi:i<bs.length:=by rw[hl];exact (k_.mp hP').1
  have hb:(bs.map V.bl)[i]?=some (V.bl bs[i]):=by simp [hi]
  obtain⟨u,hu,ru⟩:=rv.get hb
  rw[hP'] at hu
  cases hu
  cases ru
  refine PQ ?_
  have e:bs.getD i false=bs[i]:=by simp [OT,hi]
  show Q' bs[i] s'
  rw[<- e]
  exact hQ
 ·have e1:its.toArray.size=bs.length:=by rw[y_,hl]
  rw[e1,zq]
  have hn:H s.heap.objs.size=none:=I.fresh
  have I1:Inv X pins σ H { s with heap:=s.heap.push { cls:=.type "list_iterator",dict:=none,data:=.fields #[.ref a,rawInt 0] } }:=I.kept (t':=s.toks) λb o e=>t_ _ e
  refine⟨.bl _,H,?_,rfl,q⟩
  refine I.kept (t':=tk) λb o e=>?_
  have hne:b≠s.heap.objs.size:=L_ (x_ e)
  exact hk b o (by simpa using hne) (t_ _ e)
end
structure Def(K:W.Frag)(mg:Ra)(x:Str)(st:Stmt):Prop where
 ex:∃f fd,Fun K x x st f fd/\mg x=some (.ref f)
def yr{K:W.Frag}{h:Heap}{mg:Ra}{x:Str}{st:Stmt}{f:Addr}{oc:Value}{od an:Option Addr}{osl:Array (Option Value)}{kV doc pm cdv ct:Value}(X:K.In h)(G:h.Ns mainGlobals mg)
 (a:W.nsIn K mainGlobals x=some (some (.ref f))) (l:K.lookup f=some ⟨oc,od,.func (W.fnOf x x (b0 st) (aY st) (au st) .none kV doc pm an cdv ct),osl⟩)
 (c:W.codeIn K cdv x=true) (k:W.keepIn K (.ref f)=true):Def K mg x st:=⟨f,_,He l c k,W.mg_of X G a⟩
def Fun.look{K:W.Frag}{x qual:Str}{st:Stmt}{f:Addr}{fd:FuncData}(F:Fun K x qual st f fd):∃oc od osl,K.lookup f=some ⟨oc,od,.func fd,osl⟩:=by
 obtain⟨oc,od,kV,doc,pm,an,cdv,ct,osl,rfl,lk,hcd⟩:=F.ex
 exact⟨oc,od,osl,lk⟩
structure Callee(P:Program)(w:World)(K:W.Frag)(mg:Ra)(base:Heap)(x:Str)(k:Nat)(ps:List Str)(sp:Sp):Prop where
 ex:∃f fd,FnOk P w K mg base (CX1 P w) k f fd ps sp/\mg x=some (.ref f)/\W.keepIn K (.ref f)=true/\Binds K fd ps []/\∃oc od osl,K.lookup f=some ⟨oc,od,.func fd,osl⟩
section
variable{P:Program}{w:World}{K:W.Frag}{mg:Ra}{base:Heap}{x:Str}{st:Stmt}{k:Nat}{ps N:List Str}{sp:Sp}
def Callee.imp(C:Callee P w K mg base x k ps sp)(h:∀vs H Q E,sp' vs H Q E->sp vs H Q E):Callee P w K mg base x k ps sp':=by
 obtain⟨f,fd,F,r⟩:=C.ex
 exact⟨f,fd,F.imp h,r⟩
def Def.okR(D:Def K mg x st)(S:FnScope N ps (au st))
 (hb:∀(kV doc pm:Value) (an:Option Addr) (cdv ct:Value) (us:List Value),us.length=ps.length->bindArgs (W.fnOf x x (b0 st) (aY st) (au st) .none kV doc pm an cdv ct) ⟨us,[]⟩=pure (ps.zip us))
 (len:∀vs H Q E,sp vs H Q E->vs.length=ps.length)
 (ge:∀(f:Addr) (cdv:Value) (A:Around) (outer:List Env) (s:Shared) (H:Hp) (vs:List V) (Q:VK) (E:XK),Room k (A.deeper (envOfC x (au st) s.heap.objs.size f cdv))->sp vs H Q E->
  ∃t,PSs (dg (CX1 P w) P w K mg base N x (au st) f cdv A outer s H E) (aY st) t/\t { nx:=λ_ H'=>Q .non H',rt:=Q } (fc N vs) H):Callee P w K mg base x (k+1) ps sp:=by
 obtain⟨f,fd,F,m⟩:=D.ex
 exact⟨f,fd,F.okR S len (ge f),m,F.kp,F.binds hb,F.look⟩
end
section
variable{X:Cx}{x:Str}{p pos:Pos}{e:Expr}{es:List Expr}{ta:TA}{k:Nat}{ps:List Str}{sp:Sp}{E:XK}
end
section
variable{X:Cx}{K:W.Frag}{tg l:Expr}{tl:TE}
def allK(h:X.K=K)(hc:X.calm=true):CallR X (.builtin "all") (λxs H Q=>∃(a:Addr) (bs:List Bool),xs=[.ref a]/\SqL K H a (bs.map V.bl)/\Q (.bl (bs.all id)) H):=by subst h;exact BW hc
def Room.u180(r:Room k A):A.units+180<cLine:=by have:=r.un;omega
def eqDK(h:X.K=K)(hu:X.A.units+180<cLine):OpR X (compareOp .Eq) (xo K):=by subst h;exact Iz hu
def neDK(h:X.K=K)(hu:X.A.units+180<cLine):OpR X (compareOp .NotEq) (wQ K):=by subst h;exact Jx hu
def inK(h:X.K=K):OpR X (compareOp .In) (rIn K false):=by subst h;exact xH
end
section
variable{X:Cx}
def G8{g_ am tg:Expr}{ifs:List Expr}{scope:Scope}{pos:Pos}{wi:TI}{g:TG}{tc:TT}{te:TE}{N:List Str}{sub:Rh}{iT:Nat}{xT:Str}{px spos:Pos}
 (hc:X.calm=true) (hN:X.N.Nodup) (hix:X.N[iT]?=some xT) (hxl:Loc X.env.scope xT) (hi:PI X tg am wi)
 (hk:scope.kind=.function) (hnc:∀x∈scope.names,x.2 ≠ .cell) (b_:∀x∈scope.names,x.2=.local->scope.names.lookup x.1=some .local)
 (hfr:∀x∈scope.names,x.2=.free->X.env.kindOf x.1=some .cell\/X.env.kindOf x.1=some .free)
 (hsl:sub.length=N.length) (f_:∀(j i:Nat) (x:Str),sub[j]?=some (some i)->N[j]?=some x->X.N[i]?=some x/\scope.names.lookup x=some .free)
 (hg:∀cl C s₂ H fp,PG (aO X N scope cl C s₂ H fp) tg g) (ht:∀cl C s₂ H fp,PTs (aO X N scope cl C s₂ H fp) ifs tc) (he:∀cl C s₂ H fp,PE (aO X N scope cl C s₂ H fp) g_ te)
 (hsw:swapsWith (.ListComp g_ [⟨tg,am,ifs,0⟩] scope pos) (some (.Name xT px)) spos.line X.env=pure true)
 (hs:∀x,foldedSetIterable am X.env x=pure x) (hf:X.fn xT=true\/X.env.scope.names.lookup xT=some .local):
 PS X (.Assign [.Name xT px] (.ListComp g_ [⟨tg,am,ifs,0⟩] scope pos) spos) (tF (jv wi sub g tc te) (mr iT)):=by
 intro pins s σ H D0 I h
 rw[exec_Assign_Name_used _ _ _ _ hsw]
 refine i_ (QY (i_ ?_))
 show wpAny _ X.A (do let _ <- comprehension (.ListComp g_ [⟨tg,am,ifs,0⟩] scope pos) scope X.env _ (newList []) false (eval am X.env) (some (assign (.Name xT px) X.env))) _ _ s
 refine i_ (OL (u5 (use:=some (assign (.Name xT px) X.env)) (R:=λ_ s'=>SP X pins D0 .next s') hc hi hk hnc b_ hfr hsl f_ hg ht he hs I h λD C s4 e=>?_) (λ_ s' hq=>w_ (w_ hq)) λ_ _ e=>e)
 obtain⟨m,hm⟩:=e.ns
 obtain⟨H',hC,q,i⟩:=e.inv
 have dc:=e.dc
 have fr:=e.fr
 refine wpAny_assign_Name (oV (v:=.ref D) (i s4.heap ⟨rfl,λ_ _=>rfl⟩) hN hix hxl rfl (λs7 I7 ⟨a7,sb7,ha7⟩=>?_) hf)
 have ha:a7<D:=by
  rcases ha7 with z |z
  ·rw[z];exact fr
  ·exact e.cell xT a7 z
 refine⟨m,hm.sameBut sb7 (Qv (QO ha dc)),λh8 hs8=>⟨_,_,I7.turned (it:=C) (t':=s7.toks) (λb o hb e=>hs8.extBut b o hb e) hC (Qv (QO fr dc)) (.inr (F_ e.sz (QN dc))) (λx c q=>L_ (QO (e.cell x c q) dc)) (λp hp=>L_ (QO (e.pin p hp) dc)),q⟩⟩
def MM{g_ am tg:Expr}{scope:Scope}{pos px spos:Pos}{wi:TI}{g:TG}{te:TE}{iT:Nat}{xT:Str}(M:List Str)(kn:List (Str×NameKind))(N:List Str)(sub:Rh)
 (hc:X.calm=true) (hN:X.N.Nodup) (hix:X.N[iT]?=some xT) (hxl:Loc X.env.scope xT) (hi:PI X tg am wi)
 (hg:∀cl C s₂ H fp,PG (aO X N scope cl C s₂ H fp) tg g) (he:∀cl C s₂ H fp,PE (aO X N scope cl C s₂ H fp) g_ te)
 (hsw:swapsWith (.ListComp g_ [⟨tg,am,[],0⟩] scope pos) (some (.Name xT px)) spos.line X.env=pure true)
 (hM:X.N=M) (hkn:X.env.scope.names=kn) (f_:fO M scope.names sub N=true)
 (hk:scope.kind=.function) (hnc:∀x∈scope.names,x.2 ≠ .cell) (b_:∀x∈scope.names,x.2=.local->scope.names.lookup x.1=some .local)
 (hfr:ij kn scope.names=true)
 (hsl:sub.length=N.length) (hs:∀x,foldedSetIterable am X.env x=pure x) (hf:X.fn xT=true\/X.env.scope.names.lookup xT=some .local):
 PS X (.Assign [.Name xT px] (.ListComp g_ [⟨tg,am,[],0⟩] scope pos) spos) (tF (jv wi sub g Aq te) (mr iT)):=
 G8 hc hN hix hxl hi hk hnc b_ (by subst hkn;exact uu hfr) hsl (by subst hM;exact su f_) hg (λcl C s₂ H fp=>vt) he hsw hs hf
end
theorem uL:∀{ns:List Int}{its:List Value},Vals (ns.map V.int) its->IntsAre its ns
 | [],_,h=>by cases h;exact .nil
 |
  i::r,_,h=>by
  cases h with
  |
   cons h1 h2=>
   obtain⟨t,rfl⟩:=h1
   exact .cons i t (uL h2)
def o3{X:Cx}{K:W.Frag}(hK:X.K=K)(hc:X.calm=true):CallR X (.builtin "sum") (λxs H Q=>∃(a:Addr) (ns:List Int),xs=[.ref a]/\SqL K H a (ns.map V.int)/\Q (.int ns.sum) H):=by
 subst hK
 intro pins s σ H xs us Q I r h
 obtain⟨a,ns,rfl,hq,q⟩:=h
 obtain⟨u,rfl,ru⟩:=ji r
 cases ru
 obtain⟨its,rv,p,hz⟩:=I.list hq
 have hi:=uL rv
 obtain⟨ys,hy⟩:=hi.allInts.items
 have hn:numsOf its.toArray.toList=ns:=by rw[show its.toArray.toList=its from rfl,hi.numsOf]
 have pl:=p.isList
 rw[hy] at pl hn
 rw[nums_intItems] at hn
 refine sum_intListG (I.ok.hd hc) pl λh' tk t' hk=>?_
 rw[preSum_eq,Py (by simp),hn]
 exact⟨.int ns.sum,H,I.kept (t':=tk) hk,⟨_,rfl⟩,q⟩
end L2
namespace Fr
def dv(a b:Int):Int:=if b<0 then -((Int.gcd a b:Nat):Int) else ((Int.gcd a b:Nat):Int)
def T(a b:Int):Int:=a.fdiv (dv a b)
def B(a b:Int):Int:=b.fdiv (dv a b)
def tj(hb:b≠0):0<Int.gcd a b:=Int.gcd_pos_of_ne_zero_right a hb
def dv_ne(hb:b≠0):dv a b≠0:=by
 have:=tj (a:=a) hb
 unfold dv
 split <;> omega
def Af(a b:Int):dv a b ∣ a:=by
 have h:((Int.gcd a b:Nat):Int) ∣ a:=Int.gcd_dvd_left a b
 unfold dv
 split
 ·exact Int.neg_dvd.mpr h
 ·exact h
def BD(a b:Int):dv a b ∣ b:=by
 have h:((Int.gcd a b:Nat):Int) ∣ b:=Int.gcd_dvd_right a b
 unfold dv
 split
 ·exact Int.neg_dvd.mpr h
 ·exact h
def vg{a d q:Int}(hd:d≠0)(h:a=d*q):a.fdiv d=q:=by
 rw[h,Qt]
 exact Int.mul_fdiv_cancel q hd
def T_mul(hb:b≠0):T a b*dv a b=a:=by
 obtain⟨q,h⟩:=Af a b
 have:T a b=q:=vg (dv_ne hb) h
 rw[this,Qt];exact h.symm
def B_mul(hb:b≠0):B a b*dv a b=b:=by
 obtain⟨q,h⟩:=BD a b
 have:B a b=q:=vg (dv_ne hb) h
 rw[this,Qt];exact h.symm
def B_pos(hb:b≠0):0<B a b:=by
 have h:=B_mul (a:=a) hb
 have hg:=tj (a:=a) hb
 generalize hx:B a b=x at h ⊢
 unfold dv at h
 split at h
 ·rename_i hneg
  have h2:x*((Int.gcd a b:Nat):Int)=-b:=by rw[Int.mul_neg] at h;omega
  rcases Int.lt_or_le 0 x with z |z
  ·exact z
  ·have:x*((Int.gcd a b:Nat):Int)<=0:=Int.mul_nonpos_of_nonpos_of_nonneg z (by omega)
   omega
 ·rename_i hpos
  rcases Int.lt_or_le 0 x with z |z
  ·exact z
  ·have:x*((Int.gcd a b:Nat):Int)<=0:=Int.mul_nonpos_of_nonpos_of_nonneg z (by omega)
   omega
def cross(hb:b≠0):T a b*b=a*B a b:=by
 have h1:=T_mul (a:=a) hb
 have h2:=B_mul (a:=a) hb
 generalize T a b=x at *
 generalize B a b=y at *
 generalize dv a b=d at *
 rw[<- h2,<- h1]
 rw[<- O9,Qu]
def dv_abs(a b:Int):(dv a b).natAbs=Int.gcd a b:=by
 unfold dv
 split <;> simp
def low(hb:b≠0):Int.gcd (T a b) (B a b)=1:=by
 have h1:=T_mul (a:=a) hb
 have h2:=B_mul (a:=a) hb
 have hg:=tj (a:=a) hb
 have e1:a.natAbs=(T a b).natAbs*Int.gcd a b:=by rw[<- dv_abs a b,<- O2,h1]
 have e2:b.natAbs=(B a b).natAbs*Int.gcd a b:=by rw[<- dv_abs a b,<- O2,h2]
 have e3:Int.gcd a b=Nat.gcd ((T a b).natAbs*Int.gcd a b) ((B a b).natAbs*Int.gcd a b):=by rw[<- e1,<- e2];rfl
 rw[Nat.gcd_mul_right] at e3
 show Nat.gcd (T a b).natAbs (B a b).natAbs=1
 generalize Nat.gcd (T a b).natAbs (B a b).natAbs=k at *
 generalize Int.gcd a b=g at *
 have:(1:Nat)*g=k*g:=by omega
 exact (Nat.eq_of_mul_eq_mul_right hg this).symm
def uniq(hy:0<y)(hy':0<y')(h:Int.gcd x y=1)(h':Int.gcd x' y'=1)(e:x*y'=x'*y):x=x'/\y=y':=by
 have c1:Nat.Coprime y.natAbs x.natAbs:=by rw[Nat.coprime_comm];exact h
 have c2:Nat.Coprime y'.natAbs x'.natAbs:=by rw[Nat.coprime_comm];exact h'
 have e1:x.natAbs*y'.natAbs=x'.natAbs*y.natAbs:=by rw[<- O2,<- O2,e]
 have d1:y.natAbs ∣ y'.natAbs:=c1.dvd_of_dvd_mul_left (by rw[e1];exact Nat.dvd_mul_left _ _)
 have d2:y'.natAbs ∣ y.natAbs:=c2.dvd_of_dvd_mul_left (by rw[<- e1];exact Nat.dvd_mul_left _ _)
 have ey:y.natAbs=y'.natAbs:=Nat.dvd_antisymm d1 d2
 have ey':y=y':=by omega
 subst ey'
 exact⟨Qj (by omega) e,rfl⟩
def same(hb:b≠0)(hd:d≠0)(e:a*d=c*b):T a b=T c d/\B a b=B c d:=by
 refine uniq (B_pos hb) (B_pos hd) (low hb) (low hd) ?_
 have h1:=cross (a:=a) hb
 have h2:=cross (a:=c) hd
 have hbd:b*d≠0:=Qp hb hd
 refine Qj hbd ?_
 calc T a b*B c d*(b*d)=(T a b*b)*(B c d*d):=by rw[O9,P_ (B c d) b d,<- O9]
  _=(a*B a b)*(B c d*d):=by rw[h1]
  _=(a*d)*(B c d*B a b):=by rw[O9 a,O9 a,P_ (B a b),P_ d,Qt (B a b) d]
  _=(c*b)*(B c d*B a b):=by rw[e]
  _=(c*B c d)*(B a b*b):=by rw[O9 c,O9 c,P_ b,Qt b (B a b)]
  _=(T c d*d)*(B a b*b):=by rw[<- h2]
  _=T c d*B a b*(b*d):=by rw[O9,O9,P_ d,Qt d b]
def self(hb:0<b)(h:Int.gcd a b=1):T a b=a/\B a b=b:=
 uniq (B_pos (by omega)) hb (low (by omega)) h (cross (by omega))
def euc(m n:Nat):Nat.gcd n (m % n)=Nat.gcd m n:=by
 rw[Nat.gcd_comm,<- Nat.gcd_rec,Nat.gcd_comm]
end Fr
set_option maxHeartbeats 1000000
namespace L2
open PySem PySem.Spec PyProof.Rows
def Inv.turnedL{X:Cx}{pins:Rb}{σ:St}{H:Hp}{s:Shared}{h':Heap}{t':Nat}{ch:List Addr}(I:Inv X pins σ H s)(k:∀b o,b∉ch->s.heap.get? b=some o->h'.get? b=some o)(hf:∀b∈ch,FpOk X pins H b):Inv X pins σ H { s with heap:=h',toks:=t' }:=by
 have away:∀b u,H b=some u->b∉ch:=λb u e z=>by have:=(hf b z).1;rw[e] at this;cases this
 refine I.step (g':=s.gens) (d':=s.drawn) (ch:=ch) (λb hb=>⟨(hf b hb).2.2.2.1,(hf b hb).2.1,(hf b hb).2.2.2.2.1,(hf b hb).2.2.2.2.2⟩) (λb o _ _ hc e _=>k b o hc e) (λb o _ _ hc e _=>⟨o.slots,k b o hc e⟩) (λ_ _ _ _ n=>n)
  (λb o hc e=>⟨o,k b o hc e⟩) (λ_ _ e=>e) (λ_ _ _ e=>e) (λb ps e=>⟨#[],by rw[e];simp⟩) (λm hm=>?_) (λb u e=>?_) I.bare
 ·obtain⟨o,es,ep,ho,r⟩:=hm
  exact⟨o,es,ep,k _ o (λz=>(hf _ z).2.1 rfl) ho,r⟩
 ·refine (I.hok b u e).stay (λc v hc q=>k c v ?_ q) (λ_ q=>q) λ_ _ q=>q
  rcases hc with z |z
  ·rw[z];exact away b u e
  ·exact away c _ z
def FpOk.up(f:FpOk X pins H b)(hn:b≠p):FpOk X pins (upd H p o) b:=⟨by rw[aE hn];exact f.1,f.2⟩
def lY(hj:s.heap.IsTupleIter j t n)(ht:s.heap.IsTuple t its)(hv:its[n]?=some v)
 (k:∀h',h'.IsTupleIter j t (n+1)->Heap.SameBut j s.heap h'->Q v { s with heap:=h' }):wpAny (model prog w) A (Builtin.SmallTypes.nextOf (.ref j)) Q E s:=by
 obtain⟨oj,ej,cj,dj⟩:=id hj
 obtain⟨ot,et,_,m,dt⟩:=ht
 unfold Builtin.SmallTypes.nextOf
 refine i_ (Pt (name:=Str.ofString "__next__") hj.typeIs PM (Qh PM hj.typeIs F.entry_tuple_iterator_next ?_ (F.args_tuple_iterator_next_1 _)))
 show wpAny _ _ (field (.ref j) 0 >>= _) _ _ s
 refine i_ (OW ej dj (x:=.ref t) rfl ?_)
 show wpAny _ _ (if (Value.ref t==Value.none)=true then _ else _) _ _ s;rw[if_neg (show ¬ ((Value.ref t==Value.none)=true) from s_)]
 show wpAny _ _ (field (.ref j) 1 >>= _) _ _ s
 refine i_ (OW ej dj (x:=.int n 0) rfl ?_)
 show wpAny _ _ (seqItems? (.ref t) >>= _) _ _ s;refine i_ (Px et dt ?_)
 simp only[ON,hv]
 refine i_ (wpAny_setField ej dj (by simp) (w_ ⟨v,rfl,w_ (k _ ?_ (Heap.SameBut.update ..))⟩))
 exact⟨_,Heap.get?_update_self _ ej (Obj.isFreed_of_fields (Obj.data_mapFields dj _)),(Obj.cls_mapFields ..).trans cj,by rw[Obj.data_mapFields dj];simp [rawInt]⟩
def iC(hh:A.handled=none)(hj:s.heap.IsTupleIter j t n)(ht:s.heap.IsTuple t its)(hv:its[n]?=none)
 (k:∀h' e,Heap.ExtBut j s.heap h'->(∃o,h'.get? e=some o/\o.cls=.type "StopIteration")->E (.ref e) { s with heap:=h' }):wpAny (model prog w) A (Builtin.SmallTypes.nextOf (.ref j)) Q E s:=by
 obtain⟨oj,ej,cj,dj⟩:=id hj
 obtain⟨ot,et,_,m,dt⟩:=ht
 unfold Builtin.SmallTypes.nextOf
 refine i_ (Pt (name:=Str.ofString "__next__") hj.typeIs PM (Qh PM hj.typeIs F.entry_tuple_iterator_next ?_ (F.args_tuple_iterator_next_1 _)))
 show wpAny _ _ (field (.ref j) 0 >>= _) _ _ s
 refine i_ (OW ej dj (x:=.ref t) rfl ?_)
 show wpAny _ _ (if (Value.ref t==Value.none)=true then _ else _) _ _ s;rw[if_neg (show ¬ ((Value.ref t==Value.none)=true) from s_)]
 show wpAny _ _ (field (.ref j) 1 >>= _) _ _ s
 refine i_ (OW ej dj (x:=.int n 0) rfl ?_)
 show wpAny _ _ (seqItems? (.ref t) >>= _) _ _ s;refine i_ (Px et dt ?_)
 simp only[ON,hv]
 refine i_ (wpAny_rule (i_ (wpAny_setField ej dj (by simp) ?_)));show wpAny _ _ (newExc (.type "StopIteration") [] >>= _) _ _ _
 refine i_ ?_;simp only[newExc,newTuple]
 refine i_ (O_ ?_ (by size_fits));refine i_ (m:=firstArgMember _ _) (wpAny_of_eq (a:=Value.none) (by first |rfl |(simp only[firstArgMember];rfl)) ?_)
 refine O_ ?_ (by size_fits);simp only[raiseNew]
 refine i_ (wpAny_handled ?_);first |rw[show A.in1.handled=none from hh] |rw[hh]
 refine i_ (w_ (wpAny_throw ?_));exact k _ _ (((Heap.SameBut.update ..).extBut.push _).push _) ⟨_,E_ _ rfl,rfl⟩
def Kj(hh:A.handled=none)(j t:Addr)(ne:t≠j)(its:Array Value):Draws prog w A j [j,t] its.size (λi v=>its[i]?=some v) (λi h=>h.IsTupleIter j t i/\h.IsTuple t its) where
 live:=λ_ _ z=>let ⟨o,e,_⟩:=z.1;⟨o,e⟩
 frame:=λ_ _ _ z k=>⟨z.1.at λo e=>k j (by simp) o e,let ⟨o,e,r⟩:=z.2;⟨o,k t (by simp) o e,r⟩⟩
 item:=λi s Q E hi z k=>lY z.1 z.2 (v:=its[i]) (by simp [hi]) λh' z' sb=>k _ h' s.toks (by simp [hi]) ⟨z',let ⟨o,e,r⟩:=z.2;⟨o,(sb.2 t ne).trans e,r⟩⟩ sb
 done:=λs Q E z k=>iC hh z.1 z.2 (by simp) k
def zN(l:Addr)(its:Array Value)(n:Nat)(dc:Option Addr)(sl:Array (Option Value)):
 Meets (Builtin.«enumerate.__new__» ⟨[.type "enumerate",.ref l],[]⟩) (λ_ R s=>s.heap.get? l=some { cls:=.type "tuple",dict:=dc,data:=.seq its n,slots:=sl }/\
  R
   (.ok (.ret (.ref (s.heap.push { cls:=.type "tuple_iterator",data:=.fields #[.ref l,.int 0 0] }).objs.size)))
   { s with heap:=(s.heap.push { cls:=.type "tuple_iterator",data:=.fields #[.ref l,.int 0 0] }).push { cls:=.type "enumerate",data:=.fields #[.none,.bool false,.ref s.heap.objs.size,rawInt 0,.none,.none] } }):=
 .of_wp λprog w A R s h=>by
  obtain⟨hp,g,d,tk,os⟩:=s;obtain⟨hl,h⟩:=h
  have f_:=sub_enumerate
  have hT:Heap.IsTuple (Shared.heap ⟨hp,g,d,tk,os⟩) l its:=⟨_,hl,rfl,n,rfl⟩
  wp_walk using Qs hl
  refine wpAny_stack_any λst=>w_ ?_
  split
  ·rename_i c _ _ _ _ _
   cases (c==Value.type "enumerate") <;> (wp_walk using Qs hl,Qy hT;exact⟨_,rfl,h⟩)
  ·wp_walk using Qs hl,Qy hT;exact⟨_,rfl,h⟩
def wq(hT:s.heap.IsTuple l its)
 (k:∀h',IsEnum h' (s.heap.objs.size+1) s.heap.objs.size 0 .none->h'.IsTupleIter s.heap.objs.size l 0->h'.objs.size=s.heap.objs.size+2->(∀b o,s.heap.get? b=some o->h'.get? b=some o)->Q (.ref (s.heap.objs.size+1)) { s with heap:=h' }):
 wpAny (model prog w) A (call (.type "enumerate") [.ref l]) Q E s:=by
 obtain⟨⟨c,dc,dt,sl⟩,hl,hc,n,hd⟩:=hT
 have hc':c=.type "tuple":=hc
 have hd':dt=.seq its n:=hd
 subst hc' hd'
 refine callType_new F.called_enumerate (by decide) (F.typeCall_enumerate_1 _) (F.newCall_enumerate_1 _) (λobj=>F.args_object_init_2 obj _) F.entry_enumerate_new (zN l its n dc sl) ⟨hl,?_⟩
 have z1:(s.heap.push { cls:=.type "tuple_iterator",data:=.fields #[.ref l,.int 0 0] }).objs.size=s.heap.objs.size+1:=PX ..
 show _/\_
 rw[z1]
 have he:IsEnum ((s.heap.push { cls:=.type "tuple_iterator",data:=.fields #[.ref l,.int 0 0] }).push { cls:=.type "enumerate",data:=.fields #[.none,.bool false,.ref s.heap.objs.size,rawInt 0,.none,.none] }) (s.heap.objs.size+1) s.heap.objs.size 0 .none:=by
  have z2:=E_ (s.heap.push { cls:=.type "tuple_iterator",data:=.fields #[.ref l,.int 0 0] }) (o:={ cls:=.type "enumerate",data:=.fields #[.none,.bool false,.ref s.heap.objs.size,rawInt 0,.none,.none] }) rfl
  rw[z1] at z2;exact z2
 exact⟨⟨_,he,rfl⟩,k _ he ⟨_,t_ _ (E_ _ rfl),rfl,rfl⟩ (by rw[PX,z1]) λb o x=>t_ _ (t_ _ x)⟩
def SqB(K:W.Frag)(b:Bool)(H:Hp)(a:Addr)(xs:List V):Prop:=match b with
 |true=>SqL K H a xs
 |false=>SqT K H a xs
def ItB(b:Bool)(h:Heap)(j a:Addr)(i:Nat):Prop:=match b with
 |true=>h.IsListIter j a i
 |false=>h.IsTupleIter j a i
def SqB.inj(I:Inv X pins σ H s)(x:SqB X.K b H a xs)(y:SqB X.K b H a ys):xs=ys:=by
 cases b with
 |true=>exact I.list_inj x y
 |false=>exact I.tuple_inj x y
def AA(K:W.Frag)(b:Bool)(a:Addr):It:=
 ⟨λi H=>∃xs x,SqB K b H a xs/\xs[i]?=some x,λi H x H'=>∃p u,x=.ref p/\H p=none/\H'=upd H p (.tup [.int (i:Nat),u])/\∀xs,SqB K b H a xs->xs[i]?=some u,λi H=>∃xs,SqB K b H a xs/\xs.length=i⟩
def uK(I:Inv X pins σ H s)(hh:X.A.handled=none)(hq:SqB X.K b H a xs)(hj:ItB b s.heap j a i):
 ∃(its:List Value) (St:Nat->Heap->Prop),Vals xs its/\Draws X.prog X.w X.A.in1 j [j,a] its.length (λi v=>its[i]?=some v) St/\St i s.heap/\(∀i h,St i h->ItB b h j a i)/\∃o n,s.heap.get? a=some o/\o.cls=.type (if b then "list" else "tuple")/\o.data=.seq its.toArray n:=by
 cases b with
 |
  true=>
  obtain⟨its,rv,p,hz⟩:=I.list hq
  obtain⟨o,n,e,c,d,ds⟩:=p
  have hL:s.heap.IsList a its.toArray:=⟨o,e,c,n,ds⟩
  have hj':s.heap.IsListIter j a i:=hj
  have ne:a≠j:=λz=>by
   subst z
   obtain⟨o',e',c',_⟩:=hj'
   rw[e] at e';cases e'
   rw[c] at c';exact absurd (Value.type.inj c') (by decide)
  have D:=Draws.list (prog:=X.prog) (w:=X.w) (A:=X.A.in1) hh j a ne its.toArray
  refine⟨its,λi h=>h.IsListIter j a i/\h.IsList a its.toArray,rv,?_,⟨hj',hL⟩,λ_ _ z=>z.1,o,n,e,c,ds⟩
  have e1:its.toArray.size=its.length:=by simp
  have e2:(λ(i:Nat) (v:Value)=>its.toArray[i]?=some v)=λi v=>its[i]?=some v:=by funext i v;simp
  rw[e1,e2] at D
  exact D
 |
  false=>
  obtain⟨its,rv,p,hz⟩:=I.tuple hq
  have hT:s.heap.IsTuple a its.toArray:=p
  obtain⟨o,e,c,n,ds⟩:=id hT
  have hj':s.heap.IsTupleIter j a i:=hj
  have ne:a≠j:=λz=>by
   subst z
   obtain⟨o',e',c',_⟩:=hj'
   rw[e] at e';cases e'
   rw[c] at c';exact absurd (Value.type.inj c') (by decide)
  have D:=Kj (prog:=X.prog) (w:=X.w) (A:=X.A.in1) hh j a ne its.toArray
  refine⟨its,λi h=>h.IsTupleIter j a i/\h.IsTuple a its.toArray,rv,?_,⟨hj',hT⟩,λ_ _ z=>z.1,o,n,e,c,ds⟩
  have e1:its.toArray.size=its.length:=by simp
  have e2:(λ(i:Nat) (v:Value)=>its.toArray[i]?=some v)=λi v=>its[i]?=some v:=by funext i v;simp
  rw[e1,e2] at D
  exact D
def gA(z:ItB b h j a i):∃o,h.get? j=some o/\(∀v,o.data ≠ .cell v)/\o.cls=.type (if b then "list_iterator" else "tuple_iterator"):=by
 cases b with
 |true=>obtain⟨o,e,c,d⟩:=z;exact⟨o,e,(λv y=>by rw[d] at y;cases y),c⟩
 |false=>obtain⟨o,e,c,d⟩:=z;exact⟨o,e,(λv y=>by rw[d] at y;cases y),c⟩
def bf(z:ItB b h j a i)(k:∀o,h.get? j=some o->h'.get? j=some o):ItB b h' j a i:=by
 cases b with
 |true=>obtain⟨o,e,r⟩:=z;exact⟨o,k o e,r⟩
 |false=>obtain⟨o,e,r⟩:=z;exact⟨o,k o e,r⟩
def yh{P:Program}{w:World}{K:W.Frag}{elts:List Expr}{x1:Nat}{tp:Pos}(b:Bool)(a e j:Addr)(hej:e≠j):Turn P w K (.Tuple elts x1 tp) (AA K b a) [e,j] e (λi h=>(∃old,IsEnum h e j ((i:Nat):Int) old)/\ItB b h j a i) where
 mem:=by simp
 obj
  := λi h st c hc=>by
  rcases D_.mp hc with rfl |hc
  ·obtain⟨old,he⟩:=st.1
   exact⟨_,he,λv z=>by cases z⟩
  ·have:c=j:=by simpa using hc
   subst this
   obtain⟨o,q1,q2,_⟩:=gA st.2
   exact⟨o,q1,q2⟩
 keep:=λi h h' st k=>⟨let ⟨old,he⟩:=st.1;⟨old,k e (by simp) _ he⟩,bf st.2 λo q=>k j (by simp) o q⟩
 item:=
  by
  intro X hP hw hK hc i pins s σ H E I hf st hg
  subst hP hw hK
  obtain⟨xs,x,hq,hx⟩:=hg
  obtain⟨⟨old,he⟩,hj⟩:=st
  obtain⟨its,St,rv,D,hst,hSt,oa,na,ea,ca,da⟩:=uK I (I.ok.hd hc) hq hj
  obtain⟨u,hu,ru⟩:=rv.get hx
  have hlt:i<its.length:=(k_.mp hu).1
  have hea:e≠a:=λz=>by
   subst z
   rw[he] at ea;cases ea
   cases b <;> exact absurd (Value.type.inj ca) (by decide)
  refine wpAny_pyNext_enum_itemD D he hst hlt hej (by simp [hej,hea]) λy h' tk hy heo hst' ht hsz hk=>?_
  have:y=u:=by rw[hu] at hy;exact (C_ hy).symm
  subst this
  refine⟨_,rfl,wpAny_letOwnedTupleGo_enum (s:={ s with heap:=h',toks:=tk+1 }) heo λh2 he2 sb=>?_⟩
  have hT:H s.heap.objs.size=none:=I.hok.fresh (m_ _)
  have hef:=x_ he
  obtain⟨oj,q1,_,_⟩:=gA hj
  have hjf:=x_ q1
  have I1:Inv X pins σ (upd H s.heap.objs.size (.tup [.int (i:Nat),x])) { s with heap:=s.heap.push { cls:=.type "tuple",data:=.seq #[.int (i:Nat) tk,y] },toks:=s.toks }:=
   I.laid (t':=s.toks) (λc o q=>t_ _ q) (m_ _) ⟨by show 2<=sizeLine;decide,[.int (i:Nat) tk,y],.cons ⟨tk,rfl⟩ (.cons ru .nil),⟨_,E_ _ rfl,rfl,_,rfl⟩⟩
  have sb':Heap.SameBut e h' h2:=sb
  have I2:Inv X pins σ (upd H s.heap.objs.size (.tup [.int (i:Nat),x])) { s with heap:=h2,toks:=tk+1 }:=
   Inv.turnedL (s:={ s with heap:=s.heap.push { cls:=.type "tuple",data:=.seq #[.int (i:Nat) tk,y] },toks:=s.toks }) (ch:=[e,j]) (t':=tk+1) I1 (λc o hc' q=>by
    have c1:c≠e:=λz=>hc' (by simp [z])
    have c2:c≠j:=λz=>hc' (by simp [z])
    rw[sb'.2 c c1]
    by_cases z:c=s.heap.objs.size
    ·subst z
     have q':(s.heap.push { cls:=.type "tuple",data:=.seq #[.int (i:Nat) tk,y] }).get? s.heap.objs.size=some o:=q
     rw[E_ _ rfl] at q'
     cases q'
     exact ht
    ·refine hk c o c1 c2 ?_
     have q':(s.heap.push { cls:=.type "tuple",data:=.seq #[.int (i:Nat) tk,y] }).get? c=some o:=q
     rw[Heap.get?_push_ne _ _ _ z] at q'
     exact q') λc hc'=>by
    rcases D_.mp hc' with rfl |hc'
    ·exact (hf c (by simp)).up (L_ hef)
    ·have:c=j:=by simpa using hc'
     subst this
     exact (hf c (by simp)).up (L_ hjf)
  refine⟨.ref s.heap.objs.size,_,I2,rfl,⟨_,x,rfl,hT,rfl,λys hy'=>by rw[SqB.inj I hy' hq];exact hx⟩,⟨⟨y,he2⟩,bf (hSt _ _ hst') λo q=>(sb'.2 j (Ne.symm hej)).trans q⟩,λc hc'=>?_⟩
  rcases D_.mp hc' with rfl |hc'
  ·exact ((hf c (by simp)).up (L_ hef)).1
  ·have:c=j:=by simpa using hc'
   subst this
   exact ((hf c (by simp)).up (L_ hjf)).1
 done:=by
  intro X hP hw hK hc i pins s σ H E I hf st hg
  subst hP hw hK
  obtain⟨xs,hq,hx⟩:=hg
  obtain⟨⟨old,he⟩,hj⟩:=st
  obtain⟨its,St,rv,D,hst,hSt,oa,na,ea,ca,da⟩:=uK I (I.ok.hd hc) hq hj
  have hl:=rv.length
  subst hx
  rw[hl] at hst
  refine wpAny_pyNext_enum_endD D he hst λh' eb=>⟨rfl,Inv.turnedL (ch:=[j]) (t':=s.toks) I (λc o hc' q=>eb c o (λz=>hc' (by simp [z])) q) λc hc'=>?_⟩
  have:c=j:=by simpa using hc'
  subst this
  exact hf c (by simp)
 self:=λ_ _ _ _ _ st h=>let ⟨_,he⟩:=st.1;wpAny_pyIter_enum he h
def F4(hg:Gl X "enumerate")(hm:X.mg "enumerate"=none)(ha:PA X [l] tl)(hs:starEach [l] X.env=[(false,eval l X.env)]):
 PI X (.Tuple elts x1 tp) (.Call (.Name "enumerate" p) [l] [] pos) (λσ H R=>tl σ H λvs H1=>∃(b:Bool) (a:Addr) (xs:List V),vs=[.ref a]/\SqB X.K b H1 a xs/\R (AA X.K b a) H1):=by
 intro pins s σ H R I h
 refine Call_ (gR I hg hm boot_enumerate (PD (thn (ha pos pins s σ H _ I h) λus s1 ⟨vs,H1,I1,r1,q1⟩=>?_) hs rfl))
 obtain⟨b,a,xs,e,hq,q⟩:=q1
 subst e
 cases r1 with
 |
  cons r rr=>
  cases rr
  cases r
  have gl:∀h',IsEnum h' (s1.heap.objs.size+1) s1.heap.objs.size 0 .none->ItB b h' s1.heap.objs.size a 0->(∀c o,s1.heap.get? c=some o->h'.get? c=some o)->
   wpAny (model X.prog X.w) X.A (pyIter (.ref (s1.heap.objs.size+1))) (PIE X pins σ (.Tuple elts x1 tp) R) X.xe { s1 with heap:=h' }:=λh' he hj hk=>by
   refine wpAny_pyIter_enum he ⟨s1.heap.objs.size+1,[s1.heap.objs.size+1,s1.heap.objs.size],_,_,H1,rfl,I1.kept (t':=s1.toks) λc o z=>hk c o z,yh b a _ _ (Nat.succ_ne_self _),⟨⟨.none,he⟩,hj⟩,λc hc=>?_,q⟩
   rcases D_.mp hc with rfl |hc
   ·exact I1.fpOk (Nat.le_succ _) (I1.hok.fresh (Nat.le_succ _))
   ·have:c=s1.heap.objs.size:=by simpa using hc
    subst this
    exact I1.fpOk (m_ _) (I1.hok.fresh (m_ _))
  cases b with
  |
   true=>
   obtain⟨its,rv,pp,hz⟩:=I1.list hq
   exact call_enumerate_list pp.isList λh' he hit _ hk=>gl h' he hit hk
  |
   false=>
   obtain⟨its,rv,pp,hz⟩:=I1.tuple hq
   exact wq (show s1.heap.IsTuple a its.toArray from pp) λh' he hit _ hk=>gl h' he hit hk
def LsB(b:Bool)(h:Heap)(a:Addr)(its:Array Value):Prop:=match b with
 |true=>h.IsList a its
 |false=>h.IsTuple a its
def LsB.keep(z:LsB b h a its)(k:∀o,h.get? a=some o->h'.get? a=some o):LsB b h' a its:=by
 cases b <;> (obtain⟨o,e,r⟩:=z;exact⟨o,k o e,r⟩)
def vO(hj:ItB b s.heap j a n)(ht:LsB b s.heap a its)(hv:its[n]?=some v)
 (k:∀h',ItB b h' j a (n+1)->Heap.SameBut j s.heap h'->Q v { s with heap:=h' }):wpAny (model prog w) A (Builtin.SmallTypes.nextOf (.ref j)) Q E s:=by
 cases b with
 |true=>exact wpAny_nextOf_list_item hj ht hv k
 |false=>exact lY hj ht hv k
def oP(hh:A.handled=none)(hj:ItB b s.heap j a n)(ht:LsB b s.heap a its)(hv:its[n]?=none)
 (k:∀h' e,Heap.ExtBut j s.heap h'->(∃o,h'.get? e=some o/\o.cls=.type "StopIteration")->E (.ref e) { s with heap:=h' }):wpAny (model prog w) A (Builtin.SmallTypes.nextOf (.ref j)) Q E s:=by
 cases b with
 |true=>exact wpAny_nextOf_list_end hh hj ht hv k
 |false=>exact iC hh hj ht hv k
section
variable{prog:Program}{w:World}{A:Around}{E:Rg}{s:Shared}{b1 b2:Bool}{z p q j1 j2 a1 a2:Addr}{n:Nat}{xs ys:Array Value}{x y u v:Value}
def zipN{Q:Rg}(D:ZipApart z p q j1 j2 a1 a2)(hz:IsZip s.heap z p q .none)(hp:IsPair s.heap p (.ref j1) (.ref j2))(hq:IsPair s.heap q u v)
 (i1:ItB b1 s.heap j1 a1 n) (i2:ItB b2 s.heap j2 a2 n) (l1:LsB b1 s.heap a1 xs) (l2:LsB b2 s.heap a2 ys) (ex:xs[n]?=some x) (ey:ys[n]?=some y)
 (k:∀h',IsZip h' z p q (rawInt s.heap.objs.size)->IsPair h' q x y->ItB b1 h' j1 a1 (n+1)->ItB b2 h' j2 a2 (n+1)->IsPair h' s.heap.objs.size x y->(∀c o,c≠z->c≠q->c≠j1->c≠j2->s.heap.get? c=some o->h'.get? c=some o)->Q (.ref s.heap.objs.size) { s with heap:=h' }):
 wpAny (model prog w) A (Builtin.«zip.__next__» ⟨[.ref z],[]⟩) (λgl s'=>∃v,gl=.done (.ret v)/\Q v s') E s:=by
 show wpAny _ _ (field (.ref z) 2 >>= _) _ _ _;refine i_ (OW hz rfl (x:=.bool false) rfl ?_)
 show wpAny _ _ (field (.ref z) 3 >>= _) _ _ _;refine i_ (OW hz rfl (x:=.ref p) rfl ?_)
 refine i_ (Px hp rfl ?_);show wpAny _ _ (Builtin.SmallTypes.ownedTupleIsFree (.ref z) >>= _) _ _ _
 refine i_ ?_;unfold Builtin.SmallTypes.ownedTupleIsFree
 refine i_ (OW hz rfl (x:=.none) rfl (w_ ?_));simp only[Pd]
 refine i_ (wpAny_rule ?_);refine i_ (OW hz rfl (x:=.ref q) rfl ?_)
 refine i_ (PH hz (by simp) λg1 (y1:IsZip g1 z p q .ellipsis) t1=>?_)
 refine i_ ?_;simp only[List.zipIdx_cons,List.zipIdx_nil,Qq,QU]
 refine i_ (i_ (QX ?_));show wpAny _ _ (Builtin.SmallTypes.nextOf (.ref j1) >>= _) _ _ _
 refine i_ (vO (bf i1 λo e=>t1.extBut _ _ D.i1z e) (l1.keep λo e=>t1.extBut _ _ D.l1z e) ex λg2 m1 t2=>w_ ?_)
 have q2:IsPair g2 q u v:=t2.extBut _ _ D.TOi1 (t1.extBut _ _ D.TOz hq)
 refine i_ (Px q2 rfl ?_);refine i_ (QR q2 λg3 (q3:IsPair g3 q x v) t3=>?_)
 refine i_ (wpAny_letGo (w_ ?_));refine i_ (i_ (QX ?_))
 show wpAny _ _ (Builtin.SmallTypes.nextOf (.ref j2) >>= _) _ _ _
 refine i_ (vO (bf i2 λo e=>t3.extBut _ _ D.TOi2.symm (t2.extBut _ _ D.i12.symm (t1.extBut _ _ D.i2z e))) (l2.keep λo e=>t3.extBut _ _ D.l2TO (t2.extBut _ _ D.l2i1 (t1.extBut _ _ D.l2z e))) ey λg4 m2 t4=>w_ ?_)
 have q4:IsPair g4 q x v:=t4.extBut _ _ D.TOi2 q3
 refine i_ (Px q4 rfl ?_);refine i_ (QR q4 λg5 (q5:IsPair g5 q x y) t5=>?_)
 refine i_ (wpAny_letGo (w_ (w_ ?_)));refine i_ (Px q5 rfl ?_);refine i_ (wpAny_newTuple ?_)
 have sz:g5.objs.size=s.heap.objs.size:=by rw[t5.1,t4.1,t3.1,t2.1,t1.1]
 have y5:IsZip g5 z p q .ellipsis:=t5.extBut _ _ D.TOz.symm (t4.extBut _ _ D.i2z.symm (t3.extBut _ _ D.TOz.symm (t2.extBut _ _ D.i1z.symm y1)))
 have all5:∀c o,c≠z->c≠q->c≠j1->c≠j2->s.heap.get? c=some o->g5.get? c=some o:=λc o c1 c2 c3 c4 e=>t5.extBut _ _ c2 (t4.extBut _ _ c4 (t3.extBut _ _ c2 (t2.extBut _ _ c3 (t1.extBut _ _ c1 e))))
 have n1:ItB b1 g5 j1 a1 (n+1):=bf m1 λo e=>t5.extBut _ _ D.TOi1.symm (t4.extBut _ _ D.i12 (t3.extBut _ _ D.TOi1.symm e))
 have n2:ItB b2 g5 j2 a2 (n+1):=bf m2 λo e=>t5.extBut _ _ D.TOi2.symm e
 have zl:z<g5.objs.size:=x_ y5
 show wpAny _ _ (Builtin.SmallTypes.ownedTupleHandOut (.ref z) (.ref g5.objs.size) >>= _) _ _ _;refine i_ ?_;unfold Builtin.SmallTypes.ownedTupleHandOut
 have y6:IsZip (g5.push { cls:=.type "tuple",data:=.seq #[x,y] }) z p q .ellipsis:=t_ _ y5
 refine i_ (PH y6 (by simp) λg7 (y7:IsZip g7 z p q (rawInt g5.objs.size)) t7=>?_)
 refine PH y7 (by simp) λg8 (y8:IsZip g8 z p q (rawInt g5.objs.size)) t8=>?_
 have up:∀c o,c≠z->g5.get? c=some o->g8.get? c=some o:=λc o c1 e=>t8.extBut _ _ c1 (t7.extBut _ _ c1 (t_ _ e))
 have w8:IsPair g8 g5.objs.size x y:=t8.extBut _ _ (Qv zl) (t7.extBut _ _ (Qv zl) (E_ _ rfl))
 rw[sz] at y8 w8
 refine w_ ⟨_,rfl,?_⟩
 show Q (.ref g5.objs.size) _;rw[sz]
 exact k g8 y8 (up _ _ D.TOz q5) (bf n1 λo e=>up _ o D.i1z e) (bf n2 λo e=>up _ o D.i2z e) w8 λc o c1 c2 c3 c4 e=>up c o c1 (all5 c o c1 c2 c3 c4 e)
def BK(hh:A.handled=none)(D:ZipApart z p q j1 j2 a1 a2)(hz:IsZip s.heap z p q .none)(hp:IsPair s.heap p (.ref j1) (.ref j2))(hq:IsPair s.heap q u v)
 (i1:ItB b1 s.heap j1 a1 n) (i2:ItB b2 s.heap j2 a2 n) (l1:LsB b1 s.heap a1 xs) (l2:LsB b2 s.heap a2 ys) (en:xs[n]?=none\/ys[n]?=none)
 (k:∀h' e,(∀c o,c≠z->c≠q->c≠j1->c≠j2->s.heap.get? c=some o->h'.get? c=some o)->(∃o,h'.get? e=some o/\o.cls=.type "StopIteration")->E (.ref e) { s with heap:=h' }):wpAny (model prog w) A (Builtin.«zip.__next__» ⟨[.ref z],[]⟩) Q E s:=by
 show wpAny _ _ (field (.ref z) 2 >>= _) _ _ _;refine i_ (OW hz rfl (x:=.bool false) rfl ?_)
 show wpAny _ _ (field (.ref z) 3 >>= _) _ _ _;refine i_ (OW hz rfl (x:=.ref p) rfl ?_)
 refine i_ (Px hp rfl ?_);show wpAny _ _ (Builtin.SmallTypes.ownedTupleIsFree (.ref z) >>= _) _ _ _
 refine i_ ?_;unfold Builtin.SmallTypes.ownedTupleIsFree
 refine i_ (OW hz rfl (x:=.none) rfl (w_ ?_));simp only[Pd]
 refine i_ (wpAny_rule ?_);refine i_ (OW hz rfl (x:=.ref q) rfl ?_)
 refine i_ (PH hz (by simp) λg1 (y1:IsZip g1 z p q .ellipsis) t1=>?_)
 refine i_ ?_;simp only[List.zipIdx_cons,List.zipIdx_nil,Qq,QU]
 refine i_ (i_ (QX ?_));show wpAny _ _ (Builtin.SmallTypes.nextOf (.ref j1) >>= _) _ _ _
 cases ex:xs[n]? with
 |
  none=>
  refine i_ (oP hh (bf i1 λo e=>t1.extBut _ _ D.i1z e) (l1.keep λo e=>t1.extBut _ _ D.l1z e) ex λg2 e t2 ⟨oe,he,ce⟩=>?_)
  have y2:IsZip g2 z p q .ellipsis:=t2 _ _ D.i1z.symm y1
  have ez:e≠z:=λw=>by subst w;rw[y2] at he;cases he;simp at ce
  exact PH y2 (by simp) λg3 _ t3=>k g3 e (λc o c1 _ c3 _ w=>t3.extBut _ _ c1 (t2 _ _ c3 (t1.extBut _ _ c1 w))) ⟨oe,t3.extBut _ _ ez he,ce⟩
 |
  some x=>
  have ey:ys[n]?=none:=en.resolve_left λw=>by rw[ex] at w;cases w
  refine i_ (vO (bf i1 λo e=>t1.extBut _ _ D.i1z e) (l1.keep λo e=>t1.extBut _ _ D.l1z e) ex λg2 m1 t2=>w_ ?_)
  have q2:IsPair g2 q u v:=t2.extBut _ _ D.TOi1 (t1.extBut _ _ D.TOz hq)
  refine i_ (Px q2 rfl ?_);refine i_ (QR q2 λg3 q3 t3=>?_);refine i_ (wpAny_letGo (w_ ?_))
  refine i_ (i_ (QX ?_));show wpAny _ _ (Builtin.SmallTypes.nextOf (.ref j2) >>= _) _ _ _
  refine i_ (oP hh (bf i2 λo e=>t3.extBut _ _ D.TOi2.symm (t2.extBut _ _ D.i12.symm (t1.extBut _ _ D.i2z e))) (l2.keep λo e=>t3.extBut _ _ D.l2TO (t2.extBut _ _ D.l2i1 (t1.extBut _ _ D.l2z e))) ey λg4 e t4 ⟨oe,he,ce⟩=>?_)
  have y4:IsZip g4 z p q .ellipsis:=t4 _ _ D.i2z.symm (t3.extBut _ _ D.TOz.symm (t2.extBut _ _ D.i1z.symm y1))
  have ez:e≠z:=λw=>by subst w;rw[y4] at he;cases he;simp at ce
  exact PH y4 (by simp) λg5 _ t5=>k g5 e (λc o c1 c2 c3 c4 w=>t5.extBut _ _ c1 (t4 _ _ c4 (t3.extBut _ _ c2 (t2.extBut _ _ c3 (t1.extBut _ _ c1 w))))) ⟨oe,t5.extBut _ _ ez he,ce⟩
end
def CC(b:Bool):String:=if b then "list_iterator" else "tuple_iterator"
def vj(h:LsB b s.heap a its)(k:Q (.ref s.heap.objs.size) { s with heap:=s.heap.push { cls:=.type (CC b),data:=.fields #[.ref a,.int 0 0] } }):wpAny (model prog w) A (pyIter (.ref a)) Q E s:=by
 cases b with
 |true=>exact wpAny_pyIter_list h k
 |false=>exact Qy h k
abbrev zp1(h:Heap)(b:Bool)(a:Addr):Heap:=h.push { cls:=.type (CC b),data:=.fields #[.ref a,.int 0 0] }
abbrev zp2(h:Heap)(b c:Bool)(a d:Addr):Heap:=zp1 (zp1 h b a) c d
abbrev zp3(h:Heap)(b c:Bool)(a d:Addr):Heap:=(zp2 h b c a d).push { cls:=.type "tuple",data:=.seq #[.ref h.objs.size,.ref (zp1 h b a).objs.size] }
abbrev zp4(h:Heap)(b c:Bool)(a d:Addr):Heap:=(zp3 h b c a d).push { cls:=.type "tuple",data:=.seq #[.none,.none] }
abbrev zp5(h:Heap)(b c:Bool)(a d:Addr):Heap:=(zp4 h b c a d).push { cls:=.type "zip",data:=.fields #[.none,.bool false,.bool false,.ref (zp2 h b c a d).objs.size,.ref (zp3 h b c a d).objs.size] }
def BS(b c:Bool)(a d:Addr)(xs ys:Array Value):Meets (Builtin.«zip.__new__» ⟨[.type "zip",.ref a,.ref d],[]⟩) (λ_ R s=>LsB b s.heap a xs/\LsB c s.heap d ys/\R (.ok (.ret (.ref (zp4 s.heap b c a d).objs.size))) { s with heap:=zp5 s.heap b c a d }):=
 .of_wp λprog w A R s h=>by
  obtain⟨hp,g,dr,tk,os⟩:=s;obtain⟨la,ld,h⟩:=h
  have f_:=sub_zip
  have L1:LsB b (Shared.heap ⟨hp,g,dr,tk,os⟩) a xs:=la
  have L2':LsB c (Shared.heap ⟨hp.push { cls:=.type (CC b),data:=.fields #[.ref a,.int 0 0] },g,dr,tk,os⟩) d ys:=ld.keep λo e=>t_ _ e
  wp_walk using vj L1,vj L2'
  exact⟨_,rfl,h⟩
def ya(la:LsB b s.heap a xs)(ld:LsB c s.heap d ys)
 (k:∀h',IsZip h' (s.heap.objs.size+4) (s.heap.objs.size+2) (s.heap.objs.size+3) .none->IsPair h' (s.heap.objs.size+2) (.ref s.heap.objs.size) (.ref (s.heap.objs.size+1))->IsPair h' (s.heap.objs.size+3) .none .none->
  ItB b h' s.heap.objs.size a 0->ItB c h' (s.heap.objs.size+1) d 0->(∀c o,s.heap.get? c=some o->h'.get? c=some o)->Q (.ref (s.heap.objs.size+4)) { s with heap:=h' }):wpAny (model prog w) A (call (.type "zip") [.ref a,.ref d]) Q E s:=by
 refine callType_new F.called_zip (by decide) (F.typeCall_zip_2 _ _) (F.newCall_zip_2 _ _) (λobj=>F.args_object_init_3 obj _ _) F.entry_zip_new (BS b c a d xs ys) ⟨la,ld,?_⟩
 have n1:(zp1 s.heap b a).objs.size=s.heap.objs.size+1:=PX ..
 have n2:(zp2 s.heap b c a d).objs.size=s.heap.objs.size+2:=by rw[PX,n1]
 have n3:(zp3 s.heap b c a d).objs.size=s.heap.objs.size+3:=by rw[PX,n2]
 have n4:(zp4 s.heap b c a d).objs.size=s.heap.objs.size+4:=by rw[PX,n3]
 have up:=λ{h:Heap}{x:Addr}{o:Obj} (o':Obj) (e:h.get? x=some o)=>t_ o' e
 have e5:(zp5 s.heap b c a d).get? (zp4 s.heap b c a d).objs.size=some _:=E_ _ rfl
 have e4:(zp5 s.heap b c a d).get? (zp3 s.heap b c a d).objs.size=some _:=up _ (E_ _ rfl)
 have e3:(zp5 s.heap b c a d).get? (zp2 s.heap b c a d).objs.size=some _:=up _ (up _ (E_ _ rfl))
 have e2:(zp5 s.heap b c a d).get? (zp1 s.heap b a).objs.size=some _:=up _ (up _ (up _ (E_ _ rfl)))
 have e1:(zp5 s.heap b c a d).get? s.heap.objs.size=some _:=up _ (up _ (up _ (up _ (E_ _ rfl))))
 show _/\_
 rw[n2,n3,n4] at e5;rw[n1,n2] at e3;rw[n3] at e4;rw[n1] at e2;rw[n4]
 have i1:ItB b (zp5 s.heap b c a d) s.heap.objs.size a 0:=by cases b <;> exact⟨_,e1,rfl,rfl⟩
 have i2:ItB c (zp5 s.heap b c a d) (s.heap.objs.size+1) d 0:=by cases c <;> exact⟨_,e2,rfl,rfl⟩
 exact⟨⟨_,e5,rfl⟩,k _ e5 e3 e4 i1 i2 λx o e=>up _ (up _ (up _ (up _ (up _ e))))⟩
def ItZ(K:W.Frag)(b c:Bool)(a d:Addr):It:=
 ⟨λi H=>∃xs ys x y,SqB K b H a xs/\SqB K c H d ys/\xs[i]?=some x/\ys[i]?=some y,
  λi H x H'=>∃p u v,x=.ref p/\H p=none/\H'=upd H p (.tup [u,v])/\(∀xs,SqB K b H a xs->xs[i]?=some u)/\∀ys,SqB K c H d ys->ys[i]?=some v,
  λi H=>∃xs ys,SqB K b H a xs/\SqB K c H d ys/\(xs[i]?=none\/ys[i]?=none)⟩
def iH(I:Inv X pins σ H s)(hq:SqB X.K b H a xs):∃its:List Value,Vals xs its/\LsB b s.heap a its.toArray:=by
 cases b with
 |true=>obtain⟨its,rv,p,_⟩:=I.list hq;exact⟨its,rv,p.isList⟩
 |false=>obtain⟨its,rv,p,_⟩:=I.tuple hq;exact⟨its,rv,p⟩
def AG{P:Program}{w:World}{K:W.Frag}{elts:List Expr}{x1:Nat}{tp:Pos}(b c:Bool)(a d z p q j1 j2:Addr)(D:ZipApart z p q j1 j2 a d):
 Turn P w K (.Tuple elts x1 tp) (ItZ K b c a d) [z,p,q,j1,j2] z (λi h=>IsZip h z p q .none/\IsPair h p (.ref j1) (.ref j2)/\(∃u v,IsPair h q u v)/\ItB b h j1 a i/\ItB c h j2 d i) where
 mem:=by simp
 obj:=λi h st e he=>by
  obtain⟨s1,s2,⟨u,v,s3⟩,s4,s5⟩:=st
  obtain⟨o4,k4,l4,_⟩:=gA s4
  obtain⟨o5,k5,l5,_⟩:=gA s5
  simp only[D_,List.not_mem_nil,QI] at he
  rcases he with rfl |rfl |rfl |rfl |rfl
  ·exact⟨_,s1,λv y=>by cases y⟩
  ·exact⟨_,s2,λv y=>by cases y⟩
  ·exact⟨_,s3,λv y=>by cases y⟩
  ·exact⟨o4,k4,l4⟩
  ·exact⟨o5,k5,l5⟩
 keep:=λi h h' st k=>by
  obtain⟨s1,s2,⟨u,v,s3⟩,s4,s5⟩:=st
  exact⟨k z (by simp) _ s1,k p (by simp) _ s2,⟨u,v,k q (by simp) _ s3⟩,bf s4 λo e=>k j1 (by simp) o e,bf s5 λo e=>k j2 (by simp) o e⟩
 item:=
  by
  intro X hP hw hK hc i pins s σ H E I hf st hg
  subst hP hw hK
  obtain⟨xs,ys,x,y,qx,qy,ex,ey⟩:=hg
  obtain⟨s1,s2,⟨u,v,s3⟩,s4,s5⟩:=st
  obtain⟨ix,rx,lx⟩:=iH I qx
  obtain⟨iy,ry,ly⟩:=iH I qy
  obtain⟨ux,hux,rux⟩:=rx.get ex
  obtain⟨uy,huy,ruy⟩:=ry.get ey
  have hTy:s.TypeIs (.ref z) "zip":=⟨_,s1,rfl⟩
  have zl:=x_ s1
  have pl:=x_ s2
  have ql:=x_ s3
  obtain⟨o4,k4,_,_⟩:=gA s4
  obtain⟨o5,k5,_,_⟩:=gA s5
  have j1l:=x_ k4
  have j2l:=x_ k5
  unfold pyNext
  refine i_ (QW (Pt (name:=Str.ofString "__next__") hTy QK (Qh QK hTy F.entry_zip_next (zipN D s1 s2 s3 s4 s5 lx ly (by simpa using hux) (by simpa using huy) λh' y1 y3 y4 y5 yT hk=>w_ ?_) (F.args_zip_next_1 _))))
  refine⟨_,rfl,wpAny_letOwnedTupleGo_zip (s:={ s with heap:=h' }) y1 λh2 z2 sb=>?_⟩
  have sb':Heap.SameBut z h' h2:=sb
  have hT:H s.heap.objs.size=none:=I.hok.fresh (m_ _)
  have I1:Inv X pins σ (upd H s.heap.objs.size (.tup [x,y])) { s with heap:=s.heap.push { cls:=.type "tuple",data:=.seq #[ux,uy] },toks:=s.toks }:=
   I.laid (t':=s.toks) (λc o q=>t_ _ q) (m_ _) ⟨by show 2<=sizeLine;decide,[ux,uy],.cons rux (.cons ruy .nil),⟨_,E_ _ rfl,rfl,_,rfl⟩⟩
  have fp':∀e∈[z,p,q,j1,j2],FpOk X pins (upd H s.heap.objs.size (.tup [x,y])) e:=λe he=>by
   have:=hf e he
   simp only[D_,List.not_mem_nil,QI] at he
   rcases he with rfl |rfl |rfl |rfl |rfl
   ·exact this.up (L_ zl)
   ·exact this.up (L_ pl)
   ·exact this.up (L_ ql)
   ·exact this.up (L_ j1l)
   ·exact this.up (L_ j2l)
  have I2:Inv X pins σ (upd H s.heap.objs.size (.tup [x,y])) { s with heap:=h2,toks:=s.toks }:=
   Inv.turnedL (s:={ s with heap:=s.heap.push { cls:=.type "tuple",data:=.seq #[ux,uy] },toks:=s.toks }) (ch:=[z,p,q,j1,j2]) (t':=s.toks) I1 (λe o he qe=>by
    have c1:e≠z:=λw=>he (by simp [w])
    have c2:e≠q:=λw=>he (by simp [w])
    have c3:e≠j1:=λw=>he (by simp [w])
    have c4:e≠j2:=λw=>he (by simp [w])
    rw[sb'.2 e c1]
    have q':(s.heap.push { cls:=.type "tuple",data:=.seq #[ux,uy] }).get? e=some o:=qe
    by_cases w:e=s.heap.objs.size
    ·subst w
     rw[E_ _ rfl] at q'
     cases q'
     exact yT
    ·rw[Heap.get?_push_ne _ _ _ w] at q'
     exact hk e o c1 c2 c3 c4 q') fp'
  refine⟨.ref s.heap.objs.size,_,I2,rfl,⟨_,x,y,rfl,hT,rfl,λzs hz=>by rw[SqB.inj I hz qx];exact ex,λzs hz=>by rw[SqB.inj I hz qy];exact ey⟩,⟨z2,?_,⟨ux,uy,?_⟩,bf y4 λo e=>(sb'.2 j1 D.i1z).trans e,bf y5 λo e=>(sb'.2 j2 D.i2z).trans e⟩,λe he=>(fp' e he).1⟩
  ·exact (sb'.2 p D.TIz).trans (hk p _ D.TIz D.TITO D.TIi1 D.TIi2 s2)
  ·exact (sb'.2 q D.TOz).trans y3
 done:=by
  intro X hP hw hK hc i pins s σ H E I hf st hg
  subst hP hw hK
  obtain⟨xs,ys,qx,qy,en⟩:=hg
  obtain⟨s1,s2,⟨u,v,s3⟩,s4,s5⟩:=st
  obtain⟨ix,rx,lx⟩:=iH I qx
  obtain⟨iy,ry,ly⟩:=iH I qy
  have hTy:s.TypeIs (.ref z) "zip":=⟨_,s1,rfl⟩
  have en':ix.toArray[i]?=none\/iy.toArray[i]?=none:=by
   rcases en with e |e
   ·left;rw[Pl] at e;simp;rw[<- rx.length];exact e
   ·right;rw[Pl] at e;simp;rw[<- ry.length];exact e
  unfold pyNext
  refine i_ (QW (Pt (name:=Str.ofString "__next__") hTy QK (Qh QK hTy F.entry_zip_next (BK (I.ok.hd hc) D s1 s2 s3 s4 s5 lx ly en' λh' e hk ⟨o,ho,co⟩=>?_) (F.args_zip_next_1 _))))
  refine i_ (wpAny_isInstance (T:="StopIteration") (b:=true) ⟨o,ho,co⟩ isSubtype_stop (w_ ⟨rfl,?_⟩))
  exact Inv.turnedL (ch:=[z,p,q,j1,j2]) (t':=s.toks) I (λe o he qe=>hk e o (λw=>he (by simp [w])) (λw=>he (by simp [w])) (λw=>he (by simp [w])) (λw=>he (by simp [w])) qe) hf
 self:=λ_ _ _ _ _ st h=>wpAny_pyIter_zip st.1 h
def xK:bootBuiltins "zip"=some (.type "zip"):=by decide
def KN(hg:Gl X "zip")(hm:X.mg "zip"=none)(ha:PA X [l,m] tl)(hs:starEach [l,m] X.env=[(false,eval l X.env),(false,eval m X.env)])(hs2:starEach [m] X.env=[(false,eval m X.env)]):
 PI X (.Tuple elts x1 tp) (.Call (.Name "zip" p) [l,m] [] pos) (λσ H R=>tl σ H λvs H1=>∃(b c:Bool) (a d:Addr) (xs ys:List V),vs=[.ref a,.ref d]/\SqB X.K b H1 a xs/\SqB X.K c H1 d ys/\R (ItZ X.K b c a d) H1):=by
 intro pins s σ H R I h
 refine Call_ (gR I hg hm xK (PD (thn (ha pos pins s σ H _ I h) λus s1 ⟨vs,H1,I1,r1,q1⟩=>?_) (by rw[hs,hs2]) (by rw[hs2];rfl)))
 obtain⟨b,c,a,d,xs,ys,e,qx,qy,q⟩:=q1
 subst e
 cases r1 with
 |
  cons r rr=>
  cases rr with
  |
   cons r' rr=>
   cases rr
   cases r
   cases r'
   obtain⟨ix,rx,lx⟩:=iH I1 qx
   obtain⟨iy,ry,ly⟩:=iH I1 qy
   have la:a<s1.heap.objs.size:=by cases b <;> (obtain⟨o,e,_⟩:=lx;exact x_ e)
   have ld:d<s1.heap.objs.size:=by cases c <;> (obtain⟨o,e,_⟩:=ly;exact x_ e)
   refine ya lx ly λh' y1 y2 y3 y4 y5 hk=>wpAny_pyIter_zip y1 ⟨s1.heap.objs.size+4,[s1.heap.objs.size+4,s1.heap.objs.size+2,s1.heap.objs.size+3,s1.heap.objs.size,s1.heap.objs.size+1],_,_,H1,rfl,I1.kept (t':=s1.toks) λc o z=>hk c o z,AG b c a d _ _ _ _ _ (W.ktu_apart _ _ _ la ld),⟨y1,y2,⟨_,_,y3⟩,y4,y5⟩,λe he=>?_,q⟩
   have hge:s1.heap.objs.size<=e:=by
    simp only[D_,List.not_mem_nil,QI] at he
    rcases he with rfl |rfl |rfl |rfl |rfl
    ·exact QH _ _
    ·exact QH _ _
    ·exact QH _ _
    ·exact m_ _
    ·exact QH _ _
   exact I1.fpOk hge (I1.hok.fresh hge)
inductive D where
 |non |bl (b:Bool) |int (i:Int) |str (x:Str) |ty (n:String) |glb (x:Str) |exc (x:Str) |tup (xs:List D) |ref (n:Nat) |kl (xs:List D)
 deriving Inhabited
inductive Ob where
 |lst (xs:List D) |fz (xs:List D) |set (xs:List Int) |dct (kvs:List (Key×D)) |any
 deriving Inhabited
abbrev AH:=List Ob
abbrev AE:=List (Option D)
inductive R(α:Type) where
 |ok (a:α) (h:AH) |exc (c:Str) (h:AH) |stuck
inductive SR where
 |nx (ae:AE) (h:AH) |rt (d:D) (h:AH) |bk (ae:AE) (h:AH) |ct (ae:AE) (h:AH) |exc (c:Str) (ae:AE) (h:AH) |stuck
abbrev ME:=AE->AH->R D
abbrev MT:=AE->AH->R Bool
abbrev MA:=AE->AH->R (List D)
abbrev MS:=AE->AH->SR
abbrev Fn:=List D->AH->R D
def R.bind{α β:Type}(r:R α)(f:α->AH->R β):R β:=match r with
 |.ok a h=>f a h
 |.exc c h=>.exc c h
 |.stuck=>.stuck
section
variable(K:W.Frag)(mg:Ra)
mutual
inductive RelD(ρ:List Addr)(H:Hp):D->V->Prop where
 |non:RelD ρ H .non .non
 |bl (b:Bool):RelD ρ H (.bl b) (.bl b)
 |int (i:Int):RelD ρ H (.int i) (.int i)
 |str (x:Str):RelD ρ H (.str x) (.str x)
 |ty (n:String):RelD ρ H (.ty n) (.ty n)
 |glb {x:Str}{a:Addr} (m:mg x=some (.ref a)):RelD ρ H (.glb x) (.ref a)
 |exc {x:Str}{a C:Addr} (m:mg x=some (.ref C)) (e:H a=some (.ext (oq a C))):RelD ρ H (.exc x) (.ref a)
 |tup {p:Addr}{vs:List V}{ds:List D} (h:SqT K H p vs) (r:RelDs ρ H ds vs):RelD ρ H (.tup ds) (.ref p)
 |ref {n:Nat}{a:Addr} (e:ρ[n]?=some a):RelD ρ H (.ref n) (.ref a)
 |kl {a:Addr}{vs:List V}{ds:List D} (h:∃(o:Obj) (its:Array Value) (n:Nat),K.lookup a=some o/\o.cls=.type "list" /\ o.dict=none/\o.data=.seq its n/\its.size<=sizeLine/\Vals vs its.toList) (r:RelDs ρ H ds vs):RelD ρ H (.kl ds) (.ref a)
inductive RelDs(ρ:List Addr)(H:Hp):List D->List V->Prop where
 |nil:RelDs ρ H [] []
 |cons {d:D}{v:V}{ds:List D}{vs:List V} (r:RelD ρ H d v) (rr:RelDs ρ H ds vs):RelDs ρ H (d::ds) (v::vs)
end
structure Le(ρ:List Addr)(H:Hp)(ρ':List Addr)(H':Hp):Prop where
 pre:∀(n:Nat) (a:Addr),ρ[n]?=some a->ρ'[n]?=some a
 tup:∀b xs,H b=some (.tup xs)->H' b=some (.tup xs)
 frz:∀b o u,H b=some (.frz o u)->H' b=some (.frz o u)
 ext:∀b φ,H b=some (.ext φ)->H' b=some (.ext φ)
def ObR(ρ:List Addr)(H:Hp)(a:Addr):Ob->Prop
 |.lst ds=>∃vs,H a=some (.lst vs)/\RelDs K mg ρ H ds vs
 |.fz ds=>∃o vs,H a=some (.frz o (.lst vs))/\RelDs K mg ρ H ds vs
 |.set xs=>xs.Nodup/\H a=some (.set (λi=>decide (i∈xs)) xs.length)
 |.dct kvs=>∃ws,H a=some (.dK ws)/\ws.map (·.1)=kvs.map (·.1)/\RelDs K mg ρ H (kvs.map (·.2)) (ws.map (·.2))
 |.any=>∃o,H a=some o
structure Wd(ρ:List Addr)(h:AH)(H:Hp):Prop where
 len:ρ.length=h.length
 nd:ρ.Nodup
 ob:∀(n:Nat) (a:Addr) (o:Ob),ρ[n]?=some a->h[n]?=some o->ObR K mg ρ H a o
structure RelE(ρ:List Addr)(H:Hp)(ae:AE)(σ:St):Prop where
 len:ae.length=σ.length
 at_:∀(i:Nat) (d:D),ae[i]?=some (some d)->∃v,σ[i]?=some (some v)/\RelD K mg ρ H d v
def PostG{α:Type}(ρ:List Addr)(H:Hp)(E:XK)(k:α->AH->List Addr->Hp->Prop):R α->Prop
 |.ok a h=>∀ρ' H',Le ρ H ρ' H'->Wd K mg ρ' h H'->k a h ρ' H'
 |.exc c h=>∀ρ' H' C,Le ρ H ρ' H'->Wd K mg ρ' h H'->mg c=some (.ref C)->E (.ref C) none H'
 |.stuck=>False
abbrev dk(ρ:List Addr)(H:Hp)(Q:VK)(E:XK)(r:R D):Prop:=PostG K mg ρ H E (λd _ ρ' H'=>∀v,RelD K mg ρ' H' d v->Q v H') r
abbrev CU(ρ:List Addr)(H:Hp)(Q:Bool->Hp->Prop)(E:XK)(r:R Bool):Prop:=PostG K mg ρ H E (λb _ ρ' H'=>Q b H') r
abbrev CN(ρ:List Addr)(H:Hp)(Q:List V->Hp->Prop)(E:XK)(r:R (List D)):Prop:=PostG K mg ρ H E (λd _ ρ' H'=>∀vs,RelDs K mg ρ' H' d vs->Q vs H') r
def PostS(ρ:List Addr)(H:Hp)(D:Ends)(ES:St->XK):SR->Prop
 |.nx ae h=>∀ρ' H' σ',Le ρ H ρ' H'->Wd K mg ρ' h H'->RelE K mg ρ' H' ae σ'->D.nx σ' H'
 |.bk ae h=>∀ρ' H' σ',Le ρ H ρ' H'->Wd K mg ρ' h H'->RelE K mg ρ' H' ae σ'->D.bk σ' H'
 |.ct ae h=>∀ρ' H' σ',Le ρ H ρ' H'->Wd K mg ρ' h H'->RelE K mg ρ' H' ae σ'->D.ct σ' H'
 |.rt d h=>∀ρ' H' v,Le ρ H ρ' H'->Wd K mg ρ' h H'->RelD K mg ρ' H' d v->D.rt v H'
 |.exc c ae h=>∀ρ' H' σ' C,Le ρ H ρ' H'->Wd K mg ρ' h H'->RelE K mg ρ' H' ae σ'->mg c=some (.ref C)->ES σ' (.ref C) none H'
 |.stuck=>False
def rdE(ES:St->XK)(F:ME):TE:=λσ H Q=>∃ρ h ae,Wd K mg ρ h H/\RelE K mg ρ H ae σ/\dk K mg ρ H Q (ES σ) (F ae h)
def rdT(ES:St->XK)(F:MT):TT:=λσ H Q=>∃ρ h ae,Wd K mg ρ h H/\RelE K mg ρ H ae σ/\CU K mg ρ H Q (ES σ) (F ae h)
def rdA(ES:St->XK)(F:MA):TA:=λσ H Q=>∃ρ h ae,Wd K mg ρ h H/\RelE K mg ρ H ae σ/\CN K mg ρ H Q (ES σ) (F ae h)
def rdS(ES:St->XK)(F:MS):TS:=λD σ H=>∃ρ h ae,Wd K mg ρ h H/\RelE K mg ρ H ae σ/\PostS K mg ρ H D ES (F ae h)
def spD(n:Nat)(S:Fn):Sp:=λvs H Q E=>∃ρ h ds,Wd K mg ρ h H/\RelDs K mg ρ H ds vs/\ds.length=n/\dk K mg ρ H Q E (S ds h)
end
def rdE.el{K:W.Frag}{mg:Ra}{ES:St->XK}{F:ME}{σ:St}{H:Hp}{Q:VK}{C:Prop}(q:rdE K mg ES F σ H Q)(k:∀ρ h ae,Wd K mg ρ h H->RelE K mg ρ H ae σ->dk K mg ρ H Q (ES σ) (F ae h)->C):C:=by
 obtain⟨ρ,h,ae,w,re,p⟩:=q
 exact k ρ h ae w re p
def rdT.el{K:W.Frag}{mg:Ra}{ES:St->XK}{F:MT}{σ:St}{H:Hp}{Q:Bool->Hp->Prop}{C:Prop}(q:rdT K mg ES F σ H Q)(k:∀ρ h ae,Wd K mg ρ h H->RelE K mg ρ H ae σ->CU K mg ρ H Q (ES σ) (F ae h)->C):C:=by
 obtain⟨ρ,h,ae,w,re,p⟩:=q
 exact k ρ h ae w re p
def rdA.el{K:W.Frag}{mg:Ra}{ES:St->XK}{F:MA}{σ:St}{H:Hp}{Q:List V->Hp->Prop}{C:Prop}(q:rdA K mg ES F σ H Q)(k:∀ρ h ae,Wd K mg ρ h H->RelE K mg ρ H ae σ->CN K mg ρ H Q (ES σ) (F ae h)->C):C:=by
 obtain⟨ρ,h,ae,w,re,p⟩:=q
 exact k ρ h ae w re p
def rdS.el{K:W.Frag}{mg:Ra}{ES:St->XK}{F:MS}{σ:St}{H:Hp}{De:Ends}{C:Prop}(q:rdS K mg ES F De σ H)(k:∀ρ h ae,Wd K mg ρ h H->RelE K mg ρ H ae σ->PostS K mg ρ H De ES (F ae h)->C):C:=by
 obtain⟨ρ,h,ae,w,re,p⟩:=q
 exact k ρ h ae w re p
section
variable{K:W.Frag}{mg:Ra}{ρ ρ' ρ1:List Addr}{H H' H1:Hp}{h h':AH}{ae:AE}{σ:St}
def Le.refl:Le ρ H ρ H:=⟨λ_ _ e=>e,λ_ _ e=>e,λ_ _ _ e=>e,λ_ _ e=>e⟩
def Le.trans(a:Le ρ H ρ1 H1)(b:Le ρ1 H1 ρ' H'):Le ρ H ρ' H':=
 ⟨λn x e=>b.pre n x (a.pre n x e),λx y e=>b.tup x y (a.tup x y e),λx y z e=>b.frz x y z (a.frz x y z e),λx y e=>b.ext x y (a.ext x y e)⟩
def Le.sqT(l:Le ρ H ρ' H')(q:SqT K H a xs):SqT K H' a xs:=by
 rcases q with (q |⟨o,q⟩) |q
 ·exact .inl (.inl (l.tup _ _ q))
 ·exact .inl (.inr ⟨o,l.frz _ _ _ q⟩)
 ·exact .inr q
def RelD.mono(l:Le ρ H ρ' H')(r:RelD K mg ρ H d v):RelD K mg ρ' H' d v:=
 RelD.rec (motive_1:=λd v _=>RelD K mg ρ' H' d v) (motive_2:=λds vs _=>RelDs K mg ρ' H' ds vs) .non (λb=>.bl b) (λi=>.int i) (λx=>.str x) (λn=>.ty n) (λm=>.glb m) (λm e=>.exc m (l.ext _ _ e)) (λh _ ih=>.tup (l.sqT h) ih) (λe=>.ref (l.pre _ _ e)) (λh _ ih=>.kl h ih) .nil (λ_ _ a b=>.cons a b) r
def RelDs.ind{M:List D->List V->Prop}(h0:M [] [])(h1:∀{d v ds vs},RelD K mg ρ H d v->RelDs K mg ρ H ds vs->M ds vs->M (d::ds) (v::vs)){ds:List D}{vs:List V}(r:RelDs K mg ρ H ds vs):M ds vs:=by
 induction ds generalizing vs with
 |nil=>cases r;exact h0
 |
  cons d ds ih=>
  cases r with
  |cons r rr=>exact h1 r rr (ih rr)
def RelDs.mono(l:Le ρ H ρ' H'){ds:List D}{vs:List V}(r:RelDs K mg ρ H ds vs):RelDs K mg ρ' H' ds vs:=r.ind .nil λr _ ih=>.cons (r.mono l) ih
def RelDs.len{ds:List D}{vs:List V}(r:RelDs K mg ρ H ds vs):ds.length=vs.length:=r.ind (M:=λds vs=>ds.length=vs.length) rfl λ_ _ ih=>Pg (· + 1) ih
def RelDs.getD{ds:List D}{vs:List V}{i:Nat}{d:D}(r:RelDs K mg ρ H ds vs)(e:ds[i]?=some d):∃v,vs[i]?=some v/\RelD K mg ρ H d v:=
 r.ind (M:=λds vs=>∀i,ds[i]?=some d->∃v,vs[i]?=some v/\RelD K mg ρ H d v) (λ_ e=>by rw[O4] at e;cases e) (λr _ ih i e=>match i,e with
  |0,e=>by cases e;exact⟨_,rfl,r⟩
  |i+1,e=>ih i e) i e
def RelDs.append{ds es:List D}{vs ws:List V}(r:RelDs K mg ρ H ds vs)(q:RelDs K mg ρ H es ws):RelDs K mg ρ H (ds++es) (vs++ws):=r.ind (M:=λds vs=>RelDs K mg ρ H (ds++es) (vs++ws)) q λr _ ih=>.cons r ih
def RelDs.take{ds:List D}{vs:List V}(n:Nat)(r:RelDs K mg ρ H ds vs):RelDs K mg ρ H (ds.take n) (vs.take n):=
 r.ind (M:=λds vs=>∀n:Nat,RelDs K mg ρ H (ds.take n) (vs.take n)) (λn=>by rw[P4,P4];exact .nil) (λr _ ih n=>by cases n with |zero=>exact .nil |succ n=>exact .cons r (ih n)) n
def RelDs.drop{ds:List D}{vs:List V}(n:Nat)(r:RelDs K mg ρ H ds vs):RelDs K mg ρ H (ds.drop n) (vs.drop n):=
 r.ind (M:=λds vs=>∀n:Nat,RelDs K mg ρ H (ds.drop n) (vs.drop n)) (λn=>by rw[Ql,Ql];exact .nil) (λr rr ih n=>by cases n with |zero=>exact .cons r rr |succ n=>exact ih n) n
def RelDs.set{d:D}{v:V}(r:RelD K mg ρ H d v){ds:List D}{vs:List V}(i:Nat)(q:RelDs K mg ρ H ds vs):RelDs K mg ρ H (ds.set i d) (vs.set i v):=
 q.ind (M:=λds vs=>∀i:Nat,RelDs K mg ρ H (ds.set i d) (vs.set i v)) (λ_=>.nil) (λq qq ih i=>by cases i with |zero=>exact .cons r qq |succ i=>exact .cons q (ih i)) i
def RelDs.ints:∀{ns:List Int}{vs:List V},RelDs K mg ρ H (ns.map D.int) vs->vs=ns.map V.int:=by
 intro ns
 induction ns with
 |nil=>intro vs r;cases r;rfl
 |
  cons n ns ih=>
  intro vs r
  cases r with
  |cons r rr=>cases r;rw[ih rr];rfl
def RelDs.bls:∀{ns:List Bool}{vs:List V},RelDs K mg ρ H (ns.map D.bl) vs->vs=ns.map V.bl:=by
 intro ns
 induction ns with
 |nil=>intro vs r;cases r;rfl
 |
  cons n ns ih=>
  intro vs r
  cases r with
  |cons r rr=>cases r;rw[ih rr];rfl
def RelE.mono(l:Le ρ H ρ' H')(r:RelE K mg ρ H ae σ):RelE K mg ρ' H' ae σ:=⟨r.len,λi d e=>by
 obtain⟨v,h1,h2⟩:=r.at_ i d e
 exact⟨v,h1,h2.mono l⟩⟩
def RelE.set(i:Nat)(r:RelE K mg ρ H ae σ)(q:RelD K mg ρ H d v):RelE K mg ρ H (ae.set i (some d)) (σ.set i (some v)):=⟨by rw[B_,B_];exact r.len,λj d' e=>by
 rw[Qa] at e ⊢
 by_cases im:i=j
 ·rw[if_pos im] at e ⊢
  by_cases hi:i<ae.length
  ·rw[if_pos hi] at e
   cases e
   rw[if_pos (by rw[<- r.len];exact hi)]
   exact⟨v,rfl,q⟩
  ·rw[if_neg hi] at e;cases e
 ·rw[if_neg im] at e ⊢
  exact r.at_ j d' e⟩
def RelE.unset(i:Nat)(r:RelE K mg ρ H ae σ):RelE K mg ρ H (ae.set i none) (σ.set i v):=⟨by rw[B_,B_];exact r.len,λj d' e=>by
 rw[Qa] at e ⊢
 by_cases im:i=j
 ·rw[if_pos im] at e
  by_cases hi:i<ae.length
  ·rw[if_pos hi] at e;cases e
  ·rw[if_neg hi] at e;cases e
 ·rw[if_neg im] at e ⊢
  exact r.at_ j d' e⟩
def ObR.mono(l:Le ρ H ρ' H')(e:H' a=H a)(q:ObR K mg ρ H a o):ObR K mg ρ' H' a o:=by
 cases o with
 |lst ds=>obtain⟨vs,h1,h2⟩:=q;exact⟨vs,e.trans h1,h2.mono l⟩
 |fz ds=>obtain⟨o,vs,h1,h2⟩:=q;exact⟨o,vs,e.trans h1,h2.mono l⟩
 |set xs=>exact⟨q.1,e.trans q.2⟩
 |dct kvs=>obtain⟨ws,h1,h2,h3⟩:=q;exact⟨ws,e.trans h1,h2,h3.mono l⟩
 |any=>obtain⟨o,h1⟩:=q;exact⟨o,e.trans h1⟩
def ObR.there(q:ObR K mg ρ H a o):∃u,H a=some u:=by
 cases o with
 |lst ds=>obtain⟨vs,h1,_⟩:=q;exact⟨_,h1⟩
 |fz ds=>obtain⟨o,vs,h1,_⟩:=q;exact⟨_,h1⟩
 |set xs=>exact⟨_,q.2⟩
 |dct kvs=>obtain⟨ws,h1,_⟩:=q;exact⟨_,h1⟩
 |any=>exact q
def Wd.fresh(w:Wd K mg ρ h H)(hp:H p=none):p∉ρ:=λhm=>by
 obtain⟨n,hn⟩:=Qe hm
 have hl:n<h.length:=by rw[<- w.len];exact (k_.mp hn).1
 obtain⟨u,hu⟩:=(w.ob n p h[n] hn (A_ hl)).there
 rw[hp] at hu;cases hu
def cx(hp:H p=none):Le ρ H ρ (upd H p o):=
 ⟨λ_ _ e=>e,λb xs e=>by rw[aE (bL e hp)];exact e,λb xs u e=>by rw[aE (bL e hp)];exact e,λb xs e=>by rw[aE (bL e hp)];exact e⟩
def iO:Le ρ H (ρ++m) H:=
 ⟨λn a e=>by rw[J_ (k_.mp e).1];exact e,λ_ _ e=>e,λ_ _ _ e=>e,λ_ _ e=>e⟩
def Wd.alloc(w:Wd K mg ρ h H)(hp:H p=none)(hn:ObR K mg (ρ++[p]) (upd H p u) p o):Wd K mg (ρ++[p]) (h++[o]) (upd H p u):=by
 refine⟨by rw[p_,p_,w.len];rfl,?_,λn a ob e1 e2=>?_⟩
 ·rw[List.nodup_append]
  exact⟨w.nd,by simp,λa ha b hb=>by rw[OK] at hb;subst hb;intro z;subst z;exact w.fresh hp ha⟩
 ·by_cases hl:n<ρ.length
  ·rw[J_ hl] at e1
   rw[J_ (by rw[<- w.len];exact hl)] at e2
   have q:=w.ob n a ob e1 e2
   obtain⟨v,hv⟩:=q.there
   exact q.mono ((cx hp).trans iO) (aE (bL hv hp))
  ·have h1:n=ρ.length:=by
    have:=(k_.mp e1).1
    rw[p_] at this
    simp at this
    omega
   subst h1
   rw[I_ (m_ _),PC] at e1
   rw[w.len,I_ (m_ _),PC] at e2
   simp at e1 e2
   subst e1 e2
   exact hn
def Wd.tuple(w:Wd K mg ρ h H)(hp:H p=none):Wd K mg ρ h (upd H p u):=
 ⟨w.len,w.nd,λn a ob e1 e2=>by
  have q:=w.ob n a ob e1 e2
  obtain⟨v,hv⟩:=q.there
  exact q.mono (cx hp) (aE (bL hv hp))⟩
def kf(e:H a=some u)(hu:(∀xs,u ≠ .tup xs)/\(∀x y,u ≠ .frz x y)/\∀φ,u ≠ .ext φ):Le ρ H ρ (upd H a o):=by
 refine⟨λ_ _ e=>e,λb xs q=>?_,λb x y q=>?_,λb φ q=>?_⟩ <;> rw[aE] <;> (try exact q) <;> (intro z;subst z;rw[e] at q;have:=C_ q;first |exact hu.1 _ this |exact hu.2.1 _ _ this |exact hu.2.2 _ this)
def Wd.write{n:Nat}{a:Addr}{o u:HO}{ob:Ob}(w:Wd K mg ρ h H)(ea:ρ[n]?=some a)(e:H a=some u)(hu:(∀xs,u ≠ .tup xs)/\(∀x y,u ≠ .frz x y)/\∀φ,u ≠ .ext φ)
 (hn:ObR K mg ρ (upd H a o) a ob):Wd K mg ρ (h.set n ob) (upd H a o):=by
 refine⟨by rw[B_];exact w.len,w.nd,λm b ob' e1 e2=>?_⟩
 rw[Qa] at e2
 by_cases hm:n=m
 ·subst hm
  rw[ea] at e1;cases e1
  rw[if_pos rfl] at e2
  split at e2
  ·cases e2;exact hn
  ·cases e2
 ·rw[if_neg hm] at e2
  have q:=w.ob m b ob' e1 e2
  refine q.mono (kf e hu) (aE λz=>hm ?_)
  subst z
  have h1:=(k_.mp e1)
  have h2:=(k_.mp ea)
  exact (List.getElem_inj (h₀:=h2.1) (h₁:=h1.1) w.nd).mp (h2.2.trans h1.2.symm)
def qu:(∀xs,HO.lst vs ≠ .tup xs)/\(∀x y,HO.lst vs ≠ .frz x y)/\∀φ,HO.lst vs ≠ .ext φ:=⟨λ_ z=>(nomatch z),λ_ _ z=>(nomatch z),λ_ z=>(nomatch z)⟩
def C4:(∀xs,HO.set S n ≠ .tup xs)/\(∀x y,HO.set S n ≠ .frz x y)/\∀φ,HO.set S n ≠ .ext φ:=⟨λ_ z=>(nomatch z),λ_ _ z=>(nomatch z),λ_ z=>(nomatch z)⟩
def xA:(∀xs,HO.dK ws ≠ .tup xs)/\(∀x y,HO.dK ws ≠ .frz x y)/\∀φ,HO.dK ws ≠ .ext φ:=⟨λ_ z=>(nomatch z),λ_ _ z=>(nomatch z),λ_ z=>(nomatch z)⟩
def PostG.mono(l:Le ρ H ρ' H')(p:PostG K mg ρ H E k r):PostG K mg ρ' H' E k r:=by
 cases r with
 |ok d h=>exact λρ2 H2 l2=>p ρ2 H2 (l.trans l2)
 |exc c h=>exact λρ2 H2 C l2=>p ρ2 H2 C (l.trans l2)
 |stuck=>exact p
def PostG.imp(p:PostG K mg ρ H E k r)(i:∀a h1 ρ' H',Le ρ H ρ' H'->Wd K mg ρ' h1 H'->k a h1 ρ' H'->k' a h1 ρ' H'):PostG K mg ρ H E k' r:=by
 cases r with
 |ok d h=>exact λρ2 H2 l2 w2=>i _ _ _ _ l2 w2 (p ρ2 H2 l2 w2)
 |exc c h=>exact p
 |stuck=>exact p
def PostG.bind(p:PostG K mg ρ H E k (r.bind f)):PostG K mg ρ H E (λa h1 ρ' H'=>PostG K mg ρ' H' E k (f a h1)) r:=by
 cases r with
 |ok d h=>exact λρ2 H2 l2 w2=>PostG.mono l2 p
 |exc c h=>exact p
 |stuck=>exact p
def PostS.mono(l:Le ρ H ρ' H')(p:PostS K mg ρ H De ES r):PostS K mg ρ' H' De ES r:=by
 cases r with
 |nx ae h=>exact λρ2 H2 σ l2=>p ρ2 H2 σ (l.trans l2)
 |bk ae h=>exact λρ2 H2 σ l2=>p ρ2 H2 σ (l.trans l2)
 |ct ae h=>exact λρ2 H2 σ l2=>p ρ2 H2 σ (l.trans l2)
 |rt d h=>exact λρ2 H2 v l2=>p ρ2 H2 v (l.trans l2)
 |exc c ae h=>exact λρ2 H2 σ C l2=>p ρ2 H2 σ C (l.trans l2)
 |stuck=>exact p
end
section
variable{X:Cx}{e:Expr}{es:List Expr}{st:Stmt}{sts:List Stmt}
def PE.imp(h:PE X e t)(k:∀σ H Q,t' σ H Q->t σ H Q):PE X e t':=λpins s σ H Q I w=>h pins s σ H Q I (k σ H Q w)
def PT.imp(h:PT X e t)(k:∀σ H Q,t' σ H Q->t σ H Q):PT X e t':=λpins s σ H Q I w=>h pins s σ H Q I (k σ H Q w)
def PW.imp(h:PW X e t)(k:∀σ H Q,t' σ H Q->t σ H Q):PW X e t':=λwh pins s σ H Q I w=>h wh pins s σ H Q I (k σ H Q w)
def PA.imp(h:PA X es t)(k:∀σ H Q,t' σ H Q->t σ H Q):PA X es t':=λpos pins s σ H Q I w=>h pos pins s σ H Q I (k σ H Q w)
def PS.imp(h:PS X st t)(k:∀D σ H,t' D σ H->t D σ H):PS X st t':=λpins s σ H D I w=>h pins s σ H D I (k D σ H w)
def PSs.imp(h:PSs X sts t)(k:∀D σ H,t' D σ H->t D σ H):PSs X sts t':=λpins s σ H D I w=>h pins s σ H D I (k D σ H w)
def PG.imp(h:PG X e t)(k:∀v σ H Q,t' v σ H Q->t v σ H Q):PG X e t':=λpins s σ H v u Q I r w=>h pins s σ H v u Q I r (k v σ H Q w)
def PGs.imp(h:PGs X es t)(k:∀v σ H Q,t' v σ H Q->t v σ H Q):PGs X es t':=λpins s σ H v u Q I r w=>h pins s σ H v u Q I r (k v σ H Q w)
def PO.imp(h:PO X o t)(k:∀σ H Q,t' σ H Q->t σ H Q):PO X o t':=λpins s σ H Q I w=>h pins s σ H Q I (k σ H Q w)
end
section
variable(K:W.Frag)(mg:Ra)(X:Cx)(ES:St->XK)
def DE(e:Expr)(F:ME):Prop:=PE X e (rdE K mg ES F)
def DT(e:Expr)(F:MT):Prop:=PT X e (rdT K mg ES F)
def DW(e:Expr)(F:MT):Prop:=PW X e (rdT K mg ES F)
def DA(es:List Expr)(F:MA):Prop:=PA X es (rdA K mg ES F)
def DS(st:Stmt)(F:MS):Prop:=PS X st (rdS K mg ES F)
def DSs(st:List Stmt)(F:MS):Prop:=PSs X st (rdS K mg ES F)
end
def OpD(K:W.Frag)(mg:Ra)(r:R2)(g:D->D->AH->R D):Prop:=∀ρ h H dx dy x y Q E,Wd K mg ρ h H->RelD K mg ρ H dx x->RelD K mg ρ H dy y->dk K mg ρ H Q E (g dx dy h)->r x y H Q
def UnD(K:W.Frag)(mg:Ra)(r:V->Hp->VK->Prop)(g:D->AH->R D):Prop:=∀ρ h H dx x Q E,Wd K mg ρ h H->RelD K mg ρ H dx x->dk K mg ρ H Q E (g dx h)->r x H Q
def bA(K:W.Frag)(mg:Ra)(r:List V->Hp->VK->Prop)(g:Fn):Prop:=∀ρ h H ds vs Q E,Wd K mg ρ h H->RelDs K mg ρ H ds vs->dk K mg ρ H Q E (g ds h)->r vs H Q
def aM(i:Nat):ME:=λae h=>match ae[i]? with
 |some (some d)=>.ok d h
 |_=>.stuck
def eC(d:D):ME:=λ_ h=>.ok d h
def eOp(g:D->D->AH->R D)(F G:ME):ME:=λae h=>(F ae h).bind λx h1=>(G ae h1).bind λy h2=>g x y h2
def eUn(g:D->AH->R D)(F:ME):ME:=λae h=>(F ae h).bind g
def dW:MA:=λ_ h=>.ok [] h
def dm(F:ME)(G:MA):MA:=λae h=>(F ae h).bind λx h1=>(G ae h1).bind λxs h2=>.ok (x::xs) h2
def eFn(g:Fn)(A:MA):ME:=λae h=>(A ae h).bind g
def mR(ds:List D)(h:AH):R D:=if ds.length<=16777216 then .ok (.tup ds) h else .stuck
def bI(ds:List D)(h:AH):R D:=if ds.length<=16777216 then .ok (.ref h.length) (h++[.lst ds]) else .stuck
def asB(d:D)(h:AH):R Bool:=match d with
 |.bl b=>.ok b h
 |_=>.stuck
noncomputable def BB(F G:ME):ME:=λae h=>(F ae h).bind λx h1=>(asB x h1).bind λb h2=>if b=true then G ae h2 else .ok (.bl false) h2
noncomputable def Ct(F:ME):ME:=λae h=>(F ae h).bind λx h1=>(asB x h1).bind λb h2=>.ok (.bl (!b)) h2
def eIf(c:MT)(F G:ME):ME:=λae h=>(c ae h).bind λb h1=>if b=true then F ae h1 else G ae h1
def tOf(F:ME):MT:=λae h=>(F ae h).bind asB
def tAn(c d:MT):MT:=λae h=>(c ae h).bind λb h1=>if b=true then d ae h1 else .ok false h1
def tO(c d:MT):MT:=λae h=>(c ae h).bind λb h1=>if b=true then .ok true h1 else d ae h1
def tNo(c:MT):MT:=λae h=>(c ae h).bind λb h1=>.ok (!b) h1
section
variable{K:W.Frag}{mg:Ra}{ρ:List Addr}{H:Hp}{h:AH}
def gG(w:Wd K mg ρ h H)(rs:RelDs K mg ρ H ds vs)(hp:H p=none)(q:dk K mg ρ H Q E (.ok (.ref h.length) (h++[.lst ds]))):Q (.ref p) (upd H p (.lst vs)):=by
 have l:Le ρ H (ρ++[p]) (upd H p (.lst vs)):=(cx hp).trans iO
 refine q (ρ++[p]) _ l (w.alloc hp ⟨vs,a8,rs.mono l⟩) _ (.ref ?_)
 rw[<- w.len,I_ (m_ _),PC]
 rfl
def jj(w:Wd K mg ρ h H)(rs:RelDs K mg ρ H ds vs)(hp:H p=none)(q:dk K mg ρ H Q E (.ok (.tup ds) h)):Q (.ref p) (upd H p (.tup vs)):=
 q ρ _ (cx hp) (w.tuple hp) _ (.tup (SqT.of a8) (rs.mono (cx hp)))
def ay(w:Wd K mg ρ h H)(r:RelD K mg ρ H d v)(q:dk K mg ρ H Q E (.ok d h)):Q v H:=q ρ H Le.refl w v r
end
section
variable{K:W.Frag}{mg:Ra}{X:Cx}{ES:St->XK}{e a b c:Expr}{es:List Expr}{F G:ME}{A:MA}{cf cg:MT}{pos:Pos}
def GS(i:Nat)(hN:X.N[i]?=some x)(hv:Vis X.env.scope x)(hd:(x==("__debug__" : Str))=false)
 (hcd:(x==("__classdict__" : Str))=false):DE K mg X ES (.Name x pos) (aM i):=PE.imp (Kl hN hv hd hcd) λσ H Q q_=>q_.el λρ h ae w re p=>by
 unfold aM at p
 split at p
 ·rename_i d ed
  obtain⟨v,e1,r⟩:=re.at_ i d ed
  exact⟨v,e1,ay w r p⟩
 ·exact p.elim
def lr(hp:PE X e (tC v))(r:∀ρ H,RelD K mg ρ H d v):DE K mg X ES e (eC d):=PE.imp hp λσ H Q q_=>q_.el λρ h ae w re p=>ay w (r ρ H) p
def Ho:DE K mg X ES (.Constant (.int i) j pos) (eC (.int i)):=lr Kg λ_ _=>.int i
def Ls:DE K mg X ES (.Constant (.bool i) j pos) (eC (.bl i)):=lr LX λ_ _=>.bl i
def Io:DE K mg X ES (.Constant .none j pos) (eC .non):=lr Il λ_ _=>.non
def IS:DE K mg X ES (.Constant (.str x) j pos) (eC (.str x)):=lr zp λ_ _=>.str x
def Lg(hg:Gl X x)(ha:∃a,mg x=some (.ref a))(hm:X.mg=mg)(hd:(x==("__debug__" : Str))=false):DE K mg X ES (.Name x pos) (eC (.glb x)):=by
 subst hm
 obtain⟨a,ha⟩:=ha
 exact lr (vh hg ha (v:=.ref a) rfl hd) λ_ _=>.glb ha
structure GC(K:W.Frag)(mg:Ra)(x:Str)(d:D):Prop where
 ex:∃u v,mg x=some u/\RelV v u/\∀ρ H,RelD K mg ρ H d v
def Lv(hg:Gl X x)(ha:GC K mg x d)(hm:X.mg=mg)(hd:(x==("__debug__" : Str))=false):DE K mg X ES (.Name x pos) (eC d):=by
 subst hm
 obtain⟨u,v,h1,h2,h3⟩:=ha.ex
 exact lr (vh hg h1 h2 hd) h3
def Ny(hg:Gl X x)(hm:mg x=none)(hv:bootBuiltins x=some (.type n))(he:X.mg=mg)(hn:x ≠ "__name__")(hd:(x==("__debug__" : Str))=false):DE K mg X ES (.Name x pos) (eC (.ty n)):=by
 subst he
 exact lr (DV hg hm hv (v:=.ty n) rfl hn hd) λ_ _=>.ty n
def qw(hd:OpD K mg r g)(σ:St)(H:Hp)(Q:VK)(q:rdE K mg ES (eOp g F G) σ H Q):tOp r (rdE K mg ES F) (rdE K mg ES G) σ H Q:=by
 obtain⟨ρ,h,ae,w,re,p⟩:=q
 exact⟨ρ,h,ae,w,re,p.bind.imp λdx h1 ρ1 H1 l1 w1 p1 x rx=>⟨ρ1,h1,ae,w1,re.mono l1,p1.bind.imp λdy h2 ρ2 H2 l2 w2 p2 y ry=>hd ρ2 h2 H2 dx dy x y Q _ w2 (rx.mono l2) ry p2⟩⟩
def LK(ho:OpR X (binaryOp op) r)(hd:OpD K mg r g)(ha:DE K mg X ES a F)(hb:DE K mg X ES b G):DE K mg X ES (.BinOp a op b pos) (eOp g F G):=PE.imp (NG ho ha hb) (qw hd)
def C7(hr:IxR X r)(hd:OpD K mg r g)(ha:DE K mg X ES a F)(hb:DE K mg X ES b G)(hs:kc b):DE K mg X ES (.Subscript a b pos) (eOp g F G):=PE.imp (Np hr ha hb hs) (qw hd)
def Lj(ho:OpR X (compareOp op) r)(hd:OpD K mg r g)(ha:DE K mg X ES a F)(hb:DE K mg X ES b G)(hm:behindInMarks op b=false):DE K mg X ES (.Compare a [op] [b] pos) (eOp g F G):=PE.imp (FV ho ha hb hm) (qw hd)
def uj(σ:St)(H:Hp)(Q:Bool->Hp->Prop)(q:rdT K mg ES (tOf F) σ H Q):rdE K mg ES F σ H λx H'=>∃k,x=.bl k/\Q k H':=by
 obtain⟨ρ,h,ae,w,re,p⟩:=q
 refine⟨ρ,h,ae,w,re,p.bind.imp λd h1 ρ1 H1 l1 w1 p1 x rx=>?_⟩
 unfold asB at p1
 split at p1
 ·cases rx;exact⟨_,rfl,p1 ρ1 H1 Le.refl w1⟩
 ·exact p1.elim
def IQ(ho:OpR X (compareOp op) r)(hd:OpD K mg r g)(ha:DE K mg X ES a F)(hb:DE K mg X ES b G)(hm:behindInMarks op b=false):DT K mg X ES (.Compare a [op] [b] pos) (tOf (eOp g F G)):=
 PT.imp (Ei ho ha hb hm) λσ H Q q=>qw hd σ H _ (uj σ H Q q)
def G0(ha:DE K mg X ES a F)(he:∀c_,isTrue a X.env c_=(do let v <- c_;standAt a.pos;holding [v] (truthy v))):DT K mg X ES a (tOf F):=
 PT.imp (Ii ha he) λσ H Q q=>uj σ H Q q
def IH(ha:DT K mg X ES a cf):DT K mg X ES (.UnaryOp .Not a pos) (tNo cf):=PT.imp (Kt ha) λσ H Q q_=>q_.el λρ h ae w re p=>
 ⟨ρ,h,ae,w,re,p.bind.imp λb h1 ρ1 H1 l1 w1 p1=>p1 ρ1 H1 Le.refl w1⟩
def DD(ha:DT K mg X ES a cf):DW K mg X ES (.BoolOp .And [a] pos) cf:=EV ha
def HF(ha:DT K mg X ES a cf):DW K mg X ES (.BoolOp .Or [a] pos) cf:=KD ha
def Kx(ha:DT K mg X ES a cf)(hb:DW K mg X ES (.BoolOp .And (b::es) pos) cg):DW K mg X ES (.BoolOp .And (a::b::es) pos) (tAn cf cg):=PW.imp (IA ha hb) λσ H Q q_=>q_.el λρ h ae w re p=>
 ⟨ρ,h,ae,w,re,p.bind.imp λb h1 ρ1 H1 l1 w1 p1=>by
  cases b with
  |true=>exact⟨ρ1,h1,ae,w1,re.mono l1,p1⟩
  |false=>exact p1 ρ1 H1 Le.refl w1⟩
def MK(ha:DT K mg X ES a cf)(hb:DW K mg X ES (.BoolOp .Or (b::es) pos) cg):DW K mg X ES (.BoolOp .Or (a::b::es) pos) (tO cf cg):=PW.imp (Lu ha hb) λσ H Q q_=>q_.el λρ h ae w re p=>
 ⟨ρ,h,ae,w,re,p.bind.imp λb h1 ρ1 H1 l1 w1 p1=>by
  cases b with
  |true=>exact p1 ρ1 H1 Le.refl w1
  |false=>exact⟨ρ1,h1,ae,w1,re.mono l1,p1⟩⟩
def DW.dt(h:DW K mg X ES a cf):DT K mg X ES a cf:=PW.pt h
def KC{op}(h:DE K mg X ES a F):DE K mg X ES (.BoolOp op [a] pos) F:=J2 h
def Hn(ha:DE K mg X ES a F)(hb:DE K mg X ES (.BoolOp .And (b::es) pos) G):DE K mg X ES (.BoolOp .And (a::b::es) pos) (BB F G):=PE.imp (GL ha hb) λσ H Q q_=>q_.el λρ h ae w re p=>by
 refine⟨ρ,h,ae,w,re,p.bind.imp λd h1 ρ1 H1 l1 w1 p1 x rx=>?_⟩
 unfold asB at p1
 split at p1
 ·rename_i b'
  cases rx
  refine⟨b',rfl,?_⟩
  cases b' with
  |true=>exact⟨ρ1,h1,ae,w1,re.mono l1,p1⟩
  |false=>exact p1 ρ1 H1 Le.refl w1 _ (.bl false)
 ·exact p1.elim
def JX(ha:DE K mg X ES a F):DE K mg X ES (.UnaryOp .Not a pos) (Ct F):=PE.imp (Ig ha) λσ H Q q_=>q_.el λρ h ae w re p=>by
 refine⟨ρ,h,ae,w,re,p.bind.imp λd h1 ρ1 H1 l1 w1 p1 x rx=>?_⟩
 unfold asB at p1
 split at p1
 ·cases rx
  exact⟨_,rfl,p1 ρ1 H1 Le.refl w1 _ (.bl _)⟩
 ·exact p1.elim
def OA(hc:DT K mg X ES c cf)(ha:DE K mg X ES a F)(hb:DE K mg X ES b G):DE K mg X ES (.IfExp c a b pos) (eIf cf F G):=PE.imp (Bj hc ha hb) λσ H Q q_=>q_.el λρ h ae w re p=>
 ⟨ρ,h,ae,w,re,p.bind.imp λb h1 ρ1 H1 l1 w1 p1=>by
  cases b with
  |true=>exact⟨ρ1,h1,ae,w1,re.mono l1,p1⟩
  |false=>exact⟨ρ1,h1,ae,w1,re.mono l1,p1⟩⟩
def Mp(ho:UnR X (unaryOp op) r)(hd:UnD K mg r g)(ha:DE K mg X ES a F):DE K mg X ES (.UnaryOp op a pos) (eUn g F):=PE.imp (Nh ho ha) λσ H Q q_=>q_.el λρ h ae w re p=>
 ⟨ρ,h,ae,w,re,p.bind.imp λd h1 ρ1 H1 l1 w1 p1 x rx=>hd ρ1 h1 H1 d x Q _ w1 rx p1⟩
def zx:DA K mg X ES [] dW:=PA.imp J6 λσ H Q q_=>q_.el λρ h ae w re p=>p ρ H Le.refl w _ .nil
def vn(ha:DE K mg X ES e F)(hr:DA K mg X ES es A)(hs:starEach (e::es) X.env=(false,eval e X.env)::starEach es X.env):DA K mg X ES (e::es) (dm F A):=PA.imp (Fq ha hr hs) λσ H Q q_=>q_.el λρ h ae w re p=>
 ⟨ρ,h,ae,w,re,p.bind.imp λd h1 ρ1 H1 l1 w1 p1 x rx=>⟨ρ1,h1,ae,w1,re.mono l1,p1.bind.imp λds h2 ρ2 H2 l2 w2 p2 vs rs=>p2 ρ2 H2 Le.refl w2 _ (.cons (rx.mono l2) rs)⟩⟩
def HS{x1}(h:DA K mg X ES es A):DE K mg X ES (.Tuple es x1 pos) (eFn mR A):=PE.imp (Jf h) λσ H Q q_=>q_.el λρ h ae w re p=>
 ⟨ρ,
  h,ae,w,re,p.bind.imp λds h1 ρ1 H1 l1 w1 p1 vs rs=>by
  unfold mR at p1
  split at p1
  ·rename_i hl
   exact⟨by rw[<- rs.len];exact hl,λq hq=>jj w1 rs hq p1⟩
  ·exact p1.elim⟩
def Jw(h:DA K mg X ES es A):DE K mg X ES (.List es pos) (eFn bI A):=PE.imp (Jh h) λσ H Q q_=>q_.el λρ h ae w re p=>
 ⟨ρ,
  h,ae,w,re,p.bind.imp λds h1 ρ1 H1 l1 w1 p1 vs rs=>by
  unfold bI at p1
  split at p1
  ·rename_i hl
   exact⟨by rw[<- rs.len];exact hl,λq hq=>gG w1 rs hq p1⟩
  ·exact p1.elim⟩
def Dj(hd:bA K mg r g)(σ:St)(H:Hp)(Q:VK)(q:rdE K mg ES (eFn g A) σ H Q):tCB r (rdA K mg ES A) σ H Q:=by
 obtain⟨ρ,h,ae,w,re,p⟩:=q
 exact⟨ρ,h,ae,w,re,p.bind.imp λds h1 ρ1 H1 l1 w1 p1 vs rs=>hd ρ1 h1 H1 ds vs Q _ w1 rs p1⟩
def Ah{id:String}{r:List V->Hp->VK->Prop}{g:Fn}{x:Str}{p:Pos}(hc:CallR X (.builtin id) r)(hd:bA K mg r g)(hg:Gl X x)(hm:mg x=none)(hv:bootBuiltins x=some (.builtin id))(ha:DA K mg X ES (e::es) A)(hk:X.mg=mg)(hn:x ≠ "__name__")(hdb:(x==("__debug__" : Str))=false)
 (he:starEach (e::es) X.env=(false,eval e X.env)::starEach es X.env) (hpl:(backTo pos (starEach es X.env)).any (·.1)=false):DE K mg X ES (.Call (.Name x p) (e::es) [] pos) (eFn g A):=by
 subst hk
 exact PE.imp (B5 hc hg hm hv ha hn hdb he hpl) (Dj hd)
def xV(hc:CallR X (.type T) r)(hd:bA K mg r g)(hg:Gl X x)(hm:mg x=none)(hv:bootBuiltins x=some (.type T))(ha:DA K mg X ES (e::es) A)(hk:X.mg=mg)(hn:x ≠ "__name__")(hdb:(x==("__debug__" : Str))=false)
 (he:starEach (e::es) X.env=(false,eval e X.env)::starEach es X.env) (hpl:(backTo pos (starEach es X.env)).any (·.1)=false):DE K mg X ES (.Call (.Name x p) (e::es) [] pos) (eFn g A):=by
 subst hk
 exact PE.imp (yU hc hg hm hv ha hn hdb he hpl) (Dj hd)
end
def SR.then(r:SR)(f:AE->AH->SR):SR:=match r with
 |.nx ae h=>f ae h
 |.rt d h=>.rt d h
 |.bk ae h=>.bk ae h
 |.ct ae h=>.ct ae h
 |.exc c ae h=>.exc c ae h
 |.stuck=>.stuck
def R.toS{α:Type}(r:R α)(ae:AE)(f:α->AH->SR):SR:=match r with
 |.ok a h=>f a h
 |.exc c h=>.exc c ae h
 |.stuck=>.stuck
def sNx:MS:=λae h=>.nx ae h
def wH:MS:=λ_ h=>.rt .non h
def gF(F G:MS):MS:=λae h=>(F ae h).then G
def Cf(F:ME):MS:=λae h=>(F ae h).toS ae λd h1=>.rt d h1
def gp(F:ME):MS:=λae h=>(F ae h).toS ae λ_ h1=>.nx ae h1
def sIf(c:MT)(F G:MS):MS:=λae h=>(c ae h).toS ae λb h1=>if b=true then F ae h1 else G ae h1
abbrev MG:=D->AE->AH->R AE
abbrev MGs:=List D->AE->AH->R AE
def f6(F:ME)(g:MG):MS:=λae h=>(F ae h).toS ae λd h1=>(g d ae h1).toS ae λa_ h2=>.nx a_ h2
def gN(i:Nat):MG:=λd ae h=>.ok (ae.set i (some d)) h
def gsN:MGs:=λds ae h=>match ds with
 | []=>.ok ae h
 |_=>.stuck
def gsC(g:MG)(u:MGs):MGs:=λds ae h=>match ds with
 |d::r=>(g d ae h).bind λa_ h'=>u r a_ h'
 | []=>.stuck
def gT(u:MGs):MG:=λd ae h=>match d with
 |.tup ds=>u ds ae h
 |_=>.stuck
noncomputable def gS(F G:ME)(w:D->D->D->AH->R Unit):MG:=λv ae h=>(F ae h).bind λo h1=>(G ae h1).bind λi h2=>(w o i v h2).bind λ_ h3=>.ok ae h3
noncomputable def Aw(i j:Nat)(A:MA):MS:=λae h=>(A ae h).toS ae λds h1=>match ds with
 | [d,e]=>.nx ((ae.set i (some d)).set j (some e)) h1
 |_=>.stuck
noncomputable def sF(i:Nat)(g:D->D->AH->R D)(F:ME):MS:=λae h=>match ae[i]? with
 |some (some x)=>(F ae h).toS ae λy h1=>(g x y h1).toS ae λz h2=>.nx (ae.set i (some z)) h2
 |_=>.stuck
def sW(c:Str)(A:MA):MS:=λae h=>(A ae h).toS ae λds h1=>if ds.length<=16777216 then .exc c ae h1 else .stuck
section
variable(K:W.Frag)(mg:Ra)
def rdG(ES:St->XK)(g:MG):TG:=λv σ H Q=>∃ρ h ae d,Wd K mg ρ h H/\RelE K mg ρ H ae σ/\RelD K mg ρ H d v/\PostG K mg ρ H (ES σ) (λa_ _ ρ' H'=>∀σ',RelE K mg ρ' H' a_ σ'->Q σ' H') (g d ae h)
def rdGs(ES:St->XK)(g:MGs):TGs:=λvs σ H Q=>∃ρ h ae ds,Wd K mg ρ h H/\RelE K mg ρ H ae σ/\RelDs K mg ρ H ds vs/\PostG K mg ρ H (ES σ) (λa_ _ ρ' H'=>∀σ',RelE K mg ρ' H' a_ σ'->Q σ' H') (g ds ae h)
def DG(X:Cx)(ES:St->XK)(e:Expr)(g:MG):Prop:=PG X e (rdG K mg ES g)
def DGs(X:Cx)(ES:St->XK)(es:List Expr)(g:MGs):Prop:=PGs X es (rdGs K mg ES g)
def fM(X:Cx)(ES:St->XK):Prop:=∀(pins:Rb) (σ:St) (H:Hp) (s:Shared) (e:Value) (s':Shared),Inv X pins σ H s->CX1 X.prog X.w X.stack H s (ES σ) e s'->X.xe e s'
end
def rdG.el{K:W.Frag}{mg:Ra}{ES:St->XK}{g:MG}{v:V}{σ:St}{H:Hp}{Q:St->Hp->Prop}{C:Prop}(q:rdG K mg ES g v σ H Q)(k:∀ρ h ae d,Wd K mg ρ h H->RelE K mg ρ H ae σ->RelD K mg ρ H d v->PostG K mg ρ H (ES σ) (λa_ _ ρ' H'=>∀σ',RelE K mg ρ' H' a_ σ'->Q σ' H') (g d ae h)->C):C:=by
 obtain⟨ρ,h,ae,d,w,re,rd,p⟩:=q
 exact k ρ h ae d w re rd p
def rdGs.el{K:W.Frag}{mg:Ra}{ES:St->XK}{g:MGs}{v:List V}{σ:St}{H:Hp}{Q:St->Hp->Prop}{C:Prop}(q:rdGs K mg ES g v σ H Q)(k:∀ρ h ae d,Wd K mg ρ h H->RelE K mg ρ H ae σ->RelDs K mg ρ H d v->PostG K mg ρ H (ES σ) (λa_ _ ρ' H'=>∀σ',RelE K mg ρ' H' a_ σ'->Q σ' H') (g d ae h)->C):C:=by
 obtain⟨ρ,h,ae,d,w,re,rd,p⟩:=q
 exact k ρ h ae d w re rd p
section
variable{K:W.Frag}{mg:Ra}{X:Cx}{ES:St->XK}{ρ:List Addr}{H:Hp}{h:AH}{ae:AE}{σ:St}{De:Ends}
def bQ(p:PostS K mg ρ H De ES (r.toS ae f))(re:RelE K mg ρ H ae σ)
 (i:∀a h1 ρ1 H1,Le ρ H ρ1 H1->Wd K mg ρ1 h1 H1->RelE K mg ρ1 H1 ae σ->PostS K mg ρ1 H1 De ES (f a h1)->k a h1 ρ1 H1):PostG K mg ρ H (ES σ) k r:=by
 cases r with
 |ok a h1=>exact λρ1 H1 l1 w1=>i a h1 ρ1 H1 l1 w1 (re.mono l1) (PostS.mono l1 p)
 |exc c h1=>exact λρ1 H1 C l1 w1 m=>p ρ1 H1 σ C l1 w1 (re.mono l1) m
 |stuck=>exact p
def gk(p:PostS K mg ρ H De ES (.nx a_ h))(w:Wd K mg ρ h H)(re:RelE K mg ρ H a_ σ):De.nx σ H:=p ρ H σ Le.refl w re
def AM(p:PostS K mg ρ H De ES (r.then f))(i:∀ae1 h1 ρ1 H1 σ1,Le ρ H ρ1 H1->Wd K mg ρ1 h1 H1->RelE K mg ρ1 H1 ae1 σ1->PostS K mg ρ1 H1 De ES (f ae1 h1)->N σ1 H1):PostS K mg ρ H { De with nx:=N } ES r:=by
 cases r with
 |nx ae1 h1=>exact λρ1 H1 σ1 l1 w1 re1=>i ae1 h1 ρ1 H1 σ1 l1 w1 re1 (PostS.mono l1 p)
 |rt d h1=>exact p
 |bk ae1 h1=>exact p
 |ct ae1 h1=>exact p
 |exc c ae1 h1=>exact p
 |stuck=>exact p
end
section
variable{K:W.Frag}{mg:Ra}{X:Cx}{ES:St->XK}{e a b c o i:Expr}{es:List Expr}{st:Stmt}{sts sts':List Stmt}{F G:ME}{A:MA}{cf:MT}{U V':MS}{g:MG}{gs:MGs}{pos:Pos}
def F2:DSs K mg X ES [] sNx:=PSs.imp DM λD σ H q_=>q_.el λρ h ae w re p=>gk p w re
def uR(h1:DS K mg X ES st U):DSs K mg X ES [st] U:=ER h1
def lI(h1:DS K mg X ES st U)(h2:DSs K mg X ES sts V'):DSs K mg X ES (st::sts) (gF U V'):=PSs.imp (Bt h1 h2) λD σ H q_=>q_.el λρ h ae w re p=>
 ⟨ρ,h,ae,w,re,AM p λae1 h1 ρ1 H1 σ1 l1 w1 re1 p1=>⟨ρ1,h1,ae1,w1,re1,p1⟩⟩
def Eg:DS K mg X ES (.Return none pos) wH:=PS.imp Fv λD σ H q_=>q_.el λρ h ae w re p=>p ρ H _ Le.refl w .non
def GD(he:DE K mg X ES e F):DS K mg X ES (.Return (some e) pos) (Cf F):=PS.imp (Kv he) λD σ H q_=>q_.el λρ h ae w re p=>
 ⟨ρ,h,ae,w,re,bQ p re λd h1 ρ1 H1 l1 w1 re1 p1 v rv=>p1 ρ1 H1 v Le.refl w1 rv⟩
def uV(he:DE K mg X ES e F)(hs:swapsWith e none pos.line X.env=pure false):DS K mg X ES (.Expr e pos) (gp F):=PS.imp (FD he hs) λD σ H q_=>q_.el λρ h ae w re p=>
 ⟨ρ,h,ae,w,re,bQ p re λd h1 ρ1 H1 l1 w1 re1 p1 v rv=>gk p1 w1 re1⟩
def M0(hc:DT K mg X ES c cf)(ha:DSs K mg X ES sts U)(hb:DSs K mg X ES sts' V'):DS K mg X ES (.If c sts sts' pos) (sIf cf U V'):=PS.imp (LJ hc ha hb) λD σ H q_=>q_.el λρ h ae w re p=>
 ⟨ρ,h,ae,w,re,bQ p re λb h1 ρ1 H1 l1 w1 re1 p1=>by
  cases b with
  |true=>exact⟨ρ1,h1,ae,w1,re1,p1⟩
  |false=>exact⟨ρ1,h1,ae,w1,re1,p1⟩⟩
def Gg{i:Nat}{x:Str}(hN:X.N.Nodup)(hi:X.N[i]?=some x)(hx:Loc X.env.scope x)(hf:X.fn x=true\/X.env.scope.names.lookup x=some .local):DG K mg X ES (.Name x pos) (gN i):=
 PG.imp (Fd hN hi hx hf) λv σ H Q q_=>q_.el λρ h ae d w re rd p=>p ρ H Le.refl w _ (re.set i rd)
def F5:DGs K mg X ES [] gsN:=PGs.imp FA λvs σ H Q q_=>q_.el λρ h ae ds w re rd p=>by
 cases rd with
 |nil=>exact⟨rfl,p ρ H Le.refl w _ re⟩
 |cons r rr=>exact p.elim
def Ar(h1:DG K mg X (λ_=>E0) e g)(h2:DGs K mg X (λ_=>E0) es gs)
 (hs:(assignEach (e::es) X.env).map (·.2)=assign e X.env::(assignEach es X.env).map (·.2)):DGs K mg X (λ_=>E0) (e::es) (gsC g gs):=PGs.imp (CD h1 h2 hs) λvs σ H Q q_=>q_.el λρ h ae ds w re rd p=>by
 cases rd with
 |nil=>exact p.elim
 |cons r rr=>exact⟨_,_,rfl,ρ,h,ae,_,w,re,r,p.bind.imp λae1 h1 ρ1 H1 l1 w1 p1 σ1 re1=>⟨ρ1,h1,ae1,_,w1,re1,rr.mono l1,p1⟩⟩
def HC{k n:Nat}(hK:X.K=K)(hc:X.calm=true)(h:DGs K mg X (λ_=>E0) es gs)
 (hn:(assignEach es X.env).length=n) (hst:(assignEach es X.env).findIdx? (·.1)=none):DG K mg X (λ_=>E0) (.Tuple es k pos) (gT λds ae h=>if ds.length=n then gs ds ae h else .stuck):=by
 subst hK
 refine PG.imp (HN hc h hn hst) λv σ H Q q_=>q_.el λρ h ae d w re rd p=>?_
 unfold gT at p
 cases rd with
 |
  tup q rs=>
  dsimp only at p
  split at p
  ·rename_i hl
   exact⟨_,_,rfl,q,by rw[<- rs.len];exact hl,ρ,h,ae,_,w,re,rs,p⟩
  ·exact p.elim
 |_=>exact p.elim
def noX{α:Type}(r:R α):R α:=match r with
 |.exc _ _=>.stuck
 |.ok a h=>.ok a h
 |.stuck=>.stuck
def DG.weak(hg:DG K mg X (λ_=>E0) e g):DG K mg X ES e (λd ae h=>noX (g d ae h)):=PG.imp hg λv σ H Q q_=>q_.el λρ h ae d w re rd p=>by
 refine⟨ρ,h,ae,d,w,re,rd,?_⟩
 try dsimp only at p
 cases q:g d ae h with
 |ok a h1=>rw[q] at p;exact p
 |exc c h1=>rw[q] at p;exact p.elim
 |stuck=>rw[q] at p;exact p.elim
def nW(K:W.Frag)(mg:Ra)(r:vY)(f:D->D->D->AH->R Unit):Prop:=∀ρ h H do_ di dv o i v (Q:Hp->Prop) E,Wd K mg ρ h H->RelD K mg ρ H do_ o->RelD K mg ρ H di i->RelD K mg ρ H dv v->PostG K mg ρ H E (λ_ _ _ H'=>Q H') (f do_ di dv h)->r o i v H Q
def yA(he:DE K mg X ES e F)(hg:DG K mg X ES a g)(hs:swapsWithSole [a] e pos.line X.env=pure false)(hw:swappedStores [a] e X.env=pure none)
 (h1:(assignEach [a] X.env).map (·.2)=[assign a X.env]):DS K mg X ES (.Assign [a] e pos) (f6 F g):=PS.imp (GI he hg hs hw h1) λD σ H q_=>q_.el λρ h ae w re p=>
 ⟨ρ,h,ae,w,re,bQ p re λd h1 ρ1 H1 l1 w1 re1 p1 v rv=>⟨ρ1,h1,ae,d,w1,re1,rv,bQ p1 re1 λae2 h2 ρ2 H2 l2 w2 re2 p2 σ' re'=>gk p2 w2 re'⟩⟩
def Ij{i:Nat}{x:Str}{ii:Pos}(hN:X.N.Nodup)(hi:X.N[i]?=some x)(hx:Loc X.env.scope x)(he:DE K mg X ES e F)(hs:swapsWith e (some (.Name x ii)) pos.line X.env=pure false)(hf:X.fn x=true\/X.env.scope.names.lookup x=some .local):
 DS K mg X ES (.Assign [.Name x ii] e pos) (f6 F (gN i)):=PS.imp (JU hN hi hx he hs hf) λD σ H q_=>q_.el λρ h ae w re p=>
 ⟨ρ,h,ae,w,re,bQ p re λd h1 ρ1 H1 l1 w1 re1 p1 v rv=>gk p1 w1 (re1.set i rv)⟩
def GW{i j:Nat}{x y:Str}{px py pt:Pos}{kt k2 pt2}(hc:X.calm=true)(hN:X.N.Nodup)(hi:X.N[i]?=some x)(hj:X.N[j]?=some y)(im:i≠j)
 (hx:X.env.scope.names.lookup x=some .local) (hy:X.env.scope.names.lookup y=some .local) (ha:DA K mg X ES [a,b] A)
 (hw:swappedStores [.Tuple [.Name x px,.Name y py] kt pt] (.Tuple [a,b] k2 pt2) X.env=pure (some [x,y]))
 (hs:swapsWithSole [.Tuple [.Name x px,.Name y py] kt pt] (.Tuple [a,b] k2 pt2) pos.line X.env=pure false):
 DS K mg X ES (.Assign [.Tuple [.Name x px,.Name y py] kt pt] (.Tuple [a,b] k2 pt2) pos) (Aw i j A):=PS.imp (Lk hc hN hi hj im hx hy ha hw hs) λD σ H q_=>q_.el λρ h ae w re p=>
 ⟨ρ,h,ae,w,re,bQ p re λds h1 ρ1 H1 l1 w1 re1 p1 vs rs=>by
  split at p1
  ·cases rs with
   |
    cons r1 rs=>
    cases rs with
    |
     cons r2 rs=>
     cases rs
     exact⟨_,_,rfl,gk p1 w1 ((re1.set i r1).set j r2)⟩
  ·exact p1.elim⟩
def IpD(K:W.Frag)(mg:Ra)(r:TIp)(g:D->D->AH->R D):Prop:=∀ρ h H dx dy x y Q E,Wd K mg ρ h H->RelD K mg ρ H dx x->RelD K mg ρ H dy y->dk K mg ρ H Q E (g dx dy h)->r x y H Q
def Hg{i:Nat}{x:Str}{op:Operator}{ti:TIp}{ii:Pos}{gg:D->D->AH->R D}(hN:X.N.Nodup)(hi:X.N[i]?=some x)(hx:Loc X.env.scope x)(he:DE K mg X ES e F)(ho:PIp X op ti)(hd:IpD K mg ti gg)(hf:X.fn x=true\/X.env.scope.names.lookup x=some .local):
 DS K mg X ES (.AugAssign (.Name x ii) op e pos) (sF i gg F):=PS.imp (JG hN hi hx he ho hf) λD σ H q_=>q_.el λρ h ae w re p=>by
 unfold sF at p
 split at p
 ·rename_i d ed
  obtain⟨v,e1,r⟩:=re.at_ i d ed
  exact⟨v,e1,ρ,h,ae,w,re,bQ p re λdy h1 ρ1 H1 l1 w1 re1 p1 y ry=>hd ρ1 h1 H1 d dy v y _ _ w1 (r.mono l1) ry (bQ p1 re1 λdz h2 ρ2 H2 l2 w2 re2 p2 z rz=>gk p2 w2 (re2.set i rz))⟩
 ·exact p.elim
def CA(hc:X.calm=true)(hR:Rz X E)(hg:Gl X x)(hm:mg x=some (.ref C))(hq:W.excIn X.K C lg "ValueError.__new__"=true)(ha:DA K mg X (λ_=>E) (e::es) A)(hk:X.mg=mg)
 (he:starEach (e::es) X.env=(false,eval e X.env)::starEach es X.env) (ci:(backTo cpos (starEach es X.env)).any (·.1)=false) (hd:(x==("__debug__" : Str))=false):
 DS K mg X (λ_=>E) (.Raise (some (.Call (.Name x np) (e::es) [] cpos)) none pos) (sW x A):=by
 subst hk
 exact
  PS.imp (Bu hc hR hg hm hq ha he ci hd) λD σ H q_=>q_.el λρ h ae w re p=>
  ⟨ρ,
   h,ae,w,re,bQ p re λds h1 ρ1 H1 l1 w1 re1 p1 vs rs=>by
   split at p1
   ·rename_i hl
    exact⟨by rw[<- rs.len];exact hl,p1 ρ1 H1 σ C Le.refl w1 re1 hm⟩
   ·exact p1.elim⟩
def F8(C:Callee X.prog X.w X.K X.mg X.base x k ps (spD K mg n S))(hr:Room k X.A)(hg:Gl X x)(hx:fM X ES)(ha:DA K mg X ES (e::es) A)
 (hdb:(x==("__debug__" : Str))=false) (he:starEach (e::es) X.env=(false,eval e X.env)::starEach es X.env) (hpl:(backTo pos (starEach es X.env)).any (·.1)=false):
 DE K mg X ES (.Call (.Name x p) (e::es) [] pos) (eFn (λds h=>if ds.length=n then S ds h else .stuck) A):=by
 obtain⟨f,fd,F',m,kp,bb,_⟩:=C.ex
 intro pins s σ H Q I hh
 refine Qx (nK I hg m ?_ hdb)
 have rd:rdA K mg ES A σ H (λvs H1=>spD K mg n S vs H1 Q (ES σ)):=by
  obtain⟨ρ,h,ae,w,re,p⟩:=hh
  refine⟨ρ,h,ae,w,re,p.bind.imp λds h1 ρ1 H1 l1 w1 p1 vs rs=>?_⟩
  split at p1
  ·rename_i hl
   exact⟨ρ1,h1,ds,w1,rs,hl,p1⟩
  ·exact p1.elim
 refine W.callWith_K (h₀:=X.base) I.ok.mod.kin kp (OL (ha pos pins s σ H _ I rd) (λus s1 ⟨vs,H1,I1,r,q⟩=>⟨I1.kIn,?_⟩) λ_ _ z=>z) he hpl
 have hl:(us++[]).length=ps.length:=by rw[OS,<- r.length];exact F'.len _ _ _ _ q
 refine wpAny_call (codeAny_mono (F'.run X.A X.stack s1 H1 ⟨us,[]⟩ us vs Q (ES σ) hr I1.env0 (by simpa using bb s1 us I1.kIn hl) r q) λr s' hq=>?_)
 cases r with
 |error ex=>exact hx pins σ H1 s1 ex s' I1 hq
 |
  ok fl=>
  cases fl with
  |ret u=>exact I1.after hq
  |next=>exact False.elim hq
  |brk=>exact False.elim hq
  |cont=>exact False.elim hq
noncomputable def fnD(n:Nat)(F:MS):Fn:=λds h=>match F (ds.map some++List.replicate (n-ds.length) none) h with
 |.nx _ h'=>.ok .non h'
 |.rt d h'=>.ok d h'
 |.exc c _ h'=>.exc c h'
 |_=>.stuck
def tV(hp:qI (CX1 X.prog X.w) X E):fM X (λ_=>E):=λpins σ H s e s' I h=>hp pins σ H s e s' I h
def As:fM X (λ_=>E0):=λpins σ H s e s' I h=>MU pins σ H s e s' I h
end
section
variable{P:Program}{w:World}{K:W.Frag}{mg:Ra}{base:Heap}{x:Str}{st:Stmt}{k:Nat}{ps N:List Str}{F:MS}
def v9(rs:RelDs K mg ρ H ds vs):RelE K mg ρ H (ds.map some++List.replicate (N.length-ds.length) none) (fc N vs):=by
 unfold fc
 refine⟨by rw[p_,p_,j_,j_,O7,O7,rs.len],λi d e=>?_⟩
 by_cases hi:i<ds.length
 ·rw[J_ (by rw[j_];exact hi),z_] at e
  have e':ds[i]?=some d:=by
   cases q:ds[i]? with
   |none=>rw[q] at e;cases e
   |some z=>rw[q] at e;cases e;rfl
  obtain⟨v,h1,h2⟩:=rs.getD e'
  refine⟨v,?_,h2⟩
  rw[J_ (by rw[j_,<- rs.len];exact hi),z_,h1];rfl
 ·rw[I_ (by rw[j_];omega),OY] at e
  split at e <;> cases e
def Def.okD(D:Def K mg x st)(S:FnScope N ps (au st))
 (hb:∀(kV doc pm:Value) (an:Option Addr) (cdv ct:Value) (us:List Value),us.length=ps.length->bindArgs (W.fnOf x x (b0 st) (aY st) (au st) .none kV doc pm an cdv ct) ⟨us,[]⟩=pure (ps.zip us))
 (ge:∀(f:Addr) (cdv:Value) (A:Around) (outer:List Env) (s:Shared) (H:Hp) (E:XK),Room k (A.deeper (envOfC x (au st) s.heap.objs.size f cdv))->
  DSs K mg (dg (CX1 P w) P w K mg base N x (au st) f cdv A outer s H E) (λ_=>E) (aY st) F):Callee P w K mg base x (k+1) ps (spD K mg ps.length (fnD N.length F)):=by
 refine D.okR S hb (λvs H Q E ⟨ρ,h,ds,w,rs,hl,p⟩=>by rw[<- rs.len];exact hl) λf cdv A outer s H vs Q E hr ⟨ρ,h,ds,w',rs,hl,p⟩=>?_
 refine⟨_,ge f cdv A outer s H E hr,ρ,h,_,w',v9 rs,?_⟩
 unfold fnD at p
 split at p
 ·rename_i e;rw[e];exact λρ1 H1 σ1 l1 w1 re1=>p ρ1 H1 l1 w1 _ .non
 ·rename_i e;rw[e];exact λρ1 H1 v l1 w1 rv=>p ρ1 H1 l1 w1 v rv
 ·rename_i e;rw[e];exact λρ1 H1 σ1 C l1 w1 re1 m=>p ρ1 H1 C l1 w1 m
 ·exact p.elim
end
noncomputable def aV(h:AH)(n:Nat):Option (List D):=match h[n]? with
 |some (.lst xs)=>some xs
 |some (.fz xs)=>some xs
 |_=>none
noncomputable def cM(h:AH):D->Option (List D)
 |.tup xs=>some xs
 |.ref n=>aV h n
 |.kl xs=>some xs
 |_=>none
section
variable{K:W.Frag}{mg:Ra}{ρ:List Addr}{H:Hp}{h:AH}
def bZ(w:Wd K mg ρ h H)(ea:ρ[n]?=some a)(e:aV h n=some xs):∃vs,SqL K H a vs/\RelDs K mg ρ H xs vs:=by
 unfold aV at e
 split at e
 ·rename_i ys eo
  cases e
  obtain⟨vs,h1,h2⟩:=w.ob n a _ ea eo
  exact⟨vs,SqL.of h1,h2⟩
 ·rename_i ys eo
  cases e
  obtain⟨o,vs,h1,h2⟩:=w.ob n a _ ea eo
  exact⟨vs,.inl (.inr ⟨o,h1⟩),h2⟩
 ·cases e
def d4(w:Wd K mg ρ h H)(r:RelD K mg ρ H d v)(e:cM h d=some xs):∃p vs,v=.ref p/\(SqL K H p vs\/SqT K H p vs)/\RelDs K mg ρ H xs vs:=by
 cases r with
 |
  tup q rs=>
  have e':some _=some xs:=e
  cases e'
  exact⟨_,_,rfl,.inr q,rs⟩
 |
  ref ea=>
  obtain⟨vs,h1,h2⟩:=bZ w ea e
  exact⟨_,vs,rfl,.inl h1,h2⟩
 |
  kl q rs=>
  have e':some _=some xs:=e
  cases e'
  exact⟨_,_,rfl,.inl (.inr q),rs⟩
 |_=>cases e
end
def g2(f:Int->Int->R D)(x y:D):R D:=match x,y with
 |.int i,.int j=>f i j
 |_,_=>.stuck
def gI(f:Int->Int->D):D->D->AH->R D:=λx y h=>match x,y with
 |.int i,.int j=>.ok (f i j) h
 |_,_=>.stuck
open Classical in
def gIc(C:Int->Int->Prop)(f:Int->Int->D):D->D->AH->R D:=λx y h=>match x,y with
 |.int i,.int j=>if C i j then .ok (f i j) h else .stuck
 |_,_=>.stuck
section
variable{K:W.Frag}{mg:Ra}{X:Cx}
def iL(hr:∀i j ρ H,RelD K mg ρ H (g i j) (f i j)):OpD K mg (rI0 f) (gI g):=λρ h H dx dy x y Q E w rx ry p=>by
 unfold gI at p
 split at p
 ·cases rx;cases ry;exact⟨_,_,rfl,rfl,ay w (hr _ _ ρ H) p⟩
 ·exact p.elim
def lW(hr:∀i j ρ H,RelD K mg ρ H (g i j) (f i j)):OpD K mg (rI C f) (gIc C g):=λρ h H dx dy x y Q E w rx ry p=>by
 unfold gIc at p
 split at p
 ·cases rx;cases ry
  split at p
  ·rename_i hc;exact⟨_,_,rfl,rfl,hc,ay w (hr _ _ ρ H) p⟩
  ·exact p.elim
 ·exact p.elim
def gOr(g g':D->D->AH->R D):D->D->AH->R D:=λx y h=>match g x y h with
 |.stuck=>g' x y h
 |r=>r
def OpD.or(a:OpD K mg r g)(b:OpD K mg r' g'):OpD K mg (λx y H Q=>r x y H Q\/r' x y H Q) (gOr g g'):=λρ h H dx dy x y Q E w rx ry p=>by
 unfold gOr at p
 split at p
 ·exact .inr (b ρ h H dx dy x y Q E w rx ry p)
 ·exact .inl (a ρ h H dx dy x y Q E w rx ry p)
end
noncomputable def kX:D->D->AH->R D:=λx y h=>match x,y with
 |.ref n,.ref m=>match h[n]?,h[m]? with
  |some (.lst xs),some (.lst ys)=>if xs.length+ys.length<=16777216 then .ok (.ref h.length) (h++[.lst (xs++ys)]) else .stuck
  |_,_=>.stuck
 |.tup xs,.tup ys=>if xs.length+ys.length<=16777216 then .ok (.tup (xs++ys)) h else .stuck
 |_,_=>.stuck
noncomputable def gIx:D->D->AH->R D:=λx y h=>match cM h x,y with
 |some xs,.int i=>match atI xs i with
  |some d=>.ok d h
  |none=>.stuck
 |_,_=>.stuck
section
variable{K:W.Frag}{mg:Ra}{X:Cx}
def jZ(K:W.Frag):R2:=λx y H Q=>∃a b ys,x=.ref a/\y=.ref b/\SqT K H a []/\SqT K H b ys/\Q (.ref b) H
def En:OpR X (binaryOp .Add) (jZ X.K):=by
 intro pins s σ H x y v u Q I rx ry h
 obtain⟨a,b,ys,rfl,rfl,ha,hb,q⟩:=h
 cases rx
 cases ry
 obtain⟨its,r1,p1,_⟩:=I.tuple ha
 obtain⟨its2,r2,p2,_⟩:=I.tuple hb
 have e:its=[]:=r1.nil_iff.mpr rfl
 subst e
 obtain⟨⟨cls,dd,data,sl⟩,ho,hc,n,hd⟩:=id p1
 obtain⟨⟨cls2,dd2,data2,sl2⟩,ho2,hc2,n2,hd2⟩:=id p2
 simp only at hc hd hc2 hd2
 subst hc hd hc2 hd2
 exact concat_meets ⟨_,ho,rfl⟩ ⟨_,ho2,rfl⟩ noFill_tuple_add seq_tuple_add QE Qz (Qw _ _)
  (tuple_addW0 _ _ _ _ n n2 dd dd2 sl sl2 rfl) ⟨ho,ho2,⟨.ref b,H,I,rfl,q⟩⟩
def Fj:OpD K mg (λx y H Q=>n8 x y H Q\/(j4 K x y H Q\/jZ K x y H Q)) kX:=λρ h H dx dy x y Q E w rx ry p=>by
 unfold kX at p
 split at p
 ·cases
   rx with
  |
   ref ea=>
   cases ry with
   |
    ref eb=>
    split at p
    ·rename_i xs ys e1 e2
     split at p
     ·rename_i hl
      obtain⟨vs,q1,r1⟩:=w.ob _ _ _ ea e1
      obtain⟨ws,q2,r2⟩:=w.ob _ _ _ eb e2
      exact .inl ⟨_,_,vs,ws,rfl,rfl,q1,q2,by rw[<- r1.len,<- r2.len];exact hl,λp' hp=>gG w (r1.append r2) hp p⟩
     ·exact p.elim
    ·exact p.elim
 ·cases
   rx with
  |
   tup q1 r1=>
   cases ry with
   |
    tup q2 r2=>
    split at p
    ·rename_i hl
     cases r1 with
     |nil=>exact .inr (.inr ⟨_,_,_,rfl,rfl,q1,q2,ay w (.tup q2 r2) p⟩)
     |
      cons r0 r1=>
      refine .inr (.inl ⟨_,_,_,_,rfl,rfl,q1,q2,(λz=>nomatch z),by rw[<- (RelDs.cons r0 r1).len,<- r2.len];exact hl,λz=>?_,λ_ p' hp=>jj w ((RelDs.cons r0 r1).append r2) hp p⟩)
      subst z
      cases r2
      rw[OS] at p
      exact ay w (.tup q1 (.cons r0 r1)) p
    ·exact p.elim
 ·exact p.elim
def E1(r:RelDs K mg ρ H xs vs)(e:atI xs i=some d):∃v,atI vs i=some v/\RelD K mg ρ H d v:=by
 unfold atI at e ⊢
 rw[<- r.len]
 cases q:ixN xs.length i with
 |none=>rw[q] at e;cases e
 |some j=>rw[q] at e;exact r.getD e
def Ih:OpD K mg (λx y H Q=>vS K x y H Q\/vU K x y H Q) gIx:=λρ h H dx dy x y Q E w rx ry p=>by
 unfold gIx at p
 split at p
 ·rename_i xs i e1
  split at p
  ·rename_i d e2
   cases ry
   obtain⟨pa,vs,rfl,hq,rs⟩:=d4 w rx e1
   obtain⟨v,e3,rv⟩:=E1 rs e2
   rcases hq with hq |hq
   ·exact .inl ⟨_,_,_,_,rfl,rfl,hq,e3,ay w rv p⟩
   ·exact .inr ⟨_,_,_,_,rfl,rfl,hq,e3,ay w rv p⟩
  ·exact p.elim
 ·exact p.elim
def ixK(h:X.K=K):IxR X (λx y H Q=>vS K x y H Q\/vU K x y H Q):=by subst h;exact F7.or ID
def catK(h:X.K=K):OpR X (binaryOp .Add) (λx y H Q=>n8 x y H Q\/(j4 K x y H Q\/jZ K x y H Q)):=by subst h;exact JS.or (Et.or En)
end
noncomputable def dY:Nat->AH->D->Option PyData
 |0,_,_=>none
 |_+1,_,.non=>some .none
 |_+1,_,.bl b=>some (.bool b)
 |_+1,_,.int i=>some (.int i)
 |_+1,_,.str x=>some (.str x)
 |k+1,h,.tup xs=>(xs.mapM (dY k h)).map .tuple
 |k+1,h,.ref n=>match aV h n with
  |some xs=>(xs.mapM (dY k h)).map .list
  |none=>none
 |_+1,_,_=>none
def o8{K:W.Frag}{mg:Ra}{ρ:List Addr}{H:Hp}{f:D->Option PyData}(hf:∀d v pd,RelD K mg ρ H d v->f d=some pd->Rep K H v pd):∀{xs:List D}{vs:List V}{ps:List PyData},RelDs K mg ρ H xs vs->xs.mapM f=some ps->Reps K H vs ps:=by
 intro xs
 induction xs with
 |
  nil=>
  intro vs ps r e
  cases r
  have e':some []=some _:=e
  cases e';exact .nil
 |
  cons x xs ih=>
  intro vs ps r e
  cases r with
  |
   cons r rr=>
   rw[Qc] at e
   cases q:f x with
   |none=>rw[q] at e;cases e
   |
    some pd=>
    rw[q] at e
    cases q2:xs.mapM f with
    |none=>rw[q2] at e;cases e
    |
     some pds=>
     rw[q2] at e
     have e':some (pd::pds)=some ps:=e
     cases e'
     exact .cons (hf _ _ _ r q) (ih rr q2)
theorem i4{K:W.Frag}{mg:Ra}{ρ:List Addr}{H:Hp}{h:AH}(w:Wd K mg ρ h H):∀(k:Nat) {d:D}{v:V}{pd:PyData},RelD K mg ρ H d v->dY k h d=some pd->Rep K H v pd
 |0,_,_,_,_,e=>by cases e
 |
  k+1,d,v,pd,r,e=>by
  cases r with
  |non=>have e':some _=some pd:=e;cases e';exact .non
  |bl b=>have e':some _=some pd:=e;cases e';exact .bl b
  |int b=>have e':some _=some pd:=e;cases e';exact .int b
  |str b=>have e':some _=some pd:=e;cases e';exact .str b
  |
   tup q rs=>
   rename_i ds
   have e':(ds.mapM (dY k h)).map PyData.tuple=some pd:=e
   cases q2:ds.mapM (dY k h) with
   |none=>rw[q2] at e';cases e'
   |
    some ps=>
    rw[q2] at e'
    cases e'
    exact .tup q (o8 (λd v pd r e=>i4 w k r e) rs q2)
  |
   ref ea=>
   rename_i n a
   unfold dY at e
   split at e
   ·rename_i xs e1
    obtain⟨vs,h1,h2⟩:=bZ w ea e1
    cases q2:xs.mapM (dY k h) with
    |none=>rw[q2] at e;cases e
    |
     some ps=>
     rw[q2] at e
     cases e
     exact .lst h1 (o8 (λd v pd r e=>i4 w k r e) h2 q2)
   ·cases e
  |_=>cases e
noncomputable def rA(h:AH)(x y:D):Option Bool:=match dY 164 h x,dY 164 h y with
 |some a,some b=>if shp a=true/\shp b=true then some (PyData.eqv a b) else none
 |_,_=>none
noncomputable def gEq(neg:Bool):D->D->AH->R D:=λx y h=>match rA h x y with
 |some b=>.ok (.bl (if neg then !b else b)) h
 |none=>.stuck
section
variable{K:W.Frag}{mg:Ra}{X:Cx}
def uX(w:Wd K mg ρ h H)(rx:RelD K mg ρ H dx x)(ry:RelD K mg ρ H dy y)(e:rA h dx dy=some b):
 ∃a c,Rep K H x a/\Rep K H y c/\shp a=true/\shp c=true/\PyData.eqv a c=b:=by
 unfold rA at e
 split at e
 ·rename_i a c e1 e2
  split at e
  ·rename_i hs
   cases e
   exact⟨a,c,i4 w 164 rx e1,i4 w 164 ry e2,hs.1,hs.2,rfl⟩
  ·cases e
 ·cases e
def Gv:OpD K mg (xo K) (gEq false):=λρ h H dx dy x y Q E w rx ry p=>by
 unfold gEq at p
 split at p
 ·rename_i b e
  obtain⟨a,c,h1,h2,h3,h4,rfl⟩:=uX w rx ry e
  exact⟨a,c,h1,h2,h3,h4,ay w (.bl _) p⟩
 ·exact p.elim
def GA:OpD K mg (wQ K) (gEq true):=λρ h H dx dy x y Q E w rx ry p=>by
 unfold gEq at p
 split at p
 ·rename_i b e
  obtain⟨a,c,h1,h2,h3,h4,rfl⟩:=uX w rx ry e
  exact⟨a,c,h1,h2,h3,h4,ay w (.bl _) p⟩
 ·exact p.elim
end
def ku:D->Bool
 |.non=>true
 |.bl _=>true
 |.int _=>true
 |.str _=>true
 |_=>false
noncomputable def toV:D->V
 |.bl b=>.bl b
 |.int i=>.int i
 |.str x=>.str x
 |_=>.non
def eqF(x y:D):Bool:=eqV (toV x) (toV y)
noncomputable def gIn(neg:Bool):D->D->AH->R D:=λx y h=>match cM h y with
 |some xs=>if ku x=true/\xs.all ku=true then .ok (.bl (if neg then !(xs.any λd=>eqF d x) else xs.any λd=>eqF d x)) h else .stuck
 |none=>.stuck
section
variable{K:W.Frag}{mg:Ra}{X:Cx}{ρ:List Addr}{H:Hp}
def rf(r:RelD K mg ρ H d v)(f:ku d=true):v=toV d/\aK v=true:=by
 cases r with
 |non=>exact⟨rfl,rfl⟩
 |bl=>exact⟨rfl,rfl⟩
 |int=>exact⟨rfl,rfl⟩
 |str=>exact⟨rfl,rfl⟩
 |_=>cases f
def yn:∀{ds:List D}{vs:List V},RelDs K mg ρ H ds vs->ds.all ku=true->vs=ds.map toV/\vs.all aK=true:=by
 intro ds
 induction ds with
 |
  nil=>
  intro vs r f
  cases r
  exact⟨rfl,rfl⟩
 |
  cons d0 ds ih=>
  intro vs r f
  cases r with
  |
   cons r rr=>
   rw[Qk,r_] at f
   obtain⟨rfl,h1⟩:=rf r f.1
   obtain⟨rfl,h2⟩:=ih rr f.2
   exact⟨rfl,by rw[Qk,h1,h2];rfl⟩
def KZ(neg:Bool):OpD K mg (rIn K neg) (gIn neg):=λρ h H dx dy x y Q E w rx ry p=>by
 unfold gIn at p
 split at p
 ·rename_i xs e
  split at p
  ·rename_i hf
   obtain⟨pa,vs,rfl,hq,rs⟩:=d4 w ry e
   obtain⟨rfl,f1⟩:=rf rx hf.1
   obtain⟨rfl,f2⟩:=yn rs hf.2
   refine⟨pa,_,rfl,hq,f1,f2,?_⟩
   have e2:inV (toV dx) (xs.map toV)=xs.any λd=>eqF d dx:=by
    unfold inV eqF
    rw[List.any_map];rfl
   rw[e2]
   exact ay w (.bl _) p
  ·exact p.elim
 ·exact p.elim
noncomputable def jT(neg:Bool):D->D->AH->R D:=λx y h=>match x,y with
 |.non,.non=>.ok (.bl (!neg)) h
 |_,.non=>.ok (.bl neg) h
 |_,_=>.stuck
def ET:OpD K mg (λx y H Q=>y=.non/\Q (.bl (decide (x=.non))) H) (jT false):=λρ h H dx dy x y Q E w rx ry p=>by
 unfold jT at p
 split at p
 ·cases rx;cases ry;exact⟨rfl,ay w (.bl _) p⟩
 ·rename_i hne
  cases ry
  refine⟨rfl,?_⟩
  have e:decide (x=V.non)=false:=by
   rw[decide_eq_false_iff_not]
   rintro rfl
   cases rx
   exact hne rfl
  rw[e]
  exact ay w (.bl _) p
 ·exact p.elim
def BQ:OpD K mg (λx y H Q=>y=.non/\Q (.bl (!decide (x=.non))) H) (jT true):=λρ h H dx dy x y Q E w rx ry p=>by
 unfold jT at p
 split at p
 ·cases rx;cases ry;exact⟨rfl,ay w (.bl _) p⟩
 ·rename_i hne
  cases ry
  refine⟨rfl,?_⟩
  have e:decide (x=V.non)=false:=by
   rw[decide_eq_false_iff_not]
   rintro rfl
   cases rx
   exact hne rfl
  rw[e]
  exact ay w (.bl _) p
 ·exact p.elim
end
inductive AIt where
 |lst (n:Nat) (xs:List D) |tup (xs:List D) |rng (lo:Int) (k:Nat) |enm (s:AIt) |zip (s t:AIt)
noncomputable def f9:Nat->List D->List D
 |_,[]=>[]
 |i,d::ds=>.tup [.int (i:Nat),d]::f9 (i+1) ds
def AIt.items:AIt->List D
 |.lst _ xs=>xs
 |.tup xs=>xs
 |.rng lo k=>(List.range k).map λi=>D.int (lo+(i:Nat))
 |.enm s=>f9 0 s.items
 |.zip s t=>List.zipWith (λx y=>.tup [x,y]) s.items t.items
def AIt.guard:AIt->AH->Prop
 |.lst n xs,h=>aV h n=some xs
 |.enm s,h=>s.guard h
 |.zip s t,h=>s.guard h/\t.guard h
 |_,_=>True
def SrcR(K:W.Frag)(mg:Ra)(ρ:List Addr)(H:Hp):AIt->Bool->Addr->Prop
 |.lst n _,true,a=>ρ[n]?=some a
 |.tup xs,false,p=>∃vs,SqT K H p vs/\RelDs K mg ρ H xs vs
 |_,_,_=>False
def ItR(K:W.Frag)(mg:Ra)(ρ:List Addr)(H:Hp):AIt->It->Prop
 |.lst n _,J=>∃a,ρ[n]?=some a/\J=Itl K a
 |.tup xs,J=>∃p vs,SqT K H p vs/\RelDs K mg ρ H xs vs/\J=Itt K p
 |.rng lo k,J=>J=Itr lo k
 |.enm s,J=>∃b a,SrcR K mg ρ H s b a/\J=AA K b a
 |.zip s t,J=>∃b c a d,SrcR K mg ρ H s b a/\SrcR K mg ρ H t c d/\J=ItZ K b c a d
theorem rE:∀{ds:List D}{k i:Nat}{e:D},(f9 k ds)[i]?=some e->∃d,ds[i]?=some d/\e=.tup [.int ((k+i:Nat):Int),d]
 | [],_,_,_,q=>by simp [f9] at q
 |d::ds,k,0,e,q=>⟨d,rfl,by simpa [f9] using q.symm⟩
 |
  d::ds,k,i+1,e,q=>by
  obtain⟨d',q1,q2⟩:=rE (ds:=ds) (k:=k+1) (i:=i) (e:=e) (by simpa [f9] using q)
  refine⟨d',by simpa using q1,?_⟩
  rw[q2]
  congr 4
  omega
theorem rM:∀(ds:List D) (k:Nat),(f9 k ds).length=ds.length
 | [],_=>rfl
 |_::ds,k=>by show (f9 (k+1) ds).length+1=ds.length+1;rw[rM ds]
section
variable{K:W.Frag}{mg:Ra}{ρ ρ1:List Addr}{H H1:Hp}{h h1:AH}
def SrcR.at_(r:SrcR K mg ρ H s b a)(l:Le ρ H ρ1 H1)(w:Wd K mg ρ1 h1 H1)(g:s.guard h1):∃vs,SqB K b H1 a vs/\RelDs K mg ρ1 H1 s.items vs:=by
 cases s with
 |
  lst n xs=>
  cases b with
  |true=>exact bZ w (l.pre _ _ r) g
  |false=>exact r.elim
 |
  tup xs=>
  cases b with
  |true=>exact r.elim
  |false=>obtain⟨vs,q,rs⟩:=r;exact⟨vs,l.sqT q,rs.mono l⟩
 |rng _ _=>cases b <;> exact r.elim
 |enm _=>cases b <;> exact r.elim
 |zip _ _=>cases b <;> exact r.elim
def ItR.step(hJ:ItR K mg ρ H it J)(l:Le ρ H ρ1 H1)(w:Wd K mg ρ1 h1 H1)(g:it.guard h1):
 (∀(i:Nat) (d:D),it.items[i]?=some d->J.go i H1/\∀x H',J.yld i H1 x H'->Le ρ1 H1 ρ1 H'/\Wd K mg ρ1 h1 H'/\RelD K mg ρ1 H' d x)/\J.stop it.items.length H1:=by
 cases it with
 |
  lst n xs=>
  obtain⟨a,ea,rfl⟩:=hJ
  obtain⟨vs,q,rs⟩:=bZ w (l.pre _ _ ea) g
  refine⟨λi d e=>?_,vs,q,by rw[<- rs.len];exact m_ _⟩
  obtain⟨v,ev,rv⟩:=rs.getD e
  refine⟨⟨vs,v,q,ev⟩,λx H' ⟨e1,y⟩=>?_⟩
  subst e1
  have:=(y vs q).symm.trans ev
  cases this
  exact⟨Le.refl,w,rv⟩
 |
  tup xs=>
  obtain⟨p,vs,q,rs,rfl⟩:=hJ
  have q1:=l.sqT q
  have rs1:=rs.mono l
  refine⟨λi d e=>?_,vs,q1,by rw[<- rs1.len];exact m_ _⟩
  obtain⟨v,ev,rv⟩:=rs1.getD e
  refine⟨⟨vs,v,q1,ev⟩,λx H' ⟨e1,y⟩=>?_⟩
  subst e1
  have:=(y vs q1).symm.trans ev
  cases this
  exact⟨Le.refl,w,rv⟩
 |
  rng lo k=>
  cases hJ
  refine⟨λi d e=>?_,?_⟩
  ·have e':((List.range k).map λi=>D.int (lo+(i:Nat)))[i]?=some d:=e
   rw[z_] at e'
   cases q:(List.range k)[i]? with
   |none=>rw[q] at e';cases e'
   |
    some j=>
    rw[q] at e'
    have hj:=k_.mp q
    have e2:=hj.2
    rw[List.getElem_range] at e2
    subst e2
    cases e'
    refine⟨show i<k by simpa using hj.1,λx H' ⟨e1,e2⟩=>?_⟩
    subst e1 e2
    exact⟨Le.refl,w,.int _⟩
  ·show k<=((List.range k).map λi=>D.int (lo+(i:Nat))).length
   simp
 |
  enm s=>
  obtain⟨b,a,r,rfl⟩:=hJ
  obtain⟨vs,q,rs⟩:=r.at_ l w g
  refine⟨λi d e=>?_,vs,q,by show vs.length=(f9 0 s.items).length;rw[rM,rs.len]⟩
  obtain⟨d',q1,rfl⟩:=rE (show (f9 0 s.items)[i]?=some d from e)
  obtain⟨v,ev,rv⟩:=rs.getD q1
  refine⟨⟨vs,v,q,ev⟩,λx H' ⟨p,u,e1,hp,e2,hu⟩=>?_⟩
  subst e1 e2
  have:=(hu vs q).symm.trans ev
  cases this
  rw[Nat.zero_add]
  exact⟨cx hp,w.tuple hp,.tup (SqT.of a8) (.cons (.int _) (.cons (rv.mono (cx hp)) .nil))⟩
 |
  zip s t=>
  obtain⟨b,c,a,d,r1,r2,rfl⟩:=hJ
  obtain⟨vs,q,rs⟩:=r1.at_ l w g.1
  obtain⟨us,q',rs'⟩:=r2.at_ l w g.2
  refine⟨λi e ei=>?_,vs,us,q,q',?_⟩
  ·have ei':(List.zipWith (λx y=>D.tup [x,y]) s.items t.items)[i]?=some e:=ei
   rw[PK] at ei'
   cases k1:s.items[i]? with
   |none=>rw[k1] at ei';cases ei'
   |
    some d1=>
    cases k2:t.items[i]? with
    |none=>rw[k1,k2] at ei';cases ei'
    |
     some d2=>
     rw[k1,k2] at ei'
     cases ei'
     obtain⟨v,ev,rv⟩:=rs.getD k1
     obtain⟨v',ev',rv'⟩:=rs'.getD k2
     refine⟨⟨vs,us,v,v',q,q',ev,ev'⟩,λx H' ⟨p,u,u',e1,hp,e2,hu,hu'⟩=>?_⟩
     subst e1 e2
     have:=(hu vs q).symm.trans ev
     cases this
     have:=(hu' us q').symm.trans ev'
     cases this
     exact⟨cx hp,w.tuple hp,.tup (SqT.of a8) (.cons (rv.mono (cx hp)) (.cons (rv'.mono (cx hp)) .nil))⟩
  ·have hl:(AIt.zip s t).items.length=min s.items.length t.items.length:=P0 ..
   rw[hl,rs.len,rs'.len]
   rcases Nat.le_total vs.length us.length with z |z
   ·left;rw[QP z];exact Pj (m_ _)
   ·right;rw[Nat.min_eq_right z];exact Pj (m_ _)
end
def SR.loop(r:SR)(f:AE->AH->SR):SR:=match r with
 |.nx ae h=>f ae h
 |.ct ae h=>f ae h
 |.bk ae h=>.nx ae h
 |.rt d h=>.rt d h
 |.exc c ae h=>.exc c ae h
 |.stuck=>.stuck
open Classical in
def fB(G:AH->Prop)(g:MG)(B:MS):List D->MS
 | [],ae,h=>if G h then .nx ae h else .stuck
 |d::ds,ae,h=>if G h then (g d ae h).toS ae λae1 h1=>(B ae1 h1).loop (fB G g B ds) else .stuck
abbrev MI:=AE->AH->R AIt
def nQ(I:MI)(g:MG)(B:MS):MS:=λae h=>(I ae h).toS ae λit h1=>fB it.guard g B it.items ae h1
open Classical in
def lcL(G:AH->Prop)(g:MG)(c:MT)(F:ME):List D->List D->AE->AH->R (List D)
 | [],acc,_,h=>if G h then .ok acc h else .stuck
 |d::ds,acc,ae,h=>if G h/\acc.length<16777216 then (g d ae h).bind λae1 h1=>(c ae1 h1).bind λb h2=>if b=true then (F ae1 h2).bind λy h3=>lcL G g c F ds (acc++[y]) ae1 h3 else lcL G g c F ds acc ae1 h2 else .stuck
def jq(sub:Rh)(ae:AE):AE:=sub.map λo=>o.bind λi=>(ae[i]?).bind id
def eLC(I:MI)(sub:Rh)(g:MG)(c:MT)(F:ME):ME:=λae h=>(I ae h).bind λit h1=>(noX (lcL it.guard g c F it.items [] (jq sub ae) h1)).bind bI
def tY:MT:=λ_ h=>.ok true h
section
variable(K:W.Frag)(mg:Ra)
def rdI(ES:St->XK)(F:MI):TI:=λσ H R'=>∃ρ h ae,Wd K mg ρ h H/\RelE K mg ρ H ae σ/\PostG K mg ρ H (ES σ) (λit _ ρ' H'=>∀J,ItR K mg ρ' H' it J->R' J H') (F ae h)
def DI(X:Cx)(ES:St->XK)(tg am:Expr)(F:MI):Prop:=PI X tg am (rdI K mg ES F)
end
noncomputable def Bh(F:ME):MI:=λae h=>(F ae h).bind λd h1=>match d with
 |.tup xs=>.ok (.tup xs) h1
 |.ref n=>match aV h1 n with
  |some xs=>.ok (.lst n xs) h1
  |none=>.stuck
 |_=>.stuck
noncomputable def BU(A:MA):MI:=λae h=>(A ae h).bind λds h1=>match ds with
 | [.int j]=>if -(2^62)<=j/\j<2^62 then .ok (.rng 0 j.toNat) h1 else .stuck
 |_=>.stuck
noncomputable def fP(d:D)(h:AH):Option AIt:=match d with
 |.tup xs=>some (.tup xs)
 |.ref n=>(aV h n).map (.lst n)
 |_=>none
noncomputable def Be(A:MA):MI:=λae h=>(A ae h).bind λds h1=>match ds with
 | [d]=>(match fP d h1 with
  |some s=>.ok (.enm s) h1
  |none=>.stuck)
 |_=>.stuck
noncomputable def AV(A:MA):MI:=λae h=>(A ae h).bind λds h1=>match ds with
 | [d,e]=>(match fP d h1,fP e h1 with
  |some s,some t=>.ok (.zip s t) h1
  |_,_=>.stuck)
 |_=>.stuck
section
variable{K:W.Frag}{mg:Ra}{X:Cx}{ES:St->XK}{tg am e a b c g_:Expr}{F:ME}{A:MA}{I:MI}{g:MG}{cf:MT}{U:MS}{sts:List Stmt}{pos:Pos}
def PI.imp(h:PI X tg am t)(k:∀σ H Q,t' σ H Q->t σ H Q):PI X tg am t':=λpins s σ H Q I w=>h pins s σ H Q I (k σ H Q w)
def HW(hl:PE X l tl):PI X tg l (λσ H R=>tl σ H λx H1=>(∃a,x=.ref a/\(∃xs,SqL X.K H1 a xs)/\R (Itl X.K a) H1)\/(∃a,x=.ref a/\(∃xs,SqT X.K H1 a xs)/\R (Itt X.K a) H1)):=by
 intro pins s σ H R I h
 refine thn (hl pins s σ H _ I h) λv s1 ⟨x,H1,I1,r1,q1⟩=>?_
 rcases q1 with ⟨a,e,⟨xs,hq⟩,q⟩ |⟨a,e,⟨xs,hq⟩,q⟩
 ·subst e
  cases r1
  obtain⟨its,rv,p,hz⟩:=I1.list hq
  refine wpAny_pyIter_list p.isList ?_
  refine⟨s1.heap.objs.size,[s1.heap.objs.size],_,_,H1,rfl,I1.kept (t':=s1.toks) λb o e=>t_ _ e,xQ a _,⟨_,E_ _ rfl,rfl,rfl⟩,λb hb=>?_,q⟩
  have e:b=s1.heap.objs.size:=by simpa using hb
  subst e
  exact I1.fpOk (m_ _) (I1.hok.fresh (m_ _))
 ·subst e
  cases r1
  obtain⟨its,rv,p,hz⟩:=I1.tuple hq
  refine Qy (show s1.heap.IsTuple a its.toArray from p) ?_
  refine⟨s1.heap.objs.size,[s1.heap.objs.size],_,_,H1,rfl,I1.kept (t':=s1.toks) λb o e=>t_ _ e,xt a _,⟨_,E_ _ rfl,rfl,rfl⟩,λb hb=>?_,q⟩
  have e:b=s1.heap.objs.size:=by simpa using hb
  subst e
  exact I1.fpOk (m_ _) (I1.hok.fresh (m_ _))
def Jn(hK:X.K=K)(he:DE K mg X ES e F):DI K mg X ES tg e (Bh F):=by
 subst hK
 refine PI.imp (HW he) λσ H R ⟨ρ,h,ae,w,re,p⟩=>⟨ρ,h,ae,w,re,p.bind.imp λd h1 ρ1 H1 l1 w1 p1 v rv=>?_⟩
 cases rv with
 |tup q rs=>exact .inr ⟨_,rfl,⟨_,q⟩,p1 ρ1 H1 Le.refl w1 _ ⟨_,_,q,rs,rfl⟩⟩
 |
  ref ea=>
  dsimp only at p1
  split at p1
  ·rename_i xs e1
   obtain⟨vs,q,rs⟩:=bZ w1 ea e1
   exact .inl ⟨_,rfl,⟨_,q⟩,p1 ρ1 H1 Le.refl w1 _ ⟨_,ea,rfl⟩⟩
  ·exact p1.elim
 |_=>exact p1.elim
def yb(hg:Gl X "range")(hm:mg "range"=none)(ha:DA K mg X ES [a] A)(hk:X.mg=mg)(hs:starEach [a] X.env=[(false,eval a X.env)]):DI K mg X ES tg (.Call (.Name "range" p) [a] [] pos) (BU A):=by
 subst hk
 refine PI.imp (yp hg hm ha hs) λσ H R ⟨ρ,h,ae,w,re,p⟩=>⟨ρ,h,ae,w,re,p.bind.imp λds h1 ρ1 H1 l1 w1 p1 vs rs=>?_⟩
 split at p1
 ·cases rs with
  |
   cons r rs=>
   cases r;cases rs
   split at p1
   ·rename_i hb
    exact⟨_,rfl,hb.1,hb.2,p1 ρ1 H1 Le.refl w1 _ rfl⟩
   ·exact p1.elim
 ·exact p1.elim
def jV(w:Wd K mg ρ h H)(r:RelD K mg ρ H d v)(q:fP d h=some s):∃b p,v=.ref p/\SrcR K mg ρ H s b p/\∃vs,SqB K b H p vs:=by
 cases r with
 |tup hq rs=>cases q;exact⟨false,_,rfl,⟨_,hq,rs⟩,_,hq⟩
 |
  ref ea=>
  obtain⟨xs,q1,rfl⟩:=M_.mp q
  obtain⟨vs,h1,h2⟩:=bZ w ea q1
  exact⟨true,_,rfl,ea,vs,h1⟩
 |_=>cases q
def DC(hK:X.K=K)(hg:Gl X "enumerate")(hm:mg "enumerate"=none)(ha:DA K mg X ES [a] A)(hk:X.mg=mg)(hs:starEach [a] X.env=[(false,eval a X.env)]):DI K mg X ES (.Tuple elts x1 tp) (.Call (.Name "enumerate" p) [a] [] pos) (Be A):=by
 subst hk hK
 refine PI.imp (F4 hg hm ha hs) λσ H R ⟨ρ,h,ae,w,re,p⟩=>⟨ρ,h,ae,w,re,p.bind.imp λds h1 ρ1 H1 l1 w1 p1 vs rs=>?_⟩
 split at p1
 ·cases rs with
  |
   cons r rs=>
   cases rs
   split at p1
   ·rename_i s q
    obtain⟨b,pa,rfl,sr,xs,hx⟩:=jV w1 r q
    exact⟨b,pa,xs,rfl,hx,p1 ρ1 H1 Le.refl w1 _ ⟨b,pa,sr,rfl⟩⟩
   ·exact p1.elim
 ·exact p1.elim
def GV(hK:X.K=K)(hg:Gl X "zip")(hm:mg "zip"=none)(ha:DA K mg X ES [a,b] A)(hk:X.mg=mg)(hs:starEach [a,b] X.env=[(false,eval a X.env),(false,eval b X.env)])(hs2:starEach [b] X.env=[(false,eval b X.env)]):DI K mg X ES (.Tuple elts x1 tp) (.Call (.Name "zip" p) [a,b] [] pos) (AV A):=by
 subst hk hK
 refine PI.imp (KN hg hm ha hs hs2) λσ H R ⟨ρ,h,ae,w,re,p⟩=>⟨ρ,h,ae,w,re,p.bind.imp λds h1 ρ1 H1 l1 w1 p1 vs rs=>?_⟩
 split at p1
 ·cases
   rs with
  |
   cons r rs=>
   cases rs with
   |
    cons r' rs=>
    cases rs
    split at p1
    ·rename_i s t q q'
     obtain⟨b,pa,rfl,sr,xs,hx⟩:=jV w1 r q
     obtain⟨c,pd,rfl,sr',ys,hy⟩:=jV w1 r' q'
     exact⟨b,c,pa,pd,xs,ys,rfl,hx,hy,p1 ρ1 H1 Le.refl w1 _ ⟨b,c,pa,pd,sr,sr',rfl⟩⟩
    ·exact p1.elim
 ·exact p1.elim
def sX(p:PostS K mg ρ H De ES (r.loop f))(i:∀ae1 h1 ρ1 H1 σ1,Le ρ H ρ1 H1->Wd K mg ρ1 h1 H1->RelE K mg ρ1 H1 ae1 σ1->PostS K mg ρ1 H1 De ES (f ae1 h1)->N σ1 H1):
 PostS K mg ρ H { De with nx:=N,ct:=N,bk:=De.nx } ES r:=by
 cases r with
 |nx ae1 h1=>exact λρ1 H1 σ1 l1 w1 re1=>i ae1 h1 ρ1 H1 σ1 l1 w1 re1 (PostS.mono l1 p)
 |rt d h1=>exact p
 |bk ae1 h1=>exact p
 |ct ae1 h1=>exact λρ1 H1 σ1 l1 w1 re1=>i ae1 h1 ρ1 H1 σ1 l1 w1 re1 (PostS.mono l1 p)
 |exc c ae1 h1=>exact p
 |stuck=>exact p
def yL(hp:PassesOwn (model X.prog X.w) X.A X.env X.xe)(hc:X.calm=true)(hi:DI K mg X ES tg am I)(hg:DG K mg X ES tg g)(hb:DSs K mg X ES sts U)
 (hs:∀x,foldedSetIterable am X.env x=pure x):DS K mg X ES (.For tg am sts [] pos) (nQ I g U):=by
 refine PS.imp (Li hp hc hi hg hb hs) λDe σ H q_=>q_.el λρ h ae w re p=>⟨ρ,h,ae,w,re,bQ p re λit h1 ρ1 H1 l1 w1 re1 p1 J hJ=>?_⟩
 refine⟨λi m σ2 H2=>m=it.items.length-i/\i<=it.items.length/\∃ρ2 h2 ae2,Le ρ1 H1 ρ2 H2/\Wd K mg ρ2 h2 H2/\RelE K mg ρ2 H2 ae2 σ2/\PostS K mg ρ2 H2 De ES (fB it.guard g U (it.items.drop i) ae2 h2),⟨_,rfl,OH _,ρ1,h1,ae,Le.refl,w1,re1,p1⟩,?_⟩
 rintro i m σ2 H2 ⟨rfl,hi',ρ2,h2,ae2,l2,w2,re2,p2⟩
 by_cases hlt:i<it.items.length
 ·have hd:it.items.drop i=it.items[i]::it.items.drop (i+1):=List.drop_eq_getElem_cons hlt
  rw[hd] at p2
  unfold fB at p2
  split at p2
  ·rename_i hG
   obtain⟨st,_⟩:=hJ.step l2 w2 hG
   obtain⟨go,yl⟩:=st i it.items[i] (A_ hlt)
   refine .inr ⟨go,λσ' H'=>∃ρ3 h3 ae3,Le ρ1 H1 ρ3 H'/\Wd K mg ρ3 h3 H'/\RelE K mg ρ3 H' ae3 σ'/\PostS K mg ρ3 H' De ES (fB it.guard g U (it.items.drop (i+1)) ae3 h3),
    λσ' H' ⟨ρ3,h3,ae3,q⟩=>⟨_,by omega,rfl,hlt,ρ3,h3,ae3,q⟩,λx H' hy=>?_⟩
   obtain⟨ly,wy,rx⟩:=yl x H' hy
   refine⟨ρ2,h2,ae2,_,wy,re2.mono ly,rx,bQ (PostS.mono ly p2) (re2.mono ly) λae3 h3 ρ3 H3 l3 w3 re3 p3 σ' re'=>⟨ρ3,h3,ae3,w3,re',sX p3 λae4 h4 ρ4 H4 σ4 l4 w4 re4 p4=>⟨ρ4,h4,ae4,((l2.trans ly).trans l3).trans l4,w4,re4,p4⟩⟩⟩
  ·exact p2.elim
 ·have hi2:i=it.items.length:=by omega
  subst hi2
  rw[List.drop_length] at p2
  unfold fB at p2
  split at p2
  ·rename_i hG
   exact .inl ⟨(hJ.step l2 w2 hG).2,gk p2 w2 re2⟩
  ·exact p2.elim
def BZ(re:RelE K mg ρ H ae σ)(sub:Rh):RelE K mg ρ H (jq sub ae) (fN sub σ):=by
 unfold jq fN
 refine⟨by rw[j_,j_],λj d e=>?_⟩
 rw[z_] at e ⊢
 cases q:sub[j]? with
 |none=>rw[q] at e;cases e
 |
  some o=>
  rw[q] at e
  cases o with
  |none=>cases e
  |
   some i=>
   have e':(ae[i]?).bind id=some d:=C_ e
   cases q2:ae[i]? with
   |none=>rw[q2] at e';cases e'
   |
    some z=>
    rw[q2] at e'
    have e3:z=some d:=e'
    subst e3
    obtain⟨v,h1,h2⟩:=re.at_ i d q2
    refine⟨v,?_,h2⟩
    show some ((σ[i]?).bind id)=some (some v)
    rw[h1];rfl
def lN(p:PostG K mg ρ H E k ((noX (r.bind f)).bind m)):
 PostG K mg ρ H E0 (λa h1 ρ' H'=>PostG K mg ρ' H' E k ((noX (f a h1)).bind m)) r:=by
 cases r with
 |ok a h1=>exact λρ1 H1 l1 w1=>PostG.mono l1 p
 |exc c h1=>exact p.elim
 |stuck=>exact p.elim
def CP(σ:St)(H:Hp)(Q:VK)(q:rdE K mg ES (eLC I sub g cf F) σ H Q):jv (rdI K mg ES I) sub (rdG K mg (λ_=>E0) g) (rdT K mg (λ_=>E0) cf) (rdE K mg (λ_=>E0) F) σ H Q:=by
 obtain⟨ρ,h,ae,w,re,p⟩:=q
 refine⟨ρ,h,ae,w,re,p.bind.imp λit h1 ρ1 H1 l1 w1 p1 J hJ=>?_⟩
 have re1:=BZ (re.mono l1) sub
 refine⟨λi m ys σ2 H2=>m=it.items.length-i/\i<=it.items.length/\∃ρ2 h2 ae2 acc,Le ρ1 H1 ρ2 H2/\Wd K mg ρ2 h2 H2/\RelE K mg ρ2 H2 ae2 σ2/\RelDs K mg ρ2 H2 acc ys/\
  PostG K mg ρ2 H2 (ES σ) (λd _ ρ' H'=>∀v,RelD K mg ρ' H' d v->Q v H') ((noX (lcL it.guard g cf F (it.items.drop i) acc ae2 h2)).bind bI),
  ⟨_,rfl,OH _,ρ1,h1,jq sub ae,[],Le.refl,w1,re1,.nil,p1⟩,?_⟩
 rintro i m ys σ2 H2 ⟨rfl,hi',ρ2,h2,ae2,acc,l2,w2,re2,rs,p2⟩
 by_cases hlt:i<it.items.length
 ·have hd:it.items.drop i=it.items[i]::it.items.drop (i+1):=List.drop_eq_getElem_cons hlt
  rw[hd] at p2
  unfold lcL at p2
  split at p2
  ·rename_i hG
   obtain⟨st,_⟩:=hJ.step l2 w2 hG.1
   obtain⟨go,yl⟩:=st i it.items[i] (A_ hlt)
   refine .inr ⟨go,by rw[<- rs.len];exact hG.2,λys' σ' H'=>∃ρ3 h3 ae3 acc3,Le ρ1 H1 ρ3 H'/\Wd K mg ρ3 h3 H'/\RelE K mg ρ3 H' ae3 σ'/\RelDs K mg ρ3 H' acc3 ys'/\
    PostG K mg ρ3 H' (ES σ) (λd _ ρ' H'=>∀v,RelD K mg ρ' H' d v->Q v H') ((noX (lcL it.guard g cf F (it.items.drop (i+1)) acc3 ae3 h3)).bind bI),
    λys' σ' H' ⟨ρ3,h3,ae3,acc3,q⟩=>⟨_,by omega,rfl,hlt,ρ3,h3,ae3,acc3,q⟩,λx H' hy=>?_⟩
   obtain⟨ly,wy,rx⟩:=yl x H' hy
   refine⟨ρ2,h2,ae2,_,wy,re2.mono ly,rx,(lN (PostG.mono ly p2)).imp λae3 h3 ρ3 H3 l3 w3 p3 σ3 re3=>⟨ρ3,h3,ae3,w3,re3,(lN p3).imp λb h4 ρ4 H4 l4 w4 p4=>?_⟩⟩
   cases b with
   |true=>exact⟨ρ4,h4,ae3,w4,re3.mono l4,(lN p4).imp λy h5 ρ5 H5 l5 w5 p5 v rv=>⟨ρ5,h5,ae3,acc++[y],(((l2.trans ly).trans l3).trans l4).trans l5,w5,(re3.mono l4).mono l5,((((rs.mono ly).mono l3).mono l4).mono l5).append (.cons rv .nil),p5⟩⟩
   |false=>exact⟨ρ4,h4,ae3,acc,((l2.trans ly).trans l3).trans l4,w4,re3.mono l4,((rs.mono ly).mono l3).mono l4,p4⟩
  ·exact p2.elim
 ·have hi2:i=it.items.length:=by omega
  subst hi2
  rw[List.drop_length] at p2
  unfold lcL at p2
  split at p2
  ·rename_i hG
   refine .inl ⟨(hJ.step l2 w2 hG).2,?_⟩
   have p3:PostG K mg ρ2 H2 (ES σ) (λd _ ρ' H'=>∀v,RelD K mg ρ' H' d v->Q v H') (bI acc h2):=p2
   unfold bI at p3
   split at p3
   ·rename_i hl
    exact⟨by rw[<- rs.len];exact hl,λq hq=>gG w2 rs hq p3⟩
   ·exact p3.elim
  ·exact p2.elim
def LG(M:List Str)(kn:List (Str×NameKind))(N:List Str)(sub:Rh)
 (hc:X.calm=true) (hi:DI K mg X ES tg am I)
 (hg:∀cl C s₂ H fp,DG K mg (aO X N scope cl C s₂ H fp) (λ_=>E0) tg g) (he:∀cl C s₂ H fp,DE K mg (aO X N scope cl C s₂ H fp) (λ_=>E0) g_ F)
 (hM:X.N=M) (hkn:X.env.scope.names=kn) (f_:fO M scope.names sub N=true)
 (hk:scope.kind=.function) (hnc:∀x∈scope.names,x.2 ≠ .cell) (b_:∀x∈scope.names,x.2=.local->scope.names.lookup x.1=some .local)
 (hfr:ij kn scope.names=true)
 (hsl:sub.length=N.length) (hs:∀x,foldedSetIterable am X.env x=pure x):
 DE K mg X ES (.ListComp g_ [⟨tg,am,[],0⟩] scope pos) (eLC I sub g tY F):=
 PE.imp (Oa M kn N sub hc hi hg he hM hkn f_ hk hnc b_ hfr hsl hs) λσ H Q q=>by
  have:=CP (cf:=tY) σ H Q q
  obtain⟨ρ,h,ae,w,re,p⟩:=this
  refine⟨ρ,h,ae,w,re,p.imp λit h1 ρ1 H1 l1 w1 k J hJ=>?_⟩
  obtain⟨W,w0,tn⟩:=k J hJ
  refine⟨W,w0,λi m ys σ2 H2 hW=>?_⟩
  rcases tn i m ys σ2 H2 hW with z |⟨go,hl,Nx,hN,st⟩
  ·exact .inl z
  ·refine .inr ⟨go,hl,Nx,hN,λx H' hy=>?_⟩
   obtain⟨ρ3,h3,ae3,d3,w3,re3,rd3,p3⟩:=st x H' hy
   refine⟨ρ3,h3,ae3,d3,w3,re3,rd3,p3.imp λae4 h4 ρ4 H4 l4 w4 k4 σ4 re4=>?_⟩
   obtain⟨ρ5,h5,ae5,w5,re5,p5⟩:=k4 σ4 re4
   exact p5 ρ5 _ Le.refl w5
def K7(σ:St)(H:Hp)(Q:VK)(q:rdE K mg ES (eLC I sub g tY F) σ H Q):jv (rdI K mg ES I) sub (rdG K mg (λ_=>E0) g) Aq (rdE K mg (λ_=>E0) F) σ H Q:=by
 have:=CP (cf:=tY) σ H Q q
 obtain⟨ρ,h,ae,w,re,p⟩:=this
 refine⟨ρ,h,ae,w,re,p.imp λit h1 ρ1 H1 l1 w1 k J hJ=>?_⟩
 obtain⟨W,w0,tn⟩:=k J hJ
 refine⟨W,w0,λi m ys σ2 H2 hW=>?_⟩
 rcases tn i m ys σ2 H2 hW with z |⟨go,hl,Nx,hN,st⟩
 ·exact .inl z
 ·refine .inr ⟨go,hl,Nx,hN,λx H' hy=>?_⟩
  obtain⟨ρ3,h3,ae3,d3,w3,re3,rd3,p3⟩:=st x H' hy
  refine⟨ρ3,h3,ae3,d3,w3,re3,rd3,p3.imp λae4 h4 ρ4 H4 l4 w4 k4 σ4 re4=>?_⟩
  obtain⟨ρ5,h5,ae5,w5,re5,p5⟩:=k4 σ4 re4
  exact p5 ρ5 _ Le.refl w5
def EN(ht:∀σ H Q,rdE K mg ES F σ H Q->t σ H Q)(De:Ends)(σ:St)(H:Hp)(q:rdS K mg ES (f6 F (gN i)) De σ H):tF t (mr i) De σ H:=by
 obtain⟨ρ,h,ae,w,re,p⟩:=q
 exact ht σ H _ ⟨ρ,h,ae,w,re,bQ p re λd h1 ρ1 H1 l1 w1 re1 p1 v rv=>gk p1 w1 (re1.set i rv)⟩
def LU(M:List Str)(kn:List (Str×NameKind))(N:List Str)(sub:Rh)
 (hc:X.calm=true) (hN:X.N.Nodup) (hix:X.N[iT]?=some xT) (hxl:Loc X.env.scope xT) (hi:DI K mg X ES tg am I)
 (hg:∀cl C s₂ H fp,DG K mg (aO X N scope cl C s₂ H fp) (λ_=>E0) tg g) (he:∀cl C s₂ H fp,DE K mg (aO X N scope cl C s₂ H fp) (λ_=>E0) g_ F)
 (hsw:swapsWith (.ListComp g_ [⟨tg,am,[],0⟩] scope pos) (some (.Name xT px)) spos.line X.env=pure true)
 (hM:X.N=M) (hkn:X.env.scope.names=kn) (f_:fO M scope.names sub N=true)
 (hk:scope.kind=.function) (hnc:∀x∈scope.names,x.2 ≠ .cell) (b_:∀x∈scope.names,x.2=.local->scope.names.lookup x.1=some .local)
 (hfr:ij kn scope.names=true)
 (hsl:sub.length=N.length) (hs:∀x,foldedSetIterable am X.env x=pure x) (hf:X.fn xT=true\/X.env.scope.names.lookup xT=some .local):
 DS K mg X ES (.Assign [.Name xT px] (.ListComp g_ [⟨tg,am,[],0⟩] scope pos) spos) (f6 (eLC I sub g tY F) (gN iT)):=
 PS.imp (MM M kn N sub hc hN hix hxl hi hg he hsw hM hkn f_ hk hnc b_ hfr hsl hs hf) (EN K7)
end
noncomputable def whN(c:MT)(B:MS):Nat->MS
 |0,_,_=>.stuck
 |k+1,ae,h=>(c ae h).toS ae λb h1=>if b=true then (B ae h1).loop (whN c B k) else .nx ae h1
open Classical in
def sWh(c:MT)(B:MS):MS:=λae h=>if q:∃k,whN c B k ae h ≠ .stuck then whN c B q.choose ae h else .stuck
theorem kW:∀{k:Nat}{ae:AE}{h:AH},whN c B k ae h ≠ .stuck->whN c B (k+1) ae h=whN c B k ae h
 |0,_,_,q=>absurd rfl q
 |
  k+1,ae,h,q=>by
  have e1:whN c B (k+2) ae h=(c ae h).toS ae λb h1=>if b=true then (B ae h1).loop (whN c B (k+1)) else .nx ae h1:=rfl
  have e2:whN c B (k+1) ae h=(c ae h).toS ae λb h1=>if b=true then (B ae h1).loop (whN c B k) else .nx ae h1:=rfl
  rw[e2] at q
  rw[e1,e2]
  cases r:c ae h with
  |exc _ _=>rfl
  |stuck=>rfl
  |
   ok b h1=>
   rw[r] at q
   cases b with
   |false=>rfl
   |
    true=>
    have q':(B ae h1).loop (whN c B k) ≠ .stuck:=q
    show (B ae h1).loop (whN c B (k+1))=(B ae h1).loop (whN c B k)
    cases s:B ae h1 with
    |nx a2 h2=>rw[s] at q';exact kW q'
    |ct a2 h2=>rw[s] at q';exact kW q'
    |_=>rfl
def zF(q:whN c B k ae h ≠ .stuck)(hj:k<=j):whN c B j ae h=whN c B k ae h:=by
 induction hj with
 |refl=>rfl
 |step _ ih=>rw[kW (by rw[ih];exact q),ih]
def zI(q:whN c B k ae h ≠ .stuck):sWh c B ae h=whN c B k ae h:=by
 have hq:∃k,whN c B k ae h ≠ .stuck:=⟨k,q⟩
 unfold sWh
 rw[dif_pos hq]
 rcases Nat.le_total hq.choose k with z |z
 ·exact (zF hq.choose_spec z).symm
 ·exact zF q z
section
variable{K:W.Frag}{mg:Ra}{X:Cx}{ES:St->XK}{c:Expr}{cf:MT}{U:MS}{sts:List Stmt}{pos:Pos}
def AD(hp:PassesOwn (model X.prog X.w) X.A X.env X.xe)(hc:DT K mg X ES c cf)(hb:DSs K mg X ES sts U):DS K mg X ES (.While c sts [] pos) (sWh cf U):=by
 refine PS.imp (Bs hp hc hb) λDe σ H q_=>q_.el λρ h ae w re p=>?_
 have hx:∃k,whN cf U k ae h ≠ .stuck:=Qo λz=>by
  unfold sWh at p
  rw[dif_neg z] at p
  exact p.elim
 obtain⟨k,hk⟩:=hx
 rw[zI hk] at p
 refine⟨λm σ2 H2=>∃ρ2 h2 ae2,Wd K mg ρ2 h2 H2/\RelE K mg ρ2 H2 ae2 σ2/\PostS K mg ρ2 H2 De ES (whN cf U m ae2 h2),⟨k,ρ,h,ae,w,re,p⟩,?_⟩
 rintro m σ2 H2 ⟨ρ2,h2,ae2,w2,re2,p2⟩
 cases m with
 |zero=>exact p2.elim
 |
  succ m=>
  refine⟨ρ2,h2,ae2,w2,re2,bQ p2 re2 λb h3 ρ3 H3 l3 w3 re3 p3=>?_⟩
  cases b with
  |true=>exact⟨λσ' H'=>∃ρ4 h4 ae4,Wd K mg ρ4 h4 H'/\RelE K mg ρ4 H' ae4 σ'/\PostS K mg ρ4 H' De ES (whN cf U m ae4 h4),λσ' H' q=>⟨m,Nat.lt_succ_self _,q⟩,ρ3,h3,ae2,w3,re3,sX p3 λae4 h4 ρ4 H4 σ4 l4 w4 re4 p4=>⟨ρ4,h4,ae4,w4,re4,p4⟩⟩
  |false=>exact gk p3 w3 re3
end
noncomputable def sH:Fn:=λds h=>match ds with
 | [d]=>match cM h d with
  |some xs=>.ok (.int xs.length) h
  |none=>match d with
   |.str z=>if z.length<=16777216 then .ok (.int z.length) h else .stuck
   |_=>.stuck
 |_=>.stuck
noncomputable def xw:Fn:=λds h=>match ds with
 | [.int i]=>.ok (.int (if i<0 then -i else i)) h
 |_=>.stuck
noncomputable def qc:Fn:=λds h=>match ds with
 | [.int i,.int j]=>.ok (.int (if j>i then j else i)) h
 |_=>.stuck
noncomputable def p7:Fn:=λds h=>match ds with
 | [.int i,.int j]=>.ok (.int (if j<i then j else i)) h
 |_=>.stuck
noncomputable def ia:List D->Option (List Bool)
 | []=>some []
 |.bl b::r=>(ia r).map (b :: ·)
 |_=>none
noncomputable def fT:List D->Option (List Int)
 | []=>some []
 |.int b::r=>(fT r).map (b :: ·)
 |_=>none
theorem rq:∀{ds:List D}{bs:List Bool},ia ds=some bs->ds=bs.map D.bl
 | [],bs,e=>by cases e;rfl
 |
  .bl b::r,bs,e=>by
  have e':(ia r).map (b :: ·)=some bs:=e
  cases q:ia r with
  |none=>rw[q] at e';cases e'
  |some z=>rw[q] at e';cases e';rw[rq q];rfl
theorem o6:∀{ds:List D}{bs:List Int},fT ds=some bs->ds=bs.map D.int
 | [],bs,e=>by cases e;rfl
 |
  .int b::r,bs,e=>by
  have e':(fT r).map (b :: ·)=some bs:=e
  cases q:fT r with
  |none=>rw[q] at e';cases e'
  |some z=>rw[q] at e';cases e';rw[o6 q];rfl
noncomputable def sf:Fn:=λds h=>match ds with
 | [.ref n]=>match (aV h n).bind ia with
  |some bs=>.ok (.bl (bs.all id)) h
  |none=>.stuck
 |_=>.stuck
noncomputable def tq:Fn:=λds h=>match ds with
 | [.ref n]=>match (aV h n).bind fT with
  |some ns=>.ok (.int ns.sum) h
  |none=>.stuck
 |_=>.stuck
noncomputable def jL:Fn:=λds h=>match ds with
 | [d]=>match cM h d with
  |some xs=>.ok (.tup xs) h
  |none=>.stuck
 |_=>.stuck
section
variable{K:W.Frag}{mg:Ra}{X:Cx}
def Jt:bA K mg (λxs H Q=>(∃p ys,xs=[.ref p]/\(SqL K H p ys\/SqT K H p ys)/\Q (.int ys.length) H)\/(∃z,xs=[.str z]/\z.length<=sizeLine/\Q (.int z.length) H)) sH:=λρ h H ds vs Q E w rs p=>by
 unfold sH at p
 split at p
 ·cases
   rs with
  |
   cons r rs=>
   cases rs
   split at p
   ·rename_i xs e
    obtain⟨pa,vs,rfl,hq,rs⟩:=d4 w r e
    exact .inl ⟨_,_,rfl,hq,by rw[<- rs.len];exact ay w (.int _) p⟩
   ·split at p
    ·cases r
     split at p
     ·rename_i hl;exact .inr ⟨_,rfl,hl,ay w (.int _) p⟩
     ·exact p.elim
    ·exact p.elim
 ·exact p.elim
def M8(h:X.K=K):CallR X (.builtin "len") (λxs H Q=>(∃p ys,xs=[.ref p]/\(SqL K H p ys\/SqT K H p ys)/\Q (.int ys.length) H)\/(∃z,xs=[.str z]/\z.length<=sizeLine/\Q (.int z.length) H)):=by subst h;exact rX.or qW
def HB:bA K mg (λxs H Q=>∃i,xs=[.int i]/\Q (.int (if i<0 then -i else i)) H) xw:=λρ h H ds vs Q E w rs p=>by
 unfold xw at p
 split at p
 ·cases rs with
  |cons r rs=>cases r;cases rs;exact⟨_,rfl,ay w (.int _) p⟩
 ·exact p.elim
def DK:bA K mg (λxs H Q=>∃i j,xs=[.int i,.int j]/\Q (.int (if j>i then j else i)) H) qc:=λρ h H ds vs Q E w rs p=>by
 unfold qc at p
 split at p
 ·cases rs with
  |cons r rs=>cases rs with |cons r2 rs=>cases r;cases r2;cases rs;exact⟨_,_,rfl,ay w (.int _) p⟩
 ·exact p.elim
def EL:bA K mg (λxs H Q=>∃i j,xs=[.int i,.int j]/\Q (.int (if j<i then j else i)) H) p7:=λρ h H ds vs Q E w rs p=>by
 unfold p7 at p
 split at p
 ·cases rs with
  |cons r rs=>cases rs with |cons r2 rs=>cases r;cases r2;cases rs;exact⟨_,_,rfl,ay w (.int _) p⟩
 ·exact p.elim
def HL:bA K mg (λxs H Q=>∃(a:Addr) (bs:List Bool),xs=[.ref a]/\SqL K H a (bs.map V.bl)/\Q (.bl (bs.all id)) H) sf:=λρ h H ds vs Q E w rs p=>by
 unfold sf at p
 split at p
 ·cases
   rs with
  |
   cons r rs=>
   cases r with
   |
    ref ea=>
    cases rs
    split at p
    ·rename_i bs e
     obtain⟨xs,q,e2⟩:=OG.mp e
     ·obtain⟨vs,h1,h2⟩:=bZ w ea q
      rw[rq e2] at h2
      rw[h2.bls] at h1
      exact⟨_,bs,rfl,h1,ay w (.bl _) p⟩
    ·exact p.elim
 ·exact p.elim
def Lc:bA K mg (λxs H Q=>∃(a:Addr) (ns:List Int),xs=[.ref a]/\SqL K H a (ns.map V.int)/\Q (.int ns.sum) H) tq:=λρ h H ds vs Q E w rs p=>by
 unfold tq at p
 split at p
 ·cases
   rs with
  |
   cons r rs=>
   cases r with
   |
    ref ea=>
    cases rs
    split at p
    ·rename_i bs e
     obtain⟨xs,q,e2⟩:=OG.mp e
     ·obtain⟨vs,h1,h2⟩:=bZ w ea q
      rw[o6 e2] at h2
      rw[h2.ints] at h1
      exact⟨_,bs,rfl,h1,ay w (.int _) p⟩
    ·exact p.elim
 ·exact p.elim
def Cj:bA K mg (λxs H Q=>∃p ys,xs=[.ref p]/\((SqL K H p ys/\∀l,H l=none->Q (.ref l) (upd H l (.tup ys)))\/(SqT K H p ys/\Q (.ref p) H))) jL:=λρ h H ds vs Q E w rs p=>by
 unfold jL at p
 split at p
 ·cases rs with
  |
   cons r rs=>
   cases rs
   split at p
   ·rename_i xs e
    obtain⟨pa,vs,rfl,hq,rs⟩:=d4 w r e
    rcases hq with hq |hq
    ·exact⟨_,_,rfl,.inl ⟨hq,λl hl=>jj w rs hl p⟩⟩
    ·exact⟨_,_,rfl,.inr ⟨hq,ay w (.tup hq rs) p⟩⟩
   ·exact p.elim
 ·exact p.elim
def Ex(h:X.K=K):CallR X (.type "tuple") (λxs H Q=>∃p ys,xs=[.ref p]/\((SqL K H p ys/\∀l,H l=none->Q (.ref l) (upd H l (.tup ys)))\/(SqT K H p ys/\Q (.ref p) H))):=by subst h;exact pJ
end
inductive Cl where
 |b (n:String) |o (x:Str)
 deriving DecidableEq
noncomputable def tyD(h:AH):D->Option Cl
 |.non=>some (.b "NoneType")
 |.bl _=>some (.b "bool")
 |.int _=>some (.b "int")
 |.str _=>some (.b "str")
 |.tup _=>some (.b "tuple")
 |.exc x=>some (.o x)
 |.ref n=>match h[n]? with
  |some (.lst _)=>some (.b "list")
  |some (.fz _)=>some (.b "list")
  |some (.dct _)=>some (.b "dict")
  |_=>none
 |_=>none
noncomputable def clD:D->Option Cl
 |.ty n=>some (.b n)
 |.glb x=>some (.o x)
 |_=>none
def ClV(mg:Ra):Cl->Value->Prop
 |.b n,v=>v=.type n
 |.o x,v=>∃a,v=.ref a/\mg x=some (.ref a)
abbrev jl:=List (Cl×Cl×Bool)
structure KitsOk(K:W.Frag)(mg:Ra)(kt:jl):Prop where
 one:∀p∈kt,∀t v,ClV mg p.1 t->ClV mg p.2.1 v->W.kitOne K t v=some p.2.2
 xc:∀p∈kt,∀x C,p.1=.o x->mg x=some (.ref C)->XCls K C
noncomputable def kit(kt:jl)(t c:Cl):Option Bool:=(kt.find? λp=>decide (p.1=t)&&decide (p.2.1=c)).map (·.2.2)
noncomputable def fD(kt:jl)(t:Cl):List Cl->Option Bool
 | []=>some false
 |c::r=>match kit kt t c with
  |some true=>some true
  |some false=>fD kt t r
  |none=>none
noncomputable def rS(kt:jl):Fn:=λds h=>match ds with
 | [d,c]=>match tyD h d with
  |some t=>match c with
   |.tup cs=>match cs.mapM clD with
    |some (c0::cr)=>match fD kt t (c0::cr),kit kt t c0 with
     |some b,some _=>.ok (.bl b) h
     |_,_=>.stuck
    |_=>.stuck
   |c=>match clD c with
    |some cl=>match kit kt t cl with
     |some b=>.ok (.bl b) h
     |none=>.stuck
    |none=>.stuck
  |none=>.stuck
 |_=>.stuck
def oy(e:kit kt t c=some b):(t,c,b)∈kt:=by
 unfold kit at e
 cases q:kt.find? (λp=>decide (p.1=t)&&decide (p.2.1=c)) with
 |none=>rw[q] at e;cases e
 |
  some p=>
  rw[q] at e
  have h1:=List.find?_some q
  have h2:=List.mem_of_find?_eq_some q
  simp only[r_,PN] at h1
  obtain⟨p1,p2,p3⟩:=p
  have e3:p3=b:=C_ e
  obtain⟨rfl,rfl⟩:=h1
  subst e3
  exact h2
section
variable{K:W.Frag}{mg:Ra}{X:Cx}{ρ:List Addr}{H:Hp}{h:AH}
def uk(ok:KitsOk K mg kt)(w:Wd K mg ρ h H)(r:RelD K mg ρ H d v)(e:tyD h d=some t)(k:kit kt t c=some b):∃tv,TyX K H v tv/\ClV mg t tv:=by
 cases r with
 |non=>cases e;exact⟨_,.of .non,rfl⟩
 |bl=>cases e;exact⟨_,.of (.bl _),rfl⟩
 |int=>cases e;exact⟨_,.of (.int _),rfl⟩
 |str=>cases e;exact⟨_,.of (.str _),rfl⟩
 |tup q rs=>cases e;exact⟨_,.sqT q,rfl⟩
 |
  exc m ex=>
  cases e
  exact⟨_,.exc ex (ok.xc _ (oy k) _ _ rfl m),_,rfl,m⟩
 |
  ref ea=>
  unfold tyD at e
  dsimp only at e
  split at e
  ·rename_i e1;cases e;obtain⟨vs,h1,h2⟩:=w.ob _ _ _ ea e1;exact⟨_,.of (.lst h1),rfl⟩
  ·rename_i e1;cases e;obtain⟨o,vs,h1,h2⟩:=w.ob _ _ _ ea e1;exact⟨_,.of (.frz h1),rfl⟩
  ·rename_i e1;cases e;obtain⟨ws,h1,_⟩:=w.ob _ _ _ ea e1;exact⟨_,.of (.dK h1),rfl⟩
  ·cases e
 |_=>cases e
def uN(r:RelD K mg ρ H d v)(e:clD d=some c):∃cv,eQ v=some cv/\ClV mg c cv:=by
 cases r with
 |ty n=>cases e;exact⟨_,rfl,rfl⟩
 |glb m=>cases e;exact⟨_,rfl,_,rfl,m⟩
 |_=>cases e
def Ak:∀{ds:List D}{vs:List V}{cs:List Cl},RelDs K mg ρ H ds vs->ds.mapM clD=some cs->∃cvs,vs.mapM eQ=some cvs/\Paired (ClV mg) cs cvs:=by
 intro ds
 induction ds with
 |
  nil=>
  intro vs cs r e
  cases r
  have e':some ([]:List Cl)=some cs:=e
  cases e';exact⟨[],rfl,.nil⟩
 |
  cons d ds ih=>
  intro vs cs r e
  cases r with
  |
   cons r rr=>
   rw[Qc] at e
   cases q:clD d with
   |none=>rw[q] at e;cases e
   |
    some c=>
    rw[q] at e
    cases q2:ds.mapM clD with
    |none=>rw[q2] at e;cases e
    |
     some cs'=>
     rw[q2] at e
     have e':some (c::cs')=some cs:=e
     cases e'
     obtain⟨cv,h1,h2⟩:=uN r q
     obtain⟨cvs,h3,h4⟩:=ih rr q2
     refine⟨cv::cvs,?_,.cons h2 h4⟩
     rw[Qc,h1,h3];rfl
def zf(ok:KitsOk K mg kt)(ht:ClV mg t tv):∀{cs:List Cl}{cvs:List Value}{b:Bool},Paired (ClV mg) cs cvs->fD kt t cs=some b->W.kitAny K tv cvs=some b:=by
 intro cs
 induction cs with
 |
  nil=>
  intro cvs b r e
  cases r
  cases e;rfl
 |
  cons c cs ih=>
  intro cvs b r e
  cases r with
  |
   cons r rr=>
   unfold fD at e
   unfold W.kitAny
   cases q:kit kt t c with
   |none=>rw[q] at e;cases e
   |
    some z=>
    rw[q] at e
    rw[ok.one _ (oy q) _ _ ht r]
    cases z with
    |true=>exact e
    |false=>exact ih rr e
def yj:CallR X (.builtin "isinstance") (λxs H Q=>∃x tp cs t vs b,xs=[x,.ref tp]/\SqT X.K H tp cs/\TyX X.K H x t/\cs.mapM eQ=some vs/\W.kitAny X.K t vs=some b/\Q (.bl b) H):=by
 intro pins s σ H xs us Q I r h
 obtain⟨x,tp,cs,t,vs,b,rfl,ht,ty,hc,hk,q⟩:=h
 obtain⟨u,w',rfl,rx,rc⟩:=mO r
 cases rc
 obtain⟨its,rv,⟨o,e,c,n,d⟩,_⟩:=I.tuple ht
 obtain rfl:=pf hc rv
 obtain⟨Hh,Z,p,hne⟩:=vc I rx ty
 obtain⟨oc,od,odt,osl⟩:=o
 have c':oc=.type "tuple":=c
 have d':odt=.seq its.toArray n:=d
 subst c' d'
 exact W.kia_tup Z I.kIn p e hk hne λtk=>⟨.bl b,H,I.tok _,rfl,q⟩
def MD(hK:X.K=K):CallR X (.builtin "isinstance") (λxs H Q=>(∃x c t v b,xs=[x,c]/\TyX K H x t/\eQ c=some v/\W.kitOne K t v=some b/\Q (.bl b) H)\/
 (∃x tp cs t vs b,xs=[x,.ref tp]/\SqT K H tp cs/\TyX K H x t/\cs.mapM eQ=some vs/\W.kitAny K t vs=some b/\Q (.bl b) H)):=by subst hK;exact A6.or yj
def Gw(ok:KitsOk K mg kt):bA K mg (λxs H Q=>(∃x c t v b,xs=[x,c]/\TyX K H x t/\eQ c=some v/\W.kitOne K t v=some b/\Q (.bl b) H)\/
 (∃x tp cs t vs b,xs=[x,.ref tp]/\SqT K H tp cs/\TyX K H x t/\cs.mapM eQ=some vs/\W.kitAny K t vs=some b/\Q (.bl b) H)) (rS kt):=λρ h H ds vs Q E w rs p=>by
 unfold rS at p
 split at p
 ·cases
   rs with
  |
   cons r rs=>
   cases rs with
   |
    cons r2 rs=>
    cases rs
    split at p
    ·rename_i t e1
     split at p
     ·split
       at p
      ·rename_i cs c0 cr e2
       split at p
       ·rename_i b b' e3 e4
        cases r2 with
        |
         tup q rs2=>
         obtain⟨tv,h1,h2⟩:=uk ok w r e1 e4
         obtain⟨cvs,h3,h4⟩:=Ak rs2 e2
         exact .inr ⟨_,_,_,tv,cvs,b,rfl,q,h1,h3,zf ok h2 h4 e3,ay w (.bl _) p⟩
       ·exact p.elim
      ·exact p.elim
     ·split at p
      ·rename_i cl e2
       split at p
       ·rename_i b e3
        obtain⟨tv,h1,h2⟩:=uk ok w r e1 e3
        obtain⟨cv,h3,h4⟩:=uN r2 e2
        exact .inl ⟨_,_,tv,cv,b,rfl,h1,h3,ok.one _ (oy e3) _ _ h2 h4,ay w (.bl _) p⟩
       ·exact p.elim
      ·exact p.elim
    ·exact p.elim
 ·exact p.elim
end
def MtD(K:W.Frag)(mg:Ra)(r:V->List V->Hp->VK->Prop)(g:D->List D->AH->R D):Prop:=∀ρ h H dx ds x vs Q E,Wd K mg ρ h H->RelD K mg ρ H dx x->RelDs K mg ρ H ds vs->dk K mg ρ H Q E (g dx ds h)->r x vs H Q
def ju(h:AH):D->Bool
 |.ref n=>(aV h n).isSome
 |_=>false
noncomputable def eM(g:D->List D->AH->R D)(F:ME)(A:MA):ME:=λae h=>(F ae h).bind λx h1=>if ju h1 x=true then (A ae h1).bind λds h2=>g x ds h2 else .stuck
def eM0(g:D->List D->AH->R D)(F:ME):ME:=λae h=>(F ae h).bind λx h1=>if ju h1 x=true then g x [] h1 else .stuck
section
variable{K:W.Frag}{mg:Ra}{X:Cx}{ES:St->XK}{o e:Expr}{es:List Expr}{F G:ME}{A:MA}{pos:Pos}
def o7(w:Wd K mg ρ h H)(r:RelD K mg ρ H d v)(q:ju h d=true):tyV K "list" v H:=by
 cases r with
 |
  ref ea=>
  obtain⟨xs,e⟩:=OV.mp q
  obtain⟨vs,h1,_⟩:=bZ w ea e
  exact .inl ⟨rfl,vs,h1⟩
 |_=>cases q
def de_m{name:Str}{id:String}{apos cpos:Pos}{r:V->List V->Hp->VK->Prop}{g:D->List D->AH->R D}(hK:X.K=K)(slot:Slot "list" name id)(hty:typeOf (.builtin id)=pure (.type "method_descriptor"))(hm:MtM X id r)(hd:MtD K mg r g)(ho:DE K mg X ES o F)(ha:DA K mg X ES (e::es) A)
 (d_:attributeBase o name X.env (eval o X.env)=eval o X.env)
 (hfew:((backTo cpos (starEach (e::es) X.env)).all (λx=>!x.1)&&(backToKw cpos (keywordEach [] X.env)).all (λx=>x.1.isSome)
  && decide ((e::es).length+([]:List Keyword).length+(if ([]:List Keyword).isEmpty then 0 else 1)<30))=true)
 (e_:(apos.endLine==cpos.line)=true) (hs:starEach (e::es) X.env=(false,eval e X.env)::starEach es X.env) (ci:(backTo cpos (starEach es X.env)).any (·.1)=false):
 DE K mg X ES (.Call (.Attribute o name apos) (e::es) [] cpos) (eM g F A):=by
 subst hK
 refine PE.imp (CI PySem.F.plainAttrs_list slot hty hm ho ha d_ hfew e_ hs ci) λσ H Q q_=>q_.el λρ h ae w re p=>⟨ρ,h,ae,w,re,p.bind.imp λdx h1 ρ1 H1 l1 w1 p1 x rx=>?_⟩
 split at p1
 ·rename_i hl
  exact⟨o7 w1 rx hl,ρ1,h1,ae,w1,re.mono l1,p1.bind.imp λds h2 ρ2 H2 l2 w2 p2 vs rs=>hd ρ2 h2 H2 dx ds x vs Q _ w2 (rx.mono l2) rs p2⟩
 ·exact p1.elim
def Od{name:Str}{id:String}{apos cpos:Pos}{r:V->List V->Hp->VK->Prop}{g:D->List D->AH->R D}(hK:X.K=K)(slot:Slot "list" name id)(hty:typeOf (.builtin id)=pure (.type "method_descriptor"))(hm:MtM X id r)(hd:MtD K mg r g)(ho:DE K mg X ES o F)
 (d_:attributeBase o name X.env (eval o X.env)=eval o X.env) (e_:(apos.endLine==cpos.line)=true):DE K mg X ES (.Call (.Attribute o name apos) [] [] cpos) (eM0 g F):=by
 subst hK
 refine PE.imp (Gx PySem.F.plainAttrs_list slot hty hm ho d_ e_) λσ H Q q_=>q_.el λρ h ae w re p=>⟨ρ,h,ae,w,re,p.bind.imp λdx h1 ρ1 H1 l1 w1 p1 x rx=>?_⟩
 split at p1
 ·rename_i hl
  exact⟨o7 w1 rx hl,hd ρ1 h1 H1 dx [] x [] Q _ w1 rx .nil p1⟩
 ·exact p1.elim
end
noncomputable def gr(h:AH)(d:D)(f:Nat->List D->R D):R D:=match d with
 |.ref n=>match h[n]? with
  |some (.lst xs)=>f n xs
  |_=>.stuck
 |_=>.stuck
noncomputable def cP:D->List D->AH->R D:=λx ds h=>gr h x λn xs=>match ds with
 | [d]=>if xs.length<16777216 then .ok .non (h.set n (.lst (xs++[d]))) else .stuck
 |_=>.stuck
noncomputable def v3:D->List D->AH->R D:=λx ds h=>gr h x λn xs=>match ds with
 | []=>match xs[xs.length-1]? with
  |some d=>.ok d (h.set n (.lst xs.dropLast))
  |none=>.stuck
 |_=>.stuck
section
variable{K:W.Frag}{mg:Ra}{X:Cx}{ρ:List Addr}{H:Hp}{h:AH}
def gW(w:Wd K mg ρ h H)(r:RelD K mg ρ H d v)(p:dk K mg ρ H Q E (gr h d f)):
 ∃n xs a vs,d=.ref n/\h[n]?=some (.lst xs)/\ρ[n]?=some a/\v=.ref a/\H a=some (.lst vs)/\RelDs K mg ρ H xs vs/\dk K mg ρ H Q E (f n xs):=by
 unfold gr at p
 split at p
 ·cases r with
  |
   ref ea=>
   split at p
   ·rename_i n xs e
    obtain⟨vs,h1,h2⟩:=w.ob _ _ _ ea e
    exact⟨_,_,_,vs,rfl,e,ea,rfl,h1,h2,p⟩
   ·exact p.elim
 ·exact p.elim
def jc(w:Wd K mg ρ h H)(ea:ρ[n]?=some a)(e:H a=some (.lst vs))(rs:RelDs K mg ρ H ys ws)(rd:RelD K mg ρ H d v)(p:dk K mg ρ H Q E (.ok d (h.set n (.lst ys)))):Q v (upd H a (.lst ws)):=by
 have l:Le ρ H ρ (upd H a (.lst ws)):=kf e qu
 exact p ρ _ l (w.write ea e qu ⟨ws,a8,rs.mono l⟩) v (rd.mono l)
def oQ:MtD K mg oB cP:=λρ h H dx ds x vs Q E w rx rs p=>by
 obtain⟨n,xs,a,us,rfl,e,ea,rfl,h1,h2,p⟩:=gW w rx p
 split at p
 ·cases rs with
  |
   cons r rs=>
   cases rs
   split at p
   ·rename_i hl
    exact⟨a,us,_,rfl,rfl,h1,by rw[<- h2.len];exact hl,jc w ea h1 (h2.append (.cons r .nil)) .non p⟩
   ·exact p.elim
 ·exact p.elim
def IZ:MtD K mg By v3:=λρ h H dx ds x vs Q E w rx rs p=>by
 obtain⟨n,xs,a,us,rfl,e,ea,rfl,h1,h2,p⟩:=gW w rx p
 split at p
 ·cases rs
  split at p
  ·rename_i d ed
   obtain⟨v,ev,rv⟩:=h2.getD ed
   rw[h2.len] at ev
   refine⟨a,us,v,rfl,rfl,h1,ev,jc w ea h1 ?_ rv p⟩
   rw[Qb,Qb,h2.len]
   exact h2.take _
  ·exact p.elim
 ·exact p.elim
inductive EqsR(K:W.Frag)(H:Hp)(y:V)(pd:PyData):List V->List Bool->Prop where
 |nil:EqsR K H y pd [] []
 |cons {x:V}{px:PyData}{xs:List V}{bs:List Bool} (rx:Rep K H x px) (hx:shp px=true) (r:EqsR K H y pd xs bs):EqsR K H y pd (x::xs) (PyData.eqv px pd::bs)
end
noncomputable def wL(o i v:D)(h:AH):R Unit:=match o,i with
 |.ref n,.int k=>match h[n]? with
  |some (.lst xs)=>match ixN xs.length k with
   |some j=>.ok () (h.set n (.lst (xs.set j v)))
   |none=>.stuck
  |_=>.stuck
 |_,_=>.stuck
section
variable{K:W.Frag}{mg:Ra}{X:Cx}{ES:St->XK}{o i:Expr}{F G:ME}{pos:Pos}
def E4:nW K mg wO wL:=λρ h H do_ di dv o i v Q E w ro ri rv p=>by
 unfold wL at p
 split at p
 ·cases
   ro with
  |
   ref ea=>
   cases ri
   split at p
   ·rename_i n k xs e
    split at p
    ·rename_i j ej
     obtain⟨vs,h1,h2⟩:=w.ob _ _ _ ea e
     have l:Le ρ H ρ (upd H _ (.lst (vs.set j v))):=kf h1 qu
     exact⟨_,vs,_,j,rfl,rfl,h1,by rw[<- h2.len];exact ej,p ρ _ l (w.write ea h1 qu ⟨_,a8,(h2.set rv j).mono l⟩)⟩
    ·exact p.elim
   ·exact p.elim
 ·exact p.elim
def HX(ho:DE K mg X ES o F)(hi:DE K mg X ES i G)(hs:rQ X t)(hd:nW K mg t f)
 (ha:∀v,assign (.Subscript o i pos) X.env v=(do
  let ov <- holding [v] (eval o X.env)
  let iv <- holding [v,ov] (eval i X.env)
  standAt pos
  holding [v,ov,iv] (setItem ov iv v)
  release [v,ov,iv] [])):DG K mg X ES (.Subscript o i pos) (gS F G f):=
 PG.imp (Kz ho hi hs ha) λv σ H Q q_=>q_.el λρ h ae d w re rd p=>
  ⟨ρ,h,ae,w,re,p.bind.imp λdo_ h1 ρ1 H1 l1 w1 p1 o' ro=>⟨ρ1,h1,ae,w1,re.mono l1,p1.bind.imp λdi h2 ρ2 H2 l2 w2 p2 i' ri=>
   hd ρ2 h2 H2 do_ di d o' i' v _ _ w2 (ro.mono l2) ri ((rd.mono l1).mono l2) (p2.bind.imp λ_ h3 ρ3 H3 l3 w3 p3=>p3 ρ3 H3 Le.refl w3 σ (((re.mono l1).mono l2).mono l3))⟩⟩
end
def cutD(xs:List D)(lo hi:Option Int):List D:=(xs.drop (HT.sIx xs.length 0 lo)).take (HT.sIx xs.length xs.length hi-HT.sIx xs.length 0 lo)
abbrev MO:=AE->AH->R (Option Int)
def wX:MO:=λ_ h=>.ok none h
noncomputable def vZ(F:ME):MO:=λae h=>(F ae h).bind λd h1=>match d with
 |.int i=>.ok (some i) h1
 |_=>.stuck
noncomputable def gSl(x:D)(lo hi:Option Int)(h:AH):R D:=match x with
 |.tup xs=>if HT.sIx xs.length 0 lo=0/\HT.sIx xs.length xs.length hi=xs.length then .stuck else .ok (.tup (cutD xs lo hi)) h
 |.ref n=>match aV h n with
  |some xs=>.ok (.ref h.length) (h++[.lst (cutD xs lo hi)])
  |none=>.stuck
 |.kl xs=>.ok (.ref h.length) (h++[.lst (cutD xs lo hi)])
 |_=>.stuck
noncomputable def eSl(F:ME)(L U:MO):ME:=λae h=>(F ae h).bind λx h1=>(L ae h1).bind λlo h2=>(U ae h2).bind λhi h3=>gSl x lo hi h3
section
variable{K:W.Frag}{mg:Ra}{X:Cx}{ES:St->XK}{e:Expr}{F:ME}{L U:MO}{lo hi:Option Expr}{pos p2:Pos}
def rdO(K:W.Frag)(mg:Ra)(ES:St->XK)(F:MO):TO:=λσ H Q=>∃ρ h ae,Wd K mg ρ h H/\RelE K mg ρ H ae σ/\PostG K mg ρ H (ES σ) (λo _ ρ' H'=>Q o H') (F ae h)
def DO(K:W.Frag)(mg:Ra)(X:Cx)(ES:St->XK)(e:Option Expr)(F:MO):Prop:=PO X e (rdO K mg ES F)
def FU:DO K mg X ES none wX:=PO.imp EJ λσ H Q ⟨ρ,h,ae,w,re,p⟩=>p ρ H Le.refl w
def Ed(he:DE K mg X ES e F):DO K mg X ES (some e) (vZ F):=PO.imp (DZ he) λσ H Q ⟨ρ,h,ae,w,re,p⟩=>⟨ρ,h,ae,w,re,p.bind.imp λd h1 ρ1 H1 l1 w1 p1 v rv=>by
 split at p1
 ·cases rv;exact⟨_,rfl,p1 ρ1 H1 Le.refl w1⟩
 ·exact p1.elim⟩
def oF(r:RelDs K mg ρ H xs vs)(lo hi:Option Int):RelDs K mg ρ H (cutD xs lo hi) (jG vs lo hi):=by
 unfold cutD jG
 rw[<- r.len]
 exact (r.drop _).take _
def slK(h:X.K=K):SlR X (λx lo hi H Q=>rSlL K x lo hi H Q\/rSlT K x lo hi H Q):=by subst h;exact FX.or Ia
def Az(hK:X.K=K)(he:DE K mg X ES e F)(hl:DO K mg X ES lo L)(hu:DO K mg X ES hi U):DE K mg X ES (.Subscript e (.Slice lo hi none p2) pos) (eSl F L U):=
 PE.imp (
  AB (slK hK) he hl hu) λσ H Q q_=>q_.el λρ h ae w re p=>⟨ρ,h,ae,w,re,p.bind.imp λd h1 ρ1 H1 l1 w1 p1 x rx=>⟨ρ1,h1,ae,w1,re.mono l1,p1.bind.imp λlo h2 ρ2 H2 l2 w2 p2=>⟨ρ2,h2,ae,w2,(re.mono l1).mono l2,p2.bind.imp λhi h3 ρ3 H3 l3 w3 p3=>by
  have rx3:=(rx.mono l2).mono l3
  unfold gSl at p3
  split at p3
  ·split at p3
   ·exact p3.elim
   ·rename_i hn
    cases rx3 with
    |tup q rs=>exact .inr ⟨_,_,rfl,q,by rw[<- rs.len];exact hn,λl hl=>jj w3 (oF rs lo hi) hl p3⟩
  ·split at p3
   ·rename_i xs e1
    cases rx3 with
    |
     ref ea=>
     obtain⟨vs,q,rs⟩:=bZ w3 ea e1
     exact .inl ⟨_,_,rfl,q,λl hl=>gG w3 (oF rs lo hi) hl p3⟩
   ·exact p3.elim
  ·cases rx3 with
   |kl q rs=>exact .inl ⟨_,_,rfl,.inr q,λl hl=>gG w3 (oF rs lo hi) hl p3⟩
  ·exact p3.elim⟩⟩⟩
end
noncomputable def sM(d:D)(h:AH):R Bool:=match d with
 |.non=>.ok false h
 |.bl b=>.ok b h
 |.int i=>.ok (i != 0) h
 |d=>match cM h d with
  |some xs=>.ok (!xs.isEmpty) h
  |none=>.stuck
def tTr(F:ME):MT:=λae h=>(F ae h).bind sM
section
variable{K:W.Frag}{mg:Ra}{X:Cx}{ES:St->XK}{a:Expr}{F:ME}
def Cs(hK:X.K=K)(ha:DE K mg X ES a F)(he:∀c_,isTrue a X.env c_=(do let v <- c_;standAt a.pos;holding [v] (truthy v))):DT K mg X ES a (tTr F):=by
 subst hK
 refine PT.imp (Bn ha he) λσ H Q q_=>q_.el λρ h ae w re p=>⟨ρ,h,ae,w,re,p.bind.imp λd h1 ρ1 H1 l1 w1 p1 x rx=>?_⟩
 have items:∀{xs:List D},cM h1 d=some xs->Q (!xs.isEmpty) H1->∃k,zS X.K x H1 k/\Q k H1:=λ{xs} e q=>by
  obtain⟨pa,vs,rfl,hq,rs⟩:=d4 w1 rx e
  have ee:xs.isEmpty=vs.isEmpty:=by cases rs <;> rfl
  rw[ee] at q
  rcases hq with hq |hq
  ·exact⟨_,.inl ⟨vs,hq,rfl⟩,q⟩
  ·exact⟨_,.inr (.inl ⟨vs,hq,rfl⟩),q⟩
 unfold sM at p1
 split at p1
 ·cases rx;exact⟨_,rfl,p1 ρ1 H1 Le.refl w1⟩
 ·cases rx;exact⟨_,rfl,p1 ρ1 H1 Le.refl w1⟩
 ·cases rx;exact⟨_,rfl,p1 ρ1 H1 Le.refl w1⟩
 ·split at p1
  ·rename_i xs e1;exact items e1 (p1 ρ1 H1 Le.refl w1)
  ·exact p1.elim
end
abbrev cxT(X:Cx)(pn:Rb)(xe:Rg):Cx:={ X with pn:=pn,xe:=xe }
section
variable{X:Cx}{pins pins2 pn:Rb}{σ:St}{H:Hp}{s:Shared}{xe:Rg}
def Inv.toT(I:Inv X pins σ H s):Inv (cxT X (X.pn++pins) xe) [] σ H s:=
 ⟨⟨I.ok.mod,I.ok.kind,I.ok.glob,I.ok.blt,I.ok.above,I.ok.inj,I.ok.has,I.ok.cab,I.ok.hd,I.ok.frames,I.ok.stk,I.ok.exf,I.ok.bs,I.ok.bsz,I.ok.noex,I.ok.exfs,I.ok.funs,I.ok.frf⟩,I.os,I.bare,I.base,I.loc,I.cell,I.free,I.freeC,λp hp=>I.pin p (by simpa using hp),I.hok,I.len⟩
def Inv.ofT(I:Inv (cxT X (X.pn++pins) xe) pins2 σ H s):Inv X pins σ H s:=
 ⟨⟨I.ok.mod,I.ok.kind,I.ok.glob,I.ok.blt,I.ok.above,I.ok.inj,I.ok.has,I.ok.cab,I.ok.hd,I.ok.frames,I.ok.stk,I.ok.exf,I.ok.bs,I.ok.bsz,I.ok.noex,I.ok.exfs,I.ok.funs,I.ok.frf⟩,I.os,I.bare,I.base,I.loc,I.cell,I.free,I.freeC,λp hp=>I.pin p (PU _ hp),I.hok,I.len⟩
end
noncomputable def rJ(mro:List Str)(i:Nat)(B U:MS):MS:=λae h=>match B ae h with
 |
  .exc c ae1 h1=>if c∈mro then match U (ae1.set i (some (.exc c))) h1 with
   |.nx ae2 h2=>.nx (ae2.set i none) h2
   |.bk ae2 h2=>.bk (ae2.set i none) h2
   |.ct ae2 h2=>.ct (ae2.set i none) h2
   |.rt d h2=>.rt d h2
   |_=>.stuck
  else .stuck
 |r=>r
section
variable{K:W.Frag}{mg:Ra}{X:Cx}{ES:St->XK}{x n:Str}{C:Addr}{i:Nat}{body suite:List Stmt}{b₀:Stmt}{B U:MS}{np hpos pos:Pos}{mro:List Str}
def FE(hb:∀(pn:Rb) (xe:Rg) (ES':St->XK),fM (cxT X pn xe) ES'->DSs K mg (cxT X pn xe) ES' body B):PSsx X body (λDe E σ H=>∃ρ h ae,Wd K mg ρ h H/\RelE K mg ρ H ae σ/\PostS K mg ρ H De E (B ae h)):=by
 intro pins s σ H De E I hh
 let xe:Value->Shared->Prop:=λe s'=>∃pins2 σ1 H1 s1,Inv (cxT X (X.pn++pins) (λ_ _=>False)) pins2 σ1 H1 s1/\CX1 X.prog X.w X.stack H1 s1 (E σ1) e s'
 have hx:fM (cxT X (X.pn++pins) xe) E:=λpins2 σ1 H1 s1 e s' I1 q=>⟨pins2,σ1,H1,s1,⟨⟨I1.ok.mod,I1.ok.kind,I1.ok.glob,I1.ok.blt,I1.ok.above,I1.ok.inj,I1.ok.has,I1.ok.cab,I1.ok.hd,I1.ok.frames,I1.ok.stk,I1.ok.exf,I1.ok.bs,I1.ok.bsz,I1.ok.noex,I1.ok.exfs,I1.ok.funs,I1.ok.frf⟩,I1.os,I1.bare,I1.base,I1.loc,I1.cell,I1.free,I1.freeC,I1.pin,I1.hok,I1.len⟩,q⟩
 refine OL (hb (X.pn++pins) xe E hx [] s σ H De I.toT hh) (λf s' q=>?_) λe s' q=>?_
 ·cases f with
  |next=>obtain⟨σ1,H1,I1,q1⟩:=q;exact⟨σ1,H1,I1.ofT,q1⟩
  |brk=>obtain⟨σ1,H1,I1,q1⟩:=q;exact⟨σ1,H1,I1.ofT,q1⟩
  |cont=>obtain⟨σ1,H1,I1,q1⟩:=q;exact⟨σ1,H1,I1.ofT,q1⟩
  |ret u=>obtain⟨v,σ1,H1,I1,r1,q1⟩:=q;exact⟨v,σ1,H1,I1.ofT,r1,q1⟩
 ·obtain⟨pins2,σ1,H1,s1,I1,q1⟩:=q
  exact⟨σ1,H1,s1,I1.ofT,q1⟩
def Ki(T:X.Top)(hN:X.N.Nodup)(hi:X.N[i]?=some n)(hl:X.env.kindOf n=some .local)(hg:Gl X x)(hm:mg x=some (.ref C))(hh:XHand K C)(hmro:∀c∈mro,∀Ce,mg c=some (.ref Ce)->W.mroIn K Ce (.ref C)=some true)
 (hb:∀(pn:Rb) (xe:Rg) (ES':St->XK),fM (cxT X pn xe) ES'->DSs K mg (cxT X pn xe) ES' body B) (hs:∀ea,DSs K mg (gy X ea) (λ_=>E0) (b₀::suite) U)
 (hK:X.K=K) (hk:X.mg=mg) (hd:(x==("__debug__" : Str))=false):DS K mg X ES (.Try body [.ExceptHandler (some (.Name x np)) (some n) (b₀::suite) hpos] [] [] pos) (rJ mro i B U):=by
 subst hK hk
 refine PS.imp (GH T hN hi hl hg hm hh (FE hb) hs hd) λDe σ H q_=>q_.el λρ h ae w re p=>⟨ρ,h,ae,w,re,?_⟩
 unfold rJ at p
 cases q:B ae h with
 |nx a1 h1=>rw[q] at p;exact p
 |rt a1 h1=>rw[q] at p;exact p
 |bk a1 h1=>rw[q] at p;exact p
 |ct a1 h1=>rw[q] at p;exact p
 |stuck=>rw[q] at p;exact p
 |
  exc c ae1 h1=>
  rw[q] at p
  dsimp only at p
  split at p
  ·rename_i hc
   intro ρ1 H1 σ1 Ce l1 w1 re1 mc
   refine⟨Ce,rfl,hmro c hc Ce mc,λea hn=>⟨ρ1,h1,ae1.set i (some (.exc c)),w1.tuple hn,(re1.mono (cx hn)).set i (.exc mc a8),?_⟩⟩
   have p':=PostS.mono (l1.trans (cx (o:=.ext (oq ea Ce)) hn)) p
   cases q2:U (ae1.set i (some (.exc c))) h1 with
   |nx a2 h2=>rw[q2] at p';exact λρ2 H2 σ2 l2 w2 re2=>p' ρ2 H2 _ l2 w2 (re2.unset i)
   |bk a2 h2=>rw[q2] at p';exact λρ2 H2 σ2 l2 w2 re2=>p' ρ2 H2 _ l2 w2 (re2.unset i)
   |ct a2 h2=>rw[q2] at p';exact λρ2 H2 σ2 l2 w2 re2=>p' ρ2 H2 _ l2 w2 (re2.unset i)
   |rt d h2=>rw[q2] at p';exact p'
   |exc c2 a2 h2=>rw[q2] at p';exact p'.elim
   |stuck=>rw[q2] at p';exact p'.elim
  ·exact p.elim
end
structure Script(h:AH)(d:D)(ns:List Int):Prop where
 form:(∃n,d=.ref n/\h[n]?=some (.fz (ns.map D.int)))\/d=.kl (ns.map D.int)
theorem i8{K:W.Frag}{mg:Ra}{ρ:List Addr}{H:Hp}:∀(ns:List Int),RelDs K mg ρ H (ns.map D.int) (ns.map V.int)
 | []=>.nil
 |_::r=>.cons (.int _) (i8 r)
def zY{P:Program}{w:World}{K:W.Frag}{mg:Ra}{base:Heap}{x y:Str}{k:Nat}{S:Fn}(C:Callee P w K mg base x k [y] (spD K mg 1 S))
 (hS:∀(d:D) (h:AH) (ns:List Int),ns.length<=63->Script h d ns->∃h',S [d] h=.ok (.bl true) h'):Callee P w K mg base x k [y] (λvs H Q _=>∃(a:Addr) (ns:List Int),vs=[.ref a]/\nI H/\SqL K H a (ns.map V.int)/\ns.length<=63/\∀H',Q (.bl true) H'):=by
 refine C.imp λvs H Q E ⟨a,ns,e,hO,hq,hl,q⟩=>?_
 subst e
 rcases hq with (hq |⟨o,hq⟩) |hq
 ·rcases hO a with z |⟨o,xs,z⟩ <;> rw[hq] at z <;> cases z
 ·obtain⟨h',e⟩:=hS (.ref 0) [.fz (ns.map D.int)] ns hl ⟨.inl ⟨0,rfl,rfl⟩⟩
  refine⟨[a],[.fz (ns.map D.int)],[.ref 0],⟨rfl,by simp,λn b ob e1 e2=>?_⟩,.cons (.ref rfl) .nil,rfl,?_⟩
  ·cases n with
   |zero=>cases e1;cases e2;exact⟨o,_,hq,i8 ns⟩
   |succ n=>simp at e1
  ·rw[e]
   exact λρ' H' l' w' v rv=>by cases rv;exact q H'
 ·obtain⟨h',e⟩:=hS (.kl (ns.map D.int)) [] ns hl ⟨.inr rfl⟩
  refine⟨[],[],[.kl (ns.map D.int)],⟨rfl,by simp,λn b ob e1 e2=>by simp at e1⟩,.cons (.kl hq (i8 ns)) .nil,rfl,?_⟩
  rw[e]
  exact λρ' H' l' w' v rv=>by cases rv;exact q H'
def walk_lawD{l:W.OpenLaw}{q:Program}{loose:List Str}{XP:(Str->Option Value)->Heap->Prop}{YP:World->Heap->Prop}{d:DefRec}{K:Params->W.Frag}{x:Str}{k:Nat}(hn:l.most=some 63)(hdf:d.params.defaults=[])(hr:Room k callerA)
 (hY:∀(w:World) (h:Heap),YP w h->(K w.params).In h)
 (F:∀(w:World) (mg:Ra) (h:Heap),(K w.params).In h->h.Ns mainGlobals mg->∀base:Heap,(K w.params).In base->base.Ns mainGlobals mg->Callee l.prog w (K w.params) mg base d.name k [x] (λvs H Q _=>∃(a:Addr) (ns:List Int),vs=[.ref a]/\nI H/\SqL (K w.params) H a (ns.map V.int)/\ns.length<=63/\∀H',Q (.bl true) H'))
 (D:∀(w:World) (mg:Ra) (h:Heap),(K w.params).In h->h.Ns mainGlobals mg->∃st,Def (K w.params) mg d.name st/\∀(kV doc pm:Value) (an:Option Addr) (cdv ct:Value) (us:List Value),us.length=1->bindArgs (W.fnOf d.name d.name (b0 st) (aY st) (au st) .none kV doc pm an cdv ct) ⟨us,[]⟩=pure ([x].zip us)):
 W.WalkO q loose XP YP l.row.toRowW d [] (λf vs=>PySem.call f vs):=by
 refine L2.walk_of (n:=63) (k:=k) (x:=x) (CX:=λw=>CX1 l.prog w) (sp:=λw=>λvs H Q _=>∃(a:Addr) (ns:List Int),vs=[.ref a]/\nI H/\SqL (K w.params) H a (ns.map V.int)/\ns.length<=63/\∀H',Q (.bl true) H') hn (by decide) hdf hr hY (λw mg fa h KX G hmg=>?_) (λ_ _ a ns hl hO hS=>⟨a,ns,rfl,hO,hS,hl,λ_=>rfl⟩) λ_ _ _ _ _ ⟨_,_,_,_,_,_,_,_,_,z⟩=>z
 obtain⟨st,Dd,hbind⟩:=D w mg h KX G
 obtain⟨f,fd,Ff,m⟩:=Dd.ex
 have e:=hmg.symm.trans m
 cases e
 obtain⟨oc,od,kV,doc,pm,an,cdv,ct,osl,rfl,lk,hcd⟩:=Ff.ex
 refine⟨_,λs u=>.of_eq (hbind kV doc pm an cdv ct [u] rfl),λbase kb nb=>?_⟩
 obtain⟨f',fd',F',m',kp',b',oc',od',osl',lk'⟩:=(F w mg h KX G base kb nb).ex
 rw[m] at m'
 cases m'
 rw[lk] at lk'
 cases lk'
 exact F'
mutual
inductive Bel(N:Nat):D->Prop where
 |non:Bel N .non
 |bl (b:Bool):Bel N (.bl b)
 |int (i:Int):Bel N (.int i)
 |str (x:Str):Bel N (.str x)
 |ty (n:String):Bel N (.ty n)
 |glb (x:Str):Bel N (.glb x)
 |exc (x:Str):Bel N (.exc x)
 |tup {ds:List D} (r:Bels N ds):Bel N (.tup ds)
 |ref {n:Nat} (h:n<N):Bel N (.ref n)
 |kl {ds:List D} (r:Bels N ds):Bel N (.kl ds)
inductive Bels(N:Nat):List D->Prop where
 |nil:Bels N []
 |cons {d:D}{ds:List D} (r:Bel N d) (rr:Bels N ds):Bels N (d::ds)
end
def Cq(N:Nat):Ob->Prop
 |.lst xs=>Bels N xs
 |.fz xs=>Bels N xs
 |.dct kvs=>Bels N (kvs.map (·.2))
 |_=>True
section
variable{K:W.Frag}{mg:Ra}{ρ ρ1 ρ2:List Addr}{H H1:Hp}{h:AH}
end
inductive Rf(h:AH):R D->R D->Prop where
 |stuck (r:R D):Rf h r .stuck
 |eq (r:R D):Rf h r r
 |val {d:D}{h2 g:AH} (hl:h2.length=h.length) (ho:∀(n:Nat) (o:Ob),h2[n]?=some o->h[n]?=some o\/Cq h.length o) (hd:Bel h.length d):Rf h (.ok d (h2++g)) (.ok d h2)
 |exc {c:Str}{h2 g:AH} (hl:h2.length=h.length) (ho:∀(n:Nat) (o:Ob),h2[n]?=some o->h[n]?=some o\/Cq h.length o):Rf h (.exc c (h2++g)) (.exc c h2)
 |lst {m:Nat}{h1 h2:AH}{ys:List D} (hl:h2.length=h.length) (ho:∀(n:Nat) (o:Ob),h2[n]?=some o->h[n]?=some o\/Cq h.length o) (hs:∀(n:Nat) (o:Ob),h2[n]?=some o->h1[n]?=some o) (em:h1[m]?=some (.lst ys)) (hm:h.length<=m) (hy:Bels h.length ys):Rf h (.ok (.ref m) h1) (.ok (.ref h.length) (h2++[.lst ys]))
section
variable{K:W.Frag}{mg:Ra}{ρ:List Addr}{H:Hp}{h:AH}
end
def xu:D->D->AH->R D:=gOr (gI λi j=>.int (i+j)) kX
def BX:D->D->AH->R D:=gI λi j=>.int (i-j)
def CMulA(i j:Int):Prop:=Dq i j\/CMul i j
def zU:D->D->AH->R D:=gIc CMulA λi j=>.int (i*j)
def Bz:D->D->AH->R D:=gIc CDivB λi j=>.int (i.fdiv j)
def BO:D->D->AH->R D:=gIc (λ_ j=>j≠0) λi j=>.int (i.fmod j)
def Al:D->D->AH->R D:=gIc gi λi j=>.int (i^j.toNat)
def Ap:D->D->AH->R D:=gIc gi λi j=>.int (i*2^j.toNat)
def gLt:D->D->AH->R D:=gI λi j=>.bl (decide (i<j))
def gLe:D->D->AH->R D:=gI λi j=>.bl (decide (i<=j))
def gGt:D->D->AH->R D:=gI λi j=>.bl (decide (j<i))
def gGe:D->D->AH->R D:=gI λi j=>.bl (decide (j<=i))
def vH:D->AH->R D:=λx h=>match x with
 |.int i=>.ok (.int (-i)) h
 |_=>.stuck
def vD(n:Nat)(S:Fn)(A:MA):ME:=eFn (λds h=>if ds.length=n then S ds h else .stuck) A
section
variable{K:W.Frag}{mg:Ra}{X:Cx}
def IT(h:X.K=K):OpR X (binaryOp .Add) (λx y H Q=>rI0 (λi j=>.int (i+j)) x y H Q\/(n8 x y H Q\/(j4 K x y H Q\/jZ K x y H Q))):=GQ.or (catK h)
def Gm:OpD K mg (λx y H Q=>rI0 (λi j=>.int (i+j)) x y H Q\/(n8 x y H Q\/(j4 K x y H Q\/jZ K x y H Q))) xu:=(iL λ_ _ _ _=>.int _).or Fj
def Je:OpD K mg (rI0 λi j=>.int (i-j)) BX:=iL λ_ _ _ _=>.int _
def Ji:OpR X (binaryOp .Mult) (rI CMulA λi j=>.int (i*j)):=by
 intro pins s σ H x y v u Q I rx ry h
 obtain⟨i,j,e1,e2,hc,q⟩:=h
 rcases hc with hc |hc
 ·exact DH pins s σ H x y v u Q I rx ry ⟨i,j,e1,e2,hc,q⟩
 ·exact Jq pins s σ H x y v u Q I rx ry ⟨i,j,e1,e2,hc,q⟩
def HJ:OpD K mg (rI CMulA λi j=>.int (i*j)) zU:=lW λ_ _ _ _=>.int _
def IK:OpD K mg (rI CDivB λi j=>.int (i.fdiv j)) Bz:=lW λ_ _ _ _=>.int _
def I0:OpD K mg (rI (λ_ j=>j≠0) λi j=>.int (i.fmod j)) BO:=lW λ_ _ _ _=>.int _
def Hw:OpD K mg (rI gi λi j=>.int (i^j.toNat)) Al:=lW λ_ _ _ _=>.int _
def HZ:OpD K mg (rI gi λi j=>.int (i*2^j.toNat)) Ap:=lW λ_ _ _ _=>.int _
def Nr:OpD K mg (rI0 λi j=>.bl (decide (i<j))) gLt:=iL λ_ _ _ _=>.bl _
def NM:OpD K mg (rI0 λi j=>.bl (decide (i<=j))) gLe:=iL λ_ _ _ _=>.bl _
def N2:OpD K mg (rI0 λi j=>.bl (decide (j<i))) gGt:=iL λ_ _ _ _=>.bl _
def NS:OpD K mg (rI0 λi j=>.bl (decide (j<=i))) gGe:=iL λ_ _ _ _=>.bl _
def JI:UnD K mg (rU λi=>.int (-i)) vH:=λρ h H dx x Q E w rx p=>by
 unfold vH at p
 split at p
 ·cases rx;exact⟨_,rfl,ay w (.int _) p⟩
 ·exact p.elim
def ED:IpD K mg (ipI λi j=>i+j) (gI λi j=>.int (i+j)):=λρ h H dx dy x y Q E w rx ry p=>by
 unfold gI at p
 split at p
 ·cases rx;cases ry;exact⟨_,_,rfl,rfl,ay w (.int _) p⟩
 ·exact p.elim
variable{ES:St->XK}{e:Expr}{es:List Expr}{A:MA}{pos:Pos}
def AZ(C:Callee X.prog X.w X.K X.mg X.base x k ps (spD K mg n S))(hr:Room k X.A)(hg:Gl X x)(hx:fM X ES)(ha:DA K mg X ES (e::es) A)
 (hdb:(x==("__debug__" : Str))=false) (he:starEach (e::es) X.env=(false,eval e X.env)::starEach es X.env) (hpl:(backTo pos (starEach es X.env)).any (·.1)=false):
 DE K mg X ES (.Call (.Name x p) (e::es) [] pos) (vD n S A):=F8 C hr hg hx ha hdb he hpl
end
section
variable{ae:AE}{h:AH}
@[simp] theorem fu(a:α)(h:AH)(f:α->AH->R β):(R.ok a h).bind f=f a h:=rfl
end
def g6(h1:pd.canLay0=true)(h2:pd.depth<=160):shp pd=true:=by
 unfold shp
 rw[h1,G_ h2];rfl
def Sm(n:Nat)(x:Int):Prop:=x.natAbs<2^n
def Sm.mono(h:Sm n x)(l:n<=m):Sm m x:=Em h (Pp (by omega) l)
def Sm.mul(h:Sm n x)(k:Sm m y):Sm (n+m) (x*y):=by
 unfold Sm at *
 rw[O2,P8]
 exact Nat.mul_lt_mul'' h k
def Sm.add'(h:Sm n x)(k:Sm n y):Sm (n+1) (x+y):=by
 unfold Sm at *
 have h3:2^(n+1)=2^n+2^n:=by rw[Nat.pow_succ];omega
 have h4:(x+y).natAbs<=x.natAbs+y.natAbs:=Int.natAbs_add_le x y
 omega
def Sm.bits(h:Sm n x):Builtin.Int.intBits x<=n:=intBits_le_iff.mpr h
def Sm.of_le(h:Sm n y)(l:x.natAbs<=y.natAbs):Sm n x:=Pz l h
def CMulA.of(h:Sm n x)(k:Sm m y)(hn:n<=100000)(hm:m<=100000):CMulA x y:=.inl ⟨F_ h.bits hn,F_ k.bits hm⟩
def CMulA.left(h:-(2^64)<x)(k:x<2^64):CMulA x y:=.inr (.inl ⟨h,k⟩)
def CMulA.right(h:-(2^64)<y)(k:y<2^64):CMulA x y:=.inr (.inr ⟨h,k⟩)
def CDivB.of(h0:y≠0)(h:Sm 8000 y):CDivB x y:=⟨h0,h.bits⟩
structure Sz(n:Nat)(q:Rat):Prop where
 top:Sm n q.num
 bot:Sm n (q.den:Int)
def Sz.mono(h:Sz n q)(l:n<=m):Sz m q:=⟨h.top.mono l,h.bot.mono l⟩
def yX{a b:Int}(hb:b≠0):((a:Rat)/(b:Rat)).num*b=a*((a:Rat)/(b:Rat)).den:=by
 have h2:=Rat.num_divInt_den ((a:Rat)/(b:Rat))
 have h3:Rat.divInt ((a:Rat)/(b:Rat)).num (((a:Rat)/(b:Rat)).den:Int)=Rat.divInt a b:=by rw[h2,Rat.divInt_eq_div]
 exact (Rat.divInt_eq_divInt_iff (by have:=((a:Rat)/(b:Rat)).den_nz;omega) hb).mp h3
def uo(q:Rat):Int.gcd q.num q.den=1:=by
 have:=q.reduced
 exact this
def mP(hb:b≠0):Fr.T a b=((a:Rat)/(b:Rat)).num/\Fr.B a b=(((a:Rat)/(b:Rat)).den:Int):=by
 refine Fr.uniq (Fr.B_pos hb) (by have:=((a:Rat)/(b:Rat)).den_pos;omega) (Fr.low hb) (uo _) ?_
 have h1:=Fr.cross (a:=a) hb
 have h2:=yX (a:=a) hb
 generalize ((a:Rat)/(b:Rat)).num=n at *
 generalize (((a:Rat)/(b:Rat)).den:Int)=d at *
 generalize Fr.T a b=x at *
 generalize Fr.B a b=y at *
 have h3:(x*d)*b=(n*y)*b:=by
  calc x*d*b=(x*b)*d:=by rw[Qu]
   _=a*y*d:=by rw[h1]
   _=(a*d)*y:=by rw[Qu]
   _=n*b*y:=by rw[h2]
   _=n*y*b:=by rw[Qu]
 exact Qj hb h3
def vW{a b:Int}(hb:b≠0):((a:Rat)/(b:Rat)).num.natAbs<=a.natAbs:=by
 have h:=(mP (a:=a) hb).1
 rw[<- h]
 have h1:=Fr.T_mul (a:=a) hb
 have h2:=Fr.dv_ne (a:=a) hb
 have h3:(Fr.T a b).natAbs*(Fr.dv a b).natAbs=a.natAbs:=by rw[<- O2,h1]
 have h4:1<=(Fr.dv a b).natAbs:=by omega
 calc (Fr.T a b).natAbs=(Fr.T a b).natAbs*1:=by omega
  _<=(Fr.T a b).natAbs*(Fr.dv a b).natAbs:=Pb _ h4
  _=a.natAbs:=h3
def wR{a b:Int}(hb:b≠0):((((a:Rat)/(b:Rat)).den:Int)).natAbs<=b.natAbs:=by
 have h:=(mP (a:=a) hb).2
 rw[<- h]
 have h1:=Fr.B_mul (a:=a) hb
 have h2:=Fr.dv_ne (a:=a) hb
 have h3:(Fr.B a b).natAbs*(Fr.dv a b).natAbs=b.natAbs:=by rw[<- O2,h1]
 have h4:1<=(Fr.dv a b).natAbs:=by omega
 calc (Fr.B a b).natAbs=(Fr.B a b).natAbs*1:=by omega
  _<=(Fr.B a b).natAbs*(Fr.dv a b).natAbs:=Pb _ h4
  _=b.natAbs:=h3
def Sz.div(hb:b≠0)(ha:Sm n a)(hb':Sm m b)(k:Nat)(h1:n<=k)(h2:m<=k):Sz k ((a:Rat)/(b:Rat)):=
 ⟨(ha.of_le (vW hb)).mono h1,(hb'.of_le (wR hb)).mono h2⟩
def cV(q:Rat):(q.den:Int)≠0:=by have:=q.den_nz;omega
def fj(q:Rat):q=(q.num:Rat)/((q.den:Int):Rat):=by
 have:=Rat.num_divInt_den q
 rw[Rat.divInt_eq_div] at this
 exact this.symm
def mS{b:Int}(h:b≠0):(b:Rat)≠0:=by
 intro z
 exact h (by exact_mod_cast z)
def nM(p q:Rat):p+q=((p.num*q.den+q.num*p.den:Int):Rat)/((p.den*q.den:Int):Rat):=by
 have h1:=mS (cV p)
 have h2:=mS (cV q)
 conv=>lhs;rw[fj p,fj q]
 simp only[QQ,Pa]
 grind
def uM(p q:Rat):p*q=((p.num*q.num:Int):Rat)/((p.den*q.den:Int):Rat):=by
 have h1:=mS (cV p)
 have h2:=mS (cV q)
 conv=>lhs;rw[fj p,fj q]
 simp only[Pa]
 grind
def Sz.add(hp:Sz n p)(hq:Sz m q):Sz (n+m+1) (p+q):=by
 rw[nM]
 have h1:=(hp.top.mul hq.bot)
 have h2:=(hq.top.mul hp.bot)
 exact Sz.div (by have:=cV p;have:=cV q;exact Qp ‹_› ‹_›) (h1.add' (by rw[Nat.add_comm n m];exact h2)) (hp.bot.mul hq.bot) _ (by omega) (by omega)
def Sz.mul(hp:Sz n p)(hq:Sz m q):Sz (n+m) (p*q):=by
 rw[uM]
 exact Sz.div (by have:=cV p;have:=cV q;exact Qp ‹_› ‹_›) (hp.top.mul hq.top) (hp.bot.mul hq.bot) _ (by omega) (by omega)
def uU{q:Rat}:0<q.num ↔ 0<q:=by
 have h1:=Rat.num_nonneg (q:=q)
 have h2:=Rat.num_eq_zero (q:=q)
 constructor
 ·intro h
  refine Rat.lt_of_le_of_ne (h1.mp (by omega)) λz=>?_
  have:=h2.mpr z.symm
  omega
 ·intro h
  have h3:=h1.mpr (Rat.le_of_lt h)
  have h4:q.num≠0:=λz=>(Rat.ne_of_lt h) (h2.mp z).symm
  omega
def Iv(p q:Rat):p<q ↔ p.num*q.den<q.num*p.den:=Rat.lt_iff p q
section
variable(ae:AE)(h:AH)
end
theorem iJ:∀{ws:List Int},(∀w∈ws,0<=w)->0<=ws.sum
 | [],_=>Int.le_refl _
 |
  w::ws,h=>by
  have:=h w (n_ ..)
  have:=iJ (ws:=ws) λv hv=>h v (l_ _ hv)
  rw[N_];omega
def Hy{K:W.Frag}{h:Heap}{mg:Ra}{x:Str}{a:Addr}{dd:Option Addr}{its:Array Value}{n:Nat}{sl:Array (Option Value)}{vs:List V}{ds:List D}(X:K.In h)(G:h.Ns mainGlobals mg)(e:W.nsIn K mainGlobals x=some (some (.ref a)))
 (l:K.lookup a=some ⟨.type "tuple",dd,.seq its n,sl⟩) (hs:its.size<=sizeLine) (hv:Vals vs its.toList) (hr:∀ρ H,RelDs K mg ρ H ds vs):GC K mg x (.tup ds):=
 ⟨_,.ref a,W.mg_of X G e,rfl,λρ H=>.tup (.inr ⟨_,its,n,l,rfl,rfl,hs,hv⟩) (hr ρ H)⟩
def sY{P:Program}{w:World}{H:Hp}(h:Heap)(hb:sysModules<h.objs.size):ObjOk P w H (h.push { cls:=.type "dict",data:=.dict #[] }) h.objs.size (.dK []):=
 ⟨OH _,H_.mpr (Ne.symm (L_ hb)),[],.nil,Heap.DictOf.new h⟩
def Inv.big{X:Cx}{pins:Rb}{σ:St}{H:Hp}{s:Shared}(I:Inv X pins σ H s):sysModules<s.heap.objs.size:=by
 have h:mainGlobals<s.heap.objs.size:=(I.mod.glob.keeps I.bk).lt
 exact QO (by decide) h
def Jz:TE:=λ_ H Q=>∀p,H p=none->Q (.ref p) (upd H p (.dK []))
noncomputable def eD0:ME:=λ_ h=>.ok (.ref h.length) (h++[.dct []])
section
variable{K:W.Frag}{mg:Ra}{X:Cx}{ES:St->XK}{pos:Pos}
def AW:PE X (.Dict [] [] pos) Jz:=λpins s σ H Q I h=>
 wpAny_Dict_empty ⟨.ref s.heap.objs.size,_,I.laid (a:=s.heap.objs.size) (o:=.dK []) (t':=s.toks) (λ_ _ q=>t_ _ q) (m_ _) (sY s.heap I.big),rfl,h _ (I.hok.fresh (m_ _))⟩
def NY:DE K mg X ES (.Dict [] [] pos) eD0:=PE.imp AW λσ H Q ⟨ρ,h,ae,w,re,q⟩ p hp=>by
 have l:Le ρ H (ρ++[p]) (upd H p (.dK [])):=(cx hp).trans iO
 refine q (ρ++[p]) _ l (w.alloc hp ⟨[],a8,rfl,.nil⟩) _ (.ref ?_)
 rw[<- w.len,I_ (m_ _),PC]
 rfl
end
variable{K:W.Frag}{mg:Ra}
end L2
namespace L2
open PySem PySem.Spec PyProof.Rows
section
variable{K:W.Frag}{mg:Ra}{X:Cx}{ES:St->XK}{e:Expr}{es:List Expr}{A:MA}{pos:Pos}
end
section
variable{K:W.Frag}{mg:Ra}{X:Cx}{ES:St->XK}{e a b c o lo hi:Expr}{F G L U:ME}{pos p2:Pos}{ρ:List Addr}{H:Hp}{h:AH}{ae:AE}
end
section
variable{κ:Type}[DecidableEq κ]
noncomputable def df(kvs:List (κ×V))(k:κ):Option V:=(kvs.find? λkv=>decide (kv.1=k)).map (·.2)
noncomputable def cA(kvs:List (κ×V))(k:κ)(v:V):List (κ×V):=
 if (kvs.any λkv=>decide (kv.1=k))=true then kvs.map (λkv=>if kv.1=k then (kv.1,v) else kv) else kvs++[(k,v)]
def lM{p:κ×V}{r:List (κ×V)}{k:κ}(e:p.1=k):df (p::r) k=some p.2:=by simp [df,OM,e]
def lF{p:κ×V}{r:List (κ×V)}{k:κ}(e:¬ p.1=k):df (p::r) k=df r k:=by simp [df,OM,e]
theorem lz(k:κ):∀kvs:List (κ×V),(kvs.any λkv=>decide (kv.1=k))=(df kvs k).isSome
 | []=>rfl
 |
  p::r=>by
  rw[OZ]
  by_cases e:p.1=k
  ·simp only[lM e,G_ e,Bool.true_or,Option.isSome_some]
  ·rw[lF e,u_ e,Bool.false_or];exact lz k r
def ig(kvs:List (κ×V))(k:κ)(v:V):(cA kvs k v).length<=kvs.length+1:=by
 unfold cA
 split
 ·rw[j_];omega
 ·rw[p_,v_,OE];omega
def Bk{kvs:List (κ×V)}{k:κ}(v:V)(h:df kvs k=none):cA kvs k v=kvs++[(k,v)]:=by
 unfold cA
 rw[lz,h]
 exact if_neg (by decide)
def RelO.isSome_eq(r:RelO o u):o.isSome=u.isSome:=by
 cases o with
 |none=>cases u with
  |none=>rfl
  |some _=>exact (show False from r).elim
 |some _=>cases u with
  |none=>exact (show False from r).elim
  |some _=>rfl
def KV.val(r:KV kvs vs)(k:κ):RelO (df kvs k) (valueAt vs k):=by
 unfold KV at r
 induction r with
 |nil=>exact True.intro
 |
  @cons p q ps qs h t ih=>
  obtain⟨h1,h2⟩:=h
  by_cases e:p.1=k
  ·have e':q.1=k:=h1.symm.trans e
   have b:valueAt (q::qs) k=some q.2:=by simp [valueAt,OM,e']
   rw[lM e,b];exact h2
  ·have e':¬ q.1=k:=λz=>e (h1.trans z)
   have b:valueAt (q::qs) k=valueAt qs k:=by simp [valueAt,OM,e']
   rw[lF e,b];exact ih
def KV.any(r:KV kvs vs)(k:κ):(kvs.any λkv=>decide (kv.1=k))=vs.any λkv=>decide (kv.1=k):=by
 unfold KV at r
 induction r with
 |nil=>rfl
 |cons h t ih=>rw[OZ,OZ,ih,h.1]
def KV.repl(r:KV kvs vs)(k:κ)(ry:RelV y u):
 KV (kvs.map λkv=>if kv.1=k then (kv.1,y) else kv) (vs.map λkv=>if kv.1=k then (kv.1,u) else kv):=by
 unfold KV at r ⊢
 induction r with
 |nil=>exact .nil
 |
  @cons p q ps qs h t ih=>
  rw[o_,o_]
  refine .cons ?_ ih
  obtain⟨h1,h2⟩:=h
  by_cases e:p.1=k
  ·rw[if_pos e,if_pos (h1.symm.trans e)];exact⟨h1,ry⟩
  ·rw[if_neg e,if_neg (λz=>e (h1.trans z))];exact⟨h1,h2⟩
def KV.put(r:KV kvs vs)(k:κ)(ry:RelV y u):KV (cA kvs k y) (stored vs k u):=by
 unfold cA stored
 rw[r.any k]
 by_cases e:(vs.any λkv=>decide (kv.1=k))=true
 ·rw[if_pos e,if_pos e];exact r.repl k ry
 ·rw[if_neg e,if_neg e];exact Paired.snoc r ⟨rfl,ry⟩
def KV.length(r:KV kvs vs):kvs.length=vs.length:=QV r
end
def nc(r:RelV (kV k) u):(bB P w).is k u=true:=by
 cases k with
 |inl i=>obtain⟨t,e⟩:=(show ∃t,u=Value.int i t from r);subst e;exact tW P w i t
 |inr x=>obtain⟨t,e⟩:=(show ∃t,u=Value.str x t from r);subst e;exact uf P w x t
theorem o9:∀{ks:List Key}{us:List Value},Vals (ks.map kV) us->ItemsAre (bB P w) ks us
 | [],_,r=>by rw[OJ] at r;cases r;exact .nil
 |
  k::ks,_,r=>by
  rw[o_] at r
  cases r with
  |cons h t=>exact .cons (nc h) (o9 t)
abbrev KT(H:Hp):List (List Key×V)->List (List Key×Addr×Value)->Prop:=Paired λp q=>p.1=q.1/\H q.2.1=some (.tup (p.1.map kV))/\RelV p.2 q.2.2
def KT.val(r:KT H kvs xs)(k:List Key):RelO (df kvs k) ((atKey xs k).map (·.2)):=by
 induction r with
 |nil=>exact True.intro
 |
  @cons p q ps qs h t ih=>
  obtain⟨h1,_,h2⟩:=h
  by_cases e:p.1=k
  ·have e':q.1=k:=h1.symm.trans e
   have b:atKey (q::qs) k=some q.2:=by simp [atKey,OM,e']
   rw[lM e,b];exact h2
  ·have e':¬ q.1=k:=λz=>e (h1.trans z)
   have b:atKey (q::qs) k=atKey qs k:=by simp [atKey,OM,e']
   rw[lF e,b];exact ih
def KT.repl(r:KT H kvs xs)(k:List Key)(ry:RelV y u):
 KT H (kvs.map λkv=>if kv.1=k then (kv.1,y) else kv) (xs.map (putAt k u)):=by
 induction r with
 |nil=>exact .nil
 |
  @cons p q ps qs h t ih=>
  rw[o_,o_]
  refine .cons ?_ ih
  obtain⟨h1,h2,h3⟩:=h
  unfold putAt
  by_cases e:p.1=k
  ·rw[if_pos e,if_pos (h1.symm.trans e)];exact⟨h1,h2,ry⟩
  ·rw[if_neg e,if_neg (λz=>e (h1.trans z))];exact⟨h1,h2,h3⟩
def KT.put(r:KT H kvs xs)(k:List Key)(hb:H b=some (.tup (k.map kV)))(ry:RelV y u):
 KT H (cA kvs k y) (storedH xs k b u):=by
 have e:(kvs.any λkv=>decide (kv.1=k))=(atKey xs k).isSome:=by
  rw[lz,(r.val k).isSome_eq,Option.isSome_map]
 unfold cA storedH
 rw[e]
 by_cases q:(atKey xs k).isSome=true
 ·rw[if_pos q,if_pos q];exact r.repl k ry
 ·rw[if_neg q,if_neg q];exact Paired.snoc r ⟨rfl,hb,ry⟩
def KT.keeps(r:KT H kvs xs)(ht:∀b ys,H b=some (.tup ys)->H' b=some (.tup ys)):KT H' kvs xs:=
 Paired.mapP r λ_ _ z=>⟨z.1,ht _ _ z.2.1,z.2.2⟩
section
variable{P:Program}{w:World}{H:Hp}{h:Heap}{a:Addr}
def Di(ok:HOk P w H h)(e:Rd H a u):ObjOk P w H h a u:=e.ok ok
def qr(ok:HOk P w H h)(e:Rd H a (.dK kvs)):kvs.length<=sizeLine/\(a==sysModules)=false/\∃vs,KV kvs vs/\h.DictOf (bB P w) a vs:=
 show ObjOk P w H h a (.dK kvs) from Di ok e
def CL(ok:HOk P w H h)(e:H a=some (.dK kvs)):kvs.length<=sizeLine/\(a==sysModules)=false/\∃vs,KV kvs vs/\h.DictOf (bB P w) a vs:=qr ok (.inl e)
def mV(ok:HOk P w H h)(e:H a=some (.tup (ks.map kV))):(tupleKind (bB P w)).is h ks a:=by
 obtain⟨_,its,r,o,h1,h2,n,h3⟩:=(show ObjOk P w H h a (.tup (ks.map kV)) from ok a _ e)
 exact⟨o,its.toArray,n,h1,h2,h3,by simpa using o9 r⟩
def p8(ok:HOk P w H h)(e:Rd H a (.dT kvs)):kvs.length<=sizeLine/\(a==sysModules)=false/\
 ∃xs,KT H kvs xs/\h.DictOfH (tupleKind (bB P w)) a xs:=by
 obtain⟨z,y,xs,r,o,es,ep,h1,h2,h3,h4,h5⟩:=(show ObjOk P w H h a (.dT kvs) from Di ok e)
 refine⟨z,y,xs,r,o,es,ep,h1,h2,h3,h4,λx hx=>?_,h5⟩
 have all:∀{l:List (List Key×V)}{m:List (List Key×Addr×Value)},KT H l m->∀x∈m,(tupleKind (bB P w)).is h x.1 x.2.1:=by
  intro l m q
  induction q with
  |nil=>intro x hx;exact nomatch hx
  |
   @cons p q ps qs hq t ih=>
   intro x hx
   rcases D_.mp hx with e |hx
   ·subst e
    exact mV ok (by rw[<- hq.1];exact hq.2.1)
   ·exact ih x hx
 exact all r x hx
def Nt(ok:HOk P w H h)(e:H a=some (.dT kvs)):kvs.length<=sizeLine/\(a==sysModules)=false/\
 ∃xs,KT H kvs xs/\h.DictOfH (tupleKind (bB P w)) a xs:=p8 ok (.inl e)
end
def DGet(H:Hp)(a:Addr)(y:V)(r:Option V):Prop:=
 (∃kvs k,Rd H a (.dK kvs)/\y=kV k/\r=df kvs k)\/∃kvs k b,Rd H a (.dT kvs)/\y=.ref b/\H b=some (.tup (k.map kV))/\r=df kvs k
def DPut(H:Hp)(a:Addr)(y v:V)(H':Hp):Prop:=
 (∃kvs k,H a=some (.dK kvs)/\y=kV k/\kvs.length<sizeLine/\H'=upd H a (.dK (cA kvs k v)))\/
 ∃kvs k b,H a=some (.dT kvs)/\y=.ref b/\H b=some (.tup (k.map kV))/\kvs.length<sizeLine/\H'=upd H a (.dT (cA kvs k v))
def DGet.k{H:Hp}{a:Addr}{kvs:List (Key×V)}{k:Key}(e:H a=some (.dK kvs)):DGet H a (kV k) (df kvs k):=.inl ⟨kvs,k,.inl e,rfl,rfl⟩
def DPut.k{H:Hp}{a:Addr}{kvs:List (Key×V)}{k:Key}{v:V}(e:H a=some (.dK kvs))(hl:kvs.length<sizeLine):DPut H a (kV k) v (upd H a (.dK (cA kvs k v))):=.inl ⟨kvs,k,e,rfl,hl,rfl⟩
section
variable{X:Cx}{pins:Rb}{σ:St}{H:Hp}{s:Shared}{a:Addr}{y v:V}{u r:Value}{o:Option V}{A:Around}{E:Rg}
def zM(hu:A.units+1<cLine)(I:Inv X pins σ H s)(g:DGet H a y (some v))(ry:RelV y u)(h:∀w' s',Inv X pins σ H s'->RelV v w'->Q w' s'):
 wpAny (model X.prog X.w) A (getItem (.ref a) u) Q E s:=by
 rcases g with ⟨kvs,k,e,ey,l⟩ |⟨kvs,k,b,e,ey,eb,l⟩
 ·subst ey
  obtain⟨z,hd,vs,rel,dd⟩:=qr I.hok e
  obtain⟨w',hw,rw'⟩:=RelO.some_of (v:=v) (o:=valueAt vs k) (by rw[l];exact rel.val k)
  exact wpAny_getItem_of (nc ry) dd.mapOf hw (h w' _ (I.tok _) rw')
 ·subst ey
  cases (show u=Value.ref b from ry)
  obtain⟨z,hd,xs,rel,dd⟩:=p8 I.hok e
  obtain⟨w',hw,rw'⟩:=RelO.some_of (v:=v) (o:=(atKey xs k).map (·.2)) (by rw[l];exact rel.val k)
  obtain⟨p,hp,hp2⟩:=M_.mp hw
  refine wpAny_getItem_heap (tupleKind_room_in1 hu) (mV I.hok eb) dd hp ?_
  rw[hp2]
  exact h w' _ (I.tok _) rw'
def EF(hu:A.units+1<cLine)(I:Inv X pins σ H s)(g:DGet H a y o)(ry:RelV y u)(h:∀s',Inv X pins σ H s'->Q (.bool (!o.isSome)) s'):
 wpAny (model X.prog X.w) A (compareOp .NotIn u (.ref a)) Q E s:=by
 rcases g with ⟨kvs,k,e,ey,l⟩ |⟨kvs,k,b,e,ey,eb,l⟩
 ·subst ey
  obtain⟨z,hd,vs,rel,dd⟩:=qr I.hok e
  refine wpAny_notIn_of (nc ry) hd dd.mapOf ?_
  rw[<- (rel.val k).isSome_eq,<- l]
  exact h _ (I.tok _)
 ·subst ey
  cases (show u=Value.ref b from ry)
  obtain⟨z,hd,xs,rel,dd⟩:=p8 I.hok e
  refine wpAny_notIn_heap (tupleKind_room_in1 hu) (mV I.hok eb) hd dd ?_
  have q:=(rel.val k).isSome_eq
  rw[Option.isSome_map] at q
  rw[<- q,<- l]
  exact h _ (I.tok _)
def nV(I:Inv X pins σ H s)(mu:Mut (H a))(hs:Heap.SameBut a s.heap h')(he:∃q,h'.get? a=some q)(new:ObjOk X.prog X.w (upd H a ob) h' a ob):
 Inv X pins σ (upd H a ob) { s with heap:=h',toks:=t' }:=
 I.write (x:=a) (e:=a) mu (.inl rfl) (λb q hb z=>(hs.2 b hb).trans z) he new
def yt(z:kvs.length<=sizeLine)(hd:(a==sysModules)=false)(rel:KV kvs vs)(dd:h'.DictOf (bB P w) a vs):
 ObjOk P w H' h' a (.dK kvs):=⟨z,hd,vs,rel,dd⟩
def zy(hu:A.units+1<cLine)(I:Inv X pins σ H s)(g:DPut H a y v H')(ry:RelV y u)(rv:RelV v r)(h:∀s',Inv X pins σ H' s'->Q () s'):
 wpAny (model X.prog X.w) A (setItem (.ref a) u r) Q E s:=by
 rcases g with ⟨kvs,k,e,ey,l,eH⟩ |⟨kvs,k,b,e,ey,eb,l,eH⟩
 ·subst ey eH
  obtain⟨z,hd,vs,rel,dd⟩:=CL I.hok e
  have hz:vs.length<=sizeLine:=by rw[<- rel.length];exact z
  have hl:(cA kvs k v).length<=sizeLine:=by have:=ig kvs k v;omega
  refine wpAny_setItem_pairs (hsz:=hz) (nc ry) dd λh' dd' hs=>h _ ?_
  have he:∃q,h'.get? a=some q:=let ⟨q,_,_,hq,_⟩:=dd';⟨q,hq⟩
  exact nV I (by rw[e];exact True.intro) hs he (yt hl hd (rel.put k rv) dd')
 ·subst ey eH
  cases (show u=Value.ref b from ry)
  obtain⟨z,hd,xs,rel,dd⟩:=Nt I.hok e
  have hz:xs.length<=sizeLine:=by rw[<- QV rel];exact z
  have hl:(cA kvs k v).length<=sizeLine:=by have:=ig kvs k v;omega
  refine wpAny_setItem_heap (hsz:=hz) (tupleKind_room_in1 hu) (mV I.hok eb) dd λh' dd' hs=>h _ ?_
  obtain⟨q,es,ep,hq,h2,h3,h4,_,h5⟩:=dd'
  refine nV I (by rw[e];exact True.intro) hs ⟨q,hq⟩ ⟨hl,hd,_,(rel.put k eb rv).keeps λc ys ec=>?_,q,es,ep,hq,h2,h3,h4,h5⟩
  rw[aE (N1 ec e (λz=>nomatch z))]
  exact ec
end
section
variable{X:Cx}{pins:Rb}{σ:St}{H:Hp}{s:Shared}{a:Addr}{kvs:List (Key×V)}{k:Key}{u:Value}{A:Around}{E:Rg}
end
def nR(i:Expr):Prop:=∀ov iv,subscripted i false ov iv=operate [ov,iv] (getItem ov iv)
def EB{prog:Program}{w:World}{A:Around}{E:Rg}{s:Shared}{env:Env}{value h_:Expr}{pos:Pos}{T id:String}{Q:Rg}
 (hl:typeLookup (.type T) "__getitem__"=pure (some (.builtin id))) (hs:nR h_)
 (h:wpAny (model prog w) A (eval value env) (λo s₁=>wpAny (model prog w) A (eval h_ env) (λi s₂=>s₂.TypeIs o T/\wpAny (model prog w) A (getItem o i) Q E s₂) E s₁) E s):
 wpAny (model prog w) A (eval (.Subscript value h_ pos) env) Q E s:=by
 refine Subscript_ (OL h (λo s₁ h₁=>OL h₁ (λi s₂ h₂=>?_) λ_ _ x=>x) λ_ _ x=>x)
 obtain⟨hT,h₂⟩:=h₂
 unfold subscriptTail
 refine i_ ?_
 rw[getitemInPython_of_ne hT.not_modules]
 refine i_ (wpAny_specialOf hT hl ?_)
 have gl:wpAny (model prog w) A (subscripted h_ false o i) (λr s₃=>wpAny (model prog w) A (letTemporaryGo value o r >>= λ_=>pure r) Q E s₃) E s₂:=by
  rw[hs o i]
  exact wpAny_operating (OL h₂ (λr s₃ h₃=>i_ (wpAny_letTemporaryGo (w_ h₃))) λ_ _ x=>x)
 first
  |exact w_ (i_ gl)
  |exact i_ (w_ (i_ gl))
  |exact i_ gl
def uh(I:Inv X pins σ H s)(g:DGet H a y o):s.TypeIs (.ref a) "dict":=by
 rcases g with ⟨kvs,k,e,_,_⟩ |⟨kvs,k,b,e,_,_,_⟩
 ·obtain⟨_,_,vs,_,dd⟩:=qr I.hok e
  exact dd.typeIs
 ·obtain⟨_,_,xs,_,dd⟩:=p8 I.hok e
  exact dd.typeIs
def Oy(td ty:TE):TE:=λσ H Q=>td σ H λx H1=>ty σ H1 λy H2=>∃a v,x=.ref a/\DGet H2 a y (some v)/\Q v H2
section
variable{X:Cx}{o i e value:Expr}{pos ii tpos:Pos}{td ty tv:TE}
def uQ(hu:X.A.units+1<cLine)(ho:PE X o td)(hi:PE X i ty)(hs:nR i):PE X (.Subscript o i pos) (Oy td ty):=by
 intro pins s σ H Q I h
 refine EB PySem.F.slot_dict_getitem.lookup hs (thn (ho pins s σ H _ I h) λu s1 ⟨x,H1,I1,rx,q1⟩=>thn (hi pins s1 σ H1 _ I1 q1) λiv s2 ⟨y,H2,I2,ry,a,v,ex,g,q2⟩=>?_)
 subst ex
 obtain rfl:u=Value.ref a:=rx
 exact⟨uh I2 g,zM hu I2 g ry λw' s3 I3 rw'=>⟨v,H2,I3,rw',q2⟩⟩
end
section
variable{X:Cx}{pos:Pos}
end
def my:List (TE×TE)->St->Hp->(List (V×V)->Hp->Prop)->Prop
 | [],_,H,Q=>Q [] H
 |(tk,tv)::r,σ,H,Q=>tk σ H λx H1=>tv σ H1 λy H2=>my r σ H2 λps H3=>Q ((x,y)::ps) H3
abbrev VV:List (V×V)->List (Value×Value)->Prop:=Paired λp q=>RelV p.1 q.1/\RelV p.2 q.2
def PPs(X:Cx)(pos:Pos)(keys:List (Option Expr))(values:List Expr)(trs:List (TE×TE)):Prop:=
 ∀
  (pins:Rb) (s:Shared) (σ:St) (H:Hp) (Q:List (V×V)->Hp->Prop),Inv X pins σ H s->my trs σ H Q->
  wpAny (model X.prog X.w) X.A (evalPairs (pairTrees keys values X.env pos)) (λvs s'=>∃ps H',Inv X pins σ H' s'/\VV ps vs/\Q ps H') X.xe s
def Ee:PPs X pos [] [] []:=λpins s σ H Q I h=>pairTrees_nil_walk ⟨[],H,I,.nil,h⟩
def Cr(hk:PE X k tk)(hv:PE X v tv)(hr:PPs X pos ks vs trs):
 PPs X pos (some k::ks) (v::vs) ((tk,tv)::trs):=λpins s σ H Q I h=>
 pairTrees_cons_walk (thn (hk pins s σ H _ I h) λu s1 ⟨x,H1,I1,rx,q1⟩=>thn (hv pins s1 σ H1 _ I1 q1) λw2 s2 ⟨y,H2,I2,ry,q2⟩=>
  thn (hr pins s2 σ H2 _ I2 q2) λws s3 ⟨ps,H3,I3,rel,q3⟩=>⟨(x,y)::ps,H3,I3,.cons ⟨rx,ry⟩ rel,q3⟩)
def gJ(kvs more:List (Key×V)):List (Key×V):=more.foldl (λacc kv=>cA acc kv.1 kv.2) kvs
def KV.merge:∀{more:List (Key×V)}{rs:List (Key×Value)}{kvs:List (Key×V)}{vs:List (Key×Value)},KV more rs->KV kvs vs->KV (gJ kvs more) (merged vs rs):=by
 intro more rs kvs vs r
 unfold KV at r
 induction r generalizing kvs vs with
 |nil=>intro q;exact q
 |
  @cons p q ps qs h t ih=>
  intro r0
  have e:KV (cA kvs p.1 p.2) (stored vs q.1 q.2):=by
   have:=r0.put p.1 h.2
   rw[<- h.1];exact this
  exact ih e
theorem jB:∀(more kvs:List (Key×V)),(gJ kvs more).length<=kvs.length+more.length
 | [],kvs=>by show kvs.length<=kvs.length+0;omega
 |
  p::r,kvs=>by
  have h1:=jB r (cA kvs p.1 p.2)
  have h2:=ig kvs p.1 p.2
  show (gJ (cA kvs p.1 p.2) r).length<=_
  rw[v_];omega
theorem mz:∀{kvs:List (Key×V)}{ws:List (Value×Value)},VV (kvs.map λkv=>(kV kv.1,kv.2)) ws->∃rs,Carries (bB P w) ws rs/\KV kvs rs
 | [],_,r=>by rw[OJ] at r;cases r;exact⟨[],True.intro,.nil⟩
 |
  p::kvs,_,r=>by
  rw[o_] at r
  cases r with
  |
   @cons a b as bs h t=>
   obtain⟨rs,c,q⟩:=mz (P:=P) (w:=w) t
   obtain⟨b1,b2⟩:=b
   exact⟨(p.1,b2)::rs,⟨nc h.1,rfl,c⟩,.cons ⟨rfl,h.2⟩ q⟩
def MN(trs:List (TE×TE)):TE:=λσ H Q=>∀p,H p=none->my trs σ (upd H p (.dK [])) λps H2=>H2 p=some (.dK [])/\∃kvs:List (Key×V),ps=kvs.map (λkv=>(kV kv.1,kv.2))/\kvs.length<=15/\Q (.ref p) (upd H2 p (.dK (gJ [] kvs)))
def Ew(h:PPs X pos keys values trs)(hall:keys.all (·.isSome)=true)(hl:keys.length=values.length)(h0:keys≠[])
 (h15:keys.length<=15):PE X (.Dict keys values pos) (MN trs):=by
 intro pins s σ H Q I q
 have hn:=I.hok.fresh (m_ s.heap.objs.size)
 have I1:=I.laid (a:=s.heap.objs.size) (o:=.dK []) (h':=s.heap.push { cls:=.type "dict",data:=.dict #[] }) (t':=s.toks) (λ_ _ q=>t_ _ q) (m_ _) (sY s.heap I.big)
 refine wpAny_Dict_walk (knd:=bB X.prog X.w) hall hl h0 h15 (thn (h pins _ σ _ _ I1 (q _ hn)) λws s2 ⟨ps,H2,I2,rel,e,kvs,ep,lk,q2⟩=>?_)
 subst ep
 obtain⟨rs,c,rk⟩:=mz (P:=X.prog) (w:=X.w) rel
 obtain⟨z,hd,vs0,r0,dd⟩:=CL I2.hok e
 cases r0
 refine⟨rs,c,dd,λh' dd' hs=>⟨.ref s.heap.objs.size,_,?_,rfl,q2⟩⟩
 have hz:(gJ [] kvs).length<=sizeLine:=by
  have h1:=jB kvs []
  rw[OE] at h1
  rw[sizeLine_eq];omega
 have he:∃q,h'.get? s.heap.objs.size=some q:=let ⟨q,_,_,hq,_⟩:=dd';⟨q,hq⟩
 exact nV I2 (by rw[e];exact True.intro) hs he (yt hz hd (rk.merge .nil) dd')
structure M1(X:Cx)(o:Expr)(m:Str)(apos:Pos)(e:Expr)(cpos:Pos):Prop where
 base:attributeBase o m X.env (eval o X.env)=eval o X.env
 few:((backTo cpos (starEach [e] X.env)).all (λx=>!x.1)&&(backToKw cpos (keywordEach [] X.env)).all (λx=>x.1.isSome)
  && decide (([e]:List Expr).length+([]:List Keyword).length+(if ([]:List Keyword).isEmpty then 0 else 1)<30))=true
 line:(apos.endLine==cpos.line)=true
 trees:backTo cpos (starEach [e] X.env)=[(false,eval e X.env)]
structure M2(X:Cx)(o:Expr)(m:Str)(apos:Pos)(e f:Expr)(cpos:Pos):Prop where
 base:attributeBase o m X.env (eval o X.env)=eval o X.env
 few:((backTo cpos (starEach [e,f] X.env)).all (λx=>!x.1)&&(backToKw cpos (keywordEach [] X.env)).all (λx=>x.1.isSome)
  && decide (([e,f]:List Expr).length+([]:List Keyword).length+(if ([]:List Keyword).isEmpty then 0 else 1)<30))=true
 line:(apos.endLine==cpos.line)=true
 trees:backTo cpos (starEach [e,f] X.env)=[(false,eval e X.env),(false,eval f X.env)]
section
variable{X:Cx}{pins:Rb}{σ:St}{H:Hp}{s:Shared}{a:Addr}{y d:V}{u r:Value}{o:Option V}{A:Around}{E:Rg}
end
section
variable{X:Cx}{o e f:Expr}{apos cpos:Pos}{td ty tx:TE}
end
section
variable{X:Cx}{pins:Rb}{σ:St}{H:Hp}{s:Shared}{a:Addr}{kvs:List (Key×V)}{A:Around}{E:Rg}
end
section
variable{X:Cx}{pins:Rb}{σ:St}{H:Hp}{s:Shared}{a:Addr}{y:V}{u:Value}{A:Around}{E:Rg}
end
section
variable{prog:Program}{w:World}{A:Around}{E:Rg}{s:Shared}
end
section
variable[DecidableEq κ]
noncomputable def lkD(kvs:List (κ×α))(k:κ):Option α:=(kvs.find? λkv=>decide (kv.1=k)).map (·.2)
noncomputable def cN(kvs:List (κ×α))(k:κ)(v:α):List (κ×α):=if (kvs.any λkv=>decide (kv.1=k))=true then kvs.map λkv=>if kv.1=k then (kv.1,v) else kv else kvs++[(k,v)]
end
section
variable{K:W.Frag}{mg:Ra}{ρ:List Addr}{H:Hp}
def uO:∀{kvs:List (Key×D)}{ws:List (Key×V)},ws.map (·.1)=kvs.map (·.1)->RelDs K mg ρ H (kvs.map (·.2)) (ws.map (·.2))->lkD kvs k=some d->∃v,df ws k=some v/\RelD K mg ρ H d v:=by
 intro kvs
 induction kvs with
 |nil=>intro ws e r q;cases q
 |
  cons p kvs ih=>
  intro ws e r q
  cases ws with
  |nil=>cases e
  |
   cons w ws=>
   obtain⟨k1,d1⟩:=p
   obtain⟨k2,v2⟩:=w
   rw[o_,o_] at e
   injection e with e1 e2
   dsimp only at e1
   subst e1
   cases r with
   |
    cons r rr=>
    unfold lkD at q
    unfold df
    rw[OM] at q ⊢
    dsimp only at q ⊢
    by_cases hk:k2=k
    ·rw[G_ hk] at q ⊢
     cases q
     exact⟨v2,rfl,r⟩
    ·rw[u_ hk] at q ⊢
     exact ih e2 rr q
def sd[DecidableEq κ]:∀{kvs:List (κ×α)}{ws:List (κ×β)},ws.map (·.1)=kvs.map (·.1)->(ws.any λkv=>decide (kv.1=k))=kvs.any λkv=>decide (kv.1=k):=by
 intro kvs
 induction kvs with
 |
  nil=>
  intro ws e
  cases ws with
  |nil=>rfl
  |cons _ _=>cases e
 |
  cons p kvs ih=>
  intro ws e
  cases ws with
  |nil=>cases e
  |
   cons w ws=>
   rw[o_,o_] at e
   injection e with e1 e2
   rw[OZ,OZ,ih e2,e1]
def zT{k:Key}{d:D}{v:V}(rd:RelD K mg ρ H d v){kvs:List (Key×D)}{ws:List (Key×V)}(e:ws.map (·.1)=kvs.map (·.1))(r:RelDs K mg ρ H (kvs.map (·.2)) (ws.map (·.2))):(cA ws k v).map (·.1)=(cN kvs k d).map (·.1)/\RelDs K mg ρ H ((cN kvs k d).map (·.2)) ((cA ws k v).map (·.2)):=by
 unfold cA cN
 rw[sd e]
 by_cases hc:(kvs.any λkv=>decide (kv.1=k))=true
 ·rw[if_pos hc,if_pos hc]
  clear hc
  induction kvs generalizing ws with
  |
   nil=>
   cases ws with
   |nil=>exact⟨rfl,.nil⟩
   |cons _ _=>cases e
  |
   cons p kvs ih=>
   cases ws with
   |nil=>cases e
   |
    cons w ws=>
    obtain⟨k1,d1⟩:=p
    obtain⟨k2,v2⟩:=w
    rw[o_,o_] at e
    injection e with e1 e2
    dsimp only at e1
    subst e1
    cases r with
    |
     cons r rr=>
     obtain⟨h1,h2⟩:=ih e2 rr
     simp only[o_]
     by_cases hk:k2=k
     ·rw[if_pos hk,if_pos hk]
      exact⟨by rw[h1],.cons rd h2⟩
     ·rw[if_neg hk,if_neg hk]
      exact⟨by rw[h1],.cons r h2⟩
 ·rw[if_neg hc,if_neg hc,OI,OI,OI,OI,e]
  exact⟨rfl,r.append (.cons rd .nil)⟩
noncomputable def rY:D->D->AH->R D:=λx y h=>match x with
 |.ref n=>(match y with
  |.str k=>(match h[n]? with
   |some (.dct kvs)=>(match lkD kvs (.inr k) with
    |some d=>.ok d h
    |none=>.stuck)
   |_=>.stuck)
  |_=>.stuck)
 |_=>.stuck
def wA:vY:=λo i v H Q=>∃a H4,o=.ref a/\DPut H a i v H4/\Q H4
variable{X:Cx}{ES:St->XK}{a b:Expr}{F G:ME}{pos:Pos}
def AO(hu:X.A.units+1<cLine):rQ X wA:=λpins s σ H o i v ov iv u Q I ro ri rv ⟨a,H4,eo,g,q⟩=>by
 subst eo
 obtain rfl:ov=Value.ref a:=ro
 exact zy hu I g ri rv λs4 I4=>⟨H4,I4,q⟩
def EI(hu:X.A.units+1<cLine)(ha:DE K mg X ES a F)(hb:DE K mg X ES b G)(hs:nR b):DE K mg X ES (.Subscript a b pos) (eOp rY F G):=PE.imp (uQ hu ha hb hs) λσ H Q q_=>q_.el λρ h ae w re p=>⟨ρ,h,ae,w,re,p.bind.imp λdx h1 ρ1 H1 l1 w1 p1 x rx=>⟨ρ1,h1,ae,w1,re.mono l1,p1.bind.imp λdy h2 ρ2 H2 l2 w2 p2 y ry=>by
 have rx2:=rx.mono l2
 unfold rY at p2
 split at p2
 ·split
   at p2
  ·split
    at p2
   ·rename_i n k _ kvs e
    split at p2
    ·rename_i d q
     cases rx2 with
     |
      ref ea=>
      cases ry
      obtain⟨ws,k1,k2,k3⟩:=w2.ob _ _ _ ea e
      obtain⟨v,q1,rv⟩:=uO k2 k3 q
      refine⟨_,v,rfl,?_,ay w2 rv p2⟩
      rw[<- q1]
      exact DGet.k (k:=.inr k) k1
    ·exact p2.elim
   ·exact p2.elim
  ·exact p2.elim
 ·exact p2.elim⟩⟩
noncomputable def lZ(ks:List Str)(A:MA):ME:=λae h=>(A ae (h++[.dct []])).bind λds h2=>match h2[h.length]? with
 |some (.dct [])=>if ks.length=ds.length then .ok (.ref h.length) (h2.set h.length (.dct ((ks.map Sum.inr).zip ds))) else .stuck
 |_=>.stuck
def aL:List (Str×ME)->MA
 | []=>dW
 |p::r=>dm p.2 (aL r)
def tps(K:W.Frag)(mg:Ra)(ES:St->XK)(prs:List (Str×ME)):List (TE×TE):=prs.map λp=>(tC (.str p.1),rdE K mg ES p.2)
theorem rG:∀(prs:List (Str×ME)) {ρ:List Addr}{h:AH}{ae:AE}{H:Hp}{Q:List (V×V)->Hp->Prop},Wd K mg ρ h H->RelE K mg ρ H ae σ->PostG K mg ρ H (ES σ) (λds _ ρ' H'=>∀vs,RelDs K mg ρ' H' ds vs->Q ((prs.map λp=>V.str p.1).zip vs) H') (aL prs ae h)->my (tps K mg ES prs) σ H Q
 | [],ρ,h,ae,H,Q,w,re,p=>p ρ H Le.refl w [] .nil
 |pr::r,ρ,h,ae,H,Q,w,re,p=>⟨ρ,h,ae,w,re,(PostG.bind p).imp λd h1 ρ1 H1 l1 w1 p1 y ry=>rG r w1 (re.mono l1) ((PostG.bind p1).imp λds h2 ρ2 H2 l2 w2 p2 vs rs=>p2 ρ2 H2 Le.refl w2 (y::vs) (.cons (ry.mono l2) rs))⟩
theorem qE:∀(more acc:List (Key×V)),((acc++more).map (·.1)).Nodup->gJ acc more=acc++more
 | [],acc,_=>(OS _).symm
 |
  (k,v)::more,acc,h=>by
  show gJ (cA acc k v) more=_
  have hk:df acc k=none:=by
   unfold df
   rw[Option.map_eq_none_iff,Ph]
   intro p hp z
   have z:=Pr z
   rw[OI,List.nodup_append] at h
   exact h.2.2 p.1 (O5 hp) k (n_ ..) z
  rw[Bk v hk,qE more (acc++[(k,v)]) (by rw[O3];exact h),O3]
  rfl
def Fb:PPs X pos [] [] (tps K mg ES []):=Ee
def BR(hv:DE K mg X ES v F)(hr:PPs X pos ks vs (tps K mg ES prs)):PPs X pos (some (.Constant (.str k) j kp)::ks) (v::vs) (tps K mg ES ((k,F)::prs)):=Cr zp hv hr
theorem rP:∀(ks:List Str) (vs:List V),(ks.map V.str).zip vs=((ks.map Sum.inr).zip vs).map λkv:Key×V=>(kV kv.1,kv.2)
 | [],_=>rfl
 |_::_,[]=>rfl
 |
  k::ks,v::vs=>by
  show (V.str k,v)::(ks.map V.str).zip vs=_
  rw[rP ks vs]
  rfl
def F6(hp:PPs X pos keys values (tps K mg ES prs))(hall:keys.all (·.isSome)=true)(hl:keys.length=values.length)(h0:keys≠[])(h15:keys.length<=15)(hn:(prs.map (·.1)).Nodup)(hp15:prs.length<=15):DE K mg X ES (.Dict keys values pos) (lZ (prs.map (·.1)) (aL prs)):=PE.imp (Ew hp hall hl h0 h15) λσ H Q q_=>q_.el λρ h ae w re p=>λpp hpp=>by
 have l:Le ρ H (ρ++[pp]) (upd H pp (.dK [])):=(cx hpp).trans iO
 have w1:=w.alloc hpp (o:=.dct []) (u:=.dK []) ⟨[],a8,rfl,.nil⟩
 refine rG prs w1 (re.mono l) ((PostG.mono l (PostG.bind p)).imp λds h2 ρ2 H2 l2 w2 p2 vs rs=>?_)
 split at p2
 ·rename_i e
  split at p2
  ·rename_i bd
   have ea:ρ2[h.length]?=some pp:=l2.pre _ _ (by rw[<- w.len,I_ (m_ _),PC];rfl)
   obtain⟨ws,k1,k2,_⟩:=w2.ob _ _ _ ea e
   have:ws=[]:=by cases ws with |nil=>rfl |cons _ _=>cases k2
   subst this
   have hlv:vs.length=prs.length:=by rw[<- rs.len,<- bd,j_]
   refine⟨k1,((prs.map (·.1)).map Sum.inr).zip vs,?_,?_,?_⟩
   ·rw[<- rP,O0]
    rfl
   ·rw[List.length_zip,j_,j_]
    omega
   ·have hz:(((prs.map (·.1)).map Sum.inr).zip vs:List (Key×V)).map (·.1)=(prs.map (·.1)).map Sum.inr:=List.map_fst_zip (by rw[j_,j_];omega)
    rw[qE _ [] (by
     rw[OP,hz]
     exact List.Pairwise.map _ (λa b hab z=>hab (Sum.inr.inj z)) hn),OP]
    have l3:Le ρ2 H2 ρ2 (upd H2 pp (.dK (((prs.map (·.1)).map Sum.inr).zip vs))):=kf k1 xA
    refine p2 ρ2 _ l3 (w2.write ea k1 xA ⟨_,a8,?_,?_⟩) _ (.ref ea)
    ·rw[hz,List.map_fst_zip (by rw[j_];omega)]
    ·rw[List.map_snd_zip (by rw[j_];omega),List.map_snd_zip (by rw[j_,j_];omega)]
     exact rs.mono l3
  ·exact p2.elim
 ·exact p2.elim
end
section
variable{X:Cx}
end
section
variable{K:W.Frag}{mg:Ra}
end
section
variable{K:W.Frag}{mg:Ra}{X:Cx}{ES:St->XK}{o:Expr}{F:ME}{pos p2:Pos}
end
end L2
namespace L2
open PySem PySem.Spec PySem.Calls PyProof.Rows
section
variable{X:Cx}{K:W.Frag}{mg:Ra}{ES:St->XK}{es:List Expr}{gs:MGs}{pos:Pos}
end
section
variable{X:Cx}{K:W.Frag}{mg:Ra}{ES:St->XK}{a:Expr}{A:MA}{pos q2 p1 p2:Pos}
end
inductive EntOk(w:World):List DictEntry->List (Str×Int)->Prop
 |nil:EntOk w [] []
 |cons {e:DictEntry}{es:List DictEntry}{k:Str}{i:Int}{t t':Tok}{kvs:List (Str×Int)} (h:e.hash=hashStr w k) (hk:e.key=.str k t) (hv:e.val=.int i t') (r:EntOk w es kvs):EntOk w (e::es) ((k,i)::kvs)
section
variable{X:Cx}{K:W.Frag}{mg:Ra}{w:World}{n:Str}{kvs:List (Str×Int)}
end
end L2
namespace L2
open PySem
end L2
namespace L2
open PySem PySem.Spec PySem.Calls PyProof.Rows
section
variable{X:Cx}{K:W.Frag}{mg:Ra}
end
structure RoomU(k:Nat)(A:Around):Prop where
 dp:A.depth+3*k+5<recursionLimit
 un:A.units+16*k+200<cLine
structure FnOkU(P:Program)(w:World)(K:W.Frag)(mg:Ra)(base:Heap)(CX:CXT)(k:Nat)(f:Addr)(fd:FuncData)(ps:List Str)(sp:Sp):Prop where
 len:∀vs H Q E,sp vs H Q E->vs.length=ps.length
 run:∀(A:Around) (outer:List Env) (s:Shared) (H:Hp) (args:Args) (us:List Value) (vs:List V) (Q:VK) (E:XK),RoomU k A->Env0 P w K mg base A outer s H->BindsTo s fd args (ps.zip us)->Vals vs us->sp vs H Q E->
  codeAny (model P w) A (.call (.ref f) args) (CR CX outer P w H s Q E) s
section
variable{P:Program}{w:World}{K:W.Frag}{mg:Ra}{base:Heap}{x:Str}{st:Stmt}{k:Nat}{ps N:List Str}{sp:Sp}
structure CalleeU(P:Program)(w:World)(K:W.Frag)(mg:Ra)(base:Heap)(x:Str)(k:Nat)(ps:List Str)(sp:Sp):Prop where
 ex:∃f fd,FnOkU P w K mg base (CX1 P w) k f fd ps sp/\mg x=some (.ref f)/\W.keepIn K (.ref f)=true/\Binds K fd ps []/\∃oc od osl,K.lookup f=some ⟨oc,od,.func fd,osl⟩
variable{F:MS}
end
section
variable{X:Cx}{K:W.Frag}{mg:Ra}{ES:St->XK}{e:Expr}{es:List Expr}{A:MA}{pos:Pos}
end
end L2
namespace L2
open PySem PySem.Spec PyProof.Rows
section
variable{X:Cx}
def ni:V->List V->Hp->VK->Prop:=λx vs H Q=>∃l xs i y,x=.ref l/\vs=[.int i,y]/\H l=some (.lst xs)/\0<=i/\i<=(xs.length:Nat)/\xs.length<sizeLine/\Q .non (upd H l (.lst (xs.take i.toNat++y::xs.drop i.toNat)))
def zD:MtM X "list.insert" ni:=by
 intro pins s σ H x vs v us Q I rx rv h
 obtain⟨l,xs,i,y,rfl,rfl,hH,h0,h1,hz,q⟩:=h
 cases rx
 obtain⟨u1,u2,rfl,ru1,ru2⟩:=mO rv
 obtain⟨t,rfl⟩:=ru1
 obtain⟨z,its,n,r,hl,e⟩:=I.lstM hH
 have hs:sizeLine=16777216:=rfl
 have hf:Builtin.List.listFitsIndex i=true:=fitsIndex_both (by omega) (by omega)
 refine call_meets PySem.F.slot_list_insert ⟨_,e,rfl⟩ PySem.F.entry_list_insert (PySem.F.args_list_insert_3 _ _ _) (AutoSeq1.list_insert_list_int_val_1 l its.toArray n i t u2 (by rw[hf];decide) (by rw[y_];omega)) ⟨e,?_⟩
 refine⟨.non,_,I.lset (its':=its.take i.toNat++u2::its.drop i.toNat) hH e ?_ ((r.take _).append (.cons ru2 (r.drop _))) ?_,rfl,q⟩
 ·show (have k:=if i<0 then (i+(its.toArray.size:Int)).toNat else min i.toNat its.toArray.size;(its.toArray.extract 0 k).push u2++its.toArray.extract k)=_
  rw[if_neg (by omega),y_,QP (by omega)]
  apply Array.ext'
  simp [Py]
 ·simp only[p_,v_,Pf,Qf]
  omega
inductive Lsts(H:Hp):List V->List (List V)->Prop where
 |nil:Lsts H [] []
 |cons {a:Addr}{xs:List V}{vs:List V}{xss:List (List V)} (e:H a=some (.lst xs)) (r:Lsts H vs xss):Lsts H (.ref a::vs) (xs::xss)
end
section
variable{K:W.Frag}{mg:Ra}
noncomputable def j6:D->List D->AH->R D:=λx ds h=>gr h x λn xs=>match ds with
 | [.int i,d]=>if 0<=i/\i<=(xs.length:Nat)/\xs.length<16777216 then .ok .non (h.set n (.lst (xs.take i.toNat++d::xs.drop i.toNat))) else .stuck
 |_=>.stuck
def ye:MtD K mg ni j6:=λρ h H dx ds x vs Q E w rx rs p=>by
 obtain⟨n,xs,a,us,rfl,e,ea,rfl,h1,h2,p⟩:=gW w rx p
 split at p
 ·cases
   rs with
  |
   cons r rs=>
   cases rs with
   |
    cons r2 rs=>
    cases rs
    cases r
    split at p
    ·rename_i hb
     rw[h2.len] at hb
     exact⟨a,us,_,_,rfl,rfl,h1,hb.1,hb.2.1,hb.2.2,jc w ea h1 ((h2.take _).append (.cons r2 (h2.drop _))) .non p⟩
    ·exact p.elim
 ·exact p.elim
end
section
variable{X:Cx}{K:W.Frag}{mg:Ra}
end
section
variable{X:Cx}
def Mj:List V->Hp->VK->Prop:=λxs H Q=>xs=[]/\∀l,H l=none->Q (.ref l) (upd H l (.set (λ_=>false) 0))
def tL:R2:=λx y H Q=>∃i a S n,x=.int i/\y=.ref a/\H a=some (.set S n)/\Q (.bl (S i)) H
def Ao:OpR X (compareOp .In) tL:=by
 intro pins s σ H x y v u Q I rx ry h
 obtain⟨i,a,S,n,rfl,rfl,hH,q⟩:=h
 obtain⟨t,rfl⟩:=rx
 cases ry
 have hS:s.heap.SetOf (intKind X.prog X.w) a S n:=I.hok a _ hH
 exact wpAny_inSet_of (intKind_is _ _ i t) rfl hS ⟨.bl (S i),H,I.tok _,rfl,q⟩
def vB:V->List V->Hp->VK->Prop:=λx vs H Q=>∃a i S n,x=.ref a/\vs=[.int i]/\H a=some (.set S n)/\n<4000/\Q .non (upd H a (.set (λk=>S k || decide (k=i)) (if S i then n else n+1)))
def za:MtM X "set.add" vB:=by
 intro pins s σ H x vs v us Q I rx rv h
 obtain⟨a,i,S,n,rfl,rfl,hH,hn,q⟩:=h
 cases rx
 obtain⟨u,rfl,ru⟩:=rv.one
 obtain⟨t,rfl⟩:=ru
 have hS:s.heap.SetOf (intKind X.prog X.w) a S n:=I.hok a _ hH
 refine call_set_add (intKind_is _ _ i t) rfl hS (by unfold scanBound;omega) λh' sb hS'=>?_
 refine⟨.non,_,I.write (x:=a) (e:=a) (by rw[hH];exact trivial) (.inl rfl) (λb o hb e=>(sb.2 b hb).trans e) ?_ (show ObjOk X.prog X.w _ h' a (.set (λk=>S k || decide (k=i)) (if S i then n else n+1)) from hS'),rfl,q⟩
 obtain⟨o,_,_,_,e,_⟩:=hS'
 exact⟨o,e⟩
def tS:CallR X (.builtin "len") (λxs H Q=>∃a S n,xs=[.ref a]/\H a=some (.set S n)/\Q (.int (n:Nat)) H):=by
 intro pins s σ H xs us Q I r h
 obtain⟨a,S,n,rfl,hH,q⟩:=h
 obtain⟨u,rfl,ru⟩:=ji r
 cases ru
 have hS:s.heap.SetOf (intKind X.prog X.w) a S n:=I.hok a _ hH
 obtain⟨o,es,ep,t,e,hex,hd,_,_,hb,hf,rfl⟩:=hS
 refine call_len_set e hex hd hf (by unfold scanBound at hb;omega) ⟨.int (es.size:Nat),H,I.tok _,⟨_,rfl⟩,q⟩
def zo:CallR X (.type "set") Mj:=by
 intro pins s σ H xs us Q I r h
 obtain⟨rfl,q⟩:=h
 cases r
 refine call_set_0 λled=>?_
 refine⟨.ref s.heap.objs.size,_,I.laid (t':=s.toks) (λb o e=>t_ _ e) (m_ _) (show ObjOk X.prog X.w _ _ _ (.set (λ_=>false) 0) from ?_),rfl,q _ (I.hok.fresh (m_ _))⟩
 obtain⟨h1,es,ep,tt,h2,h3,h4,h5,h6⟩:=setObjOf_fresh (knd:=intKind X.prog X.w) led
 exact⟨_,es,ep,tt,E_ _ rfl,h1,h2,h3,h4,by rw[h5];decide,h6,h5⟩
end
section
variable{K:W.Frag}{mg:Ra}{X:Cx}{ES:St->XK}{o e:Expr}{es:List Expr}{F:ME}{A:MA}{pos:Pos}
def xv:ME:=λ_ h=>.ok (.ref h.length) (h++[.set []])
noncomputable def qR:D->D->AH->R D:=λx y h=>match x,y with
 |.int i,.ref n=>match h[n]? with
  |some (.set xs)=>.ok (.bl (decide (i∈xs))) h
  |_=>.stuck
 |_,_=>.stuck
noncomputable def mC:Fn:=λds h=>match ds with
 | [.ref n]=>match h[n]? with
  |some (.set xs)=>.ok (.int (xs.length:Nat)) h
  |_=>.stuck
 |_=>.stuck
def eF(xs:List Int)(i:Int):List Int:=if i∈xs then xs else i::xs
noncomputable def tf:D->List D->AH->R D:=λx ds h=>match x,ds with
 |.ref n,[.int i]=>match h[n]? with
  |some (.set xs)=>if xs.length<4000 then .ok .non (h.set n (.set (eF xs i))) else .stuck
  |_=>.stuck
 |_,_=>.stuck
def wb(h:AH):D->Bool
 |.ref n=>match h[n]? with
  |some (.set _)=>true
  |_=>false
 |_=>false
def eMS(F:ME)(A:MA):ME:=λae h=>(F ae h).bind λx h1=>if wb h1 x=true then (A ae h1).bind λds h2=>tf x ds h2 else .stuck
def Ez:OpD K mg tL qR:=λρ h H dx dy x y Q E w rx ry p=>by
 unfold qR at p
 split at p
 ·cases rx
  cases ry with
  |
   ref ea=>
   split at p
   ·rename_i xs e
    obtain⟨_,h1⟩:=w.ob _ _ _ ea e
    exact⟨_,_,_,_,rfl,rfl,h1,ay w (.bl _) p⟩
   ·exact p.elim
 ·exact p.elim
def FW:bA K mg (λxs H Q=>∃a S n,xs=[.ref a]/\H a=some (.set S n)/\Q (.int (n:Nat)) H) mC:=λρ h H ds vs Q E w rs p=>by
 unfold mC at p
 split at p
 ·cases
   rs with
  |
   cons r rs=>
   cases rs
   cases r with
   |
    ref ea=>
    split at p
    ·rename_i xs e
     obtain⟨_,h1⟩:=w.ob _ _ _ ea e
     exact⟨_,_,_,rfl,h1,ay w (.int _) p⟩
    ·exact p.elim
 ·exact p.elim
def Jo:MtD K mg vB tf:=λρ h H dx ds x vs Q E w rx rs p=>by
 unfold tf at p
 split at p
 ·rename_i n i
  cases rx with
  |
   ref ea=>
   cases rs with
   |
    cons r rs=>
    cases rs
    cases r
    split at p
    ·rename_i xs e
     split at p
     ·rename_i hl
      obtain⟨nd,h1⟩:=w.ob _ _ _ ea e
      refine⟨_,_,_,_,rfl,rfl,h1,hl,?_⟩
      have e2:HO.set (λk=>decide (k∈xs) || decide (k=i)) (if decide (i∈xs)=true then xs.length else xs.length+1)=.set (λk=>decide (k∈eF xs i)) (eF xs i).length:=by
       unfold eF
       by_cases hi:i∈xs
       ·rw[if_pos (G_ hi),if_pos hi]
        congr 1
        funext k
        by_cases hk:k∈xs
        ·rw[G_ hk];rfl
        ·rw[u_ hk,u_ (show ¬ k=i from λz=>hk (by rw[z];exact hi))];rfl
       ·rw[if_neg (by rw[u_ hi];exact s_),if_neg hi]
        congr 1
        funext k
        rw[P5,Bool.or_eq_true,PF,PF,PF,D_]
        exact Or.comm
      rw[e2]
      have l:Le ρ H ρ (upd H _ (.set (λk=>decide (k∈eF xs i)) (eF xs i).length)):=kf h1 C4
      refine p ρ _ l (w.write ea h1 C4 ⟨?_,a8⟩) .non .non
      unfold eF
      split
      ·exact nd
      ·rename_i hi;exact P6.mpr ⟨hi,nd⟩
     ·exact p.elim
    ·exact p.elim
 ·exact p.elim
def DL(hg:Gl X x)(hm:mg x=none)(hv:bootBuiltins x=some (.type "set"))(hk:X.mg=mg)(hn:x ≠ "__name__")(hdb:(x==("__debug__" : Str))=false):DE K mg X ES (.Call (.Name x p0) [] [] pos) xv:=by
 subst hk
 refine PE.imp (xk zo hg hm hv hn hdb) λσ H Q q_=>q_.el λρ h ae w re p=>⟨rfl,λl hl=>?_⟩
 have le:Le ρ H (ρ++[l]) (upd H l (.set (λ_=>false) 0)):=(cx hl).trans iO
 refine p (ρ++[l]) _ le (w.alloc hl ⟨List.nodup_nil,?_⟩) _ (.ref ?_)
 ·rw[a8]
  congr 1
 ·rw[<- w.len,I_ (m_ _),PC]
  rfl
def L7(hK:X.K=K)(ho:DE K mg X ES o F)(ha:DA K mg X ES (e::es) A)
 (d_:attributeBase o "add" X.env (eval o X.env)=eval o X.env)
 (hfew:((backTo cpos (starEach (e::es) X.env)).all (λx=>!x.1)&&(backToKw cpos (keywordEach [] X.env)).all (λx=>x.1.isSome)
  && decide ((e::es).length+([]:List Keyword).length+(if ([]:List Keyword).isEmpty then 0 else 1)<30))=true)
 (e_:(apos.endLine==cpos.line)=true) (hs:starEach (e::es) X.env=(false,eval e X.env)::starEach es X.env) (ci:(backTo cpos (starEach es X.env)).any (·.1)=false):
 DE K mg X ES (.Call (.Attribute o "add" apos) (e::es) [] cpos) (eMS F A):=by
 subst hK
 refine PE.imp (CI PySem.F.plainAttrs_set PySem.F.slot_set_add PySem.F.type_set_add za ho ha d_ hfew e_ hs ci) λσ H Q q_=>q_.el λρ h ae w re p=>⟨ρ,h,ae,w,re,p.bind.imp λdx h1 ρ1 H1 l1 w1 p1 x rx=>?_⟩
 split at p1
 ·rename_i hl
  have ty:tyV X.K "set" x H1:=by
   cases rx with
   |
    ref ea=>
    unfold wb at hl
    dsimp only at hl
    split at hl
    ·rename_i xs q
     obtain⟨_,hh⟩:=w1.ob _ _ _ ea q
     exact .inr (.inr (.inr ⟨rfl,_,_,hh⟩))
    ·cases hl
   |_=>cases hl
  exact⟨ty,ρ1,h1,ae,w1,re.mono l1,p1.bind.imp λds h2 ρ2 H2 l2 w2 p2 vs rs=>Jo ρ2 h2 H2 dx ds x vs Q _ w2 (rx.mono l2) rs p2⟩
 ·exact p1.elim
end
section
variable{K:W.Frag}{mg:Ra}
noncomputable def rn:D->D->AH->R D:=λx y h=>match x with
 |.ref n=>(match y with
  |.int k=>(match h[n]? with
   |some (.dct kvs)=>(match lkD kvs (.inl k) with
    |some d=>.ok d h
    |none=>.stuck)
   |_=>.stuck)
  |_=>.stuck)
 |_=>.stuck
noncomputable def wDI(o i v:D)(h:AH):R Unit:=match o with
 |.ref n=>(match i with
  |.int k=>(match h[n]? with
   |some (.dct kvs)=>if kvs.length<16777216 then .ok () (h.set n (.dct (cN kvs (.inl k) v))) else .stuck
   |_=>.stuck)
  |_=>.stuck)
 |_=>.stuck
variable{X:Cx}{ES:St->XK}{a b:Expr}{F G:ME}{pos:Pos}
def Bp:nW K mg wA wDI:=λρ h H do_ di dv o i v Q E w ro ri rv p=>by
 unfold wDI at p
 split at p
 ·split
   at p
  ·split
    at p
   ·rename_i n k _ kvs e
    split at p
    ·rename_i hl
     cases ro with
     |
      ref ea=>
      cases ri
      obtain⟨ws,h1,h2,h3⟩:=w.ob _ _ _ ea e
      have bd:ws.length=kvs.length:=by have:=Pg List.length h2;simpa using this
      have l:Le ρ H ρ (upd H _ (.dK (cA ws (.inl k) v))):=kf h1 xA
      obtain⟨k1,k2⟩:=zT (k:=.inl k) rv h2 h3
      exact⟨_,_,rfl,DPut.k (k:=.inl k) h1 (by rw[bd];exact hl),p ρ _ l (w.write ea h1 xA ⟨_,a8,k1,k2.mono l⟩)⟩
    ·exact p.elim
   ·exact p.elim
  ·exact p.elim
 ·exact p.elim
def BF(hu:X.A.units+1<cLine)(ha:DE K mg X ES a F)(hb:DE K mg X ES b G)(hs:nR b):DE K mg X ES (.Subscript a b pos) (eOp rn F G):=PE.imp (uQ hu ha hb hs) λσ H Q q_=>q_.el λρ h ae w re p=>⟨ρ,h,ae,w,re,p.bind.imp λdx h1 ρ1 H1 l1 w1 p1 x rx=>⟨ρ1,h1,ae,w1,re.mono l1,p1.bind.imp λdy h2 ρ2 H2 l2 w2 p2 y ry=>by
 have rx2:=rx.mono l2
 unfold rn at p2
 split at p2
 ·split
   at p2
  ·split
    at p2
   ·rename_i n k _ kvs e
    split at p2
    ·rename_i d q
     cases rx2 with
     |
      ref ea=>
      cases ry
      obtain⟨ws,k1,k2,k3⟩:=w2.ob _ _ _ ea e
      obtain⟨v,q1,rv⟩:=uO k2 k3 q
      refine⟨_,v,rfl,?_,ay w2 rv p2⟩
      rw[<- q1]
      exact DGet.k (k:=.inl k) k1
    ·exact p2.elim
   ·exact p2.elim
  ·exact p2.elim
 ·exact p2.elim⟩⟩
end
section
variable{X:Cx}{K:W.Frag}{mg:Ra}
def kL(K:W.Frag):V->List V->Hp->VK->Prop:=λx vs H Q=>∃l b xs zs,x=.ref l/\vs=[.ref b]/\H l=some (.lst xs)/\SqT K H b zs/\xs.length+zs.length<=sizeLine/\Q .non (upd H l (.lst (xs++zs)))
def Fe(l:Addr)(xs:Array Value)(n:Nat)(b:Addr)(ys:Array Value)(n2:Nat)(dd:Option Addr)(ss:Array (Option Value))(z0:¬(!xs.isEmpty&&Builtin.List.listTooLong (xs.size+ys.size))=true)(z1:xs.size<=sizeLine)(z2:xs.size+ys.size<=sizeLine+1):
 Meets (Builtin.«list.extend» ⟨[.ref l,.ref b],[]⟩) (λ_ R s=>s.heap.get? l=some { cls:=.type "list",dict:=none,data:=.seq xs n,slots:=#[] }/\s.heap.get? b=some { cls:=.type "tuple",dict:=dd,data:=.seq ys n2,slots:=ss }/\R (.ok (.ret Value.none)) { s with heap:=s.heap.update l (Obj.mapSeq λx=>x++ys),toks:=s.toks }):=
 .of_wp λprog w A R s h=>by
  obtain⟨hp,g,d,tk,os⟩:=s
  obtain⟨el,eb,h⟩:=h
  have e1:=PySem.AutoSeq1.idx_int
  have e2:=PySem.F.sub_tuple_tuple
  have e3:=PySem.F.sub_list_list
  have e4:=PySem.F.sub_tuple_list
  have e5:=PySem.F.sub_list_tuple
  have zz:(xs++ys).size<=sizeLine+1:=by rw[Array.size_append];exact z2
  wp_walk using (wpAny_updateSeq el rfl (hz:=z1) (_hz':=zz)),wpAny_loadPart' el,wpAny_loadPart' eb
  exact⟨_,rfl,h⟩
def wo(hK:X.K=K):MtM X "list.extend" (kL K):=by
 subst hK
 intro pins s σ H x vs v us Q I rx rv h
 obtain⟨l,b,xs,zs,rfl,rfl,hH,hB,hz,q⟩:=h
 cases rx
 obtain⟨u,rfl,ru⟩:=rv.one
 cases ru
 obtain⟨z,its,n,r,hl,e⟩:=I.lstM hH
 obtain⟨its2,r2,⟨⟨oc,od,oda,os⟩,e2,ec,n2,ed⟩,z2⟩:=I.tuple hB
 dsimp only at ec ed
 subst ec ed
 have hl2:=r2.length
 have hsz:its.toArray.size+its2.toArray.size<=sizeLine:=by rw[y_,y_];omega
 have hlong:¬ (!its.toArray.isEmpty&&Builtin.List.listTooLong (its.toArray.size+its2.toArray.size))=true:=by
  rw[zV hsz,Bool.and_false]
  exact s_
 refine call_meets PySem.F.slot_list_extend ⟨_,e,rfl⟩ PySem.F.entry_list_extend (PySem.F.args_list_extend_2 _ _)
  (Fe l its.toArray n b its2.toArray n2 od os hlong (by rw[y_];omega) (by omega)) ⟨e,e2,?_⟩
 refine⟨.non,_,I.lset (its':=its++its2) hH e (by simp) (r.append r2) ?_,rfl,q⟩
 rw[p_]
 omega
noncomputable def jw:D->List D->AH->R D:=λx ds h=>gr h x λn xs=>match ds with
 | [.tup ys]=>if xs.length+ys.length<=16777216 then .ok .non (h.set n (.lst (xs++ys))) else .stuck
 |_=>.stuck
def wk:MtD K mg (kL K) jw:=λρ h H dx ds x vs Q E w rx rs p=>by
 obtain⟨n,xs,a,us,rfl,e,ea,rfl,h1,h2,p⟩:=gW w rx p
 split at p
 ·cases rs with
  |
   cons r rs=>
   cases rs
   split at p
   ·rename_i hb
    cases r with
    |tup hq rr=>exact⟨a,_,us,_,rfl,rfl,h1,hq,by rw[<- h2.len,<- rr.len];exact hb,jc w ea h1 (h2.append rr) .non p⟩
   ·exact p.elim
 ·exact p.elim
end
section
variable{X:Cx}{e st:Expr}{te tst:TE}{pos p2:Pos}
end
section
variable{K:W.Frag}{mg:Ra}{X:Cx}{ES:St->XK}{e st:Expr}{F G:ME}{pos p2:Pos}
end
section
variable{X:Cx}{K:W.Frag}{mg:Ra}
end
def oC(ks:List Key)(k:Str):Bool:=ks.any λj=>decide (j=Sum.inr k)
theorem uJ{k:Str}:∀ws:List (Key×V),(df ws (Sum.inr k)).isSome=oC (ws.map (·.1)) k
 | []=>rfl
 |
  w::ws=>by
  have ih:=uJ (k:=k) ws
  unfold df oC at ih ⊢
  rw[OM,o_,OZ]
  by_cases h:w.1=Sum.inr k
  ·rw[G_ h];rfl
  ·rw[u_ h,Bool.false_or];exact ih
noncomputable def rj(neg:Bool):D->D->AH->R D:=λx y h=>match y with
 |.ref n=>(match x with
  |.str k=>(match h[n]? with
   |some (.dct kvs)=>.ok (.bl (neg ^^ oC (kvs.map (·.1)) k)) h
   |_=>.stuck)
  |_=>.stuck)
 |_=>.stuck
def Cd(neg:Bool):R2:=λy x H Q=>∃a o,x=.ref a/\DGet H a y o/\Q (.bl (neg ^^ o.isSome)) H
section
variable{K:W.Frag}{mg:Ra}{X:Cx}
def DQ(neg:Bool):OpD K mg (Cd neg) (rj neg):=λρ h H dx dy x y Q E w rx ry p=>by
 unfold rj at p
 split at p
 ·split
   at p
  ·split at p
   ·rename_i n k _ kvs e
    cases ry with
    |
     ref ea=>
     cases rx
     obtain⟨ws,k1,k2,k3⟩:=w.ob _ _ _ ea e
     refine⟨_,_,rfl,DGet.k (k:=.inr k) k1,?_⟩
     rw[uJ,k2]
     exact ay w (.bl _) p
   ·exact p.elim
  ·exact p.elim
 ·exact p.elim
def Gf(hu:X.A.units+1<cLine):OpR X (compareOp .NotIn) (Cd true):=by
 intro pins s σ H x y v u Q I rx ry ⟨a,o,e,g,q⟩
 subst e
 obtain rfl:u=Value.ref a:=ry
 rw[Bool.true_xor] at q
 exact EF hu I g rx λs' I'=>⟨.bl (!o.isSome),H,I',rfl,q⟩
end
section
variable{X:Cx}
end
section
variable{K:W.Frag}{mg:Ra}
end
section
variable{K:W.Frag}{mg:Ra}{X:Cx}
end
section
variable{K:W.Frag}{mg:Ra}{X:Cx}
end
end L2
namespace L3
open PySem PySem.Spec PyProof.Rows L2
set_option genInjectivity true in
inductive Val where
 |non |bl (b:Bool) |int (i:Int) |str (x:Str) |ty (n:String) |glb (x:Str) |exc (x:Str)
 |tup (xs:List Val) |lst (xs:List Val) |kl (xs:List Val) |dct (kvs:List (Key×Val)) |set (xs:List Int)
 deriving Inhabited
mutual
inductive Rd(P:Nat->Prop)(h:AH):D->Val->Prop where
 |non:Rd P h .non .non
 |bl (b:Bool):Rd P h (.bl b) (.bl b)
 |int (i:Int):Rd P h (.int i) (.int i)
 |str (x:Str):Rd P h (.str x) (.str x)
 |ty (n:String):Rd P h (.ty n) (.ty n)
 |glb (x:Str):Rd P h (.glb x) (.glb x)
 |exc (x:Str):Rd P h (.exc x) (.exc x)
 |tup {ds:List D}{vs:List Val} (r:Rds P h ds vs):Rd P h (.tup ds) (.tup vs)
 |kl {ds:List D}{vs:List Val} (r:Rds P h ds vs):Rd P h (.kl ds) (.kl vs)
 |cell {n:Nat}{o:Ob}{v:Val} (p:P n) (e:h[n]?=some o) (r:Rc P h o v):Rd P h (.ref n) v
inductive Rc(P:Nat->Prop)(h:AH):Ob->Val->Prop where
 |lst {ds:List D}{vs:List Val} (r:Rds P h ds vs):Rc P h (.lst ds) (.lst vs)
 |fz {ds:List D}{vs:List Val} (r:Rds P h ds vs):Rc P h (.fz ds) (.kl vs)
 |dct {ws:List (Key×D)}{us:List (Key×Val)} (r:Rk P h ws us):Rc P h (.dct ws) (.dct us)
 |set (xs:List Int):Rc P h (.set xs) (.set xs)
inductive Rds(P:Nat->Prop)(h:AH):List D->List Val->Prop where
 |nil:Rds P h [] []
 |cons {d:D}{v:Val}{ds:List D}{vs:List Val} (r:Rd P h d v) (rr:Rds P h ds vs):Rds P h (d::ds) (v::vs)
inductive Rk(P:Nat->Prop)(h:AH):List (Key×D)->List (Key×Val)->Prop where
 |nil:Rk P h [] []
 |cons {k:Key}{d:D}{v:Val}{ds:List (Key×D)}{vs:List (Key×Val)} (r:Rd P h d v) (rr:Rk P h ds vs):Rk P h ((k,d)::ds) ((k,v)::vs)
end
section
variable{P P':Nat->Prop}{h h':AH}
abbrev Mov(P P':Nat->Prop)(h h':AH):Prop:=∀n o,P n->h[n]?=some o->P' n/\h'[n]?=some o
def Rd.mono(m:Mov P P' h h')(r:Rd P h d v):Rd P' h' d v:=@Rd.rec P h (λd v _=>Rd P' h' d v) (λo v _=>Rc P' h' o v) (λds vs _=>Rds P' h' ds vs) (λws us _=>Rk P' h' ws us) .non (λb=>.bl b) (λi=>.int i) (λx=>.str x) (λn=>.ty n) (λx=>.glb x) (λx=>.exc x) (λ_ ih=>.tup ih) (λ_ ih=>.kl ih) (λp e _ ih=>.cell (m _ _ p e).1 (m _ _ p e).2 ih) (λ_ ih=>.lst ih) (λ_ ih=>.fz ih) (λ_ ih=>.dct ih) (λxs=>.set xs) .nil (λ_ _ a b=>.cons a b) .nil (λ_ _ a b=>.cons a b) d v r
def Rds.ind{M:List D->List Val->Prop}(h0:M [] [])(h1:∀{d v ds vs},Rd P h d v->Rds P h ds vs->M ds vs->M (d::ds) (v::vs)){ds:List D}{vs:List Val}(r:Rds P h ds vs):M ds vs:=by
 induction ds generalizing vs with
 |nil=>cases r;exact h0
 |
  cons d ds ih=>
  cases r with
  |cons r rr=>exact h1 r rr (ih rr)
def Rk.ind{M:List (Key×D)->List (Key×Val)->Prop}(h0:M [] [])(h1:∀{k d v ds vs},Rd P h d v->Rk P h ds vs->M ds vs->M ((k,d)::ds) ((k,v)::vs)){ds:List (Key×D)}{vs:List (Key×Val)}(r:Rk P h ds vs):M ds vs:=by
 induction ds generalizing vs with
 |nil=>cases r;exact h0
 |
  cons d ds ih=>
  cases r with
  |cons r rr=>exact h1 r rr (ih rr)
def Rds.mono(m:Mov P P' h h'){d:List D}{v:List Val}(r:Rds P h d v):Rds P' h' d v:=r.ind .nil λr _ ih=>.cons (r.mono m) ih
def Rk.mono(m:Mov P P' h h'){d:List (Key×D)}{v:List (Key×Val)}(r:Rk P h d v):Rk P' h' d v:=r.ind .nil λr _ ih=>.cons (r.mono m) ih
def Rc.mono(m:Mov P P' h h')(r:Rc P h d v):Rc P' h' d v:=by
 cases r with
 |lst r=>exact .lst (r.mono m)
 |fz r=>exact .fz (r.mono m)
 |dct r=>exact .dct (r.mono m)
 |set xs=>exact .set xs
def Rds.len{ds:List D}{vs:List Val}(r:Rds P h ds vs):ds.length=vs.length:=r.ind (M:=λds vs=>ds.length=vs.length) rfl λ_ _ ih=>Pg (· + 1) ih
def Rds.get{ds:List D}{vs:List Val}{i:Nat}{v:Val}(r:Rds P h ds vs)(e:vs[i]?=some v):∃d,ds[i]?=some d/\Rd P h d v:=
 r.ind (M:=λds vs=>∀i,vs[i]?=some v->∃d,ds[i]?=some d/\Rd P h d v) (λ_ e=>by rw[O4] at e;cases e) (λr _ ih i e=>match i,e with
  |0,e=>by cases e;exact⟨_,rfl,r⟩
  |i+1,e=>ih i e) i e
def Rds.append{ds es:List D}{vs ws:List Val}(r:Rds P h ds vs)(q:Rds P h es ws):Rds P h (ds++es) (vs++ws):=r.ind (M:=λds vs=>Rds P h (ds++es) (vs++ws)) q λr _ ih=>.cons r ih
def Rds.take{ds:List D}{vs:List Val}(n:Nat)(r:Rds P h ds vs):Rds P h (ds.take n) (vs.take n):=
 r.ind (M:=λds vs=>∀n:Nat,Rds P h (ds.take n) (vs.take n)) (λn=>by rw[P4,P4];exact .nil) (λr _ ih n=>by cases n with |zero=>exact .nil |succ n=>exact .cons r (ih n)) n
def Rds.drop{ds:List D}{vs:List Val}(n:Nat)(r:Rds P h ds vs):Rds P h (ds.drop n) (vs.drop n):=
 r.ind (M:=λds vs=>∀n:Nat,Rds P h (ds.drop n) (vs.drop n)) (λn=>by rw[Ql,Ql];exact .nil) (λr rr ih n=>by cases n with |zero=>exact .cons r rr |succ n=>exact ih n) n
def Rds.set{d:D}{v:Val}(r:Rd P h d v){ds:List D}{vs:List Val}(i:Nat)(q:Rds P h ds vs):Rds P h (ds.set i d) (vs.set i v):=
 q.ind (M:=λds vs=>∀i:Nat,Rds P h (ds.set i d) (vs.set i v)) (λ_=>.nil) (λq qq ih i=>by cases i with |zero=>exact .cons r qq |succ i=>exact .cons q (ih i)) i
def ShR(P:Nat->Prop)(h:AH)(d:D)(v:Val):Prop:=Rd P h d v\/∃n o,d=.ref n/\h[n]?=some o/\Rc P h o v
inductive ShRs(P:Nat->Prop)(h:AH):List D->List Val->Prop where
 |nil:ShRs P h [] []
 |cons {d:D}{v:Val}{ds:List D}{vs:List Val} (r:ShR P h d v) (rr:ShRs P h ds vs):ShRs P h (d::ds) (v::vs)
def Val.items:Val->Option (List Val)
 |.tup xs=>some xs
 |.lst xs=>some xs
 |.kl xs=>some xs
 |_=>none
def ShR.int(r:ShR P h d (.int i)):d=.int i:=by
 rcases r with r |⟨n,o,rfl,e,r⟩
 ·cases r with
  |int=>rfl
  |cell p e r=>cases r
 ·cases r
def ShR.str(r:ShR P h d (.str i)):d=.str i:=by
 rcases r with r |⟨n,o,rfl,e,r⟩
 ·cases r with
  |str=>rfl
  |cell p e r=>cases r
 ·cases r
def ShR.bl(r:ShR P h d (.bl i)):d=.bl i:=by
 rcases r with r |⟨n,o,rfl,e,r⟩
 ·cases r with
  |bl=>rfl
  |cell p e r=>cases r
 ·cases r
def ShR.non(r:ShR P h d .non):d=.non:=by
 rcases r with r |⟨n,o,rfl,e,r⟩
 ·cases r with
  |non=>rfl
  |cell p e r=>cases r
 ·cases r
def ShR.exc(r:ShR P h d (.exc x)):d=.exc x:=by
 rcases r with r |⟨n,o,rfl,e,r⟩
 ·cases r with
  |exc=>rfl
  |cell p e r=>cases r
 ·cases r
def ShR.ty(r:ShR P h d (.ty x)):d=.ty x:=by
 rcases r with r |⟨n,o,rfl,e,r⟩
 ·cases r with
  |ty=>rfl
  |cell p e r=>cases r
 ·cases r
def ShR.glb(r:ShR P h d (.glb x)):d=.glb x:=by
 rcases r with r |⟨n,o,rfl,e,r⟩
 ·cases r with
  |glb=>rfl
  |cell p e r=>cases r
 ·cases r
def ShR.tup(r:ShR P h d (.tup vs)):∃ds,d=.tup ds/\Rds P h ds vs:=by
 rcases r with r |⟨n,o,rfl,e,r⟩
 ·cases r with
  |tup r=>exact⟨_,rfl,r⟩
  |cell p e r=>cases r
 ·cases r
def Rc.seq(e:h[n]?=some o)(r:Rc P h o (.lst vs)):∃ds,h[n]?=some (.lst ds)/\aV h n=some ds/\Rds P h ds vs:=by
 cases r with
 |lst r=>exact⟨_,e,by unfold aV;rw[e],r⟩
def ShR.lst(r:ShR P h d (.lst vs)):∃n ds,d=.ref n/\h[n]?=some (.lst ds)/\aV h n=some ds/\Rds P h ds vs:=by
 rcases r with r |⟨n,o,rfl,e,r⟩
 ·cases r with
  |
   cell p e r=>
   obtain⟨ds,q,r⟩:=Rc.seq e r
   exact⟨_,ds,rfl,q,r⟩
 ·obtain⟨ds,q,r⟩:=Rc.seq e r
  exact⟨_,ds,rfl,q,r⟩
def ShR.kl(r:ShR P h d (.kl vs)):∃ds,Rds P h ds vs/\(d=.kl ds\/∃n,d=.ref n/\aV h n=some ds):=by
 rcases r with r |⟨n,o,rfl,e,r⟩
 ·cases r with
  |kl r=>exact⟨_,r,.inl rfl⟩
  |cell p e r=>cases r with |fz r=>exact⟨_,r,.inr ⟨_,rfl,by unfold aV;rw[e]⟩⟩
 ·cases r with |fz r=>exact⟨_,r,.inr ⟨_,rfl,by unfold aV;rw[e]⟩⟩
def ShR.set(r:ShR P h d (.set xs)):∃n,d=.ref n/\h[n]?=some (.set xs):=by
 rcases r with r |⟨n,o,rfl,e,r⟩
 ·cases r with
  |cell p e r=>cases r;exact⟨_,rfl,e⟩
 ·cases r;exact⟨_,rfl,e⟩
def ShR.dct(r:ShR P h d (.dct us)):∃n ws,d=.ref n/\h[n]?=some (.dct ws)/\Rk P h ws us:=by
 rcases r with r |⟨n,o,rfl,e,r⟩
 ·cases r with
  |cell p e r=>cases r with |dct r=>exact⟨_,_,rfl,e,r⟩
 ·cases r with |dct r=>exact⟨_,_,rfl,e,r⟩
def ShR.items(r:ShR P h d v)(e:v.items=some vs):∃ds,cM h d=some ds/\Rds P h ds vs:=by
 cases v with
 |tup xs=>cases e;obtain⟨ds,rfl,q⟩:=r.tup;exact⟨ds,rfl,q⟩
 |lst xs=>cases e;obtain⟨n,ds,rfl,_,e,q⟩:=r.lst;exact⟨ds,e,q⟩
 |
  kl xs=>
  cases e
  obtain⟨ds,q,rfl |⟨n,rfl,e⟩⟩:=r.kl
  ·exact⟨ds,rfl,q⟩
  ·exact⟨ds,e,q⟩
 |_=>cases e
end
inductive Sl where
 |no |sh (v:Val) |ow (v:Val) |mu (v:Val) |lo (v:Val) |lm (v:Val)
 deriving Inhabited
abbrev E3:=List Sl
def Sl.val:Sl->Option Val
 |.no=>none
 |.sh v=>some v
 |.ow v=>some v
 |.mu v=>some v
 |.lo v=>some v
 |.lm v=>some v
def Sl.mt:Sl->Bool
 |.ow _=>true
 |.mu _=>true
 |_=>false
def Sl.lk:Sl->Bool
 |.lo _=>true
 |.lm _=>true
 |_=>false
abbrev Ns:=List (Option Nat)
def Oc(X:Nat->Prop)(ns:Ns)(n:Nat):Prop:=¬ X n/\some n∉ns
def bR:Ob->Prop
 |.fz _=>False
 |.any=>False
 |_=>True
def SlR(P:Nat->Prop)(h0:Nat)(n:Option (Option Nat))(d:Option (Option D))(h:AH):Sl->Prop
 |.no=>n=some none
 |.sh v=>n=some none/\∃x,d=some (some x)/\Rd P h x v
 |.ow v=>∃m o,n=some (some m)/\d=some (some (.ref m))/\h0<=m/\h[m]?=some o/\bR o/\Rc P h o v
 |.lo v=>∃m o,n=some (some m)/\d=some (some (.ref m))/\h0<=m/\h[m]?=some o/\bR o/\Rc P h o v
 |.mu v=>∃m o,n=some (some m)/\d=some (some (.ref m))/\h[m]?=some o/\bR o/\Rc P h o v
 |.lm v=>∃m o,n=some (some m)/\d=some (some (.ref m))/\h[m]?=some o/\bR o/\Rc P h o v
structure Sat(X:Nat->Prop)(h0:Nat)(ns:Ns)(e:E3)(ae:AE)(h:AH):Prop where
 l1:ae.length=e.length
 l2:ns.length=e.length
 lh:h0<=h.length
 xl:∀(n:Nat),X n->n<h.length
 inj:∀(i j n:Nat),ns[i]?=some (some n)->ns[j]?=some (some n)->i=j
 nx:∀(i n:Nat),ns[i]?=some (some n)->¬ X n
 sl:∀(i:Nat) (s:Sl),e[i]?=some s->SlR (Oc X ns) h0 (ns[i]?) (ae[i]?) h s
def Mt(ns:Ns)(e:E3)(n:Nat):Prop:=∃(i:Nat) (s:Sl),ns[i]?=some (some n)/\e[i]?=some s/\s.mt=true
structure Stp(ns:Ns)(e:E3)(h:AH)(ns':Ns)(e':E3)(h':AH):Prop where
 len:h.length<=h'.length
 keep:∀(m:Nat) (o:Ob),h[m]?=some o->¬ Mt ns e m->h'[m]?=some o
 nw:∀(i n:Nat),ns'[i]?=some (some n)->ns[i]?=some (some n)\/h.length<=n
 lk:∀(i:Nat) (s:Sl),e[i]?=some s->s.lk=true->e'[i]?=some s/\ns'[i]?=ns[i]?
 lk':∀(i:Nat) (s:Sl),e'[i]?=some s->s.lk=true->e[i]?=some s/\ns'[i]?=ns[i]?
 mu:∀(i:Nat) (v:Val),e'[i]?=some (.mu v)->∃u,e[i]?=some (.mu u)/\ns'[i]?=ns[i]?
 mu':∀(i:Nat) (u:Val),e[i]?=some (.mu u)->∃v,e'[i]?=some (.mu v)/\ns'[i]?=ns[i]?
section
variable{X:Nat->Prop}{h0:Nat}{ns ns' ns1 db:Ns}{e e' e1 e2:E3}{ae:AE}{h h' h1 h2:AH}
def aS:some n∈ns ↔ ∃i:Nat,ns[i]?=some (some n):=by
 constructor
 ·intro m;exact Qe m
 ·rintro⟨i,e⟩;exact OO e
def Sat.own(S:Sat X h0 ns e ae h){i n:Nat}(q:ns[i]?=some (some n)):∃s v o,e[i]?=some s/\(s.mt=true\/s.lk=true)/\s.val=some v/\ae[i]?=some (some (.ref n))/\h[n]?=some o/\bR o/\Rc (Oc X ns) h o v:=by
 have hi:i<e.length:=by rw[<- S.l2];exact (k_.mp q).1
 have hs:=S.sl i e[i] (A_ hi)
 refine⟨e[i],?_⟩
 have he:=A_ hi
 generalize e[i]=s at *
 rw[q] at hs
 cases s with
 |no=>cases hs
 |sh v=>cases hs.1
 |ow v=>obtain⟨m,o,e1,e2,_,e3,e4,e5⟩:=hs;cases e1;exact⟨v,o,he,.inl rfl,rfl,e2,e3,e4,e5⟩
 |lo v=>obtain⟨m,o,e1,e2,_,e3,e4,e5⟩:=hs;cases e1;exact⟨v,o,he,.inr rfl,rfl,e2,e3,e4,e5⟩
 |mu v=>obtain⟨m,o,e1,e2,e3,e4,e5⟩:=hs;cases e1;exact⟨v,o,he,.inl rfl,rfl,e2,e3,e4,e5⟩
 |lm v=>obtain⟨m,o,e1,e2,e3,e4,e5⟩:=hs;cases e1;exact⟨v,o,he,.inr rfl,rfl,e2,e3,e4,e5⟩
def Stp.refl:Stp ns e h ns e h:=⟨m_ _,λ_ _ q _=>q,λ_ _ q=>.inl q,λ_ _ q _=>⟨q,rfl⟩,λ_ _ q _=>⟨q,rfl⟩,λ_ _ q=>⟨_,q,rfl⟩,λ_ _ q=>⟨_,q,rfl⟩⟩
def Stp.trans(S:Sat X h0 ns e ae h)(a:Stp ns e h ns1 e1 h1)(b:Stp ns1 e1 h1 db e2 h2):Stp ns e h db e2 h2:=by
 refine⟨F_ a.len b.len,λm o q hm=>?_,λi n q=>?_,λi s q hl=>?_,λi s q hl=>?_,λi v q=>?_,λi v q=>?_⟩
 ·refine b.keep m o (a.keep m o q hm) λ⟨i,s,z1,z2,z3⟩=>hm ?_
  have hlt:=(k_.mp q).1
  rcases a.nw i m z1 with z |z
  ·obtain⟨s0,v,o',q1,q2,_⟩:=S.own z
   rcases q2 with q2 |q2
   ·exact⟨i,s0,z,q1,q2⟩
   ·have:=(a.lk i s0 q1 q2).1
    rw[z2] at this
    cases this
    exfalso
    cases s <;> first |cases z3;done |cases q2;done
  ·omega
 ·rcases b.nw i n q with z |z
  ·exact a.nw i n z
  ·exact .inr (F_ a.len z)
 ·obtain⟨q1,q2⟩:=a.lk i s q hl
  obtain⟨q3,q4⟩:=b.lk i s q1 hl
  exact⟨q3,q4.trans q2⟩
 ·obtain⟨q1,q2⟩:=b.lk' i s q hl
  obtain⟨q3,q4⟩:=a.lk' i s q1 hl
  exact⟨q3,q2.trans q4⟩
 ·obtain⟨u,q1,q2⟩:=b.mu i v q
  obtain⟨u',q3,q4⟩:=a.mu i u q1
  exact⟨u',q3,q2.trans q4⟩
 ·obtain⟨u,q1,q2⟩:=a.mu' i v q
  obtain⟨u',q3,q4⟩:=b.mu' i u q1
  exact⟨u',q3,q4.trans q2⟩
def Stp.mov(S:Sat X h0 ns e ae h)(a:Stp ns e h ns1 e1 h1):Mov (Oc X ns) (Oc X ns1) h h1:=λn o p q=>by
 have hlt:=(k_.mp q).1
 have hm:¬ Mt ns e n:=λ⟨i,s,z,_⟩=>p.2 (aS.mpr ⟨i,z⟩)
 refine⟨⟨p.1,λz=>?_⟩,a.keep n o q hm⟩
 obtain⟨i,z⟩:=aS.mp z
 rcases a.nw i n z with z |z
 ·exact p.2 (aS.mpr ⟨i,z⟩)
 ·omega
def bg(q:h[n]?=some o):n<h.length:=(k_.mp q).1
def eI{n:Nat}{o:Ob}{g:AH}(q:h[n]?=some o):(h++g)[n]?=some o:=by rw[J_ (bg q)];exact q
def ve:(h++[o])[h.length]?=some o:=by rw[I_ (m_ _),PC];rfl
def SlR.mono(m:Mov P P' h h')(k:∀j o,n=some (some j)->h[j]?=some o->h'[j]?=some o)(r:SlR P h0 n d h s):SlR P' h0 n d h' s:=by
 cases s with
 |no=>exact r
 |sh v=>obtain⟨q,x,q1,q2⟩:=r;exact⟨q,x,q1,q2.mono m⟩
 |ow v=>obtain⟨j,o,q1,q2,q3,q4,q5,q6⟩:=r;exact⟨j,o,q1,q2,q3,k j o q1 q4,q5,q6.mono m⟩
 |lo v=>obtain⟨j,o,q1,q2,q3,q4,q5,q6⟩:=r;exact⟨j,o,q1,q2,q3,k j o q1 q4,q5,q6.mono m⟩
 |mu v=>obtain⟨j,o,q1,q2,q4,q5,q6⟩:=r;exact⟨j,o,q1,q2,k j o q1 q4,q5,q6.mono m⟩
 |lm v=>obtain⟨j,o,q1,q2,q4,q5,q6⟩:=r;exact⟨j,o,q1,q2,k j o q1 q4,q5,q6.mono m⟩
def Xn(X:Nat->Prop)(n:Nat):Nat->Prop:=λm=>X m\/m=n
def Sat.grow(S:Sat X h0 ns e ae h)(o:Ob):Sat (Xn X h.length) h0 ns e ae (h++[o]):=by
 have mv:Mov (Oc X ns) (Oc (Xn X h.length) ns) h (h++[o]):=λn o' p q=>⟨⟨λz=>by
  rcases z with z |z
  ·exact p.1 z
  ·have:=bg q;omega,p.2⟩,eI q⟩
 refine⟨S.l1,S.l2,by rw[p_];have:=S.lh;omega,λn z=>?_,S.inj,λi n q z=>?_,λi s q=>(S.sl i s q).mono mv λj o' _ q'=>eI q'⟩
 ·rw[p_]
  rcases z with z |z
  ·have:=S.xl n z;omega
  ·subst z;show h.length<h.length+1;omega
 ·rcases z with z |z
  ·exact S.nx i n q z
  ·obtain⟨_,_,_,_,_,_,_,q',_⟩:=S.own q
   have:=bg q';omega
def Sat.weak(S:Sat Y h0 ns e ae h)(hx:∀n,X n->Y n):Sat X h0 ns e ae h:=
 ⟨S.l1,S.l2,S.lh,λn z=>S.xl n (hx n z),S.inj,λi n q z=>S.nx i n q (hx n z),λi s q=>(S.sl i s q).mono (λn o p q=>⟨⟨λz=>p.1 (hx n z),p.2⟩,q⟩) λ_ _ _ q=>q⟩
def Stp.grow(o:Ob):Stp ns e h ns e (h++[o]):=⟨by rw[p_];omega,λ_ _ q _=>eI q,λ_ _ q=>.inl q,λ_ _ q _=>⟨q,rfl⟩,λ_ _ q _=>⟨q,rfl⟩,λ_ _ q=>⟨_,q,rfl⟩,λ_ _ q=>⟨_,q,rfl⟩⟩
end
section
variable{X:Nat->Prop}{h0:Nat}{ns ns':Ns}{e e':E3}{ae:AE}{h h' hs:AH}
def bo{α:Type}{l:List α}{i j:Nat}{a b:α}(hi:i<l.length)(q:(l.set i a)[j]?=some b):(j=i/\b=a)\/(j≠i/\l[j]?=some b):=by
 rw[Qa] at q
 by_cases z:i=j
 ·subst z
  rw[if_pos rfl,if_pos hi] at q
  exact .inl ⟨rfl,(C_ q).symm⟩
 ·rw[if_neg z] at q
  exact .inr ⟨λy=>z y.symm,q⟩
def bp{α:Type}{l:List α}{i:Nat}{a:α}(hi:i<l.length):(l.set i a)[i]?=some a:=by rw[Qa,if_pos rfl,if_pos hi]
def aU{α:Type}{l:List α}{i j:Nat}{a:α}(hi:j≠i):(l.set i a)[j]?=l[j]?:=by rw[PR (λy=>hi y.symm)]
def dH(p:Oc X ns n):Oc X (ns.set i none) n:=⟨p.1,λz=>by
 rcases Pm z with z |z
 ·exact p.2 z
 ·cases z⟩
def Sat.putN(S:Sat X h0 ns e ae h)(hi:i<e.length)(q:SlR (Oc X (ns.set i none)) h0 (some none) (some d) h s):Sat X h0 (ns.set i none) (e.set i s) (ae.set i d) h:=by
 have hn:i<ns.length:=by rw[S.l2];exact hi
 have ha:i<ae.length:=by rw[S.l1];exact hi
 refine⟨by rw[B_,B_];exact S.l1,by rw[B_,B_];exact S.l2,S.lh,S.xl,λj k n q1 q2=>?_,λj n q1=>?_,λj s' q1=>?_⟩
 ·rcases bo hn q1 with ⟨_,z⟩ |⟨_,z⟩
  ·cases z
  rcases bo hn q2 with ⟨_,y⟩ |⟨_,y⟩
  ·cases y
  exact S.inj j k n z y
 ·rcases bo hn q1 with ⟨_,z⟩ |⟨_,z⟩
  ·cases z
  exact S.nx j n z
 ·rcases bo hi q1 with ⟨rfl,rfl⟩ |⟨z,q2⟩
  ·rw[bp hn,bp ha];exact q
  ·rw[aU z,aU z]
   exact (S.sl j s' q2).mono (λn o p q=>⟨dH p,q⟩) λ_ _ _ q=>q
def Sat.putN'(S:Sat X h0 ns e ae h)(hi:i<e.length)(q:SlR (Oc X (ns.set i none)) h0 (some none) (ae[i]?) h s):Sat X h0 (ns.set i none) (e.set i s) ae h:=by
 have ha:i<ae.length:=by rw[S.l1];exact hi
 have:=S.putN hi (s:=s) (d:=ae[i]) (by rw[A_ ha] at q;exact q)
 rw[List.set_getElem_self] at this
 exact this
def Sat.putO(S:Sat (Xn X n) h0 ns e ae h)(hx:¬ X n)(hi:i<e.length)(hn0:h0<=n)(eo:h[n]?=some o)(hf:bR o)(r:Rc (Oc (Xn X n) ns) h o v):Sat X h0 (ns.set i (some n)) (e.set i (.ow v)) (ae.set i (some (.ref n))) h:=by
 have hn:i<ns.length:=by rw[S.l2];exact hi
 have ha:i<ae.length:=by rw[S.l1];exact hi
 have nn:∀j:Nat,ns[j]?≠some (some n):=λj q=>S.nx j n q (.inr rfl)
 have mv:Mov (Oc (Xn X n) ns) (Oc X (ns.set i (some n))) h h:=λm o' p q=>⟨⟨λz=>p.1 (.inl z),λz=>by
  rcases Pm z with z |z
  ·exact p.2 z
  ·cases z;exact p.1 (.inr rfl)⟩,q⟩
 refine⟨by rw[B_,B_];exact S.l1,by rw[B_,B_];exact S.l2,S.lh,λm z=>S.xl m (.inl z),λj k m q1 q2=>?_,λj m q1 z=>?_,λj s' q1=>?_⟩
 ·rcases bo hn q1 with ⟨z1,z⟩ |⟨z1,z⟩ <;> rcases bo hn q2 with ⟨y1,y⟩ |⟨y1,y⟩
  ·rw[z1,y1]
  ·cases z;exact absurd y (nn k)
  ·cases y;exact absurd z (nn j)
  ·exact S.inj j k m z y
 ·rcases bo hn q1 with ⟨_,y⟩ |⟨_,y⟩
  ·cases y;exact hx z
  ·exact S.nx j m y (.inl z)
 ·rcases bo hi q1 with ⟨rfl,rfl⟩ |⟨z,q2⟩
  ·rw[bp hn,bp ha];exact⟨n,o,rfl,rfl,hn0,eo,hf,r.mono mv⟩
  ·rw[aU z,aU z]
   exact (S.sl j s' q2).mono mv λ_ _ _ q=>q
def Sl.pl:Sl->Bool
 |.no=>true
 |.sh _=>true
 |.ow _=>true
 |_=>false
def Stp.put(A:Stp ns0 e0 hs ns e h)(hi:i<e.length)(hx:∀n,x=some n->hs.length<=n)(q0:e[i]?=some s0)(p0:s0.pl=true)(p:s.pl=true)(l2:ns.length=e.length):Stp ns0 e0 hs (ns.set i x) (e.set i s) h:=by
 have hn:i<ns.length:=by rw[l2];exact hi
 refine⟨A.len,A.keep,λj n q=>?_,λj s' q hl=>?_,λj s' q hl=>?_,λj v q=>?_,λj v q=>?_⟩
 ·rcases bo hn q with ⟨_,z⟩ |⟨_,z⟩
  ·exact .inr (hx n z.symm)
  ·exact A.nw j n z
 ·obtain⟨q1,q2⟩:=A.lk j s' q hl
  have z:j≠i:=λz=>by
   subst z
   rw[q0] at q1;cases q1
   cases s0 <;> first |cases p0;done |cases hl;done
  rw[aU z,aU z];exact⟨q1,q2⟩
 ·rcases bo hi q with ⟨_,z⟩ |⟨z,q1⟩
  ·subst z;cases s' <;> first |cases p;done |cases hl;done
  ·rw[aU z];exact A.lk' j s' q1 hl
 ·rcases bo hi q with ⟨_,z⟩ |⟨z,q1⟩
  ·subst z;cases p
  ·rw[aU z];exact A.mu j v q1
 ·obtain⟨u,q1,q2⟩:=A.mu' j v q
  have z:j≠i:=λz=>by
   subst z
   rw[q0] at q1;cases q1;cases p0
  exact⟨u,by rw[aU z];exact q1,by rw[aU z];exact q2⟩
end
inductive Tm where
 |val (v:Val) |new (v:Val) |bor (i:Nat)
inductive R3(α:Type) where
 |ok (a:α) (e:E3) |exc (c:Str) (e:E3) |stuck
def R3.bind{α β:Type}(r:R3 α)(f:α->E3->R3 β):R3 β:=match r with
 |.ok a e=>f a e
 |.exc c e=>.exc c e
 |.stuck=>.stuck
abbrev ME3:=E3->R3 Tm
abbrev MT3:=E3->R3 Bool
abbrev MA3:=E3->R3 (List Tm)
def Po{δ α:Type}(X:Nat->Prop)(h0:Nat)(ns:Ns)(e:E3)(ae:AE)(h:AH)(rel:Ns->E3->AH->δ->α->Prop)(r2:R δ):R3 α->Prop
 |.stuck=>True
 |.ok t e'=>∃d h' ns',r2=.ok d h'/\Stp ns e h ns' e' h'/\Sat X h0 ns' e' ae h'/\rel ns' e' h' d t
 |.exc c e'=>∃h' ns',r2=.exc c h'/\Stp ns e h ns' e' h'/\Sat X h0 ns' e' ae h'
def relE(X:Nat->Prop)(h0 L:Nat)(ae:AE)(ns:Ns)(e:E3)(h:AH)(d:D):Tm->Prop
 |.val v=>Rd (Oc X ns) h d v
 |.new v=>∃n o,d=.ref n/\L<=n/\¬ X n/\h[n]?=some o/\bR o/\Sat (Xn X n) h0 ns e ae h/\Rc (Oc (Xn X n) ns) h o v
 |.bor i=>ae[i]?=some (some d)
def relT(_:Ns)(_:E3)(_:AH)(b c:Bool):Prop:=b=c
inductive TsR(X:Nat->Prop)(ns:Ns)(ae:AE)(h:AH):List D->List Tm->Prop where
 |nil:TsR X ns ae h [] []
 |val {d:D}{v:Val}{ds:List D}{ts:List Tm} (r:Rd (Oc X ns) h d v) (rr:TsR X ns ae h ds ts):TsR X ns ae h (d::ds) (.val v::ts)
 |bor {d:D}{i:Nat}{ds:List D}{ts:List Tm} (q:ae[i]?=some (some d)) (rr:TsR X ns ae h ds ts):TsR X ns ae h (d::ds) (.bor i::ts)
def relA(X:Nat->Prop)(ae:AE)(ns:Ns)(_:E3)(h:AH)(ds:List D)(ts:List Tm):Prop:=TsR X ns ae h ds ts
def RE(F:ME)(G:ME3):Prop:=∀X h0 L ns e ae h,Sat X h0 ns e ae h->L<=h.length->Po X h0 ns e ae h (relE X h0 L ae) (F ae h) (G e)
def RT(F:MT)(G:MT3):Prop:=∀X h0 ns e ae h,Sat X h0 ns e ae h->Po X h0 ns e ae h relT (F ae h) (G e)
def RA(F:MA)(G:MA3):Prop:=∀X h0 ns e ae h,Sat X h0 ns e ae h->Po X h0 ns e ae h (relA X ae) (F ae h) (G e)
section
variable{X:Nat->Prop}{h0 L:Nat}{ns ns':Ns}{e e':E3}{ae:AE}{h h':AH}
def Po.bind(S:Sat X h0 ns e ae h)(p:Po X h0 ns e ae h rel r2 r3)
 (k:∀d t h' ns' e',Stp ns e h ns' e' h'->Sat X h0 ns' e' ae h'->rel ns' e' h' d t->Po X h0 ns' e' ae h' rel' (f2 d h') (f3 t e')):Po X h0 ns e ae h rel' (r2.bind f2) (r3.bind f3):=by
 cases r3 with
 |stuck=>trivial
 |exc c e'=>obtain⟨h',ns',q,q1,q2⟩:=p;subst q;exact⟨h',ns',rfl,q1,q2⟩
 |
  ok t e'=>
  obtain⟨d,h',ns',q,q1,q2,q3⟩:=p
  subst q
  have:=k d t h' ns' e' q1 q2 q3
  show Po X h0 ns e ae h rel' (f2 d h') (f3 t e')
  generalize f3 t e'=r at *
  cases r with
  |stuck=>trivial
  |exc c e2=>obtain⟨h2,db,y,y1,y2⟩:=this;exact⟨h2,db,y,q1.trans S y1,y2⟩
  |ok t2 e2=>obtain⟨d2,h2,db,y,y1,y2,y3⟩:=this;exact⟨d2,h2,db,y,q1.trans S y1,y2,y3⟩
def Po.ret(S:Sat X h0 ns e ae h)(q:rel ns e h d t):Po X h0 ns e ae h rel (.ok d h) (.ok t e):=⟨d,h,ns,rfl,.refl,S,q⟩
def TsR.stp(S:Sat X h0 ns e ae h)(a:Stp ns e h ns' e' h')(r:TsR X ns ae h ds ts):TsR X ns' ae h' ds ts:=by
 induction r with
 |nil=>exact .nil
 |val r _ ih=>exact .val (r.mono (a.mov S)) ih
 |bor q _ ih=>exact .bor q ih
noncomputable def rs(e:E3):Tm->Option Val
 |.val v=>some v
 |.new v=>some v
 |.bor i=>(e[i]?).bind Sl.val
def Sat.bor(S:Sat X h0 ns e ae h){i:Nat}{d:D}{v:Val}(q:ae[i]?=some (some d))(r:(e[i]?).bind Sl.val=some v):ShR (Oc X ns) h d v:=by
 cases z:e[i]? with
 |none=>rw[z] at r;cases r
 |
  some s=>
  rw[z] at r
  have y:=S.sl i s z
  rw[q] at y
  have r':s.val=some v:=r
  cases s with
  |no=>cases r'
  |sh u=>cases r';obtain⟨_,x,e1,e2⟩:=y;cases e1;exact .inl e2
  |ow u=>cases r';obtain⟨m,o,_,e2,_,e3,_,e4⟩:=y;cases e2;exact .inr ⟨m,o,rfl,e3,e4⟩
  |lo u=>cases r';obtain⟨m,o,_,e2,_,e3,_,e4⟩:=y;cases e2;exact .inr ⟨m,o,rfl,e3,e4⟩
  |mu u=>cases r';obtain⟨m,o,_,e2,e3,_,e4⟩:=y;cases e2;exact .inr ⟨m,o,rfl,e3,e4⟩
  |lm u=>cases r';obtain⟨m,o,_,e2,e3,_,e4⟩:=y;cases e2;exact .inr ⟨m,o,rfl,e3,e4⟩
def relE.new(r:relE X h0 L ae ns e h d (.new v)):Rd (Oc X ns) h d v:=by
 obtain⟨n,o,rfl,_,hx,eo,_,S,rc⟩:=r
 exact .cell ⟨hx,λz=>by obtain⟨i,z⟩:=aS.mp z;exact S.nx i n z (.inr rfl)⟩ eo (rc.mono λm o p q=>⟨⟨λz=>p.1 (.inl z),p.2⟩,q⟩)
def relE.sh{d:D}{t:Tm}{v:Val}(S:Sat X h0 ns e ae h)(r:relE X h0 L ae ns e h d t)(q:rs e t=some v):ShR (Oc X ns) h d v:=by
 cases t with
 |val u=>cases q;exact .inl r
 |new u=>cases q;exact .inl r.new
 |bor i=>exact S.bor r q
def relE.stp(S:Sat X h0 ns e ae h)(a:Stp ns e h ns' e' h')(r:relE X h0 L ae ns e h d t)(hn:∀v,t ≠ .new v):relE X h0 L ae ns' e' h' d t:=by
 cases t with
 |val u=>exact Rd.mono (a.mov S) r
 |new u=>exact absurd rfl (hn u)
 |bor i=>exact r
def Tm.drop:Tm->Tm
 |.new v=>.val v
 |t=>t
def relE.drop(r:relE X h0 L ae ns e h d t):relE X h0 L ae ns e h d t.drop/\∀v,t.drop ≠ .new v:=by
 cases t with
 |val u=>exact⟨r,λ_ z=>nomatch z⟩
 |new u=>exact⟨r.new,λ_ z=>nomatch z⟩
 |bor i=>exact⟨r,λ_ z=>nomatch z⟩
noncomputable def rss(e:E3):List Tm->Option (List Val)
 | []=>some []
 |t::ts=>match rs e t,rss e ts with
  |some v,some vs=>some (v::vs)
  |_,_=>none
def TsR.sh{ds:List D}{ts:List Tm}{vs:List Val}(S:Sat X h0 ns e ae h)(r:TsR X ns ae h ds ts)(q:rss e ts=some vs):ShRs (Oc X ns) h ds vs:=by
 induction r generalizing vs with
 |nil=>cases q;exact .nil
 |
  val r _ ih=>
  unfold rss at q
  split at q
  ·rename_i e1 e2;cases q;cases e1;exact .cons (.inl r) (ih e2)
  ·cases q
 |
  bor q' _ ih=>
  unfold rss at q
  split at q
  ·rename_i e1 e2;cases q;exact .cons (S.bor q' e1) (ih e2)
  ·cases q
end
inductive Bv where
 |val (v:Val) |new (v:Val) |stuck
def BvR(P:Nat->Prop)(h:AH)(r:R D):Bv->Prop
 |.val v=>∃d,r=.ok d h/\Rd P h d v
 |.new v=>∃o,r=.ok (.ref h.length) (h++[o])/\bR o/\Rc P h o v
 |.stuck=>True
def Bv.at(b:Bv)(e:E3):R3 Tm:=match b with
 |.val v=>.ok (.val v) e
 |.new v=>.ok (.new v) e
 |.stuck=>.stuck
def BvR.po(S:Sat X h0 ns e ae h)(hl:L<=h.length)(q:BvR (Oc X ns) h r b):Po X h0 ns e ae h (relE X h0 L ae) r (b.at e):=by
 cases b with
 |stuck=>trivial
 |val v=>obtain⟨d,rfl,r⟩:=q;exact Po.ret S r
 |
  new v=>
  obtain⟨o,rfl,hf,r⟩:=q
  have S':=S.grow o
  refine⟨_,_,ns,rfl,.grow o,S'.weak λn z=>.inl z,h.length,o,rfl,hl,λz=>?_,ve,hf,S',r.mono λn o' p q=>⟨⟨λz=>?_,p.2⟩,eI q⟩⟩
  ·have:=S.xl _ z;omega
  ·rcases z with z |z
   ·exact p.1 z
   ·have:=bg q;omega
def RU(g2:D->AH->R D)(g3:Val->Bv):Prop:=∀P h d v,ShR P h d v->BvR P h (g2 d h) (g3 v)
def RO(g2:D->D->AH->R D)(g3:Val->Val->Bv):Prop:=∀P h d1 d2 v1 v2,ShR P h d1 v1->ShR P h d2 v2->BvR P h (g2 d1 d2 h) (g3 v1 v2)
def RFn(g2:Fn)(g3:List Val->Bv):Prop:=∀P h ds vs,ShRs P h ds vs->BvR P h (g2 ds h) (g3 vs)
noncomputable def Cg(i:Nat):ME3:=λe=>match e[i]? with
 |some (.sh v)=>.ok (.val v) e
 |some .no=>.stuck
 |some _=>.ok (.bor i) e
 |none=>.stuck
def vC(v:Val):ME3:=λe=>.ok (.val v) e
def vUn(g:Val->Bv)(F:ME3):ME3:=λe=>(F e).bind λt e1=>match rs e1 t with
 |some v=>(g v).at e1
 |none=>.stuck
noncomputable def vOp(g:Val->Val->Bv)(F G:ME3):ME3:=λe=>(F e).bind λt1 e1=>(G e1).bind λt2 e2=>match rs e2 t1.drop,rs e2 t2 with
 |some v1,some v2=>(g v1 v2).at e2
 |_,_=>.stuck
def nz:MA3:=λe=>.ok [] e
def Dv(F:ME3)(A:MA3):MA3:=λe=>(F e).bind λt e1=>(A e1).bind λts e2=>.ok (t.drop::ts) e2
def vFn(g:List Val->Bv)(A:MA3):ME3:=λe=>(A e).bind λts e1=>match rss e1 ts with
 |some vs=>(g vs).at e1
 |none=>.stuck
noncomputable def cz(e:E3):Tm->Option (E3×Val)
 |.val v=>some (e,v)
 |.new v=>some (e,v)
 |.bor i=>match e[i]? with
  |some (.sh v)=>some (e,v)
  |some (.ow v)=>some (e.set i (.sh v),v)
  |_=>none
noncomputable def dem(e:E3):List Tm->Option (E3×List Val)
 | []=>some (e,[])
 |t::ts=>match cz e t with
  |some (e1,v)=>match dem e1 ts with
   |some (e2,vs)=>some (e2,v::vs)
   |none=>none
  |none=>none
noncomputable def vTup(A:MA3):ME3:=λe=>(A e).bind λts e1=>match dem e1 ts with
 |some (e2,vs)=>if vs.length<=16777216 then .ok (.val (.tup vs)) e2 else .stuck
 |none=>.stuck
noncomputable def vLst(A:MA3):ME3:=λe=>(A e).bind λts e1=>match dem e1 ts with
 |some (e2,vs)=>if vs.length<=16777216 then .ok (.new (.lst vs)) e2 else .stuck
 |none=>.stuck
noncomputable def bOf:Option Val->Option Bool
 |some (.bl b)=>some b
 |_=>none
noncomputable def vAnd(F G:ME3):ME3:=λe=>(F e).bind λt e1=>match bOf (rs e1 t) with
 |some true=>G e1
 |some false=>.ok (.val (.bl false)) e1
 |none=>.stuck
noncomputable def vNot(F:ME3):ME3:=λe=>(F e).bind λt e1=>match bOf (rs e1 t) with
 |some b=>.ok (.val (.bl (!b))) e1
 |none=>.stuck
def vIf(c:MT3)(F G:ME3):ME3:=λe=>(c e).bind λb e1=>if b=true then F e1 else G e1
def cOf(F:ME3):MT3:=λe=>(F e).bind λt e1=>match bOf (rs e1 t) with
 |some b=>.ok b e1
 |none=>.stuck
def cAn(c d:MT3):MT3:=λe=>(c e).bind λb e1=>if b=true then d e1 else .ok false e1
def cO(c d:MT3):MT3:=λe=>(c e).bind λb e1=>if b=true then .ok true e1 else d e1
def cNo(c:MT3):MT3:=λe=>(c e).bind λb e1=>.ok (!b) e1
def cY:MT3:=λe=>.ok true e
noncomputable def jU:Val->Option Bool
 |.non=>some false
 |.bl b=>some b
 |.int i=>some (i != 0)
 |.tup xs=>some (!xs.isEmpty)
 |.lst xs=>some (!xs.isEmpty)
 |.kl xs=>some (!xs.isEmpty)
 |_=>none
noncomputable def cTr(F:ME3):MT3:=λe=>(F e).bind λt e1=>match (rs e1 t).bind jU with
 |some b=>.ok b e1
 |none=>.stuck
section
variable{F G:ME}{F3 G3:ME3}{A:MA}{A3:MA3}{c d:MT}{c3 d3:MT3}
def Ke(i:Nat):RE (aM i) (Cg i):=λX h0 L ns e ae h S hl=>by
 unfold Cg
 cases q:e[i]? with
 |none=>trivial
 |
  some s=>
  have y:=S.sl i s q
  cases s with
  |no=>trivial
  |sh v=>obtain⟨_,x,e1,e2⟩:=y;unfold aM;rw[e1];exact Po.ret S e2
  |ow v=>obtain⟨m,o,_,e2,_⟩:=y;unfold aM;rw[e2];exact Po.ret S e2
  |lo v=>obtain⟨m,o,_,e2,_⟩:=y;unfold aM;rw[e2];exact Po.ret S e2
  |mu v=>obtain⟨m,o,_,e2,_⟩:=y;unfold aM;rw[e2];exact Po.ret S e2
  |lm v=>obtain⟨m,o,_,e2,_⟩:=y;unfold aM;rw[e2];exact Po.ret S e2
def lL{d:D}{v:Val}(r:∀P h,Rd P h d v):RE (eC d) (vC v):=λX h0 L ns e ae h S hl=>Po.ret S (r _ _)
def Nf(hg:RU g g3)(hF:RE F F3):RE (eUn g F) (vUn g3 F3):=λX h0 L ns e ae h S hl=>
 Po.bind S (hF X h0 L ns e ae h S hl) λd t h1 ns1 e1 a1 S1 r1=>by
  try dsimp only
  split
  ·rename_i v q
   exact BvR.po S1 (F_ hl a1.len) (hg _ _ _ _ (r1.sh S1 q))
  ·trivial
def MR(hg:RO g g3)(hF:RE F F3)(hG:RE G G3):RE (eOp g F G) (vOp g3 F3 G3):=λX h0 L ns e ae h S hl=>
 Po.bind S (hF X h0 L ns e ae h S hl) λd1 t1 h1 ns1 e1 a1 S1 r1=>Po.bind S1 (hG X h0 L ns1 e1 ae h1 S1 (F_ hl a1.len)) λd2 t2 h2 db e2 a2 S2 r2=>by
  try dsimp only
  split
  ·rename_i v1 v2 q1 q2
   obtain⟨r1',hn⟩:=r1.drop
   exact BvR.po S2 (F_ hl (F_ a1.len a2.len)) (hg _ _ _ _ _ _ ((r1'.stp S1 a2 hn).sh S2 q1) (r2.sh S2 q2))
  ·trivial
def xW:RA dW nz:=λX h0 ns e ae h S=>Po.ret S .nil
def E9(hF:RE F F3)(hA:RA A A3):RA (dm F A) (Dv F3 A3):=λX h0 ns e ae h S=>
 Po.bind S (hF X h0 0 ns e ae h S (OH _)) λd1 t1 h1 ns1 e1 a1 S1 r1=>Po.bind S1 (hA X h0 ns1 e1 ae h1 S1) λds ts h2 db e2 a2 S2 r2=>by
  obtain⟨r1',hn⟩:=r1.drop
  have r3:=r1'.stp S1 a2 hn
  refine Po.ret S2 ?_
  show TsR X db ae h2 (d1::ds) (t1.drop::ts)
  generalize t1.drop=t at *
  cases t with
  |val v=>exact .val r3 r2
  |new v=>exact absurd rfl (hn v)
  |bor i=>exact .bor r3 r2
def MW(hg:RFn g g3)(hA:RA A A3):RE (eFn g A) (vFn g3 A3):=λX h0 L ns e ae h S hl=>
 Po.bind S (hA X h0 ns e ae h S) λds ts h1 ns1 e1 a1 S1 r1=>by
  try dsimp only
  split
  ·rename_i vs q
   exact BvR.po S1 (F_ hl a1.len) (hg _ _ _ _ (TsR.sh S1 r1 q))
  ·trivial
def Gj(S:Sat X h0 ns e ae h)(q:e[i]?=some (.ow v)):∃n,ae[i]?=some (some (.ref n))/\Sat X h0 (ns.set i none) (e.set i (.sh v)) ae h/\Stp ns e h (ns.set i none) (e.set i (.sh v)) h/\Rd (Oc X (ns.set i none)) h (.ref n) v:=by
 obtain⟨n,o,q1,q2,_,q3,_,q4⟩:=S.sl i _ q
 have hi:=(k_.mp q).1
 have hn:i<ns.length:=by rw[S.l2];exact hi
 have r:Rd (Oc X (ns.set i none)) h (.ref n) v:=.cell ⟨S.nx i n q1,λz=>by
  obtain⟨j,z⟩:=aS.mp z
  rcases bo hn z with ⟨_,y⟩ |⟨y,z⟩
  ·cases y
  ·exact y (S.inj j i n z q1)⟩ q3 (q4.mono λm o p q=>⟨dH p,q⟩)
 exact⟨n,q2,S.putN' hi ⟨rfl,_,q2,r⟩,Stp.refl.put (x:=none) hi (λ_ z=>by cases z) q rfl rfl S.l2,r⟩
def fI{X:Nat->Prop}{h0 L:Nat}{ns:Ns}{e e':E3}{ae:AE}{h:AH}{d:D}{t:Tm}{v:Val}(S:Sat X h0 ns e ae h)(r:relE X h0 L ae ns e h d t)(q:cz e t=some (e',v)):∃ns',Sat X h0 ns' e' ae h/\Stp ns e h ns' e' h/\Rd (Oc X ns') h d v:=by
 cases t with
 |val u=>cases q;exact⟨ns,S,.refl,r⟩
 |new u=>cases q;exact⟨ns,S,.refl,r.new⟩
 |
  bor i=>
  unfold cz at q
  dsimp only at q
  have r':ae[i]?=some (some d):=r
  split at q
  ·rename_i u q1;cases q
   obtain⟨_,x,e1,e2⟩:=S.sl i _ q1
   rw[r'] at e1;cases e1
   exact⟨ns,S,.refl,e2⟩
  ·rename_i u q1;cases q
   obtain⟨n,e1,S',a',e2⟩:=Gj S q1
   rw[r'] at e1;cases e1
   exact⟨_,S',a',e2⟩
  ·cases q
def gv:∀{ds:List D}{vs:List Val}{ns:Ns}{e e':E3},Sat X h0 ns e ae h->TsR X ns ae h ds ts->dem e ts=some (e',vs)->∃ns',Sat X h0 ns' e' ae h/\Stp ns e h ns' e' h/\Rds (Oc X ns') h ds vs:=by
 induction ts with
 |nil=>intro ds vs ns e e' S r q;cases r;cases q;exact⟨ns,S,.refl,.nil⟩
 |
  cons t ts ih=>
  intro ds vs ns e e' S r q
  unfold dem at q
  split at q
  ·rename_i e1 v q1
   split at q
   ·rename_i e2 vs' q2
    cases q
    have hr:∃d ds',ds=d::ds'/\relE X h0 0 ae ns e h d t/\TsR X ns ae h ds' ts:=by
     cases r with
     |val r rr=>exact⟨_,_,rfl,r,rr⟩
     |bor r rr=>exact⟨_,_,rfl,r,rr⟩
    obtain⟨d,ds',rfl,hr⟩:=hr
    obtain⟨ns1,S1,a1,r1⟩:=fI S hr.1 q1
    obtain⟨db,S2,a2,r2⟩:=ih S1 (hr.2.stp S a1) q2
    exact⟨db,S2,a1.trans S a2,.cons (r1.mono (a2.mov S1)) r2⟩
   ·cases q
  ·cases q
def JW(hA:RA A A3):RE (eFn mR A) (vTup A3):=λX h0 L ns e ae h S hl=>
 Po.bind S (hA X h0 ns e ae h S) λds ts h1 ns1 e1 a1 S1 r1=>by
  try dsimp only
  split
  ·rename_i e2 vs q
   split
   ·rename_i hv
    obtain⟨db,S2,a2,r2⟩:=gv S1 r1 q
    exact⟨.tup ds,h1,db,by unfold mR;rw[if_pos (by rw[r2.len];exact hv)],a2,S2,.tup r2⟩
   ·trivial
  ·trivial
def IW(hA:RA A A3):RE (eFn bI A) (vLst A3):=λX h0 L ns e ae h S hl=>
 Po.bind S (hA X h0 ns e ae h S) λds ts h1 ns1 e1 a1 S1 r1=>by
  try dsimp only
  split
  ·rename_i e2 vs q
   split
   ·rename_i hv
    obtain⟨db,S2,a2,r2⟩:=gv S1 r1 q
    have p:=BvR.po (r:=bI ds h1) (b:=.new (.lst vs)) S2 (F_ hl a1.len) ⟨.lst ds,by unfold bI;rw[if_pos (by rw[r2.len];exact hv)],trivial,.lst r2⟩
    obtain⟨d,h',ns',y,y1,y2,y3⟩:=p
    exact⟨d,h',ns',y,a2.trans S1 y1,y2,y3⟩
   ·trivial
  ·trivial
def m6(S1:Sat X h0 ns1 e1 ae h1)(r1:relE X h0 L ae ns1 e1 h1 d1 t1)(q:bOf (rs e1 t1)=some b):d1=.bl b:=by
 unfold bOf at q
 split at q
 ·rename_i b' q';cases q;exact (r1.sh S1 q').bl
 ·cases q
def Jk(hF:RE F F3)(hG:RE G G3):RE (BB F G) (vAnd F3 G3):=λX h0 L ns e ae h S hl=>
 Po.bind S (hF X h0 L ns e ae h S hl) λd1 t1 h1 ns1 e1 a1 S1 r1=>by
  try dsimp only
  split
  ·rename_i q;rw[m6 S1 r1 q];exact hG X h0 L ns1 e1 ae h1 S1 (F_ hl a1.len)
  ·rename_i q;rw[m6 S1 r1 q];exact Po.ret S1 (.bl false)
  ·trivial
def Kd(hF:RE F F3):RE (Ct F) (vNot F3):=λX h0 L ns e ae h S hl=>
 Po.bind S (hF X h0 L ns e ae h S hl) λd1 t1 h1 ns1 e1 a1 S1 r1=>by
  try dsimp only
  split
  ·rename_i q;rw[m6 S1 r1 q];exact Po.ret S1 (.bl _)
  ·trivial
def L8(hc:RT c c3)(hF:RE F F3)(hG:RE G G3):RE (eIf c F G) (vIf c3 F3 G3):=λX h0 L ns e ae h S hl=>
 Po.bind S (hc X h0 ns e ae h S) λb b' h1 ns1 e1 a1 S1 r1=>by
  cases r1
  try dsimp only
  split
  ·exact hF X h0 L ns1 e1 ae h1 S1 (F_ hl a1.len)
  ·exact hG X h0 L ns1 e1 ae h1 S1 (F_ hl a1.len)
def Oo(hF:RE F F3):RT (tOf F) (cOf F3):=λX h0 ns e ae h S=>
 Po.bind S (hF X h0 0 ns e ae h S (OH _)) λd1 t1 h1 ns1 e1 a1 S1 r1=>by
  try dsimp only
  split
  ·rename_i q;rw[m6 S1 r1 q];exact Po.ret S1 rfl
  ·trivial
def Mv(hc:RT c c3)(hd:RT d d3):RT (tAn c d) (cAn c3 d3):=λX h0 ns e ae h S=>
 Po.bind S (hc X h0 ns e ae h S) λb b' h1 ns1 e1 a1 S1 r1=>by
  cases r1
  try dsimp only
  split
  ·exact hd X h0 ns1 e1 ae h1 S1
  ·exact Po.ret S1 rfl
def rt_o(hc:RT c c3)(hd:RT d d3):RT (tO c d) (cO c3 d3):=λX h0 ns e ae h S=>
 Po.bind S (hc X h0 ns e ae h S) λb b' h1 ns1 e1 a1 S1 r1=>by
  cases r1
  try dsimp only
  split
  ·exact Po.ret S1 rfl
  ·exact hd X h0 ns1 e1 ae h1 S1
def NN(hc:RT c c3):RT (tNo c) (cNo c3):=λX h0 ns e ae h S=>
 Po.bind S (hc X h0 ns e ae h S) λb b' h1 ns1 e1 a1 S1 r1=>by
  cases r1
  exact Po.ret S1 rfl
def rt_y:RT tY cY:=λX h0 ns e ae h S=>Po.ret S rfl
def E8{P:Nat->Prop}{h:AH}{d:D}{v:Val}{b:Bool}(r:ShR P h d v)(q:jU v=some b):sM d h=.ok b h:=by
 have emp:∀{ds:List D}{vs:List Val},Rds P h ds vs->ds.isEmpty=vs.isEmpty:=λr=>by cases r <;> rfl
 cases v with
 |non=>cases q;rw[r.non];rfl
 |bl b=>cases q;rw[r.bl];rfl
 |int i=>cases q;rw[r.int];rfl
 |tup xs=>cases q;obtain⟨ds,rfl,r2⟩:=r.tup;show R.ok (!ds.isEmpty) h=_;rw[emp r2]
 |
  lst xs=>
  cases q
  obtain⟨n,ds,rfl,_,e1,r1⟩:=r.lst
  rw[<- emp r1]
  unfold sM cM;dsimp only;rw[e1]
 |
  kl xs=>
  cases q
  obtain⟨ds,r2,rfl |⟨n,rfl,e1⟩⟩:=r.kl
  ·show R.ok (!ds.isEmpty) h=_;rw[emp r2]
  ·rw[<- emp r2]
   unfold sM cM;dsimp only;rw[e1]
 |_=>cases q
def Nd(hF:RE F F3):RT (tTr F) (cTr F3):=λX h0 ns e ae h S=>
 Po.bind S (hF X h0 0 ns e ae h S (OH _)) λd1 t1 h1 ns1 e1 a1 S1 r1=>by
  try dsimp only
  split
  ·rename_i b q
   obtain⟨v,q1,q2⟩:=OG.mp q
   rw[E8 (r1.sh S1 q1) q2]
   exact Po.ret S1 rfl
  ·trivial
end
inductive Rt where
 |val (v:Val) |new (v:Val) |par (i:Nat)
inductive SR3 where
 |nx (e:E3) |rt (r:Rt) (e:E3) |bk (e:E3) |ct (e:E3) |exc (c:Str) (e:E3) |stuck
abbrev MS3:=E3->SR3
def RtR(X:Nat->Prop)(h0:Nat)(ns:Ns)(e:E3)(ae:AE)(h:AH)(d:D):Rt->Prop
 |.val v=>Sat X h0 ns e ae h/\Rd (Oc X ns) h d v
 |.new v=>∃n o,d=.ref n/\h0<=n/\¬ X n/\h[n]?=some o/\bR o/\Sat (Xn X n) h0 ns e ae h/\Rc (Oc (Xn X n) ns) h o v
 |.par i=>Sat X h0 ns e ae h/\ae[i]?=some (some d)/\∃v,e[i]?=some (.mu v)
def PoS(X:Nat->Prop)(h0:Nat)(ns:Ns)(e:E3)(h:AH)(r2:SR):SR3->Prop
 |.stuck=>True
 |.nx e'=>∃a_ h' ns',r2=.nx a_ h'/\Stp ns e h ns' e' h'/\Sat X h0 ns' e' a_ h'
 |.bk e'=>∃a_ h' ns',r2=.bk a_ h'/\Stp ns e h ns' e' h'/\Sat X h0 ns' e' a_ h'
 |.ct e'=>∃a_ h' ns',r2=.ct a_ h'/\Stp ns e h ns' e' h'/\Sat X h0 ns' e' a_ h'
 |.exc c e'=>∃a_ h' ns',r2=.exc c a_ h'/\Stp ns e h ns' e' h'/\Sat X h0 ns' e' a_ h'
 |.rt r e'=>∃d a_ h' ns',r2=.rt d h'/\Stp ns e h ns' e' h'/\RtR X h0 ns' e' a_ h' d r
def RS(F:MS)(G:MS3):Prop:=∀X h0 ns e ae h,Sat X h0 ns e ae h->PoS X h0 ns e h (F ae h) (G e)
def R3.toS{α:Type}(r:R3 α)(f:α->E3->SR3):SR3:=match r with
 |.ok a e=>f a e
 |.exc c e=>.exc c e
 |.stuck=>.stuck
def SR3.then(r:SR3)(f:E3->SR3):SR3:=match r with
 |.nx e=>f e
 |r=>r
section
variable{X:Nat->Prop}{h0 L:Nat}{ns ns1 ns':Ns}{e e1 e':E3}{ae:AE}{h h1 h':AH}
def PoS.after(S:Sat X h0 ns e ae h)(a:Stp ns e h ns1 e1 h1)(p:PoS X h0 ns1 e1 h1 r2 r3):PoS X h0 ns e h r2 r3:=by
 cases r3 with
 |stuck=>trivial
 |nx e'=>obtain⟨a_,h',ns',q,q1,q2⟩:=p;exact⟨a_,h',ns',q,a.trans S q1,q2⟩
 |bk e'=>obtain⟨a_,h',ns',q,q1,q2⟩:=p;exact⟨a_,h',ns',q,a.trans S q1,q2⟩
 |ct e'=>obtain⟨a_,h',ns',q,q1,q2⟩:=p;exact⟨a_,h',ns',q,a.trans S q1,q2⟩
 |exc c e'=>obtain⟨a_,h',ns',q,q1,q2⟩:=p;exact⟨a_,h',ns',q,a.trans S q1,q2⟩
 |rt r e'=>obtain⟨d,a_,h',ns',q,q1,q2⟩:=p;exact⟨d,a_,h',ns',q,a.trans S q1,q2⟩
def PoS.toS(p:Po X h0 ns e ae h rel r2 r3)
 (k:∀d t h' ns' e',Stp ns e h ns' e' h'->Sat X h0 ns' e' ae h'->rel ns' e' h' d t->PoS X h0 ns e h (f2 d h') (f3 t e')):PoS X h0 ns e h (r2.toS ae f2) (r3.toS f3):=by
 cases r3 with
 |stuck=>trivial
 |exc c e'=>obtain⟨h',ns',rfl,q1,q2⟩:=p;exact⟨ae,h',ns',rfl,q1,q2⟩
 |ok t e'=>obtain⟨d,h',ns',rfl,q1,q2,q3⟩:=p;exact k d t h' ns' e' q1 q2 q3
def PoS.nx(a:Stp ns e h ns' e' h')(S:Sat X h0 ns' e' a_ h'):PoS X h0 ns e h (.nx a_ h') (.nx e'):=⟨a_,h',ns',rfl,a,S⟩
end
def wNx:MS3:=λe=>.nx e
def CT:MS3:=λe=>.rt (.val .non) e
def wSeq(F G:MS3):MS3:=λe=>(F e).then G
def CH(F:ME3):MS3:=λe=>(F e).toS λ_ e1=>.nx e1
def wIf(c:MT3)(F G:MS3):MS3:=λe=>(c e).toS λb e1=>if b=true then F e1 else G e1
noncomputable def oA(t:Tm)(e:E3):SR3:=match t with
 |.val v=>.rt (.val v) e
 |.new v=>.rt (.new v) e
 |.bor i=>match e[i]? with
  |some (.sh v)=>.rt (.val v) e
  |some (.ow v)=>.rt (.new v) (e.set i .no)
  |some (.mu _)=>.rt (.par i) e
  |_=>.stuck
def wRet(F:ME3):MS3:=λe=>(F e).toS oA
noncomputable def ik(o:Bool)(i:Nat)(t:Tm)(e:E3):SR3:=match e[i]? with
 |some s0=>if s0.pl=true then (match t with
  |.val v=>.nx (e.set i (.sh v))
  |.new v=>.nx (e.set i (if o=true then .ow v else .sh v))
  |.bor j=>match cz e (.bor j) with
   |some (e2,v)=>.nx (e2.set i (.sh v))
   |none=>.stuck) else .stuck
 |none=>.stuck
def wAsg(o:Bool)(i:Nat)(F:ME3):MS3:=λe=>(F e).toS (ik o i)
abbrev MG3:=Val->E3->Option E3
abbrev jN:=List Val->E3->Option E3
noncomputable def pN(i:Nat):MG3:=λv e=>match e[i]? with
 |some s=>if s.pl=true then some (e.set i (.sh v)) else none
 |none=>none
def psN:jN:=λvs e=>match vs with
 | []=>some e
 |_=>none
def psC(g:MG3)(u:jN):jN:=λvs e=>match vs with
 |v::r=>(g v e).bind λe1=>u r e1
 | []=>none
def pT(n:Nat)(u:jN):MG3:=λv e=>match v with
 |.tup vs=>if vs.length=n then u vs e else none
 |_=>none
noncomputable def CY(F:ME3)(g:MG3):MS3:=λe=>(F e).toS λt e1=>match cz e1 t with
 |some (e2,v)=>match g v e2 with
  |some e3=>.nx e3
  |none=>.stuck
 |none=>.stuck
noncomputable def wPar(i j:Nat)(A:MA3):MS3:=λe=>(A e).toS λts e1=>match dem e1 ts with
 |some (e2,[v,u])=>match (pN i v e2).bind (pN j u) with
  |some e3=>.nx e3
  |none=>.stuck
 |_=>.stuck
noncomputable def Cm(i:Nat)(g:Val->Val->Bv)(F:ME3):MS3:=λe=>match e[i]? with
 |some (.sh x)=>(F e).toS λt e1=>match rs e1 t with
  |some y=>match g x y with
   |.val z=>match pN i z e1 with
    |some e2=>.nx e2
    |none=>.stuck
   |_=>.stuck
  |none=>.stuck
 |_=>.stuck
def yI(c:Str)(A:MA3):MS3:=λe=>(A e).toS λts e1=>if ts.length<=16777216 then .exc c e1 else .stuck
def RG(g2:MG)(g3:MG3):Prop:=∀X h0 ns e ae h d v e',Sat X h0 ns e ae h->Rd (Oc X ns) h d v->g3 v e=some e'->∃a_ ns',g2 d ae h=.ok a_ h/\Sat X h0 ns' e' a_ h/\Stp ns e h ns' e' h
def RGs(g2:MGs)(g3:jN):Prop:=∀X h0 ns e ae h ds vs e',Sat X h0 ns e ae h->Rds (Oc X ns) h ds vs->g3 vs e=some e'->∃a_ ns',g2 ds ae h=.ok a_ h/\Sat X h0 ns' e' a_ h/\Stp ns e h ns' e' h
section
variable{F G:ME}{F3 G3:ME3}{A:MA}{A3:MA3}{c d:MT}{c3 d3:MT3}{U V:MS}{U3 V3:MS3}{g:MG}{g3:MG3}{gs:MGs}{gs3:jN}
def Nj:RS sNx wNx:=λX h0 ns e ae h S=>.nx .refl S
def Fl:RS wH CT:=λX h0 ns e ae h S=>⟨.non,ae,h,ns,rfl,.refl,S,.non⟩
def JQ(hU:RS U U3)(hV:RS V V3):RS (gF U V) (wSeq U3 V3):=λX h0 ns e ae h S=>by
 have p:=hU X h0 ns e ae h S
 show PoS X h0 ns e h ((U ae h).then V) ((U3 e).then V3)
 generalize U3 e=r at *
 cases r with
 |stuck=>trivial
 |nx e'=>obtain⟨a_,h',ns',q,q1,q2⟩:=p;rw[q];exact PoS.after S q1 (hV X h0 ns' e' a_ h' q2)
 |bk e'=>obtain⟨a_,h',ns',q,q1,q2⟩:=p;rw[q];exact⟨a_,h',ns',rfl,q1,q2⟩
 |ct e'=>obtain⟨a_,h',ns',q,q1,q2⟩:=p;rw[q];exact⟨a_,h',ns',rfl,q1,q2⟩
 |exc c e'=>obtain⟨a_,h',ns',q,q1,q2⟩:=p;rw[q];exact⟨a_,h',ns',rfl,q1,q2⟩
 |rt r e'=>obtain⟨d,a_,h',ns',q,q1,q2⟩:=p;rw[q];exact⟨d,a_,h',ns',rfl,q1,q2⟩
def Fp(hF:RE F F3):RS (gp F) (CH F3):=λX h0 ns e ae h S=>PoS.toS (hF X h0 0 ns e ae h S (OH _)) λd t h1 ns1 e1 a1 S1 r1=>.nx a1 S1
def M7(hc:RT c c3)(hU:RS U U3)(hV:RS V V3):RS (sIf c U V) (wIf c3 U3 V3):=λX h0 ns e ae h S=>PoS.toS (hc X h0 ns e ae h S) λb b' h1 ns1 e1 a1 S1 r1=>by
 cases r1
 try dsimp only
 split
 ·exact PoS.after S a1 (hU X h0 ns1 e1 ae h1 S1)
 ·exact PoS.after S a1 (hV X h0 ns1 e1 ae h1 S1)
def JM(hF:RE F F3):RS (Cf F) (wRet F3):=λX h0 ns e ae h S=>PoS.toS (hF X h0 h0 ns e ae h S S.lh) λd t h1 ns1 e1 a1 S1 r1=>by
 cases t with
 |val v=>exact⟨d,ae,h1,ns1,rfl,a1,S1,r1⟩
 |new v=>obtain⟨n,o,q⟩:=r1;exact⟨d,ae,h1,ns1,rfl,a1,n,o,q⟩
 |
  bor i=>
  unfold oA
  dsimp only
  have r':ae[i]?=some (some d):=r1
  split
  ·rename_i v q
   obtain⟨_,x,e1',e2⟩:=S1.sl i _ q
   rw[r'] at e1';cases e1'
   exact⟨d,ae,h1,ns1,rfl,a1,S1,e2⟩
  ·rename_i v q
   obtain⟨n,o,q1,q2,q3,q4,q5,q6⟩:=S1.sl i _ q
   rw[r'] at q2;cases q2
   have hi:=(k_.mp q).1
   have hn:i<ns1.length:=by rw[S1.l2];exact hi
   have mv:Mov (Oc X ns1) (Oc (Xn X n) (ns1.set i none)) h1 h1:=λm o' p q'=>⟨⟨λz=>by
    rcases z with z |rfl
    ·exact p.1 z
    ·exact p.2 (aS.mpr ⟨i,q1⟩),(dH p).2⟩,q'⟩
   have S2:=S1.putN' hi (s:=.no) rfl
   refine⟨.ref n,ae,h1,ns1.set i none,rfl,a1.put (x:=none) hi (λ_ z=>by cases z) q rfl rfl S1.l2,n,o,rfl,q3,S1.nx i n q1,q4,q5,⟨S2.l1,S2.l2,S2.lh,λm z=>?_,S2.inj,λj m qj z=>?_,λj s qj=>?_⟩,q6.mono mv⟩
   ·rcases z with z |rfl
    ·exact S2.xl m z
    ·exact bg q4
   ·rcases z with z |rfl
    ·exact S2.nx j m qj z
    ·rcases bo hn qj with ⟨_,y⟩ |⟨y,z⟩
     ·cases y
     ·exact y (S1.inj j i _ z q1)
   ·rcases bo hi qj with ⟨rfl,rfl⟩ |⟨z,qj'⟩
    ·rw[bp hn];rfl
    ·rw[aU z]
     exact (S1.sl j s qj').mono mv λ_ _ _ q=>q
  ·rename_i v q
   exact⟨d,ae,h1,ns1,rfl,a1,S1,r',v,q⟩
  ·trivial
def H0(o:Bool)(i:Nat)(hF:RE F F3):RS (f6 F (gN i)) (wAsg o i F3):=λX h0 ns e ae h S=>PoS.toS (hF X h0 h.length ns e ae h S (m_ _)) λd t h1 ns1 e1 a1 S1 r1=>by
 show PoS X h0 ns e h (.nx (ae.set i (some d)) h1) (ik o i t e1)
 unfold ik
 split
 ·rename_i s0 q0
  split
  ·rename_i p0
   have hi:=(k_.mp q0).1
   cases t with
   |val v=>exact .nx (a1.put (x:=none) (s:=.sh v) hi (λ_ z=>by cases z) q0 p0 rfl S1.l2) (S1.putN hi ⟨rfl,d,rfl,Rd.mono (λm o p q=>⟨dH p,q⟩) r1⟩)
   |
    new v=>
    try dsimp only
    split
    ·obtain⟨n,ob,rfl,q1,q2,q3,q4,q5,q6⟩:=r1
     exact .nx (a1.put (x:=some n) (s:=.ow v) hi (λm z=>by cases z;exact q1) q0 p0 rfl S1.l2) (Sat.putO q5 q2 hi (F_ S.lh q1) q3 q4 q6)
    ·exact .nx (a1.put (x:=none) (s:=.sh v) hi (λ_ z=>by cases z) q0 p0 rfl S1.l2) (S1.putN hi ⟨rfl,d,rfl,Rd.mono (λm o p q=>⟨dH p,q⟩) r1.new⟩)
   |
    bor j=>
    try dsimp only
    split
    ·rename_i e2 v q2
     obtain⟨db,S2,a2,r2⟩:=fI S1 r1 q2
     have hq:∃s2,e2[i]?=some s2/\s2.pl=true:=by
      unfold cz at q2
      dsimp only at q2
      split at q2
      ·cases q2;exact⟨s0,q0,p0⟩
      ·rename_i u q3
       cases q2
       by_cases z:i=j
       ·subst z;exact⟨_,bp hi,rfl⟩
       ·exact⟨s0,by rw[aU z];exact q0,p0⟩
      ·cases q2
     obtain⟨s2,hq1,hq2⟩:=hq
     have hi2:=(k_.mp hq1).1
     exact .nx ((a1.trans S a2).put (x:=none) (s:=.sh v) hi2 (λ_ z=>by cases z) hq1 hq2 rfl S2.l2) (S2.putN hi2 ⟨rfl,d,rfl,Rd.mono (λm o p q=>⟨dH p,q⟩) r2⟩)
    ·trivial
  ·trivial
 ·trivial
def sT(i:Nat):RG (gN i) (pN i):=λX h0 ns e ae h d v e' S r q=>by
 unfold pN at q
 split at q
 ·rename_i s q0
  split at q
  ·rename_i p0
   cases q
   have hi:=(k_.mp q0).1
   exact⟨_,ns.set i none,rfl,S.putN hi ⟨rfl,d,rfl,Rd.mono (λm o p q=>⟨dH p,q⟩) r⟩,Stp.refl.put (x:=none) (s:=.sh v) hi (λ_ z=>by cases z) q0 p0 rfl S.l2⟩
  ·cases q
 ·cases q
def MJ:RGs gsN psN:=λX h0 ns e ae h ds vs e' S r q=>by
 cases r with
 |nil=>cases q;exact⟨ae,ns,rfl,S,.refl⟩
 |cons _ _=>cases q
def Ox(hg:RG g g3)(hs:RGs gs gs3):RGs (gsC g gs) (psC g3 gs3):=λX h0 ns e ae h ds vs e' S r q=>by
 cases r with
 |nil=>cases q
 |
  cons r rr=>
  obtain⟨e1,q1,q2⟩:=OG.mp q
  obtain⟨ae1,ns1,p1,S1,a1⟩:=hg _ _ _ _ _ _ _ _ _ S r q1
  obtain⟨ae2,db,p2,S2,a2⟩:=hs _ _ _ _ _ _ _ _ _ S1 (rr.mono (a1.mov S)) q2
  refine⟨ae2,db,?_,S2,a1.trans S a2⟩
  unfold gsC;dsimp only;rw[p1];exact p2
def rg_t(n:Nat)(hs:RGs gs gs3):RG (gT λds ae h=>if ds.length=n then gs ds ae h else .stuck) (pT n gs3):=λX h0 ns e ae h d v e' S r q=>by
 unfold pT at q
 split at q
 ·split at q
  ·rename_i hn
   obtain⟨ds,rfl,r2⟩:=ShR.tup (.inl r)
   obtain⟨ae1,ns1,p1,S1,a1⟩:=hs _ _ _ _ _ _ _ _ _ S r2 q
   refine⟨ae1,ns1,?_,S1,a1⟩
   unfold gT;dsimp only;rw[if_pos (by rw[r2.len];exact hn)];exact p1
  ·cases q
 ·cases q
def JV(hg:RG g g3):RG (λd ae h=>noX (g d ae h)) g3:=λX h0 ns e ae h d v e' S r q=>by
 obtain⟨ae1,ns1,p1,S1,a1⟩:=hg _ _ _ _ _ _ _ _ _ S r q
 exact⟨ae1,ns1,by dsimp only;rw[p1];rfl,S1,a1⟩
def DX(hF:RE F F3)(hg:RG g g3):RS (f6 F g) (CY F3 g3):=λX h0 ns e ae h S=>PoS.toS (hF X h0 0 ns e ae h S (OH _)) λd t h1 ns1 e1 a1 S1 r1=>by
 try dsimp only
 split
 ·rename_i e2 v q
  obtain⟨db,S2,a2,r2⟩:=fI S1 r1 q
  split
  ·rename_i e3 q3
   obtain⟨ae3,ns3,p3,S3,a3⟩:=hg _ _ _ _ _ _ _ _ _ S2 r2 q3
   rw[p3]
   exact .nx ((a1.trans S a2).trans S a3) S3
  ·trivial
 ·trivial
def Jj(i j:Nat)(hA:RA A A3):RS (Aw i j A) (wPar i j A3):=λX h0 ns e ae h S=>PoS.toS (hA X h0 ns e ae h S) λds ts h1 ns1 e1 a1 S1 r1=>by
 try dsimp only
 cases q:dem e1 ts with
 |none=>trivial
 |
  some w=>
  obtain⟨e2,vs⟩:=w
  obtain⟨db,S2,a2,r2⟩:=gv S1 r1 q
  match vs,ds,r2 with
  | [],_,_=>trivial
  | [_],_,_=>trivial
  |_::_::_::_,_,_=>trivial
  |
   [v,u],[d,d'],r2=>
   dsimp only
   split
   ·rename_i e3 q3
    obtain⟨e4,q4,q5⟩:=OG.mp q3
    cases r2 with
    |
     cons r rr=>
     cases rr with
     |
      cons r' rr=>
      obtain⟨ae3,ns3,p3,S3,a3⟩:=sT i _ _ _ _ _ _ _ _ _ S2 r q4
      obtain⟨ae4,ns4,p4,S4,a4⟩:=sT j _ _ _ _ _ _ _ _ _ S3 (r'.mono (a3.mov S2)) q5
      have z3:ae3=ae.set i (some d):=by have:=p3;unfold gN at this;cases this;rfl
      have z4:ae4=ae3.set j (some d'):=by have:=p4;unfold gN at this;cases this;rfl
      subst z4 z3
      exact .nx (((a1.trans S a2).trans S a3).trans S a4) S4
   ·trivial
def GN(i:Nat)(hg:RO gg gg3)(hF:RE F F3):RS (sF i gg F) (Cm i gg3 F3):=λX h0 ns e ae h S=>by
 unfold Cm
 split
 ·rename_i x q0
  obtain⟨_,dx,e1,r0⟩:=S.sl i _ q0
  unfold sF
  rw[e1]
  refine PoS.toS (hF X h0 0 ns e ae h S (OH _)) λd t h1 ns1 e1 a1 S1 r1=>?_
  try dsimp only
  split
  ·rename_i y q1
   have b:=hg _ _ _ _ _ _ (.inl (r0.mono (a1.mov S))) (r1.sh S1 q1)
   split
   ·rename_i z q2
    rw[q2] at b
    obtain⟨dz,p1,r2⟩:=b
    split
    ·rename_i e2 q3
     rw[p1]
     obtain⟨ae3,ns3,p3,S3,a3⟩:=sT i _ _ _ _ _ _ _ _ _ S1 r2 q3
     have z3:ae3=ae.set i (some dz):=by have:=p3;unfold gN at this;cases this;rfl
     subst z3
     exact .nx (a1.trans S a3) S3
    ·trivial
   ·trivial
  ·trivial
 ·trivial
def TsR.len(r:TsR X ns ae h ds ts):ds.length=ts.length:=by
 induction r with
 |nil=>rfl
 |val _ _ ih=>rw[v_,v_,ih]
 |bor _ _ ih=>rw[v_,v_,ih]
def Ag(x:Str)(hA:RA A A3):RS (sW x A) (yI x A3):=λX h0 ns e ae h S=>PoS.toS (hA X h0 ns e ae h S) λds ts h1 ns1 e1 a1 S1 r1=>by
 try dsimp only
 by_cases hl:ts.length<=16777216
 ·rw[if_pos hl,if_pos (by rw[TsR.len r1];exact hl)]
  exact⟨ae,h1,ns1,rfl,a1,S1⟩
 ·rw[if_neg hl];trivial
end
def Sl.re(s:Sl)(u:Val):Sl:=match s with
 |.ow _=>.ow u
 |.mu _=>.mu u
 |s=>s
def Sl.mv:Sl->Option Val
 |.ow v=>some v
 |.mu v=>some v
 |_=>none
section
variable{X:Nat->Prop}{h0 L:Nat}{ns ns1 ns':Ns}{e e1 e':E3}{ae:AE}{h h1 h':AH}
def Sat.write(S:Sat X h0 ns e ae h)(q:e[i]?=some s)(hm:s.mv=some u):∃n o,ae[i]?=some (some (.ref n))/\h[n]?=some o/\bR o/\Rc (Oc X ns) h o u/\
 ∀o' u',bR o'->Rc (Oc X ns) h o' u'->Mov (Oc X ns) (Oc X ns) h (h.set n o')/\Sat X h0 ns (e.set i (s.re u')) ae (h.set n o')/\Stp ns e h ns (e.set i (s.re u')) (h.set n o'):=by
 have hi:=(k_.mp q).1
 have key:∃n o,ns[i]?=some (some n)/\ae[i]?=some (some (.ref n))/\h[n]?=some o/\bR o/\Rc (Oc X ns) h o u/\s.mt=true/\(∀o' u',bR o'->Rc (Oc X ns) (h.set n o') o' u'->SlR (Oc X ns) h0 (some (some n)) (some (some (.ref n))) (h.set n o') (s.re u')):=by
  have y:=S.sl i s q
  cases s with
  |ow v=>cases hm;obtain⟨n,o,q1,q2,q3,q4,q5,q6⟩:=y;exact⟨n,o,q1,q2,q4,q5,q6,rfl,λo' u' hf r=>⟨n,o',rfl,rfl,q3,bp (bg q4),hf,r⟩⟩
  |mu v=>cases hm;obtain⟨n,o,q1,q2,q4,q5,q6⟩:=y;exact⟨n,o,q1,q2,q4,q5,q6,rfl,λo' u' hf r=>⟨n,o',rfl,rfl,bp (bg q4),hf,r⟩⟩
  |_=>cases hm
 obtain⟨n,o,k1,k2,k3,k4,k5,k6,k7⟩:=key
 refine⟨n,o,k2,k3,k4,k5,λo' u' hf r=>?_⟩
 have mv:Mov (Oc X ns) (Oc X ns) h (h.set n o'):=λm ob p q'=>⟨p,by
  have:m≠n:=λz=>p.2 (aS.mpr ⟨i,by rw[z];exact k1⟩)
  rw[aU this];exact q'⟩
 refine⟨mv,⟨by rw[B_];exact S.l1,by rw[B_];exact S.l2,by rw[B_];exact S.lh,λm z=>by rw[B_];exact S.xl m z,S.inj,S.nx,λj s' qj=>?_⟩,?_⟩
 ·rcases bo hi qj with ⟨rfl,rfl⟩ |⟨z,qj'⟩
  ·rw[k1,k2];exact k7 o' u' hf (r.mono mv)
  ·refine (S.sl j s' qj').mono mv λm ob qm qo=>?_
   have:m≠n:=λy=>by subst y;exact z (S.inj j i m qm k1)
   rw[aU this];exact qo
 ·refine⟨by rw[B_];exact m_ _,λm ob qm hM=>?_,λ_ _ q=>.inl q,λj s' qj hl=>?_,λj s' qj hl=>?_,λj v qj=>?_,λj v qj=>?_⟩
  ·have:m≠n:=λy=>by subst y;exact hM ⟨i,s,k1,q,k6⟩
   rw[aU this];exact qm
  ·have z:j≠i:=λz=>by subst z;rw[q] at qj;cases qj;cases s <;> first |cases hl;done |cases k6;done
   rw[aU z];exact⟨qj,rfl⟩
  ·rcases bo hi qj with ⟨_,y⟩ |⟨z,qj'⟩
   ·subst y;cases s <;> first |cases hl;done |cases k6;done
   ·exact⟨qj',rfl⟩
  ·rcases bo hi qj with ⟨rfl,y⟩ |⟨z,qj'⟩
   ·cases s with
    |mu w=>exact⟨w,q,rfl⟩
    |ow w=>cases y
    |_=>cases k6
   ·exact⟨v,qj',rfl⟩
  ·by_cases z:j=i
   ·subst z;rw[q] at qj;cases qj;exact⟨u',bp hi,rfl⟩
   ·exact⟨v,by rw[aU z];exact qj,rfl⟩
end
def wm(w2:D->D->D->AH->R Unit)(w3:Val->Val->Val->Option Val):Prop:=∀P h n o u di vi d v u',¬ P n->h[n]?=some o->bR o->Rc P h o u->ShR P h di vi->Rd P h d v->w3 u vi v=some u'->∃o',w2 (.ref n) di d h=.ok () (h.set n o')/\bR o'/\Rc P h o' u'
noncomputable def wSet(i:Nat)(G:ME3)(F:ME3)(w:Val->Val->Val->Option Val):MS3:=λe=>(F e).toS λt e1=>match (e1[i]?).bind Sl.mv with
 |none=>.stuck
 |some _=>(G e1).toS λt2 e2=>match rs e2 t2 with
  |none=>.stuck
  |some vi=>match cz e2 t.drop with
   |none=>.stuck
   |some (e3,v)=>match e3[i]? with
    |none=>.stuck
    |some s=>match s.mv with
     |none=>.stuck
     |some u=>match w u vi v with
      |some u'=>.nx (e3.set i (s.re u'))
      |none=>.stuck
def RM(m2:D->List D->AH->R D)(m3:Val->List Val->Option (Val×Val)):Prop:=∀P h n o u ds vs u' v,h[n]?=some o->bR o->Rc P h o u->Rds P h ds vs->m3 u vs=some (u',v)->ju h (.ref n)=true/\∃o' d,m2 (.ref n) ds h=.ok d (h.set n o')/\bR o'/\Rc P h o' u'/\Rd P h d v
def jt:Val->Bool
 |.lst _=>true
 |_=>false
noncomputable def lu(i:Nat)(m:Val->List Val->Option (Val×Val))(A:MA3):ME3:=λe=>match e[i]? with
 |some s=>if (s.mv.map jt)=some true then (A e).bind λts e1=>match dem e1 ts with
  |some (e2,vs)=>match e2[i]? with
   |some s2=>match s2.mv with
    |some u=>match m u vs with
     |some (u',v)=>.ok (.val v) (e2.set i (s2.re u'))
     |none=>.stuck
    |none=>.stuck
   |none=>.stuck
  |none=>.stuck else .stuck
 |none=>.stuck
section
variable{F G:ME}{F3 G3:ME3}{A:MA}{A3:MA3}
def DJ{X:Nat->Prop}{h0:Nat}{ns:Ns}{e:E3}{ae:AE}{h:AH}(S:Sat X h0 ns e ae h){i:Nat}{u:Val}(q:(e[i]?).bind Sl.mv=some u):∃n o,ae[i]?=some (some (.ref n))/\h[n]?=some o/\bR o/\Rc (Oc X ns) h o u:=by
 obtain⟨s,q1,q2⟩:=OG.mp q
 obtain⟨n,o,k1,k2,k3,k4,_⟩:=S.write q1 q2
 exact⟨n,o,k1,k2,k3,k4⟩
def Ht(i:Nat)(hw:wm w2 w3)(hG:RE G G3)(hF:RE F F3):RS (f6 F (gS (aM i) G w2)) (wSet i G3 F3 w3):=λX h0 ns e ae h S=>PoS.toS (hF X h0 0 ns e ae h S (OH _)) λd t h1 ns1 e1 a1 S1 r1=>by
 try dsimp only
 cases qm:(e1[i]?).bind Sl.mv with
 |none=>trivial
 |
  some u0=>
  obtain⟨n0,o0,b1,b2,b3,b4⟩:=DJ S1 qm
  have L2e:∀h',(gS (aM i) G w2 d ae h').toS ae (λa_ h2=>SR.nx a_ h2)=(G ae h').toS ae λdi h2=>(w2 (.ref n0) di d h2).toS ae λ_ h3=>.nx ae h3:=λh'=>by
   unfold gS aM
   rw[b1]
   simp only[fu]
   cases G ae h' with
   |
    ok di h2=>
    simp only[fu]
    show _=(w2 (.ref n0) di d h2).toS ae λ_ h3=>.nx ae h3
    cases w2 (.ref n0) di d h2 <;> rfl
   |exc c h2=>rfl
   |stuck=>rfl
  rw[L2e]
  refine PoS.after S a1 (PoS.toS (hG X h0 0 ns1 e1 ae h1 S1 (OH _)) λdi t2 h2 db e2 a2 S2 r2=>?_)
  try dsimp only
  cases qi:rs e2 t2 with
  |none=>trivial
  |
   some vi=>
   try dsimp only
   cases qd:cz e2 t.drop with
   |none=>trivial
   |
    some w=>
    obtain⟨e3,v⟩:=w
    try dsimp only
    obtain⟨r1',hn⟩:=r1.drop
    have r3:=r1'.stp S1 a2 hn
    have si:=r2.sh S2 qi
    obtain⟨ns3,S3,a3,r4⟩:=fI S2 r3 qd
    have si3:ShR (Oc X ns3) h2 di vi:=by
     rcases si with z |⟨n,o,z1,z2,z3⟩
     ·exact .inl (z.mono (a3.mov S2))
     ·exact .inr ⟨n,o,z1,z2,z3.mono (a3.mov S2)⟩
    cases q3:e3[i]? with
    |none=>trivial
    |
     some s=>
     try dsimp only
     cases q4:s.mv with
     |none=>trivial
     |
      some u=>
      try dsimp only
      cases q5:w3 u vi v with
      |none=>trivial
      |
       some u'=>
       obtain⟨n,o,k1,k2,k3,k4,k5⟩:=S3.write q3 q4
       rw[b1] at k1;cases k1
       have nP:¬ Oc X ns3 n0:=λp=>by
        have z1:=((k5 (.lst []) (.lst []) trivial (.lst .nil)).1 _ _ p k2).2
        have z2:=((k5 (.lst [.non]) (.lst [.non]) trivial (.lst (.cons .non .nil))).1 _ _ p k2).2
        rw[bp (bg k2)] at z1 z2
        rw[<- z2] at z1
        cases z1
       obtain⟨o',p1,p2,p3⟩:=hw _ _ _ _ _ _ _ _ _ _ nP k2 k3 k4 si3 r4 q5
       obtain⟨mv,S4,a4⟩:=k5 o' u' p2 p3
       rw[p1]
       exact .nx ((a2.trans S1 a3).trans S1 a4) S4
def xU(i:Nat)(hm:RM m2 m3)(hA:RA A A3):RE (eM m2 (aM i) A) (lu i m3 A3):=λX h0 L ns e ae h S hl=>by
 unfold lu
 cases q0:e[i]? with
 |none=>trivial
 |
  some s0=>
  dsimp only
  split
  ·rename_i hz
   obtain⟨u0,z1,z2⟩:=M_.mp hz
   obtain⟨n0,o0,b1,b2,b3,b4,_⟩:=S.write q0 z1
   have hL:ju h (.ref n0)=true:=by
    cases u0 with
    |lst xs=>obtain⟨ds,_,e1,_⟩:=Rc.seq b2 b4;show (aV h n0).isSome=true;rw[e1];rfl
    |_=>cases z2
   have L2e:eM m2 (aM i) A ae h=(A ae h).bind λds h2=>m2 (.ref n0) ds h2:=by
    unfold eM aM
    rw[b1]
    simp only[fu,hL,Pd]
   rw[L2e]
   refine Po.bind S (hA X h0 ns e ae h S) λds ts h1 ns1 e1 a1 S1 r1=>?_
   try dsimp only
   cases q1:dem e1 ts with
   |none=>trivial
   |
    some w=>
    obtain⟨e2,vs⟩:=w
    try dsimp only
    obtain⟨db,S2,a2,r2⟩:=gv S1 r1 q1
    cases q2:e2[i]? with
    |none=>trivial
    |
     some s2=>
     try dsimp only
     cases q3:s2.mv with
     |none=>trivial
     |
      some u=>
      try dsimp only
      cases q4:m3 u vs with
      |none=>trivial
      |
       some w=>
       obtain⟨u',v⟩:=w
       obtain⟨n,o,k1,k2,k3,k4,k5⟩:=S2.write q2 q3
       rw[b1] at k1;cases k1
       obtain⟨_,o',d,p1,p2,p3,p4⟩:=hm _ _ _ _ _ _ _ _ _ k2 k3 k4 r2 q4
       obtain⟨mv,S4,a4⟩:=k5 o' u' p2 p3
       exact⟨d,_,db,p1,a2.trans S1 a4,S4,p4.mono mv⟩
  ·trivial
def Dy(i:Nat)(hm:RM m2 m3):RE (eM0 m2 (aM i)) (lu i m3 nz):=by
 have:=xU i hm xW
 intro X h0 L ns e ae h S hl
 have p:=this X h0 L ns e ae h S hl
 have e1:eM m2 (aM i) dW ae h=eM0 m2 (aM i) ae h:=by
  unfold eM eM0 dW
  rfl
 rw[e1] at p
 exact p
end
noncomputable def tE(mro:List Str)(i:Nat)(B U:MS3):MS3:=λe=>match B e with
 |
  .exc c e1=>if c∈mro then match e1[i]? with
   |
    some s0=>if s0.pl=true then match U (e1.set i (.sh (.exc c))) with
     |.nx e2=>(match e2[i]? with |some s=>if s.pl=true then .nx (e2.set i .no) else .stuck |none=>.stuck)
     |.bk e2=>(match e2[i]? with |some s=>if s.pl=true then .bk (e2.set i .no) else .stuck |none=>.stuck)
     |.ct e2=>(match e2[i]? with |some s=>if s.pl=true then .ct (e2.set i .no) else .stuck |none=>.stuck)
     |.rt d e2=>.rt d e2
     |_=>.stuck
    else .stuck
   |none=>.stuck
  else .stuck
 |r=>r
def Jc(mro:List Str)(i:Nat)(hB:RS B B3)(hU:RS U U3):RS (rJ mro i B U) (tE mro i B3 U3):=λX h0 ns e ae h S=>by
 have p:=hB X h0 ns e ae h S
 unfold tE rJ
 generalize B3 e=r at *
 cases r with
 |stuck=>trivial
 |nx e'=>obtain⟨a_,h',ns',q,q1,q2⟩:=p;rw[q];exact⟨a_,h',ns',rfl,q1,q2⟩
 |bk e'=>obtain⟨a_,h',ns',q,q1,q2⟩:=p;rw[q];exact⟨a_,h',ns',rfl,q1,q2⟩
 |ct e'=>obtain⟨a_,h',ns',q,q1,q2⟩:=p;rw[q];exact⟨a_,h',ns',rfl,q1,q2⟩
 |rt r e'=>obtain⟨d,a_,h',ns',q,q1,q2⟩:=p;rw[q];exact⟨d,a_,h',ns',rfl,q1,q2⟩
 |
  exc c e1=>
  obtain⟨ae1,h1,ns1,q,a1,S1⟩:=p
  rw[q]
  dsimp only
  by_cases hc:c∈mro
  ·rw[if_pos hc,if_pos hc]
   cases q0:e1[i]? with
   |none=>trivial
   |
    some s0=>
    dsimp only
    by_cases p0:s0.pl=true
    ·rw[if_pos p0]
     have hi:=(k_.mp q0).1
     have S2:Sat X h0 (ns1.set i none) (e1.set i (.sh (.exc c))) (ae1.set i (some (.exc c))) h1:=S1.putN hi ⟨rfl,_,rfl,.exc c⟩
     have a2:Stp ns e h (ns1.set i none) (e1.set i (.sh (.exc c))) h1:=a1.put (x:=none) (s:=.sh (.exc c)) hi (λ_ z=>by cases z) q0 p0 rfl S1.l2
     have p2:=PoS.after S a2 (hU X h0 _ _ _ _ S2)
     generalize U3 (e1.set i (.sh (.exc c)))=r2 at *
     cases r2 with
     |stuck=>trivial
     |exc _ _=>trivial
     |rt r e2=>obtain⟨d,a_,h',ns',q,q1,q2⟩:=p2;rw[q];exact⟨d,a_,h',ns',rfl,q1,q2⟩
     |
      nx e2=>
      obtain⟨a_,h',ns',q,q1,q2⟩:=p2
      rw[q]
      dsimp only
      split
      ·rename_i s qs
       split
       ·rename_i ps
        have hi2:=(k_.mp qs).1
        exact⟨_,h',_,rfl,q1.put (x:=none) (s:=.no) hi2 (λ_ z=>by cases z) qs ps rfl q2.l2,q2.putN hi2 rfl⟩
       ·trivial
      ·trivial
     |
      bk e2=>
      obtain⟨a_,h',ns',q,q1,q2⟩:=p2
      rw[q]
      dsimp only
      split
      ·rename_i s qs
       split
       ·rename_i ps
        have hi2:=(k_.mp qs).1
        exact⟨_,h',_,rfl,q1.put (x:=none) (s:=.no) hi2 (λ_ z=>by cases z) qs ps rfl q2.l2,q2.putN hi2 rfl⟩
       ·trivial
      ·trivial
     |
      ct e2=>
      obtain⟨a_,h',ns',q,q1,q2⟩:=p2
      rw[q]
      dsimp only
      split
      ·rename_i s qs
       split
       ·rename_i ps
        have hi2:=(k_.mp qs).1
        exact⟨_,h',_,rfl,q1.put (x:=none) (s:=.no) hi2 (λ_ z=>by cases z) qs ps rfl q2.l2,q2.putN hi2 rfl⟩
       ·trivial
      ·trivial
    ·rw[if_neg p0];trivial
  ·rw[if_neg hc,if_neg hc];trivial
noncomputable def jr:Sl->Sl
 |.ow v=>.lo v
 |.mu v=>.lm v
 |s=>s
noncomputable def ko:Sl->Sl
 |.lo v=>.ow v
 |.lm v=>.mu v
 |s=>s
def lock(e:E3)(k:Nat):E3:=match e[k]? with
 |some s=>e.set k (jr s)
 |none=>e
def unlock(e:E3)(k:Nat):E3:=match e[k]? with
 |some s=>e.set k (ko s)
 |none=>e
def lockO(e:E3):Option Nat->E3
 |some k=>lock e k
 |none=>e
def eJ(e:E3):Option Nat->E3
 |some k=>unlock e k
 |none=>e
section
variable{X:Nat->Prop}{h0 L:Nat}{ns ns1 ns':Ns}{e e1 e':E3}{ae a_:AE}{h h1 h':AH}
def SlR.lock(r:SlR P h0 n d h s):SlR P h0 n d h (jr s):=by cases s <;> exact r
def SlR.unlock(r:SlR P h0 n d h s):SlR P h0 n d h (ko s):=by cases s <;> exact r
def Sat.lock(S:Sat X h0 ns e ae h)(k:Nat):Sat X h0 ns (lock e k) ae h:=by
 unfold L3.lock
 split
 ·rename_i s q
  have hi:=(k_.mp q).1
  refine⟨by rw[B_];exact S.l1,by rw[B_];exact S.l2,S.lh,S.xl,S.inj,S.nx,λj s' qj=>?_⟩
  rcases bo hi qj with ⟨rfl,rfl⟩ |⟨z,qj'⟩
  ·exact (S.sl j s q).lock
  ·exact S.sl j s' qj'
 ·exact S
def Sat.unlock(S:Sat X h0 ns e ae h)(k:Nat):Sat X h0 ns (unlock e k) ae h:=by
 unfold L3.unlock
 split
 ·rename_i s q
  have hi:=(k_.mp q).1
  refine⟨by rw[B_];exact S.l1,by rw[B_];exact S.l2,S.lh,S.xl,S.inj,S.nx,λj s' qj=>?_⟩
  rcases bo hi qj with ⟨rfl,rfl⟩ |⟨z,qj'⟩
  ·exact (S.sl j s q).unlock
  ·exact S.sl j s' qj'
 ·exact S
def iQ(z:j≠k):(lock e k)[j]?=e[j]?:=by
 unfold lock;split
 ·rw[aU z]
 ·rfl
def fU(z:j≠k):(unlock e k)[j]?=e[j]?:=by
 unfold unlock;split
 ·rw[aU z]
 ·rfl
def nH(q:e[k]?=some s):(lock e k)[k]?=some (jr s):=by
 unfold lock;rw[q];exact bp (k_.mp q).1
def gZ(q:e[k]?=some s):(unlock e k)[k]?=some (ko s):=by
 unfold unlock;rw[q];exact bp (k_.mp q).1
def Stp.unlock(q:e[k]?=some s)(hs:s.mt=true)(a:Stp ns (L3.lock e k) h ns' e' h'):Stp ns e h ns' (L3.unlock e' k) h':=by
 have hl:(jr s).lk=true:=by cases s <;> first |rfl |cases hs
 have hu:ko (jr s)=s:=by cases s <;> first |rfl |cases hs
 obtain⟨qk,nk⟩:=a.lk k _ (nH q) hl
 refine⟨a.len,λm o qm hM=>a.keep m o qm λ⟨j,s',z1,z2,z3⟩=>hM ?_,a.nw,λj s' qj hj=>?_,λj s' qj hj=>?_,λj v qj=>?_,λj v qj=>?_⟩
 ·by_cases z:j=k
  ·subst z;exact⟨j,s,z1,q,hs⟩
  ·rw[iQ z] at z2;exact⟨j,s',z1,z2,z3⟩
 ·have z:j≠k:=λz=>by subst z;rw[q] at qj;cases qj;cases s <;> first |cases hs;done |cases hj;done
  rw[fU z]
  exact a.lk j s' (by rw[iQ z];exact qj) hj
 ·have z:j≠k:=λz=>by
   subst z
   rw[gZ qk,hu] at qj;cases qj;cases s <;> first |cases hs;done |cases hj;done
  rw[fU z] at qj
  obtain⟨y1,y2⟩:=a.lk' j s' qj hj
  rw[iQ z] at y1
  exact⟨y1,y2⟩
 ·by_cases z:j=k
  ·subst z;rw[gZ qk,hu] at qj;cases qj;exact⟨v,q,nk⟩
  ·rw[fU z] at qj
   obtain⟨u,y1,y2⟩:=a.mu j v qj
   rw[iQ z] at y1
   exact⟨u,y1,y2⟩
 ·by_cases z:j=k
  ·subst z;rw[q] at qj;cases qj;exact⟨v,by rw[gZ qk,hu],nk⟩
  ·obtain⟨u,y1,y2⟩:=a.mu' j v (by rw[iQ z];exact qj)
   exact⟨u,by rw[fU z];exact y1,y2⟩
end
abbrev MI3:=E3->R3 (List Val×Option Nat)
def Stay(X:Nat->Prop)(ns:Ns)(k:Option Nat)(h h':AH):Prop:=∀(m:Nat) (o:Ob),h[m]?=some o->(Oc X ns m\/∃j:Nat,k=some j/\ns[j]?=some (some m))->h'[m]?=some o
def sg(X:Nat->Prop)(ns:Ns)(e:E3)(h:AH)(it:AIt)(p:List Val×Option Nat):Prop:=
 Rds (Oc X ns) h it.items p.1/\(∀h',Stay X ns p.2 h h'->it.guard h')/\∀k:Nat,p.2=some k->∃s,e[k]?=some s/\s.mt=true
def RI(I:MI)(J:MI3):Prop:=∀X h0 ns e ae h,Sat X h0 ns e ae h->Po X h0 ns e ae h (sg X) (I ae h) (J e)
noncomputable def hZ:Val->Option (List Val)
 |.tup xs=>some xs
 |.lst xs=>some xs
 |_=>none
noncomputable def dX(t:Tm)(e:E3):Option (List Val×Option Nat):=match t with
 |.val v=>(hZ v).map λxs=>(xs,none)
 |.new v=>(hZ v).map λxs=>(xs,none)
 |.bor k=>match e[k]? with
  |some (.sh v)=>(hZ v).map λxs=>(xs,none)
  |some (.ow (.lst xs))=>some (xs,some k)
  |some (.mu (.lst xs))=>some (xs,some k)
  |_=>none
def Dc(F:ME3):MI3:=λe=>(F e).bind λt e1=>match dX t e1 with
 |some p=>.ok p e1
 |none=>.stuck
noncomputable def fg:Nat->List Val->List Val
 |_,[]=>[]
 |i,d::ds=>.tup [.int (i:Nat),d]::fg (i+1) ds
noncomputable def Dk(A:MA3):MI3:=λe=>(A e).bind λts e1=>match ts with
 | [t]=>(match dX t e1 with
  |some p=>.ok (fg 0 p.1,p.2) e1
  |none=>.stuck)
 |_=>.stuck
noncomputable def C8(A:MA3):MI3:=λe=>(A e).bind λts e1=>match ts with
 | [t,u]=>(match dX t e1,dX u e1 with
  |some (xs,k),some (ys,none)=>.ok (List.zipWith (λx y=>.tup [x,y]) xs ys,k) e1
  |_,_=>.stuck)
 |_=>.stuck
def wa(lo:Int)(k:Nat):List Val:=(List.range k).map λi=>Val.int (lo+(i:Nat))
structure RgB(j:Int):Prop where
 lo:-(2^62)<=j
 hi:j<2^62
def fZ:List Val->Option (List Val)
 | [.int j]=>@ite _ (RgB j) (Classical.propDecidable _) (some (wa 0 j.toNat)) none
 |_=>none
noncomputable def Cu(f:List Val->Option (List Val))(A:MA3):MI3:=λe=>(A e).bind λts e1=>match (rss e1 ts).bind f with
 |some xs=>.ok (xs,none) e1
 |none=>.stuck
section
variable{F:ME}{F3:ME3}{A:MA}{A3:MA3}
def w9(S:Sat X h0 ns e ae h)(r:Rd (Oc X ns) h d v)(q:hZ v=some xs):∃it,fP d h=some it/\sg X ns e h it (xs,none):=by
 cases v with
 |
  tup ys=>
  cases q
  obtain⟨ds,rfl,r2⟩:=ShR.tup (.inl r)
  exact⟨_,rfl,r2,λ_ _=>trivial,λ_ z=>nomatch z⟩
 |
  lst ys=>
  cases q
  cases r with
  |
   cell p eo rc=>
   rename_i n o
   obtain⟨ds,_,e1,r1⟩:=Rc.seq eo rc
   refine⟨.lst n ds,by unfold fP;dsimp only;rw[e1];rfl,r1,λh' st=>?_,λ_ z=>nomatch z⟩
   show aV h' n=some ds
   have:=st n o eo (.inl p)
   unfold aV at e1 ⊢
   rw[eo] at e1
   rw[this];exact e1
 |_=>cases q
def mD(S:Sat X h0 ns e ae h)(r:relE X h0 L ae ns e h d t)(q:dX t e=some p):∃it,fP d h=some it/\sg X ns e h it p:=by
 cases t with
 |val v=>obtain⟨xs,q1,rfl⟩:=M_.mp q;exact w9 S r q1
 |new v=>obtain⟨xs,q1,rfl⟩:=M_.mp q;exact w9 S r.new q1
 |
  bor k=>
  have r':ae[k]?=some (some d):=r
  have own:∀{s xs},e[k]?=some s->s.mv=some (.lst xs)->∃it,fP d h=some it/\sg X ns e h it (xs,some k):=λ{s xs} q qm=>by
   have hns:∃n,ns[k]?=some (some n)/\ae[k]?=some (some (.ref n)):=by
    have y:=S.sl k s q
    cases s with
    |ow v=>obtain⟨n,o,y1,y2,_⟩:=y;exact⟨n,y1,y2⟩
    |mu v=>obtain⟨n,o,y1,y2,_⟩:=y;exact⟨n,y1,y2⟩
    |_=>cases qm
   obtain⟨n,y1,y2⟩:=hns
   obtain⟨n',o,k1,k2,k3,k4,_⟩:=S.write q qm
   rw[y2] at k1;cases k1
   rw[r'] at y2;cases y2
   obtain⟨ds,_,e2,r2⟩:=Rc.seq k2 k4
   refine⟨.lst n ds,by unfold fP;dsimp only;rw[e2];rfl,r2,λh' st=>?_,λj z=>?_⟩
   ·show aV h' n=some ds
    have:=st n o k2 (.inr ⟨k,rfl,y1⟩)
    unfold aV at e2 ⊢
    rw[k2] at e2
    rw[this];exact e2
   ·cases z;exact⟨s,q,by cases s <;> first |rfl |cases qm⟩
  unfold dX at q
  dsimp only at q
  split at q
  ·rename_i v qs
   obtain⟨_,x,e2,r2⟩:=S.sl k _ qs
   rw[r'] at e2;cases e2
   obtain⟨xs,q1,rfl⟩:=M_.mp q
   exact w9 S r2 q1
  ·rename_i xs qs;cases q;exact own qs rfl
  ·rename_i xs qs;cases q;exact own qs rfl
  ·cases q
noncomputable def Ck(d:D)(h:AH):R AIt:=match d with
 |.tup xs=>.ok (.tup xs) h
 |.ref n=>match aV h n with
  |some xs=>.ok (.lst n xs) h
  |none=>.stuck
 |_=>.stuck
def Fu(q:fP d h=some it):Ck d h=.ok it h:=by
 cases d with
 |tup xs=>cases q;rfl
 |
  ref n=>
  obtain⟨xs,y1,rfl⟩:=M_.mp (show (aV h n).map (AIt.lst n)=some it from q)
  unfold Ck;dsimp only;rw[y1]
 |_=>cases q
def GY(hF:RE F F3):RI (Bh F) (Dc F3):=λX h0 ns e ae h S=>
 Po.bind S (hF X h0 0 ns e ae h S (OH _)) λd t h1 ns1 e1 a1 S1 r1=>by
  show Po X h0 ns1 e1 ae h1 (sg X) (Ck d h1) _
  cases q:dX t e1 with
  |none=>trivial
  |
   some p=>
   dsimp only
   obtain⟨it,q1,q2⟩:=mD S1 r1 q
   exact⟨it,h1,ns1,Fu q1,.refl,S1,q2⟩
def FI(k:Nat)(r:Rds P h ds vs):Rds P h (f9 k ds) (fg k vs):=
 r.ind (M:=λds vs=>∀k,Rds P h (f9 k ds) (fg k vs)) (λ_=>.nil) (λr _ ih k=>.cons (.tup (.cons (.int _) (.cons r .nil))) (ih (k+1))) k
def Fx(r:Rds P h ds vs)(q:Rds P h es us):Rds P h (List.zipWith (λx y=>D.tup [x,y]) ds es) (List.zipWith (λx y=>Val.tup [x,y]) vs us):=
 r.ind (M:=λds vs=>∀{es:List D}{us:List Val},Rds P h es us->Rds P h (List.zipWith (λx y=>D.tup [x,y]) ds es) (List.zipWith (λx y=>Val.tup [x,y]) vs us)) (λ_=>.nil) (λr _ ih _ _ q=>by
  cases q with
  |nil=>exact .nil
  |cons q qq=>exact .cons (.tup (.cons r (.cons q .nil))) (ih qq)) q
def An(r:TsR X ns ae h ds [t]):∃d,ds=[d]/\relE X h0 0 ae ns e h d t:=by
 cases r with
 |val r rr=>cases rr;exact⟨_,rfl,r⟩
 |bor r rr=>cases rr;exact⟨_,rfl,r⟩
def tsr2(r:TsR X ns ae h ds [t,u]):∃d d',ds=[d,d']/\relE X h0 0 ae ns e h d t/\relE X h0 0 ae ns e h d' u:=by
 cases r with
 |val r rr=>obtain⟨d',rfl,r'⟩:=An (h0:=h0) (e:=e) rr;exact⟨_,_,rfl,r,r'⟩
 |bor r rr=>obtain⟨d',rfl,r'⟩:=An (h0:=h0) (e:=e) rr;exact⟨_,_,rfl,r,r'⟩
def JJ(hA:RA A A3):RI (Be A) (Dk A3):=λX h0 ns e ae h S=>
 Po.bind S (hA X h0 ns e ae h S) λds ts h1 ns1 e1 a1 S1 r1=>by
  match ts,r1 with
  | [],_=>trivial
  |_::_::_,_=>trivial
  |
   [t],r1=>
   obtain⟨d,rfl,r2⟩:=An (h0:=h0) (e:=e1) r1
   dsimp only
   cases q:dX t e1 with
   |none=>trivial
   |
    some p=>
    obtain⟨it,q1,q2,q3,q4⟩:=mD S1 r2 q
    rw[q1]
    exact⟨.enm it,h1,ns1,rfl,.refl,S1,FI 0 q2,q3,q4⟩
def Kq(hA:RA A A3):RI (AV A) (C8 A3):=λX h0 ns e ae h S=>
 Po.bind
  S (hA X h0 ns e ae h S) λds ts h1 ns1 e1 a1 S1 r1=>by
  match ts,r1 with
  | [],_=>trivial
  | [_],_=>trivial
  |_::_::_::_,_=>trivial
  |
   [t,u],r1=>
   obtain⟨d,d',rfl,r2,r3⟩:=tsr2 (h0:=h0) (e:=e1) r1
   dsimp only
   cases q:dX t e1 with
   |none=>trivial
   |
    some p=>
    obtain⟨xs,k⟩:=p
    cases q':dX u e1 with
    |none=>trivial
    |
     some p'=>
     obtain⟨ys,k'⟩:=p'
     cases k' with
     |some _=>trivial
     |
      none=>
      obtain⟨it,q1,q2,q3,q4⟩:=mD S1 r2 q
      obtain⟨it',q1',q2',q3',q4'⟩:=mD S1 r3 q'
      rw[q1,q1']
      exact⟨.zip it it',h1,ns1,rfl,.refl,S1,Fx q2 q2',λh' st=>⟨q3 h' st,q3' h' λm o hm hc=>st m o hm (hc.elim .inl λ⟨_,z,_⟩=>nomatch z)⟩,q4⟩
def DF(lo:Int)(k:Nat):Rds P h (AIt.rng lo k).items (wa lo k):=by
 show Rds P h ((List.range k).map λi=>D.int (lo+(i:Nat))) ((List.range k).map λi=>Val.int (lo+(i:Nat)))
 generalize List.range k=l
 induction l with
 |nil=>exact .nil
 |cons i l ih=>exact .cons (.int _) ih
def iU(r:ShRs P h ds [v]):∃d,ds=[d]/\ShR P h d v:=by
 cases r with |cons r rr=>cases rr;exact⟨_,rfl,r⟩
def wg(r:ShRs P h ds [v,u]):∃d d',ds=[d,d']/\ShR P h d v/\ShR P h d' u:=by
 cases r with |cons r rr=>cases rr with |cons r' rr=>cases rr;exact⟨_,_,rfl,r,r'⟩
def Ly(hf:∀P h ds vs xs,ShRs P h ds vs->f3 vs=some xs->∃lo k,f2 ds h=.ok (.rng lo k) h/\xs=wa lo k)(hA:RA A A3):RI (λae h=>(A ae h).bind f2) (Cu f3 A3):=λX h0 ns e ae h S=>
 Po.bind S (hA X h0 ns e ae h S) λds ts h1 ns1 e1 a1 S1 r1=>by
  try dsimp only
  split
  ·rename_i xs q
   obtain⟨vs,q1,q2⟩:=OG.mp q
   obtain⟨lo,k,p1,rfl⟩:=hf _ _ _ _ _ (TsR.sh S1 r1 q1) q2
   rw[p1]
   exact Po.ret S1 ⟨DF _ _,λ_ _=>trivial,λ_ z=>nomatch z⟩
  ·trivial
def Iy(hA:RA A A3):RI (BU A) (Cu fZ A3):=Ly (f2:=λds h1=>match ds with
 | [.int j]=>if -(2^62)<=j/\j<2^62 then .ok (.rng 0 j.toNat) h1 else .stuck
 |
  _=>.stuck) (λP h ds vs xs r q=>by
  unfold fZ at q
  split at q
  ·split at q
   ·rename_i hb
    cases q
    obtain⟨d,rfl,r2⟩:=iU r
    obtain rfl:=r2.int
    exact⟨_,_,by dsimp only;rw[if_pos ⟨hb.lo,hb.hi⟩],rfl⟩
   ·cases q
  ·cases q) hA
end
def SR3.loop(r:SR3)(f:E3->SR3):SR3:=match r with
 |.nx e=>f e
 |.ct e=>f e
 |.bk e=>.nx e
 |.rt d e=>.rt d e
 |.exc c e=>.exc c e
 |.stuck=>.stuck
def cq(g:MG3)(B:MS3):List Val->MS3
 | [],e=>.nx e
 |v::vs,e=>match g v e with
  |some e1=>(B e1).loop (cq g B vs)
  |none=>.stuck
def SR3.unl(k:Option Nat)(r:SR3):SR3:=match r with
 |.nx e=>.nx (eJ e k)
 |.ct e=>.ct (eJ e k)
 |.bk e=>.bk (eJ e k)
 |.rt d e=>.rt d (eJ e k)
 |.exc c e=>.exc c (eJ e k)
 |.stuck=>.stuck
def wFor(I:MI3)(g:MG3)(B:MS3):MS3:=λe=>(I e).toS λp e1=>(cq g B p.1 (lockO e1 p.2)).unl p.2
section
variable{I:MI}{I3:MI3}{g:MG}{g3:MG3}{B:MS}{B3:MS3}{c:MT}{c3:MT3}{F:ME}{F3:ME3}
def PoS.loop{X:Nat->Prop}{h0:Nat}{ns:Ns}{e:E3}{ae:AE}{h:AH}{r2:SR}{r3:SR3}{f2:AE->AH->SR}{f3:E3->SR3}(p:PoS X h0 ns e h r2 r3)
 (k:∀a_ h' ns' e',Stp ns e h ns' e' h'->Sat X h0 ns' e' a_ h'->PoS X h0 ns e h (f2 a_ h') (f3 e')):PoS X h0 ns e h (r2.loop f2) (r3.loop f3):=by
 cases r3 with
 |stuck=>trivial
 |nx e'=>obtain⟨a_,h',ns',q,q1,q2⟩:=p;rw[q];exact k a_ h' ns' e' q1 q2
 |ct e'=>obtain⟨a_,h',ns',q,q1,q2⟩:=p;rw[q];exact k a_ h' ns' e' q1 q2
 |bk e'=>obtain⟨a_,h',ns',q,q1,q2⟩:=p;rw[q];exact⟨a_,h',ns',rfl,q1,q2⟩
 |exc c e'=>obtain⟨a_,h',ns',q,q1,q2⟩:=p;rw[q];exact⟨a_,h',ns',rfl,q1,q2⟩
 |rt r e'=>obtain⟨d,a_,h',ns',q,q1,q2⟩:=p;rw[q];exact⟨d,a_,h',ns',rfl,q1,q2⟩
def Gb(S:Sat X h0 ns e ae h)(hk:∀j:Nat,k=some j->∃s,e[j]?=some s/\s.mt=true)(a:Stp ns (lockO e k) h ns' e' h'):Stay X ns k h h':=λm o q hm=>by
 refine a.keep m o q λ⟨i,s,z1,z2,z3⟩=>?_
 rcases hm with hm |⟨j,rfl,hj⟩
 ·exact hm.2 (aS.mpr ⟨i,z1⟩)
 ·have:i=j:=S.inj i j m z1 hj
  subst this
  obtain⟨s',y1,y2⟩:=hk i rfl
  have:(lockO e (some i))[i]?=some (jr s'):=nH y1
  rw[this] at z2;cases z2
  cases s' <;> first |cases y2;done |cases z3;done
def PoS.unl(hk:∀j:Nat,k=some j->∃s,e[j]?=some s/\s.mt=true)(p:PoS X h0 ns (lockO e k) h r2 r3):PoS X h0 ns e h r2 (r3.unl k):=by
 cases k with
 |none=>cases r3 <;> exact p
 |
  some j=>
  obtain⟨s,y1,y2⟩:=hk j rfl
  cases r3 with
  |stuck=>trivial
  |nx e'=>obtain⟨a_,h',ns',q,q1,q2⟩:=p;exact⟨a_,h',ns',q,q1.unlock y1 y2,q2.unlock j⟩
  |ct e'=>obtain⟨a_,h',ns',q,q1,q2⟩:=p;exact⟨a_,h',ns',q,q1.unlock y1 y2,q2.unlock j⟩
  |bk e'=>obtain⟨a_,h',ns',q,q1,q2⟩:=p;exact⟨a_,h',ns',q,q1.unlock y1 y2,q2.unlock j⟩
  |exc c e'=>obtain⟨a_,h',ns',q,q1,q2⟩:=p;exact⟨a_,h',ns',q,q1.unlock y1 y2,q2.unlock j⟩
  |
   rt r e'=>
   obtain⟨d,a_,h',ns',q,q1,q2⟩:=p
   refine⟨d,a_,h',ns',q,q1.unlock y1 y2,?_⟩
   cases r with
   |val v=>exact⟨q2.1.unlock j,q2.2⟩
   |new v=>obtain⟨n,o,z1,z2,z3,z4,z5,z6,z7⟩:=q2;exact⟨n,o,z1,z2,z3,z4,z5,z6.unlock j,z7⟩
   |
    par i=>
    obtain⟨z1,z2,v,z3⟩:=q2
    refine⟨z1.unlock j,z2,v,?_⟩
    by_cases z:i=j
    ·subst z;exact gZ z3
    ·exact (fU z).trans z3
def Sat.lockO(S:Sat X h0 ns e ae h)(k:Option Nat):Sat X h0 ns (lockO e k) ae h:=by
 cases k with
 |none=>exact S
 |some k=>exact S.lock k
def F9{X:Nat->Prop}{h0:Nat}{ns:Ns}{e:E3}{ae:AE}{h:AH}{G:AH->Prop}(S:Sat X h0 ns e ae h)(hg:RG g g3)(hB:RS B B3)(hG:∀ns' e' h',Stp ns e h ns' e' h'->G h'):
 ∀{ds:List D}{vs:List Val},Rds (Oc X ns) h ds vs->∀{ns1:Ns}{e1:E3}{ae1:AE}{h1:AH},Stp ns e h ns1 e1 h1->Sat X h0 ns1 e1 ae1 h1->PoS X h0 ns e h (fB G g B ds ae1 h1) (cq g3 B3 vs e1):=by
 intro ds
 induction ds with
 |
  nil=>
  intro vs r ns1 e1 ae1 h1 a1 S1
  cases r
  unfold fB
  rw[if_pos (hG _ _ _ a1)]
  exact .nx a1 S1
 |
  cons d0 ds ih=>
  intro vs r ns1 e1 ae1 h1 a1 S1
  cases r with
  |
   cons r rr=>
   unfold fB cq
   rw[if_pos (hG _ _ _ a1)]
   split
   ·rename_i e2 q
    obtain⟨ae2,db,p2,S2,a2⟩:=hg _ _ _ _ _ _ _ _ _ S1 (r.mono (a1.mov S)) q
    rw[p2]
    have a12:=a1.trans S a2
    show PoS X h0 ns e h ((B ae2 h1).loop _) _
    refine PoS.loop (ae:=ae) (PoS.after S a12 (hB X h0 db e2 ae2 h1 S2)) λae3 h3 ns3 e3 a3 S3=>ih rr a3 S3
   ·trivial
def Km(hI:RI I I3)(hg:RG g g3)(hB:RS B B3):RS (nQ I g B) (wFor I3 g3 B3):=λX h0 ns e ae h S=>PoS.toS (hI X h0 ns e ae h S) λit p h1 ns1 e1 a1 S1 r1=>by
 obtain⟨r2,gd,hk⟩:=r1
 refine PoS.after S a1 (PoS.unl hk ?_)
 have S2:=S1.lockO p.2
 exact F9 S2 hg hB (λns' e' h' a=>gd h' (Gb S1 hk a)) r2 .refl S2
noncomputable def whV(c:MT3)(B:MS3):Nat->MS3
 |0,_=>.stuck
 |k+1,e=>(c e).toS λb e1=>if b=true then (B e1).loop (whV c B k) else .nx e1
open Classical in
def wWh(c:MT3)(B:MS3):MS3:=λe=>if q:∃k,whV c B k e ≠ .stuck then whV c B q.choose e else .stuck
theorem lE{c:MT3}{B:MS3}:∀{k:Nat}{e:E3},whV c B k e ≠ .stuck->whV c B (k+1) e=whV c B k e
 |0,_,q=>absurd rfl q
 |
  k+1,e,q=>by
  have e1:whV c B (k+2) e=(c e).toS λb e1=>if b=true then (B e1).loop (whV c B (k+1)) else .nx e1:=rfl
  have e2:whV c B (k+1) e=(c e).toS λb e1=>if b=true then (B e1).loop (whV c B k) else .nx e1:=rfl
  rw[e2] at q
  rw[e1,e2]
  cases r:c e with
  |exc _ _=>rfl
  |stuck=>rfl
  |
   ok b h1=>
   rw[r] at q
   cases b with
   |false=>rfl
   |
    true=>
    have q':(B h1).loop (whV c B k) ≠ .stuck:=q
    show (B h1).loop (whV c B (k+1))=(B h1).loop (whV c B k)
    cases s:B h1 with
    |nx a2=>rw[s] at q';exact lE q'
    |ct a2=>rw[s] at q';exact lE q'
    |_=>rfl
def yz{c:MT3}{B:MS3}{k j:Nat}{e:E3}(q:whV c B k e ≠ .stuck)(hj:k<=j):whV c B j e=whV c B k e:=by
 induction hj with
 |refl=>rfl
 |step _ ih=>rw[lE (by rw[ih];exact q),ih]
def mZ{c:MT3}{B:MS3}{k:Nat}{e:E3}(q:whV c B k e ≠ .stuck):wWh c B e=whV c B k e:=by
 have hq:∃k,whV c B k e ≠ .stuck:=⟨k,q⟩
 unfold wWh
 rw[dif_pos hq]
 rcases Nat.le_total hq.choose k with z |z
 ·exact (yz hq.choose_spec z).symm
 ·exact yz q z
def A7(c:MT3)(B:MS3)(e:E3):wWh c B e=(c e).toS λb e1=>if b=true then (B e1).loop (wWh c B) else .nx e1:=by
 by_cases q:∃k,whV c B k e ≠ .stuck
 ·obtain⟨k,q⟩:=q
  rw[mZ q]
  cases k with
  |zero=>exact absurd rfl q
  |
   succ k=>
   have e2:whV c B (k+1) e=(c e).toS λb e1=>if b=true then (B e1).loop (whV c B k) else .nx e1:=rfl
   rw[e2] at q ⊢
   cases r:c e with
   |exc _ _=>rfl
   |stuck=>rfl
   |
    ok b h1=>
    rw[r] at q
    cases b with
    |false=>rfl
    |
     true=>
     have q':(B h1).loop (whV c B k) ≠ .stuck:=q
     show (B h1).loop (whV c B k)=(B h1).loop (wWh c B)
     cases s:B h1 with
     |nx a2=>rw[s] at q';exact (mZ q').symm
     |ct a2=>rw[s] at q';exact (mZ q').symm
     |_=>rfl
 ·have e0:wWh c B e=.stuck:=by unfold wWh;rw[dif_neg q]
  rw[e0]
  have hs:∀k,whV c B (k+1) e=.stuck:=λk=>Qo λz=>q ⟨_,z⟩
  cases r:c e with
  |stuck=>rfl
  |
   exc c' h'=>
   have:=hs 0
   unfold whV at this
   rw[r] at this
   cases this
  |
   ok b h1=>
   cases b with
   |
    false=>
    have:=hs 0
    unfold whV at this
    rw[r] at this
    cases this
   |
    true=>
    have h2:∀k,(B h1).loop (whV c B k)=.stuck:=λk=>by
     have:=hs k
     unfold whV at this
     rw[r] at this
     exact this
    show SR3.stuck=(B h1).loop (wWh c B)
    have lim:∀a2,(∀k,whV c B k a2=.stuck)->wWh c B a2=.stuck:=λa2 z=>by
     unfold wWh
     rw[dif_neg (λ⟨k,y⟩=>y (z k))]
    cases s:B h1 with
    |nx a2=>rw[s] at h2;exact (lim a2 h2).symm
    |ct a2=>rw[s] at h2;exact (lim a2 h2).symm
    |stuck=>rfl
    |_=>have:=h2 0;rw[s] at this;cases this
def HE(p:PoS X h0 ns e h r2 r3)(q:r3 ≠ .stuck):r2 ≠ .stuck:=by
 cases r3 with
 |stuck=>exact absurd rfl q
 |nx e'=>obtain⟨a_,h',ns',z,_⟩:=p;rw[z];intro y;cases y
 |ct e'=>obtain⟨a_,h',ns',z,_⟩:=p;rw[z];intro y;cases y
 |bk e'=>obtain⟨a_,h',ns',z,_⟩:=p;rw[z];intro y;cases y
 |exc c e'=>obtain⟨a_,h',ns',z,_⟩:=p;rw[z];intro y;cases y
 |rt r e'=>obtain⟨d,a_,h',ns',z,_⟩:=p;rw[z];intro y;cases y
theorem yV(hc:RT c c3)(hB:RS B B3):∀(k:Nat) (X:Nat->Prop) (h0:Nat) (ns:Ns) (e:E3) (ae:AE) (h:AH),Sat X h0 ns e ae h->PoS X h0 ns e h (whN c B k ae h) (whV c3 B3 k e)
 |0,_,_,_,_,_,_,_=>trivial
 |
  k+1,X,h0,ns,e,ae,h,S=>by
  refine PoS.toS (hc X h0 ns e ae h S) λb b' h1 ns1 e1 a1 S1 r1=>?_
  cases r1
  try dsimp only
  split
  ·exact PoS.after S a1 (PoS.loop (ae:=ae) (hB X h0 ns1 e1 ae h1 S1) λae2 h2 db e2 a2 S2=>PoS.after S1 a2 (yV hc hB k X h0 db e2 ae2 h2 S2))
  ·exact .nx a1 S1
def Mm(hc:RT c c3)(hB:RS B B3):RS (sWh c B) (wWh c3 B3):=λX h0 ns e ae h S=>by
 by_cases q:∃k,whV c3 B3 k e ≠ .stuck
 ·obtain⟨k,q⟩:=q
  rw[mZ q]
  have p:=yV hc hB k X h0 ns e ae h S
  rw[zI (HE p q)]
  exact p
 ·unfold wWh;rw[dif_neg q];trivial
end
noncomputable def fG(o:Option Nat)(s:Sl)(e:E3):E3:=match o,s with
 |some i,.mu v=>(match e[i]? with
  |some t=>e.set i (t.re v)
  |none=>e)
 |_,_=>e
def bc:List (Option Nat)->E3->E3->E3
 |o::sub,s::inner,e=>bc sub inner (fG o s e)
 |_,_,e=>e
def vo(hn:∀v,o=some i->s=.mu v->False):(fG o s e)[i]?=e[i]?:=by
 unfold fG
 split
 ·rename_i i' v
  split
  ·rename_i t q
   by_cases z:i=i'
   ·subst z;exact (hn v rfl rfl).elim
   ·rw[aU z]
  ·rfl
 ·rfl
theorem nA:∀{sub:Rh}{e2 e:E3}{i:Nat},(∀(j:Nat) v,sub[j]?=some (some i)->e2[j]?=some (.mu v)->False)->(bc sub e2 e)[i]?=e[i]?
 | [],_,_,_,_=>rfl
 |_::_,[],_,_,_=>rfl
 |
  o::sub,s::e2,e,i,hn=>by
  show (bc sub e2 (fG o s e))[i]?=_
  rw[nA (λj v q1 q2=>hn (j+1) v (by simpa using q1) (by simpa using q2))]
  exact vo λv z1 z2=>hn 0 v (by rw[z1];rfl) (by rw[z2];rfl)
theorem uA:∀{sub:Rh}{e2 e:E3}{i j:Nat}{v:Val},(∀(j k:Nat) i,sub[j]?=some (some i)->sub[k]?=some (some i)->j=k)->sub[j]?=some (some i)->e2[j]?=some (.mu v)->(bc sub e2 e)[i]?=(e[i]?).map (Sl.re · v)
 | [],_,_,_,j,_,_,q,_=>by simp at q
 |_::_,[],_,_,j,_,_,_,q=>by simp at q
 |
  o::sub,s::e2,e,i,0,v,hj,q1,q2=>by
  have z1:o=some i:=by simpa using q1
  have z2:s=.mu v:=by simpa using q2
  subst z1 z2
  show (bc sub e2 (fG (some i) (.mu v) e))[i]?=_
  rw[nA (λk u y1 _=>by have:=hj 0 (k+1) i rfl (by simpa using y1);omega)]
  unfold fG
  dsimp only
  split
  ·rename_i t q;rw[bp (k_.mp q).1,q];rfl
  ·rename_i q;rw[q];rfl
 |
  o::sub,s::e2,e,i,j+1,v,hj,q1,q2=>by
  show (bc sub e2 (fG o s e))[i]?=_
  have q1':sub[j]?=some (some i):=by simpa using q1
  rw[uA (λa b c y1 y2=>by have:=hj (a+1) (b+1) c (by simpa using y1) (by simpa using y2);omega) q1' (by simpa using q2)]
  rw[vo λv z1 _=>by have:=hj 0 (j+1) i (by rw[z1];rfl) q1;omega]
def bS(sub:Rh)(ns:Ns):Ns:=sub.map λo=>o.bind λi=>(ns[i]?).bind id
def cu{sub:Rh}{ns:Ns}{j n:Nat}(q:(bS sub ns)[j]?=some (some n)):∃i,sub[j]?=some (some i)/\ns[i]?=some (some n):=by
 unfold bS at q
 rw[z_] at q
 cases z:sub[j]? with
 |none=>rw[z] at q;cases q
 |
  some o=>
  rw[z] at q
  cases o with
  |none=>cases q
  |
   some i=>
   refine⟨i,rfl,?_⟩
   have q':(ns[i]?).bind id=some n:=C_ q
   cases y:ns[i]? with
   |none=>rw[y] at q';cases q'
   |some w=>rw[y] at q';have:w=some n:=q';rw[this]
def DY{sub:Rh}{ns:Ns}{j i:Nat}{w:Option Nat}(q:sub[j]?=some (some i))(q2:ns[i]?=some w):(bS sub ns)[j]?=some w:=by
 unfold bS
 rw[z_,q]
 show some ((ns[i]?).bind id)=some w
 rw[q2];rfl
structure Lnk(sub:Rh)(e ei:E3):Prop where
 inj:∀(j k:Nat) (i:Nat),sub[j]?=some (some i)->sub[k]?=some (some i)->j=k
 mu:∀(j:Nat) (v:Val),ei[j]?=some (.mu v)->∃(i:Nat) (s:Sl),sub[j]?=some (some i)/\e[i]?=some s/\s.mt=true
 mt:∀(j:Nat) (s:Sl),ei[j]?=some s->s.mt=true->∃v,s=.mu v
def Sat.back(S:Sat X h0 ns e ae h)(K:Lnk sub e ei)(a:Stp (bS sub ns) ei h db e2 h2)
 (hY:∀n,Y n->n<h2.length/\(X n\/h.length<=n)) (hXY:∀n,X n->Y n)
 (hc:∀(j:Nat) v n,e2[j]?=some (.mu v)->db[j]?=some (some n)->∃o,h2[n]?=some o/\bR o/\Rc (Oc Y ns) h2 o v):Sat Y h0 ns (bc sub e2 e) ae h2/\Stp ns e h ns (bc sub e2 e) h2:=by
 have hM:∀n,Mt (bS sub ns) ei n->Mt ns e n:=λn ⟨j,s,z1,z2,z3⟩=>by
  obtain⟨v,rfl⟩:=K.mt j s z2 z3
  obtain⟨i,s',y1,y2,y3⟩:=K.mu j v z2
  obtain⟨i',y4,y5⟩:=cu z1
  rw[y1] at y4;cases y4
  exact⟨i,s',y5,y2,y3⟩
 have mv:Mov (Oc X ns) (Oc Y ns) h h2:=λn o p q=>⟨⟨λz=>by
  rcases (hY n z).2 with z |z
  ·exact p.1 z
  ·have:=bg q;omega,p.2⟩,a.keep n o q λz=>by
   obtain⟨j,s,z1,_⟩:=z
   obtain⟨i,_,y⟩:=cu z1
   exact p.2 (aS.mpr ⟨i,y⟩)⟩
 have key:∀i:Nat,(∃(j:Nat) (v:Val) (s:Sl),sub[j]?=some (some i)/\e2[j]?=some (.mu v)/\e[i]?=some s/\s.mt=true/\(bc sub e2 e)[i]?=some (s.re v)/\db[j]?=ns[i]?)\/((∀n,ns[i]?=some (some n)->¬ Mt (bS sub ns) ei n)/\(bc sub e2 e)[i]?=e[i]?):=λi=>by
  by_cases hx:∃(j:Nat) (v:Val),sub[j]?=some (some i)/\e2[j]?=some (.mu v)
  ·obtain⟨j,v,q1,q2⟩:=hx
   obtain⟨u,q3,q4⟩:=a.mu j v q2
   obtain⟨i',s,y1,y2,y3⟩:=K.mu j u q3
   rw[q1] at y1;cases y1
   refine .inl ⟨j,v,s,q1,q2,y2,y3,by rw[uA K.inj q1 q2,y2];rfl,?_⟩
   rw[q4]
   have hl:i<ns.length:=by rw[S.l2];exact (k_.mp y2).1
   rw[A_ hl]
   exact DY q1 (A_ hl)
  ·refine .inr ⟨λn q ⟨j,s,z1,z2,z3⟩=>hx ?_,nA λj v y1 y2=>hx ⟨j,v,y1,y2⟩⟩
   obtain⟨v,rfl⟩:=K.mt j s z2 z3
   obtain⟨i',y4,y5⟩:=cu z1
   have:i'=i:=S.inj i' i n y5 q
   subst this
   obtain⟨v',y6,_⟩:=a.mu' j v z2
   exact⟨j,v',y4,y6⟩
 have lenB:(bc sub e2 e).length=e.length:=by
  clear key hc a K S hY hXY hM mv
  induction sub generalizing e2 e with
  |nil=>rfl
  |
   cons o sub ih=>
   cases e2 with
   |nil=>rfl
   |
    cons s e2=>
    show (bc sub e2 (fG o s e)).length=_
    rw[ih]
    unfold fG
    split
    ·split
     ·rw[B_]
     ·rfl
    ·rfl
 refine⟨⟨by rw[lenB];exact S.l1,by rw[lenB];exact S.l2,F_ S.lh a.len,λn z=>(hY n z).1,S.inj,λi n q z=>?_,λi s q=>?_⟩,⟨a.len,λm o q hm=>a.keep m o q λz=>hm (hM m z),λ_ _ q=>.inl q,λi s q hl=>?_,λi s q hl=>?_,λi v q=>?_,λi v q=>?_⟩⟩
 ·rcases (hY n z).2 with z |z
  ·exact S.nx i n q z
  ·obtain⟨_,_,_,_,_,_,_,q',_⟩:=S.own q
   have:=bg q';omega
 ·rcases key i with ⟨j,v,s0,k1,k2,k3,k4,k5,k6⟩ |⟨k1,k2⟩
  ·rw[k5] at q;cases q
   have y:=S.sl i s0 k3
   cases s0 with
   |
    ow u=>
    obtain⟨n,o,y1,y2,y3,_⟩:=y
    obtain⟨o',z1,z2,z3⟩:=hc j v n k2 (by rw[k6];exact y1)
    exact⟨n,o',y1,y2,y3,z1,z2,z3⟩
   |
    mu u=>
    obtain⟨n,o,y1,y2,_⟩:=y
    obtain⟨o',z1,z2,z3⟩:=hc j v n k2 (by rw[k6];exact y1)
    exact⟨n,o',y1,y2,z1,z2,z3⟩
   |_=>cases k4
  ·rw[k2] at q
   exact (S.sl i s q).mono mv λn o q1 q2=>a.keep n o q2 (k1 n q1)
 ·rcases key i with ⟨j,v,s0,k1,k2,k3,k4,k5,k6⟩ |⟨k1,k2⟩
  ·rw[k3] at q;cases q;cases s <;> first |cases hl;done |cases k4;done
  ·rw[k2];exact⟨q,rfl⟩
 ·rcases key i with ⟨j,v,s0,k1,k2,k3,k4,k5,k6⟩ |⟨k1,k2⟩
  ·rw[k5] at q;cases q;cases s0 <;> first |cases hl;done |cases k4;done
  ·rw[k2] at q;exact⟨q,rfl⟩
 ·rcases key i with ⟨j,u,s0,k1,k2,k3,k4,k5,k6⟩ |⟨k1,k2⟩
  ·rw[k5] at q
   cases s0 with
   |mu w=>exact⟨w,k3,rfl⟩
   |ow w=>cases q
   |_=>cases k4
  ·rw[k2] at q;exact⟨v,q,rfl⟩
 ·rcases key i with ⟨j,u,s0,k1,k2,k3,k4,k5,k6⟩ |⟨k1,k2⟩
  ·rw[k3] at q;cases q;exact⟨u,k5,rfl⟩
  ·exact⟨v,by rw[k2];exact q,rfl⟩
noncomputable def inS:Sl->Sl
 |.ow v=>.mu v
 |.lo v=>.lm v
 |s=>s
def b8(sub:Rh)(e:E3):E3:=sub.map λo=>match o with
 |none=>.no
 |some i=>match e[i]? with
  |some s=>inS s
  |none=>.no
noncomputable def lcV(g:MG3)(c:MT3)(F:ME3):List Val->List Val->E3->R3 (List Val)
 | [],acc,e=>.ok acc e
 |v::vs,acc,e=>if acc.length<16777216 then (match g v e with
  |none=>.stuck
  |some e1=>(c e1).bind λb e2=>if b=true then (F e2).bind λt e3=>(match cz e3 t with
   |some (e4,y)=>lcV g c F vs (acc++[y]) e4
   |none=>.stuck) else lcV g c F vs acc e2) else .stuck
noncomputable def vLC(I:MI3)(sub:Rh)(g:MG3)(c:MT3)(F:ME3):ME3:=λe=>(I e).bind λp e1=>match lcV g c F p.1 [] (b8 sub (lockO e1 p.2)) with
 |.ok ys e2=>if ys.length<=16777216 then .ok (.new (.lst ys)) (eJ (bc sub e2 (lockO e1 p.2)) p.2) else .stuck
 |_=>.stuck
def mM(sub:Rh):Prop:=∀(j k:Nat) (i:Nat),sub[j]?=some (some i)->sub[k]?=some (some i)->j=k
def xX(h:(sub.filterMap id).Nodup):mM sub:=by
 induction sub with
 |nil=>intro j k i q;simp at q
 |
  cons o sub ih=>
  have f_:(sub.filterMap id).Nodup:=by
   cases o with
   |none=>simpa using h
   |some i=>rw[Pu] at h;simp at h;exact h.2
  have hno:∀(i k:Nat),o=some i->sub[k]?=some (some i)->False:=λi k z q=>by
   subst z
   rw[Pu] at h
   simp at h
   exact h.1 (OO q)
  intro j k i q1 q2
  cases j with
  |
   zero=>
   cases k with
   |zero=>rfl
   |succ k=>exact (hno i k (by simpa using q1) (by simpa using q2)).elim
  |
   succ j=>
   cases k with
   |zero=>exact (hno i j (by simpa using q2) (by simpa using q1)).elim
   |succ k=>exact Pg (· + 1) (ih f_ j k i (by simpa using q1) (by simpa using q2))
def Xin(X:Nat->Prop)(ns:Ns)(sub:Rh)(n:Nat):Prop:=X n\/(some n∈ns/\some n∉bS sub ns)
def lb(q:some n∈bS sub ns):some n∈ns:=by
 obtain⟨j,q⟩:=aS.mp q
 obtain⟨i,_,q2⟩:=cu q
 exact aS.mpr ⟨i,q2⟩
def jm{sub:Rh}{e:E3}{j:Nat}{s:Sl}(q:(b8 sub e)[j]?=some s):(sub[j]?=some none/\s=.no)\/(∃i,sub[j]?=some (some i)/\((e[i]?=none/\s=.no)\/∃t,e[i]?=some t/\s=inS t)):=by
 unfold b8 at q
 rw[z_] at q
 cases z:sub[j]? with
 |none=>rw[z] at q;cases q
 |
  some o=>
  rw[z] at q
  cases o with
  |none=>cases q;exact .inl ⟨rfl,rfl⟩
  |
   some i=>
   refine .inr ⟨i,rfl,?_⟩
   have q':=C_ q
   dsimp only at q'
   cases y:e[i]? with
   |none=>rw[y] at q';exact .inl ⟨rfl,q'.symm⟩
   |some t=>rw[y] at q';exact .inr ⟨t,rfl,q'.symm⟩
def Sat.inner(S:Sat X h0 ns e ae h)(hs:mM sub):Sat (Xin X ns sub) h0 (bS sub ns) (b8 sub e) (jq sub ae) h:=by
 refine⟨by unfold jq b8;rw[j_,j_],by unfold bS b8;rw[j_,j_],S.lh,λn z=>?_,λj k n q1 q2=>?_,λj n q z=>?_,λj s q=>?_⟩
 ·rcases z with z |⟨z,_⟩
  ·exact S.xl n z
  ·obtain⟨i,z⟩:=aS.mp z
   obtain⟨_,_,_,_,_,_,_,q',_⟩:=S.own z
   exact bg q'
 ·obtain⟨i,y1,y2⟩:=cu q1
  obtain⟨i',y3,y4⟩:=cu q2
  have:=S.inj i i' n y2 y4
  subst this
  exact hs j k i y1 y3
 ·rcases z with z |⟨_,z⟩
  ·obtain⟨i,y1,y2⟩:=cu q
   exact S.nx i n y2 z
  ·exact z (aS.mpr ⟨j,q⟩)
 ·have mv:Mov (Oc X ns) (Oc (Xin X ns sub) (bS sub ns)) h h:=λn o p q=>⟨⟨λz=>by
   rcases z with z |⟨z,_⟩
   ·exact p.1 z
   ·exact p.2 z,λz=>p.2 (lb z)⟩,q⟩
  have hj:∀{o},sub[j]?=some o->(bS sub ns)[j]?=some (o.bind λi=>(ns[i]?).bind id)/\(jq sub ae)[j]?=some (o.bind λi=>(ae[i]?).bind id):=λ{o} z=>by
   unfold bS jq
   rw[z_,z_,z]
   exact⟨rfl,rfl⟩
  rcases jm q with ⟨z,rfl⟩ |⟨i,z,⟨y,rfl⟩ |⟨t,y,rfl⟩⟩
  ·rw[(hj z).1];rfl
  ·rw[(hj z).1]
   show some ((ns[i]?).bind id)=some none
   have:ns[i]?=none:=by
    rw[Pl] at y ⊢
    rw[S.l2];exact y
   rw[this];rfl
  ·have k:=(S.sl i t y).mono mv λ_ _ _ q=>q
   rw[(hj z).1,(hj z).2]
   show SlR _ h0 (some ((ns[i]?).bind id)) (some ((ae[i]?).bind id)) h (inS t)
   have w1:∀x,ns[i]?=some x->some ((ns[i]?).bind id)=some x:=λx q=>by rw[q];rfl
   have w2:∀x,ae[i]?=some x->some ((ae[i]?).bind id)=some x:=λx q=>by rw[q];rfl
   cases t with
   |no=>rw[w1 _ k];rfl
   |sh v=>obtain⟨k1,x,k2,k3⟩:=k;rw[w1 _ k1,w2 _ k2];exact⟨rfl,x,rfl,k3⟩
   |ow v=>obtain⟨m,o,k1,k2,_,k3⟩:=k;rw[w1 _ k1,w2 _ k2];exact⟨m,o,rfl,rfl,k3⟩
   |lo v=>obtain⟨m,o,k1,k2,_,k3⟩:=k;rw[w1 _ k1,w2 _ k2];exact⟨m,o,rfl,rfl,k3⟩
   |mu v=>obtain⟨m,o,k1,k2,k3⟩:=k;rw[w1 _ k1,w2 _ k2];exact⟨m,o,rfl,rfl,k3⟩
   |lm v=>obtain⟨m,o,k1,k2,k3⟩:=k;rw[w1 _ k1,w2 _ k2];exact⟨m,o,rfl,rfl,k3⟩
def u9(hs:mM sub):Lnk sub e (b8 sub e):=by
 refine⟨hs,λj v q=>?_,λj s q hm=>?_⟩
 ·rcases jm q with ⟨_,z⟩ |⟨i,z,⟨_,y⟩ |⟨t,y,y2⟩⟩
  ·cases z
  ·cases y
  ·refine⟨i,t,z,y,?_⟩
   cases t <;> first |rfl |cases y2
 ·rcases jm q with ⟨_,z⟩ |⟨i,z,⟨_,y⟩ |⟨t,y,y2⟩⟩
  ·subst z;cases hm
  ·subst y;cases hm
  ·subst y2
   cases t with
   |ow v=>exact⟨v,rfl⟩
   |mu v=>exact⟨v,rfl⟩
   |_=>cases hm
section
variable{I:MI}{I3:MI3}{g:MG}{g3:MG3}{c:MT}{c3:MT3}{F:ME}{F3:ME3}
def KI(S:Sat X h0 ns e ae h)(hg:RG g g3)(hc:RT c c3)(hF:RE F F3)(hG:∀ns' e' h',Stp ns e h ns' e' h'->G h'):
 ∀
  {ds:List D}{vs:List Val},Rds (Oc X ns) h ds vs->∀{acc:List D}{accv:List Val}{ns1:Ns}{e1:E3}{ae1:AE}{h1:AH},Stp ns e h ns1 e1 h1->Sat X h0 ns1 e1 ae1 h1->Rds (Oc X ns1) h1 acc accv->lcV g3 c3 F3 vs accv e1=.ok ys e2->
  ∃dy h2 db ae2,lcL G g c F ds acc ae1 h1=.ok dy h2/\Stp ns e h db e2 h2/\Sat X h0 db e2 ae2 h2/\Rds (Oc X db) h2 dy ys:=by
 intro ds
 induction ds with
 |
  nil=>
  intro vs r acc accv ns1 e1 ae1 h1 a1 S1 ra q
  cases r
  unfold lcL
  rw[if_pos (hG _ _ _ a1)]
  cases q
  exact⟨acc,h1,ns1,ae1,rfl,a1,S1,ra⟩
 |
  cons d0 ds ih=>
  intro vs r acc accv ns1 e1 ae1 h1 a1 S1 ra q
  cases r with
  |
   cons r rr=>
   rename_i v vs
   unfold lcV at q
   unfold lcL
   by_cases hl:accv.length<16777216
   ·rw[if_pos hl] at q
    rw[if_pos ⟨hG _ _ _ a1,by rw[ra.len];exact hl⟩]
    cases q1:g3 v e1 with
    |none=>rw[q1] at q;cases q
    |
     some e3=>
     rw[q1] at q
     dsimp only at q
     obtain⟨ae3,ns3,p3,S3,a3⟩:=hg _ _ _ _ _ _ _ _ _ S1 (r.mono (a1.mov S)) q1
     rw[p3,fu]
     have a13:=a1.trans S a3
     have pc:=hc X h0 ns3 e3 ae3 h1 S3
     cases q4:c3 e3 with
     |stuck=>rw[q4] at q;cases q
     |exc _ _=>rw[q4] at q;cases q
     |
      ok b e4=>
      rw[q4] at q pc
      obtain⟨b',h4,ns4,p4,a4,S4,rfl⟩:=pc
      rw[p4,fu]
      have a14:=a13.trans S a4
      have ra4:=(ra.mono (a3.mov S1)).mono (a4.mov S3)
      have q':(if b'=true then (F3 e4).bind λt e3=>(match cz e3 t with
       |some (e4,y)=>lcV g3 c3 F3 _ (accv++[y]) e4
       |none=>.stuck) else lcV g3 c3 F3 _ accv e4)=.ok ys e2:=q
      by_cases hb:b'=true
      ·rw[if_pos hb] at q' ⊢
       have pF:=hF X h0 0 ns4 e4 ae3 h4 S4 (OH _)
       cases q5:F3 e4 with
       |stuck=>rw[q5] at q';cases q'
       |exc _ _=>rw[q5] at q';cases q'
       |
        ok t e5=>
        rw[q5] at q' pF
        obtain⟨d5,h5,ns5,p5,a5,S5,r5⟩:=pF
        rw[p5,fu]
        have q'':(match cz e5 t with
         |some (e4,y)=>lcV g3 c3 F3 _ (accv++[y]) e4
         |none=>.stuck)=.ok ys e2:=q'
        cases q6:cz e5 t with
        |none=>rw[q6] at q'';cases q''
        |
         some w=>
         obtain⟨e6,y⟩:=w
         rw[q6] at q''
         obtain⟨ns6,S6,a6,r6⟩:=fI S5 r5 q6
         exact ih rr ((a14.trans S a5).trans S a6) S6 (((ra4.mono (a5.mov S4)).mono (a6.mov S5)).append (.cons r6 .nil)) q''
      ·rw[if_neg hb] at q' ⊢
       exact ih rr a14 S4 ra4 q'
   ·rw[if_neg hl] at q;cases q
def MF(hs:(sub.filterMap id).Nodup)(hI:RI I I3)(hg:RG g g3)(hc:RT c c3)(hF:RE F F3):RE (eLC I sub g c F) (vLC I3 sub g3 c3 F3):=λX h0 L ns e ae h S hl=>
 Po.bind
  S (hI X h0 ns e ae h S) λit p h1 ns1 e1 a1 S1 r1=>by
  try dsimp only
  obtain⟨r2,gd,hk⟩:=r1
  have hs':=xX hs
  have S2:=S1.lockO p.2
  have S3:=S2.inner hs'
  cases q:lcV g3 c3 F3 p.1 [] (b8 sub (lockO e1 p.2)) with
  |stuck=>trivial
  |exc _ _=>trivial
  |
   ok ys e2=>
   dsimp only
   split
   ·rename_i hy
    have gd':∀ns' e' h',Stp (bS sub ns1) (b8 sub (lockO e1 p.2)) h1 ns' e' h'->it.guard h':=λns' e' h' a=>gd h' λm o qm hm=>a.keep m o qm λ⟨j,s,z1,z2,z3⟩=>by
     obtain⟨i,y1,y2⟩:=cu z1
     rcases hm with hm |⟨k,hk1,hk2⟩
     ·exact hm.2 (aS.mpr ⟨i,y2⟩)
     ·have:i=k:=S1.inj i k m y2 hk2
      subst this
      obtain⟨s',w1,w2⟩:=hk i hk1
      rcases jm z2 with ⟨z,_⟩ |⟨i',z,y⟩
      ·rw[y1] at z;cases z
      ·rw[y1] at z;cases z
       have hl:(lockO e1 p.2)[i]?=some (jr s'):=by rw[hk1];exact nH w1
       rcases y with ⟨y,_⟩ |⟨t,y,rfl⟩
       ·rw[hl] at y;cases y
       ·rw[hl] at y;cases y
        cases s' <;> first |cases w2;done |cases z3;done
    have mvi:Mov (Oc X ns1) (Oc (Xin X ns1 sub) (bS sub ns1)) h1 h1:=λn o p q=>⟨⟨λz=>by
     rcases z with z |⟨z,_⟩
     ·exact p.1 z
     ·exact p.2 z,λz=>p.2 (lb z)⟩,q⟩
    obtain⟨dy,h2,db,ae2,p2,a2,S4,r4⟩:=KI (G:=it.guard) S3 hg hc hF gd' (r2.mono mvi) .refl S3 .nil q
    have k3:∀n,Oc (Xin X ns1 sub) db n->Oc X ns1 n:=λn z=>⟨λy=>z.1 (.inl y),λy=>by
     by_cases w:some n∈bS sub ns1
     ·obtain⟨j,w⟩:=aS.mp w
      obtain⟨s,v,o,b1,b2,_⟩:=S3.own w
      rcases b2 with b2 |b2
      ·obtain⟨v',rfl⟩:=(u9 (e:=lockO e1 p.2) hs').mt j s b1 b2
       obtain⟨u,c1,c2⟩:=a2.mu' j v' b1
       exact z.2 (aS.mpr ⟨j,by rw[c2];exact w⟩)
      ·obtain⟨c1,c2⟩:=a2.lk j s b1 b2
       exact z.2 (aS.mpr ⟨j,by rw[c2];exact w⟩)
     ·exact z.1 (.inr ⟨y,w⟩)⟩
    have bk:=S2.back (Y:=X) (u9 hs') a2 (λn z=>⟨Em (S2.xl n z) a2.len,.inl z⟩) (λ_ z=>z) λj v n q1 q2=>by
     obtain⟨s,u,o,b1,b2,b3,b4,b5,b6,b7⟩:=S4.own q2
     rw[q1] at b1;cases b1
     cases b3
     exact⟨o,b5,b6,b7.mono λm o' z y=>⟨k3 m z,y⟩⟩
    obtain⟨S5,a5⟩:=bk
    have r5:Rds (Oc X ns1) h2 dy ys:=r4.mono λm o' z y=>⟨k3 m z,y⟩
    have gl:∀(e':E3),Sat X h0 ns1 e' ae h2->Stp ns1 e1 h1 ns1 e' h2->Po X h0 ns1 e1 ae h1 (relE X h0 L ae) ((noX (lcL it.guard g c F it.items [] (jq sub ae) h1)).bind bI) (.ok (.new (.lst ys)) e'):=λe' S6 a6=>by
     rw[p2]
     have pp:=BvR.po (L:=L) (r:=bI dy h2) (b:=.new (.lst ys)) S6 (F_ hl (F_ a1.len a6.len)) ⟨.lst dy,by unfold bI;rw[if_pos (by rw[r5.len];exact hy)],trivial,.lst r5⟩
     obtain⟨d,h',ns',y,y1,y2,y3⟩:=pp
     exact⟨d,h',ns',y,a6.trans S1 y1,y2,y3⟩
    cases hp:p.2 with
    |
     none=>
     rw[hp] at S5 a5
     exact gl _ S5 a5
    |
     some k=>
     rw[hp] at S5 a5
     obtain⟨s,w1,w2⟩:=hk k hp
     exact gl _ (S5.unlock k) (a5.unlock w1 w2)
   ·trivial
end
inductive R3F where
 |ok (r:Rt) (mv:List Val) |exc (c:Str) (mv:List Val) |stuck
abbrev Fn3:=List Val->R3F
def sl1(b:Bool)(v:Val):Sl:=if b=true then .mu v else .sh v
def sls(ms:List Bool)(vs:List Val):E3:=List.zipWith sl1 ms vs
noncomputable def aH:List Bool->List Val->E3
 |true::ms,v::vs=>.mu v::aH ms vs
 |true::ms,[]=>.no::aH ms []
 |false::ms,vs=>.no::aH ms vs
 | [],_=>[]
noncomputable def muV:List Bool->E3->Option (List Val)
 |true::ms,.mu v::e=>(muV ms e).map (v :: ·)
 |true::_,_=>none
 |false::ms,_::e=>muV ms e
 |false::_,[]=>none
 | [],_=>some []
def RFp(X:Nat->Prop)(ps:Ns)(ms:List Bool)(vs:List Val)(ds:List D)(h:AH)(r2:R D):R3F->Prop
 |.stuck=>True
 |.ok r mv=>∃d h',r2=.ok d h'/\Stp ps (sls ms vs) h ps (aH ms mv) h'/\RtR X h.length ps (aH ms mv) (ds.map some) h' d r
 |.exc c mv=>∃h',r2=.exc c h'/\Stp ps (sls ms vs) h ps (aH ms mv) h'/\Sat X h.length ps (aH ms mv) (ds.map some) h'
def RF(ms:List Bool)(G2:Fn)(G3:Fn3):Prop:=∀X ps ds vs h,vs.length=ms.length->Sat X h.length ps (sls ms vs) (ds.map some) h->RFp X ps ms vs ds h (G2 ds h) (G3 vs)
noncomputable def fnV(ms:List Bool)(N:Nat)(F:MS3):Fn3:=λvs=>if vs.length=ms.length then (match F (sls ms vs++List.replicate (N-vs.length) .no) with
 |.nx e=>(match muV ms e with |some mv=>.ok (.val .non) mv |none=>.stuck)
 |.rt r e=>(match muV ms e with |some mv=>.ok r mv |none=>.stuck)
 |.exc c e=>(match muV ms e with |some mv=>.exc c mv |none=>.stuck)
 |_=>.stuck) else .stuck
def eL{ms:List Bool}{vs:List Val}{i:Nat}{s:Sl}(q:(sls ms vs)[i]?=some s):∃b v,ms[i]?=some b/\vs[i]?=some v/\s=sl1 b v:=by
 unfold sls at q
 rw[PK] at q
 cases h1:ms[i]? with
 |none=>rw[h1] at q;cases q
 |
  some b=>
  cases h2:vs[i]? with
  |none=>rw[h1,h2] at q;cases q
  |some v=>rw[h1,h2] at q;cases q;exact⟨b,v,rfl,rfl,rfl⟩
theorem gC:∀{ms:List Bool}{e:E3}{mv:List Val}{i:Nat}{s:Sl},muV ms e=some mv->(aH ms mv)[i]?=some s->(ms[i]?=some false/\s=.no)\/(ms[i]?=some true/\∃v,e[i]?=some (.mu v)/\s=.mu v)
 | [],_,_,_,_,_,q=>by unfold aH at q;simp at q
 |
  true::ms,.mu v::e,mv,i,s,q,q2=>by
  obtain⟨mv',z1,z2⟩:=M_.mp (show (muV ms e).map (v :: ·)=some mv from q)
  subst z2
  cases i with
  |zero=>
   right;have:Sl.mu v=s:=by simpa [aH] using q2
   subst this;exact⟨rfl,v,rfl,rfl⟩
  |
   succ i=>
   have:=gC (i:=i) (s:=s) z1 (by simpa [aH] using q2)
   simpa using this
 |true::ms,[],mv,i,s,q,q2=>by cases q
 |true::ms,.no::e,mv,i,s,q,q2=>by cases q
 |true::ms,.sh v::e,mv,i,s,q,q2=>by cases q
 |true::ms,.ow v::e,mv,i,s,q,q2=>by cases q
 |true::ms,.lo v::e,mv,i,s,q,q2=>by cases q
 |true::ms,.lm v::e,mv,i,s,q,q2=>by cases q
 |false::ms,[],mv,i,s,q,q2=>by cases q
 |
  false::ms,t::e,mv,i,s,q,q2=>by
  cases i with
  |zero=>
   left;have:Sl.no=s:=by simpa [aH] using q2
   exact⟨rfl,this.symm⟩
  |
   succ i=>
   have:=gC (i:=i) (s:=s) (show muV ms e=some mv from q) (by simpa [aH] using q2)
   simpa using this
theorem nG:∀{ms:List Bool}{e:E3}{mv:List Val}{i:Nat},muV ms e=some mv->ms[i]?=some true->∃v,e[i]?=some (.mu v)/\(aH ms mv)[i]?=some (.mu v)
 | [],_,_,i,_,q=>by simp at q
 |
  true::ms,.mu v::e,mv,i,q,q2=>by
  obtain⟨mv',z1,z2⟩:=M_.mp (show (muV ms e).map (v :: ·)=some mv from q)
  subst z2
  cases i with
  |zero=>exact⟨v,rfl,rfl⟩
  |
   succ i=>
   obtain⟨u,y1,y2⟩:=nG (i:=i) z1 (by simpa using q2)
   exact⟨u,by simpa using y1,by simpa [aH] using y2⟩
 |true::ms,[],mv,i,q,q2=>by cases q
 |true::ms,.no::e,mv,i,q,q2=>by cases q
 |true::ms,.sh v::e,mv,i,q,q2=>by cases q
 |true::ms,.ow v::e,mv,i,q,q2=>by cases q
 |true::ms,.lo v::e,mv,i,q,q2=>by cases q
 |true::ms,.lm v::e,mv,i,q,q2=>by cases q
 |false::ms,[],mv,i,q,q2=>by cases q
 |
  false::ms,t::e,mv,i,q,q2=>by
  cases i with
  |zero=>simp at q2
  |
   succ i=>
   obtain⟨u,y1,y2⟩:=nG (i:=i) (show muV ms e=some mv from q) (by simpa using q2)
   exact⟨u,by simpa using y1,by simpa [aH] using y2⟩
theorem gE:∀{ms:List Bool}{mv:List Val},(aH ms mv).length=ms.length
 | [],_=>rfl
 |true::ms,v::mv=>by show (aH ms mv).length+1=ms.length+1;rw[gE]
 |true::ms,[]=>by show (aH ms []).length+1=ms.length+1;rw[gE]
 |false::ms,mv=>by show (aH ms mv).length+1=ms.length+1;rw[gE]
def CK(hF:RS F F3):RF ms (fnD N F) (fnV ms N F3):=λX ps ds vs h hl S=>by
 unfold fnV
 rw[if_pos hl]
 have lS:(sls ms vs).length=vs.length:=by unfold sls;rw[P0];omega
 have lD:ds.length=vs.length:=by have:=S.l1;rw[j_,lS] at this;exact this
 have lP:ps.length=vs.length:=S.l2.trans lS
 have ltS:∀{i:Nat},i<ms.length->i<(sls ms vs).length:=λh=>by omega
 have ltP:∀{i:Nat},i<(sls ms vs).length->i<ps.length:=λh=>S.l2.symm ▸ h
 have S1
  : Sat X h.length (ps++List.replicate (N-vs.length) none) (sls ms vs++List.replicate (N-vs.length) .no) (ds.map some++List.replicate (N-vs.length) none) h:=by
  have mns:∀n,some n∈ps++List.replicate (N-vs.length) (none:Option Nat) ↔ some n∈ps:=λn=>by
   rw[OU]
   constructor
   ·rintro (z |z)
    ·exact z
    ·have:=List.eq_of_mem_replicate z;cases this
   ·exact .inl
  have gns:∀{i n:Nat},(ps++List.replicate (N-vs.length) (none:Option Nat))[i]?=some (some n)->ps[i]?=some (some n):=λ{i n} q=>by
   rw[QM] at q
   split at q
   ·exact q
   ·rw[OY] at q;split at q <;> cases q
  refine⟨?_,?_,S.lh,S.xl,λi j n q1 q2=>S.inj i j n (gns q1) (gns q2),λi n q=>S.nx i n (gns q),λi s q=>?_⟩
  ·rw[p_,p_,O7,O7,S.l1]
  ·rw[p_,p_,O7,O7,S.l2]
  ·rw[QM] at q
   split at q
   ·rename_i hi
    have k:=S.sl i s q
    rw[J_ (ltP hi),J_ (by rw[S.l1];exact hi)]
    exact k.mono (λn o p q=>⟨⟨p.1,λz=>p.2 ((mns n).mp z)⟩,q⟩) λ_ _ _ q=>q
   ·rename_i hi
    rw[OY] at q
    split at q
    ·cases q
     rw[I_ (by rw[S.l2];exact Nat.le_of_not_lt hi),OY,if_pos (by rw[S.l2];assumption)]
     rfl
    ·cases q
 have p:=hF _ _ _ _ _ _ S1
 have e2:fnD N F ds h=match F (ds.map some++List.replicate (N-vs.length) none) h with
  |.nx _ h'=>.ok .non h'
  |.rt d h'=>.ok d h'
  |.exc c _ h'=>.exc c h'
  |_=>.stuck:=by rw[<- lD];rfl
 rw[e2]
 have gl:∀(Y:Nat->Prop) (ns':Ns) (e':E3) (a_:AE) (h':AH) (mv:List Val),(∀n,X n->Y n)->Stp (ps++List.replicate (N-vs.length) none) (sls ms vs++List.replicate (N-vs.length) .no) h ns' e' h'->Sat Y h.length ns' e' a_ h'->muV ms e'=some mv->
  Stp ps (sls ms vs) h ps (aH ms mv) h'/\Sat Y h.length ps (aH ms mv) (ds.map some) h'/\∀n,Oc Y ns' n->Oc Y ps n:=by
  intro Y ns' e' a_ h' mv hXY a S2 qm
  have kmu:∀{i:Nat},ms[i]?=some true->∃v u n o,e'[i]?=some (.mu v)/\(aH ms mv)[i]?=some (.mu v)/\(sls ms vs)[i]?=some (.mu u)/\ns'[i]?=ps[i]?/\ps[i]?=some (some n)/\(ds.map some)[i]?=some (some (.ref n))/\h'[n]?=some o/\bR o/\Rc (Oc Y ns') h' o v:=by
   intro i hi
   obtain⟨v,y1,y2⟩:=nG qm hi
   have hil:i<ms.length:=(k_.mp hi).1
   obtain⟨u,y3,y4⟩:=a.mu i v y1
   rw[J_ (ltS hil)] at y3
   rw[J_ (ltP (ltS hil))] at y4
   obtain⟨n,o,z1,z2,_⟩:=S.sl i _ y3
   obtain⟨n',o',w1,w2,w3,w4,w5⟩:=S2.sl i _ y1
   rw[y4,z1] at w1;cases w1
   exact⟨v,u,n,o',y1,y2,y3,y4,z1,z2,w3,w4,w5⟩
  have kown:∀{i n:Nat},ps[i]?=some (some n)->ms[i]?=some true:=λ{i n} q=>by
   obtain⟨s,v,o,z1,z2,_⟩:=S.own q
   obtain⟨b,u,y1,_,y2⟩:=eL z1
   cases b with
   |true=>exact y1
   |false=>subst y2;rcases z2 with z2 |z2 <;> cases z2
  have koc:∀n,Oc Y ns' n->Oc Y ps n:=λn z=>⟨z.1,λy=>by
   obtain⟨i,y⟩:=aS.mp y
   obtain⟨v,u,n',o,_,_,_,k1,k2,_⟩:=kmu (kown y)
   exact z.2 (aS.mpr ⟨i,by rw[k1];exact y⟩)⟩
  refine⟨⟨a.len,λm o q hm=>a.keep m o q λ⟨i,s,z1,z2,z3⟩=>hm ?_,λ_ _ q=>.inl q,λi s q hl'=>?_,λi s q hl'=>?_,λi v q=>?_,λi v q=>?_⟩,⟨?_,?_,F_ (m_ _) a.len,S2.xl,S.inj,λi n q z=>?_,λi s q=>?_⟩,koc⟩
  ·rw[QM] at z1
   split at z1
   ·rename_i hi
    rw[J_ (by rw[<- S.l2];exact hi)] at z2
    exact⟨i,s,z1,z2,z3⟩
   ·rw[OY] at z1;split at z1 <;> cases z1
  ·obtain⟨b,u,_,_,y⟩:=eL q
   subst y
   cases b <;> cases hl'
  ·rcases gC qm q with ⟨_,z⟩ |⟨_,v,_,z⟩ <;> subst z <;> cases hl'
  ·rcases gC qm q with ⟨_,z⟩ |⟨z,_⟩
   ·cases z
   ·obtain⟨v',u,n,o,_,_,k1,_⟩:=kmu z
    exact⟨u,k1,rfl⟩
  ·obtain⟨b,u,y1,_,y2⟩:=eL q
   cases b with
   |false=>cases y2
   |
    true=>
    obtain⟨v',u,n,o,_,k0,k1,_⟩:=kmu y1
    exact⟨v',k0,rfl⟩
  ·rw[j_,gE];omega
  ·rw[gE];omega
  ·obtain⟨v,u,n',o,_,_,_,k1,k2,_⟩:=kmu (kown q)
   exact S2.nx i n (by rw[k1];exact q) z
  ·rcases gC qm q with ⟨z,rfl⟩ |⟨z,v,z2,rfl⟩
   ·have hil:i<ms.length:=(k_.mp z).1
    have hi:i<(sls ms vs).length:=ltS hil
    obtain⟨b,u,y1,_,y2⟩:=eL (A_ hi)
    rw[z] at y1;cases y1
    have k:=S.sl i _ (A_ hi)
    rw[y2] at k
    exact k.1
   ·obtain⟨v',u,n,o,k0,_,_,k1,k2,k3,k4,k5,k6⟩:=kmu z
    rw[z2] at k0;cases k0
    exact⟨n,o,k2,k3,k4,k5,k6.mono λm o' y q=>⟨koc m y,q⟩⟩
 generalize F3 (sls ms vs++List.replicate (N-vs.length) .no)=r3 at *
 cases r3 with
 |stuck=>trivial
 |bk _=>trivial
 |ct _=>trivial
 |
  nx e'=>
  obtain⟨a_,h',ns',q,a,S2⟩:=p
  rw[q]
  dsimp only
  cases qm:muV ms e' with
  |none=>trivial
  |
   some mv=>
   obtain⟨a3,S3,koc⟩:=gl X ns' e' a_ h' mv (λ_ z=>z) a S2 qm
   exact⟨.non,h',rfl,a3,S3,.non⟩
 |
  exc c e'=>
  obtain⟨a_,h',ns',q,a,S2⟩:=p
  rw[q]
  dsimp only
  cases qm:muV ms e' with
  |none=>trivial
  |
   some mv=>
   obtain⟨a3,S3,koc⟩:=gl X ns' e' a_ h' mv (λ_ z=>z) a S2 qm
   exact⟨h',rfl,a3,S3⟩
 |
  rt r e'=>
  obtain⟨d,a_,h',ns',q,a,rr⟩:=p
  rw[q]
  dsimp only
  cases qm:muV ms e' with
  |none=>trivial
  |
   some mv=>
   cases r with
   |
    val v=>
    obtain⟨a3,S3,koc⟩:=gl X ns' e' a_ h' mv (λ_ z=>z) a rr.1 qm
    exact⟨d,h',rfl,a3,S3,rr.2.mono λm o y q=>⟨koc m y,q⟩⟩
   |
    new v=>
    obtain⟨n,o,z1,z2,z3,z4,z5,z6,z7⟩:=rr
    obtain⟨a3,S3,koc⟩:=gl (Xn X n) ns' e' a_ h' mv (λ_ z=>.inl z) a z6 qm
    exact⟨d,h',rfl,a3,n,o,z1,z2,z3,z4,z5,S3,z7.mono λm o y q=>⟨koc m y,q⟩⟩
   |
    par i=>
    obtain⟨R1,R2,v,R3⟩:=rr
    obtain⟨a3,S3,koc⟩:=gl X ns' e' a_ h' mv (λ_ z=>z) a R1 qm
    obtain⟨u,k1,k2⟩:=a.mu i v R3
    have hi:i<(sls ms vs).length:=by
     apply Decidable.byContradiction
     intro hi
     rw[I_ (Nat.le_of_not_lt hi),OY] at k1
     split at k1 <;> cases k1
    rw[J_ hi] at k1
    rw[J_ (by rw[S.l2];exact hi)] at k2
    obtain⟨m,o,w1,w2,_⟩:=S.sl i _ k1
    obtain⟨m',o',x1,x2,_⟩:=R1.sl i _ R3
    rw[k2,w1] at x1;cases x1
    rw[R2] at x2;cases x2
    obtain⟨v',y,_⟩:=a3.mu' i u k1
    exact⟨_,h',rfl,a3,S3,w2,v',y⟩
def iA(i:Nat):List Tm->Bool
 |.bor j::ts=>(i==j) || iA i ts
 |_::ts=>iA i ts
 | []=>false
noncomputable def nY(i:Nat):List Bool->List Tm->Bool
 |true::ms,.bor j::ts=>(i==j) || nY i ms ts
 |_::ms,_::ts=>nY i ms ts
 |_,_=>false
noncomputable def okA(e:E3):List Bool->List Tm->Bool
 |true::ms,.bor i::ts=>((e[i]?).bind Sl.mv).isSome && !(iA i ts)&&okA e ms ts
 |true::_,_::_=>false
 |false::ms,.bor i::ts=>!(nY i ms ts)&&okA e ms ts
 |false::ms,_::ts=>okA e ms ts
 | [],[]=>true
 |_,_=>false
noncomputable def nX(b:Bool)(t:Tm):Option Nat:=match b,t with
 |true,.bor i=>some i
 |_,_=>none
def bT(ms:List Bool)(ts:List Tm):List (Option Nat):=List.zipWith nX ms ts
noncomputable def aX(e:E3):List Bool->List Tm->List Nat
 |false::ms,.bor i::ts=>(match e[i]? with
  |some (.sh _)=>aX e ms ts
  |_=>i::aX e ms ts)
 |_::ms,_::ts=>aX e ms ts
 |_,_=>[]
mutual
def aK:Val->Bool
 |.tup xs=>bO xs
 |.lst _=>false
 |.kl _=>false
 |.dct _=>false
 |.set _=>false
 |_=>true
def bO:List Val->Bool
 | []=>true
 |v::vs=>aK v&&bO vs
end
def m8:List (Key×Val)->Bool
 | []=>true
 |(_,v)::vs=>aK v&&m8 vs
def cT:Val->Bool
 |.lst xs=>bO xs
 |.dct xs=>m8 xs
 |.set _=>true
 |_=>false
def j8:Rt->Bool
 |.val v=>aK v
 |.new v=>cT v
 |.par _=>true
def nJ(e:E3):List Nat->Option E3
 | []=>some e
 |i::is=>match cz e (.bor i) with
  |some (e1,_)=>nJ e1 is
  |none=>none
def Rt.tm(ts:List Tm):Rt->Tm
 |.val v=>.val v
 |.new v=>.new v
 |.par i=>(ts[i]?).getD (.val .non)
noncomputable def Df(ms:List Bool)(G:Fn3)(A:MA3):ME3:=λe=>(A e).bind λts e1=>match rss e1 ts with
 |none=>.stuck
 |some vs=>if okA e1 ms ts=true then (match G vs with
  |.stuck=>.stuck
  |.ok r mv=>if (aX e1 ms ts).isEmpty || (j8 r&&mv.all cT) then .ok (r.tm ts) (bc (bT ms ts) (aH ms mv) e1) else (match nJ e1 (aX e1 ms ts) with
   |some e2=>.ok (r.tm ts) (bc (bT ms ts) (aH ms mv) e2)
   |none=>.stuck)
  |.exc c mv=>if (aX e1 ms ts).isEmpty || mv.all cT then .exc c (bc (bT ms ts) (aH ms mv) e1) else .stuck) else .stuck
section
variable{P P':Nat->Prop}{h h':AH}
def Rd.flat(f:aK v=true)(r:Rd P h d v):Rd P' h' d v:=
 @Rd.rec P h (λd v _=>aK v=true->Rd P' h' d v) (λo v _=>aK v=true->Rd P' h' .non v) (λds vs _=>bO vs=true->Rds P' h' ds vs) (λws us _=>True) (λ_=>.non) (λb _=>.bl b) (λi _=>.int i) (λx _=>.str x) (λn _=>.ty n) (λx _=>.glb x) (λx _=>.exc x) (λ_ ih f=>.tup (ih f)) (λ_ _ f=>absurd f s_) (λ_ _ r _ f=>by cases r <;> exact absurd f s_) (λ_ _ f=>absurd f s_) (λ_ _ f=>absurd f s_) (λ_ _ f=>absurd f s_) (λ_ f=>absurd f s_) (λ_=>.nil) (λ_ _ a b f=>.cons (a (r_ .. ▸ f).1) (b (r_ .. ▸ f).2)) trivial (λ_ _ _ _=>trivial) d v r f
def Rds.flat(f:bO v=true)(r:Rds P h d v):Rds P' h' d v:=
 r.ind (M:=λds vs=>bO vs=true->Rds P' h' ds vs) (λ_=>.nil) (λr _ ih f=>by
  rw[bO,r_] at f
  exact .cons (Rd.flat f.1 r) (ih f.2)) f
def Rk.flat(f:m8 v=true)(r:Rk P h d v):Rk P' h' d v:=
 r.ind (M:=λds vs=>m8 vs=true->Rk P' h' ds vs) (λ_=>.nil) (λr _ ih f=>by
  rw[m8,r_] at f
  exact .cons (Rd.flat f.1 r) (ih f.2)) f
def Rc.flat(f:cT v=true)(r:Rc P h o v):Rc P' h' o v:=by
 cases r with
 |lst r=>exact .lst (Rds.flat (by simpa [cT] using f) r)
 |fz r=>simp [cT] at f
 |dct r=>exact .dct (Rk.flat (by simpa [cT] using f) r)
 |set xs=>exact .set xs
end
theorem nu:∀{ts:List Tm}{k:Nat},ts[k]?=some (.bor i)->iA i ts=true
 | [],_,q=>by simp at q
 |
  t::ts,0,q=>by
  have:t=.bor i:=by simpa using q
  subst this;simp [iA]
 |
  t::ts,k+1,q=>by
  have:=nu (ts:=ts) (k:=k) (by simpa using q)
  cases t <;> simp [iA,this]
theorem uG:∀{ms:List Bool}{ts:List Tm}{k:Nat},ms[k]?=some true->ts[k]?=some (.bor i)->nY i ms ts=true
 | [],_,_,q,_=>by simp at q
 |_::_,[],_,_,q=>by simp at q
 |
  b::ms,t::ts,0,q1,q=>by
  have:t=.bor i:=by simpa using q
  have:b=true:=by simpa using q1
  subst_vars;simp [nY]
 |
  b::ms,t::ts,k+1,q1,q=>by
  have:=uG (ms:=ms) (ts:=ts) (k:=k) (by simpa using q1) (by simpa using q)
  cases b <;> cases t <;> simp [nY,this]
theorem ki:∀{ms:List Bool}{ts:List Tm}{k:Nat},okA e ms ts=true->ms[k]?=some true->∃i,ts[k]?=some (.bor i)/\∃u,(e[i]?).bind Sl.mv=some u
 | [],_,_,_,q=>by simp at q
 |b::ms,[],_,o,_=>by cases b <;> simp [okA] at o
 |
  b::ms,t::ts,0,o,q=>by
  have:b=true:=by simpa using q
  subst this
  cases t with
  |
   bor i=>
   simp only[okA,r_] at o
   exact⟨i,rfl,OV.mp o.1.1⟩
  |_=>simp [okA] at o
 |
  b::ms,t::ts,k+1,o,q=>by
  have o':okA e ms ts=true:=by
   cases b <;> cases t <;> simp only[okA,r_] at o <;> first |exact o.2 |exact o |(simp at o;done)
  obtain⟨i,y⟩:=ki (k:=k) o' (by simpa using q)
  exact⟨i,by simpa using y⟩
theorem iK:∀{ms:List Bool}{ts:List Tm}{k j i:Nat},okA e ms ts=true->ms[k]?=some true->ts[k]?=some (.bor i)->ts[j]?=some (.bor i)->j=k
 | [],_,_,_,_,_,q,_,_=>by simp at q
 |b::ms,[],_,_,_,o,_,_,_=>by cases b <;> simp [okA] at o
 |b::ms,t::ts,0,0,i,o,q1,q2,q3=>rfl
 |
  b::ms,t::ts,0,j+1,i,o,q1,q2,q3=>by
  have h1:b=true:=by simpa using q1
  have h2:t=.bor i:=by simpa using q2
  subst h1 h2
  simp only[okA,r_] at o
  have:=nu (i:=i) (ts:=ts) (k:=j) (by simpa using q3)
  rw[this] at o
  simp at o
 |
  b::ms,t::ts,k+1,0,i,o,q1,q2,q3=>by
  have h2:t=.bor i:=by simpa using q3
  subst h2
  have hm:=uG (i:=i) (ms:=ms) (ts:=ts) (k:=k) (by simpa using q1) (by simpa using q2)
  have hb:=nu (i:=i) (ts:=ts) (k:=k) (by simpa using q2)
  cases b <;> simp [okA,hm,hb] at o
 |
  b::ms,t::ts,k+1,j+1,i,o,q1,q2,q3=>by
  have o':okA e ms ts=true:=by
   cases b <;> cases t <;> simp only[okA,r_] at o <;> first |exact o.2 |exact o |(simp at o;done)
  exact Pg (· + 1) (iK (k:=k) (j:=j) (i:=i) o' (by simpa using q1) (by simpa using q2) (by simpa using q3))
theorem iN:∀{ms:List Bool}{ts:List Tm},okA e ms ts=true->ms.length=ts.length
 | [],[],_=>rfl
 | [],_::_,o=>by simp [okA] at o
 |b::ms,[],o=>by cases b <;> simp [okA] at o
 |
  b::ms,t::ts,o=>by
  have o':okA e ms ts=true:=by
   cases b <;> cases t <;> simp only[okA,r_] at o <;> first |exact o.2 |exact o |(simp at o;done)
  exact Pg (· + 1) (iN o')
theorem kY:∀{ms:List Bool}{ts:List Tm}{k i:Nat},ms[k]?=some false->ts[k]?=some (.bor i)->(∀v,e[i]?≠some (.sh v))->i∈aX e ms ts
 | [],_,_,_,q,_,_=>by simp at q
 |_::_,[],_,_,_,q,_=>by simp at q
 |
  b::ms,t::ts,0,i,q1,q2,hn=>by
  have h1:b=false:=by simpa using q1
  have h2:t=.bor i:=by simpa using q2
  subst h1 h2
  unfold aX
  split
  ·rename_i v q;exact absurd q (hn v)
  ·exact n_ ..
 |
  b::ms,t::ts,k+1,i,q1,q2,hn=>by
  have ih:=kY (ms:=ms) (ts:=ts) (k:=k) (by simpa using q1) (by simpa using q2) hn
  cases b <;> cases t <;> simp only[aX] <;> first |exact ih |(split;exact ih;exact l_ _ ih)
def eE{ms:List Bool}{ts:List Tm}{k i:Nat}(q:(bT ms ts)[k]?=some (some i)):ms[k]?=some true/\ts[k]?=some (.bor i):=by
 unfold bT at q
 rw[PK] at q
 cases h1:ms[k]? with
 |none=>rw[h1] at q;cases q
 |
  some b=>
  cases h2:ts[k]? with
  |none=>rw[h1,h2] at q;cases q
  |
   some t=>
   rw[h1,h2] at q
   have q':nX b t=some i:=C_ q
   cases b <;> cases t <;> first |(cases q';done) |(cases q';exact⟨rfl,rfl⟩)
def Ge{ms:List Bool}{ts:List Tm}{k i:Nat}(q1:ms[k]?=some true)(q2:ts[k]?=some (.bor i)):(bT ms ts)[k]?=some (some i):=by
 unfold bT
 rw[PK,q1,q2];rfl
theorem uW:∀{ts:List Tm}{vs:List Val}{k:Nat}{v:Val},rss e ts=some vs->vs[k]?=some v->∃t,ts[k]?=some t/\rs e t=some v
 | [],_,_,_,q,q2=>by cases q;simp at q2
 |
  t::ts,vs,k,v,q,q2=>by
  unfold rss at q
  split at q
  ·rename_i u us e1 e2
   cases q
   cases k with
   |zero=>
    have:u=v:=by simpa using q2
    subst this;exact⟨t,rfl,e1⟩
   |
    succ k=>
    obtain⟨t',y1,y2⟩:=uW (k:=k) e2 (by simpa using q2)
    exact⟨t',by simpa using y1,y2⟩
  ·cases q
theorem ke:∀{ts:List Tm}{vs:List Val},rss e ts=some vs->vs.length=ts.length
 | [],_,q=>by cases q;rfl
 |
  t::ts,vs,q=>by
  unfold rss at q
  split at q
  ·rename_i u us e1 e2;cases q;exact Pg (· + 1) (ke e2)
  ·cases q
theorem TsR.get:∀{ds:List D}{ts:List Tm}{k:Nat}{t:Tm},TsR X ns ae h ds ts->ts[k]?=some t->∃d,ds[k]?=some d/\((∃v,t=.val v/\Rd (Oc X ns) h d v)\/∃i,t=.bor i/\ae[i]?=some (some d))
 |_,_,_,_,.nil,q=>by simp at q
 |_,_,0,_,.val r rr,q=>by have:=(by simpa using q:Tm.val _=_);subst this;exact⟨_,rfl,.inl ⟨_,rfl,r⟩⟩
 |_,_,0,_,.bor r rr,q=>by have:=(by simpa using q:Tm.bor _=_);subst this;exact⟨_,rfl,.inr ⟨_,rfl,r⟩⟩
 |_,_,k+1,t,.val r rr,q=>by obtain⟨d,y⟩:=rr.get (k:=k) (by simpa using q);exact⟨d,by simpa using y⟩
 |_,_,k+1,t,.bor r rr,q=>by obtain⟨d,y⟩:=rr.get (k:=k) (by simpa using q);exact⟨d,by simpa using y⟩
def Xc(X:Nat->Prop)(ns:Ns)(e:E3)(ms:List Bool)(ts:List Tm)(n:Nat):Prop:=(X n\/some n∈ns)/\some n∉bS (bT ms ts) ns/\∀i∈aX e ms ts,ns[i]?≠some (some n)
def rZ(S:Sat X h0 ns e ae h)(rt:TsR X ns ae h ds ts)(qv:rss e ts=some vs)(ok:okA e ms ts=true):
 Sat (Xc X ns e ms ts) h.length (bS (bT ms ts) ns) (sls ms vs) (ds.map some) h:=by
 have l1:=iN ok
 have l2:=ke qv
 have l3:=TsR.len rt
 have hs:mM (bT ms ts):=λj k i q1 q2=>iK ok (eE q2).1 (eE q2).2 (eE q1).2
 have mv:Mov (Oc X ns) (Oc (Xc X ns e ms ts) (bS (bT ms ts) ns)) h h:=λn o p q=>⟨⟨λz=>by
  rcases z.1 with z |z
  ·exact p.1 z
  ·exact p.2 z,λz=>p.2 (lb z)⟩,q⟩
 refine⟨?_,?_,m_ _,λn z=>?_,λj k n q1 q2=>?_,λj n q z=>z.2.1 (aS.mpr ⟨j,q⟩),λk s q=>?_⟩
 ·unfold sls;rw[j_,P0];omega
 ·unfold bS bT sls;rw[j_,P0,P0];omega
 ·rcases z.1 with z |z
  ·exact S.xl n z
  ·obtain⟨i,z⟩:=aS.mp z
   obtain⟨_,_,_,_,_,_,_,q',_⟩:=S.own z
   exact bg q'
 ·obtain⟨i,y1,y2⟩:=cu q1
  obtain⟨i',y3,y4⟩:=cu q2
  have:=S.inj i i' n y2 y4
  subst this
  exact hs j k i y1 y3
 ·obtain⟨b,v,
   q1,q2,rfl⟩:=eL q
  obtain⟨t,q3,q4⟩:=uW qv q2
  obtain⟨d,q5,q6⟩:=rt.get q3
  have qd:(ds.map some)[k]?=some (some d):=by rw[z_,q5];rfl
  rw[qd]
  have qn:(bS (bT ms ts) ns)[k]?=some ((nX b t).bind λi=>(ns[i]?).bind id):=by
   unfold bS bT
   rw[z_,PK,q1,q3];rfl
  rw[qn]
  cases b with
  |
   true=>
   obtain⟨i,y1,u,y2⟩:=ki ok q1
   rw[q3] at y1;cases y1
   have q4':(e[i]?).bind Sl.val=some v:=q4
   obtain⟨s,z1,z2⟩:=OG.mp y2
   rw[z1] at q4'
   have hv:s.val=some v:=q4'
   have huv:u=v:=by cases s <;> first |cases z2;done |(cases z2;cases hv;rfl)
   subst huv
   have hns:∃n,ns[i]?=some (some n):=by
    have y:=S.sl i s z1
    cases s with
    |ow v=>obtain⟨n,o,y1,_⟩:=y;exact⟨n,y1⟩
    |mu v=>obtain⟨n,o,y1,_⟩:=y;exact⟨n,y1⟩
    |_=>cases z2
   obtain⟨n,hn⟩:=hns
   obtain⟨n',o,k1,k2,k3,k4,_⟩:=S.write z1 z2
   rcases q6 with ⟨_,z,_⟩ |⟨i',z,q6⟩
   ·cases z
   ·cases z
    rw[q6] at k1;cases k1
    obtain⟨_,_,_,_,_,_,w,_⟩:=S.own hn
    rw[q6] at w;cases w
    exact⟨n,o,by show some ((ns[i]?).bind id)=_;rw[hn];rfl,rfl,k2,k3,k4.mono mv⟩
  |
   false=>
   refine⟨by cases t <;> rfl,d,rfl,?_⟩
   rcases q6 with ⟨u,rfl,q6⟩ |⟨i,rfl,q6⟩
   ·cases q4;exact q6.mono mv
   ·have q4':(
     e[i]?).bind Sl.val=some v:=q4
    rcases S.bor q6 q4' with z |⟨n,o,rfl,z1,z2⟩
    ·exact z.mono mv
    ·refine .cell ⟨λy=>?_,λy=>?_⟩ z1 (z2.mono mv)
     ·
      by_cases hsh:∃w,e[i]?=some (.sh w)
      ·obtain⟨w,hsh⟩:=hsh
       obtain⟨_,x,w1,w2⟩:=S.sl i _ hsh
       rw[q6] at w1;cases w1
       cases w2 with
       |cell p _ _=>rcases y.1 with y |y;exact p.1 y;exact p.2 y
      ·have hl:=kY q1 q3 λw z=>hsh ⟨w,z⟩
       cases w:ns[i]? with
       |
        none=>
        have hi:i<e.length:=by
         cases z:e[i]? with
         |none=>rw[z] at q4';cases q4'
         |some _=>exact (k_.mp z).1
        rw[Pl,S.l2] at w
        omega
       |
        some w'=>
        cases w' with
        |
         none=>
         cases z:e[i]? with
         |none=>rw[z] at q4';cases q4'
         |
          some s=>
          have k:=S.sl i s z
          rw[w] at k
          cases s with
          |no=>rw[z] at q4';cases q4'
          |sh w=>exact hsh ⟨w,z⟩
          |ow w=>obtain⟨_,_,k,_⟩:=k;cases k
          |lo w=>obtain⟨_,_,k,_⟩:=k;cases k
          |mu w=>obtain⟨_,_,k,_⟩:=k;cases k
          |lm w=>obtain⟨_,_,k,_⟩:=k;cases k
        |
         some n'=>
         obtain⟨_,_,_,_,_,_,w2,_⟩:=S.own w
         rw[q6] at w2;cases w2
         exact y.2.2 i hl w
     ·obtain⟨j,y⟩:=aS.mp y
      obtain⟨i',y1,y2⟩:=cu y
      obtain⟨y3,y4⟩:=eE y1
      obtain⟨_,_,_,_,_,_,w2,_⟩:=S.own y2
      have:i'
       = i:=by
       cases w:ns[i]? with
       |
        none=>
        have hi:i<e.length:=by
         cases z:e[i]? with
         |none=>rw[z] at q4';cases q4'
         |some _=>exact (k_.mp z).1
        rw[Pl,S.l2] at w
        omega
       |
        some w'=>
        cases w' with
        |
         some n'=>
         obtain⟨_,_,_,_,_,_,w3,_⟩:=S.own w
         rw[q6] at w3;cases w3
         exact S.inj i' i n y2 w
        |
         none=>
         cases z:e[i]? with
         |none=>rw[z] at q4';cases q4'
         |
          some s=>
          have k:=S.sl i s z
          rw[w,q6] at k
          cases s with
          |no=>rw[z] at q4';cases q4'
          |
           sh w=>
           obtain⟨_,x,k1,k2⟩:=k
           cases k1
           cases k2 with
           |cell p _ _=>exact (p.2 (aS.mpr ⟨i',y2⟩)).elim
          |ow w=>obtain⟨_,_,k,_⟩:=k;cases k
          |lo w=>obtain⟨_,_,k,_⟩:=k;cases k
          |mu w=>obtain⟨_,_,k,_⟩:=k;cases k
          |lm w=>obtain⟨_,_,k,_⟩:=k;cases k
      subst this
      have:=iK ok y3 y4 q3
      subst this
      rw[q1] at y3;cases y3
theorem eG:∀{ms:List Bool}{mv:List Val}{j:Nat}{v:Val},(aH ms mv)[j]?=some (.mu v)->v∈mv
 | [],_,_,_,q=>by simp [aH] at q
 |true::ms,u::mv,0,v,q=>by
  have:Sl.mu u=.mu v:=by simpa [aH] using q
  cases this;exact n_ ..
 |true::ms,u::mv,j+1,v,q=>l_ _ (eG (ms:=ms) (mv:=mv) (j:=j) (by simpa [aH] using q))
 |true::ms,[],0,v,q=>by simp [aH] at q
 |true::ms,[],j+1,v,q=>eG (ms:=ms) (mv:=[]) (j:=j) (by simpa [aH] using q)
 |false::ms,mv,0,v,q=>by simp [aH] at q
 |false::ms,mv,j+1,v,q=>eG (ms:=ms) (mv:=mv) (j:=j) (by simpa [aH] using q)
theorem kR:∀{ms:List Bool}{ts:List Tm}{i:Nat},i∈aX e ms ts->∃k:Nat,ms[k]?=some false/\ts[k]?=some (.bor i)
 | [],_,_,q=>by simp [aX] at q
 |_::_,[],_,q=>by simp [aX] at q
 |
  b::ms,t::ts,i,q=>by
  have up:i∈aX e ms ts->∃k:Nat,(b::ms)[k]?=some false/\(t::ts)[k]?=some (.bor i):=λz=>by
   obtain⟨k,y1,y2⟩:=kR z
   exact⟨k+1,by simpa using y1,by simpa using y2⟩
  cases b <;> cases t <;> simp only[aX] at q <;> first |exact up q |skip
  split at q
  ·exact up q
  ·rcases D_.mp q with rfl |q
   ·exact⟨0,rfl,rfl⟩
   ·exact up q
def FC(q:cz e (.bor i)=some (e1,v)):(∀j,j≠i->e1[j]?=e[j]?)/\e1[i]?=some (.sh v)/\(e[i]?).bind Sl.val=some v:=by
 unfold cz at q
 dsimp only at q
 split at q
 ·rename_i u q1;cases q;exact⟨λ_ _=>rfl,q1,by rw[q1];rfl⟩
 ·rename_i u q1;cases q;exact⟨λj z=>aU z,bp (k_.mp q1).1,by rw[q1];rfl⟩
 ·cases q
theorem rl:∀{is:List Nat}{ns:Ns}{e e2:E3},Sat X h0 ns e ae h->(∀i∈is,∃d,ae[i]?=some (some d))->nJ e is=some e2->∃db,Sat X h0 db e2 ae h/\Stp ns e h db e2 h/\(∀i,i∉is->e2[i]?=e[i]?)/\(∀i∈is,∃v,e2[i]?=some (.sh v))/\∀i:Nat,(e2[i]?).bind Sl.val=(e[i]?).bind Sl.val
 | [],ns,e,e2,S,_,q=>by cases q;exact⟨ns,S,.refl,λ_ _=>rfl,(λ_ z=>by cases z),λ_=>rfl⟩
 |
  i::is,ns,e,e2,S,hd,q=>by
  unfold nJ at q
  split at q
  ·rename_i e1 v q1
   obtain⟨d,hd0⟩:=hd i (n_ ..)
   obtain⟨ns1,S1,a1,r1⟩:=fI (L:=0) (t:=.bor i) S hd0 q1
   obtain⟨db,S2,a2,k1,k2,k3⟩:=rl S1 (λj z=>hd j (l_ _ z)) q
   obtain⟨y1,y2,y3⟩:=FC q1
   refine⟨db,S2,a1.trans S a2,λj hj=>?_,λj hj=>?_,λj=>?_⟩
   ·rw[D_,not_or] at hj
    rw[k1 j hj.2,y1 j hj.1]
   ·by_cases z:j∈is
    ·exact k2 j z
    ·rcases D_.mp hj with rfl |hj
     ·exact⟨v,by rw[k1 j z];exact y2⟩
     ·exact absurd hj z
   ·rw[k3 j]
    by_cases z:j=i
    ·subst z;rw[y2,y3];rfl
    ·rw[y1 j z]
  ·cases q
theorem oX:∀{ms:List Bool}{ts:List Tm},(∀(k i:Nat),ms[k]?=some true->ts[k]?=some (.bor i)->e2[i]?=e[i]?)->okA e ms ts=true->okA e2 ms ts=true
 | [],[],_,o=>rfl
 | [],_::_,_,o=>by simp [okA] at o
 |b::ms,[],_,o=>by cases b <;> simp [okA] at o
 |
  b::ms,t::ts,hk,o=>by
  have o':okA e ms ts=true:=by
   cases b <;> cases t <;> simp only[okA,r_] at o <;> first |exact o.2 |exact o |(simp at o;done)
  have ih:=oX (λk i q1 q2=>hk (k+1) i (by simpa using q1) (by simpa using q2)) o'
  cases b with
  |false=>cases t <;> simp only[okA,r_] at o ⊢ <;> first |exact⟨o.1,ih⟩ |exact ih
  |
   true=>
   cases t with
   |
    bor i=>
    simp only[okA,r_] at o ⊢
    rw[hk 0 i rfl rfl]
    exact⟨o.1,ih⟩
   |_=>simp [okA] at o
theorem rH:∀{ms:List Bool}{ts:List Tm},(∀(k i:Nat),ms[k]?=some false->ts[k]?=some (.bor i)->∃v,e[i]?=some (.sh v))->aX e ms ts=[]
 | [],_,_=>by simp [aX]
 |_::_,[],_=>by simp [aX]
 |
  b::ms,t::ts,hk=>by
  have ih:=rH (λk i q1 q2=>hk (k+1) i (by simpa using q1) (by simpa using q2))
  cases b <;> cases t <;> simp only[aX] <;> first |exact ih |skip
  rename_i i
  obtain⟨v,q⟩:=hk 0 i rfl rfl
  rw[q];exact ih
theorem oK(hv:∀i:Nat,(e2[i]?).bind Sl.val=(e[i]?).bind Sl.val):∀(ts:List Tm),rss e2 ts=rss e ts
 | []=>rfl
 |
  t::ts=>by
  unfold rss
  rw[oK hv ts]
  have:rs e2 t=rs e t:=by
   cases t with
   |bor i=>exact hv i
   |_=>rfl
  rw[this]
def tG(ok:okA e ms ts=true):Lnk (bT ms ts) e (sls ms vs):=by
 refine⟨λj k i q1 q2=>iK ok (eE q2).1 (eE q2).2 (eE q1).2,λj v q=>?_,λj s q hm=>?_⟩
 ·obtain⟨b,u,q1,_,q2⟩:=eL q
  cases b with
  |false=>cases q2
  |
   true=>
   obtain⟨i,y1,w,y2⟩:=ki ok q1
   obtain⟨s,z1,z2⟩:=OG.mp y2
   exact⟨i,s,Ge q1 y1,z1,by cases s <;> first |rfl |cases z2⟩
 ·obtain⟨b,u,q1,_,q2⟩:=eL q
  cases b with
  |false=>subst q2;cases hm
  |true=>exact⟨u,q2⟩
section
variable{X:Nat->Prop}{h0 L:Nat}{ns:Ns}{e:E3}{ae:AE}{h:AH}{ms:List Bool}{ts:List Tm}{ds:List D}{vs:List Val}{S2:Fn}{G3:Fn3}
def iF(Y:Nat->Prop)(hY:∀n,Y n->X n\/Y n)(hl:aX e ms ts=[])(z:¬ Xc X ns e ms ts n)(z2:some n∉bS (bT ms ts) ns):Oc X ns n:=by
 refine⟨λy=>z ⟨.inl y,z2,λi hi=>by rw[hl] at hi;cases hi⟩,λy=>z ⟨.inr y,z2,λi hi=>by rw[hl] at hi;cases hi⟩⟩
def uT(S:Sat X h0 ns e ae h)(hL:L<=h.length)(rt:TsR X ns ae h ds ts)(qv:rss e ts=some vs)(ok:okA e ms ts=true)(hG:RF ms S2 G3)(q:G3 vs=.ok r mv)(hf:aX e ms ts=[]\/(j8 r=true/\mv.all cT=true)):
 Po X h0 ns e ae h (relE X h0 L ae) (S2 ds h) (.ok (r.tm ts) (bc (bT ms ts) (aH ms mv) e)):=by
 have p:=hG _ _ ds vs h (by rw[ke qv,iN ok]) (rZ S rt qv ok)
 rw[q] at p
 obtain⟨d,h',p1,a,rr⟩:=p
 have K:=tG (vs:=vs) ok
 have xcl:∀n,X n->n<h.length:=S.xl
 cases r with
 |
  val v=>
  obtain⟨S3,rv⟩:=rr
  obtain⟨S4,a4⟩:=S.back (Y:=X) K a (λn z=>⟨Em (xcl n z) a.len,.inl z⟩) (λ_ z=>z) λj w n q1 q2=>by
   obtain⟨s,u,o,b1,b2,b3,b4,b5,b6,b7⟩:=S3.own q2
   rw[q1] at b1;cases b1;cases b3
   rcases hf with hf |hf
   ·exact⟨o,b5,b6,b7.mono λm o' z y=>⟨iF X (λ_ z=>.inl z) hf z.1 z.2,y⟩⟩
   ·exact⟨o,b5,b6,b7.flat (OF.mp hf.2 w (eG q1))⟩
  refine⟨d,h',ns,p1,a4,S4,?_⟩
  rcases hf with hf |hf
  ·exact rv.mono λm o' z y=>⟨iF X (λ_ z=>.inl z) hf z.1 z.2,y⟩
  ·exact rv.flat hf.1
 |
  new v=>
  obtain⟨n,o,z1,z2,z3,z4,z5,S3,z7⟩:=rr
  have hnx:¬ X n:=λy=>by have:=xcl n y;omega
  have kk:∀m,Oc (Xn (Xc X ns e ms ts) n) (bS (bT ms ts) ns) m->aX e ms ts=[]->Oc (Xn X n) ns m:=λm z hf=>by
   have:=iF X (λ_ z=>.inl z) hf (λy=>z.1 (.inl y)) z.2
   exact⟨λy=>by
    rcases y with y |y
    ·exact this.1 y
    ·exact z.1 (.inr y),this.2⟩
  obtain⟨S4,a4⟩:=S.back (Y:=Xn X n) K a (λm z=>by
   rcases z with z |rfl
   ·exact⟨Em (xcl m z) a.len,.inl z⟩
   ·exact⟨bg z4,.inr z2⟩) (λ_ z=>.inl z) λj w n' q1 q2=>by
   obtain⟨s,u,o,b1,b2,b3,b4,b5,b6,b7⟩:=S3.own q2
   rw[q1] at b1;cases b1;cases b3
   rcases hf with hf |hf
   ·exact⟨o,b5,b6,b7.mono λm o' z y=>⟨kk m z hf,y⟩⟩
   ·exact⟨o,b5,b6,b7.flat (OF.mp hf.2 w (eG q1))⟩
  refine⟨d,h',ns,p1,a4,S4.weak λ_ z=>.inl z,n,o,z1,F_ hL z2,hnx,z4,z5,S4,?_⟩
  rcases hf with hf |hf
  ·exact z7.mono λm o' z y=>⟨kk m z hf,y⟩
  ·exact z7.flat hf.1
 |
  par i=>
  obtain⟨S3,w1,w,w2⟩:=rr
  obtain⟨S4,a4⟩:=S.back (Y:=X) K a (λn z=>⟨Em (xcl n z) a.len,.inl z⟩) (λ_ z=>z) λj w n q1 q2=>by
   obtain⟨s,u,o,b1,b2,b3,b4,b5,b6,b7⟩:=S3.own q2
   rw[q1] at b1;cases b1;cases b3
   rcases hf with hf |hf
   ·exact⟨o,b5,b6,b7.mono λm o' z y=>⟨iF X (λ_ z=>.inl z) hf z.1 z.2,y⟩⟩
   ·exact⟨o,b5,b6,b7.flat (OF.mp hf.2 w (eG q1))⟩
  refine⟨d,h',ns,p1,a4,S4,?_⟩
  obtain⟨u,x1,_⟩:=a.mu i w w2
  obtain⟨b,u',x2,_,x3⟩:=eL x1
  cases b with
  |false=>cases x3
  |
   true=>
   obtain⟨k,y1,_⟩:=ki ok x2
   obtain⟨d',y2,z⟩:=rt.get y1
   have e1:(Rt.par i).tm ts=.bor k:=by show (ts[i]?).getD _=_;rw[y1];rfl
   rw[e1]
   rcases z with ⟨_,z,_⟩ |⟨j,z,z2⟩
   ·cases z
   ·cases z
    rw[z_,y2] at w1
    cases w1
    exact z2
def z8(S:Sat X h0 ns e ae h)(rt:TsR X ns ae h ds ts)(qv:rss e ts=some vs)(ok:okA e ms ts=true)(hG:RF ms S2 G3)(q:G3 vs=.exc c mv)(hf:aX e ms ts=[]\/mv.all cT=true):
 Po X h0 ns e ae h (relE X h0 L ae) (S2 ds h) (.exc c (bc (bT ms ts) (aH ms mv) e)):=by
 have p:=hG _ _ ds vs h (by rw[ke qv,iN ok]) (rZ S rt qv ok)
 rw[q] at p
 obtain⟨h',p1,a,S3⟩:=p
 have K:=tG (vs:=vs) ok
 obtain⟨S4,a4⟩:=S.back (Y:=X) K a (λn z=>⟨Em (S.xl n z) a.len,.inl z⟩) (λ_ z=>z) λj w n q1 q2=>by
  obtain⟨s,u,o,b1,b2,b3,b4,b5,b6,b7⟩:=S3.own q2
  rw[q1] at b1;cases b1;cases b3
  rcases hf with hf |hf
  ·exact⟨o,b5,b6,b7.mono λm o' z y=>⟨iF X (λ_ z=>.inl z) hf z.1 z.2,y⟩⟩
  ·exact⟨o,b5,b6,b7.flat (OF.mp hf w (eG q1))⟩
 exact⟨h',ns,p1,a4,S4⟩
def Ef(hn:n=ms.length)(hG:RF ms S2 G3)(hA:RA A A3):RE (vD n S2 A) (Df ms G3 A3):=λX h0 L ns e ae h S hl=>
 Po.bind
  S (hA X h0 ns e ae h S) λds ts h1 ns1 e1 a1 S1 r1=>by
  try dsimp only
  cases qv:rss e1 ts with
  |none=>trivial
  |
   some vs=>
   dsimp only
   by_cases ok:okA e1 ms ts=true
   ·rw[if_pos ok]
    have bd:ds.length=n:=by rw[hn,iN ok];exact TsR.len r1
    rw[if_pos bd]
    have hL:L<=h1.length:=F_ hl a1.len
    cases q:G3 vs with
    |stuck=>trivial
    |
     exc c mv=>
     dsimp only
     by_cases hf:((aX e1 ms ts).isEmpty || mv.all cT)=true
     ·rw[if_pos hf]
      refine z8 S1 r1 qv ok hG q ?_
      rw[Bool.or_eq_true] at hf
      rcases hf with hf |hf
      ·exact .inl (List.isEmpty_iff.mp hf)
      ·exact .inr hf
     ·rw[if_neg hf];trivial
    |
     ok r mv=>
     dsimp only
     by_cases hf:((aX e1 ms ts).isEmpty || (j8 r&&mv.all cT))=true
     ·rw[if_pos hf]
      refine uT S1 hL r1 qv ok hG q ?_
      rw[Bool.or_eq_true,r_] at hf
      rcases hf with hf |hf
      ·exact .inl (List.isEmpty_iff.mp hf)
      ·exact .inr hf
     ·rw[if_neg hf]
      cases qd:nJ e1 (aX e1 ms ts) with
      |none=>trivial
      |
       some e2=>
       dsimp only
       obtain⟨db,S2',a2,k1,k2,k3⟩:=rl S1 (λi hi=>by
        obtain⟨k,_,y⟩:=kR hi
        obtain⟨d,_,z⟩:=r1.get y
        rcases z with ⟨_,z,_⟩ |⟨j,z,z2⟩
        ·cases z
        ·cases z;exact⟨d,z2⟩) qd
       have ok2:okA e2 ms ts=true:=oX (λk i q1 q2=>k1 i λz=>by
        obtain⟨k',y1,y2⟩:=kR z
        have:=iK ok q1 q2 y2
        subst this
        rw[q1] at y1;cases y1) ok
       have ln:aX e2 ms ts=[]:=rH λk i q1 q2=>by
        by_cases z:i∈aX e1 ms ts
        ·exact k2 i z
        ·rw[k1 i z]
         exact Qo λw=>z (kY q1 q2 λv y=>w ⟨v,y⟩)
       have pp:=uT (L:=L) S2' hL (r1.stp S1 a2) (by rw[oK k3];exact qv) ok2 hG q (.inl ln)
       obtain⟨d,h',ns',y,y1,y2,y3⟩:=pp
       exact⟨d,h',ns',y,a2.trans S1 y1,y2,y3⟩
   ·rw[if_neg ok];trivial
end
def RMv(m2:D->List D->AH->R D)(m3:Val->List Val->Bv):Prop:=∀P h d v ds vs,ShR P h d v->jt v=true->ShRs P h ds vs->BvR P h (m2 d ds h) (m3 v vs)
noncomputable def aI(f:Int->Int->Val):Val->Val->Bv:=λx y=>match x,y with
 |.int i,.int j=>.val (f i j)
 |_,_=>.stuck
open Classical in
def aIc(C:Int->Int->Prop)(f:Int->Int->Val):Val->Val->Bv:=λx y=>match x,y with
 |.int i,.int j=>if C i j then .val (f i j) else .stuck
 |_,_=>.stuck
noncomputable def wV:Val->Val->Bv:=λx y=>match x,y with
 |.lst xs,.lst ys=>if xs.length+ys.length<=16777216 then .new (.lst (xs++ys)) else .stuck
 |.tup xs,.tup ys=>if xs.length+ys.length<=16777216 then .val (.tup (xs++ys)) else .stuck
 |_,_=>.stuck
noncomputable def AY:Val->Val->Bv:=λx y=>match x,y with
 |.int i,.int j=>.val (.int (i+j))
 |x,y=>wV x y
def aMin:=aI λi j=>.int (i-j)
def vR:=aIc CMulA λi j=>.int (i*j)
def vV:=aIc CDivB λi j=>.int (i.fdiv j)
def vX:=aIc (λ_ j=>j≠0) λi j=>.int (i.fmod j)
def wM:=aIc gi λi j=>.int (i^j.toNat)
def wK:=aIc gi λi j=>.int (i*2^j.toNat)
def aLt:=aI λi j=>.bl (decide (i<j))
def aLe:=aI λi j=>.bl (decide (i<=j))
def aGt:=aI λi j=>.bl (decide (j<i))
def aGe:=aI λi j=>.bl (decide (j<=i))
def Br:Val->Bv:=λx=>match x with
 |.int i=>.val (.int (-i))
 |_=>.stuck
noncomputable def aIx:Val->Val->Bv:=λx y=>match x.items,y with
 |some xs,.int i=>(match atI xs i with
  |some v=>.val v
  |none=>.stuck)
 |_,_=>.stuck
section
def nT(hr:∀i j P h,Rd P h (f2 i j) (f3 i j)):RO (gI f2) (aI f3):=λP h d1 d2 v1 v2 r1 r2=>by
 unfold aI
 split
 ·obtain rfl:=r1.int;obtain rfl:=r2.int;exact⟨_,rfl,hr _ _ P h⟩
 ·trivial
def l7(hr:∀i j P h,Rd P h (f2 i j) (f3 i j)):RO (gIc C f2) (aIc C f3):=λP h d1 d2 v1 v2 r1 r2=>by
 unfold aIc
 split
 ·obtain rfl:=r1.int;obtain rfl:=r2.int
  split
  ·rename_i hc;exact⟨_,by unfold gIc;dsimp only;rw[if_pos hc],hr _ _ P h⟩
  ·trivial
 ·trivial
def Hb:RO kX wV:=λP h d1 d2 v1 v2 r1 r2=>by
 unfold wV
 split
 ·obtain⟨n,ds,rfl,e1,_,q1⟩:=r1.lst
  obtain⟨m,es,rfl,e2,_,q2⟩:=r2.lst
  split
  ·rename_i hl
   exact⟨.lst (ds++es),by unfold kX;dsimp only;rw[e1,e2];dsimp only;rw[if_pos (by rw[q1.len,q2.len];exact hl)],trivial,.lst (q1.append q2)⟩
  ·trivial
 ·obtain⟨ds,rfl,q1⟩:=r1.tup
  obtain⟨es,rfl,q2⟩:=r2.tup
  split
  ·rename_i hl
   exact⟨_,by unfold kX;dsimp only;rw[if_pos (by rw[q1.len,q2.len];exact hl)],.tup (q1.append q2)⟩
  ·trivial
 ·trivial
def J9:RO xu AY:=λP h d1 d2 v1 v2 r1 r2=>by
 unfold AY
 split
 ·obtain rfl:=r1.int;obtain rfl:=r2.int;exact⟨_,rfl,.int _⟩
 ·rename_i hn
  have k:=Hb P h d1 d2 v1 v2 r1 r2
  have e:xu d1 d2 h=kX d1 d2 h\/wV v1 v2=.stuck:=by
   cases v1 <;> first |(right;rfl) |(left;skip)
   ·obtain⟨ds,rfl,_⟩:=r1.tup;rfl
   ·obtain⟨n,ds,rfl,_⟩:=r1.lst;rfl
  rcases e with e |e
  ·rw[e];exact k
  ·rw[e];trivial
def Ko:RO BX aMin:=nT λ_ _ _ _=>.int _
def Ld:RO zU vR:=l7 λ_ _ _ _=>.int _
def Hs:RO Bz vV:=l7 λ_ _ _ _=>.int _
def II:RO BO vX:=l7 λ_ _ _ _=>.int _
def KW:RO Al wM:=l7 λ_ _ _ _=>.int _
def Gz:RO Ap wK:=l7 λ_ _ _ _=>.int _
def MQ:RO gLt aLt:=nT λ_ _ _ _=>.bl _
def Oi:RO gLe aLe:=nT λ_ _ _ _=>.bl _
def Mn:RO gGt aGt:=nT λ_ _ _ _=>.bl _
def Lo:RO gGe aGe:=nT λ_ _ _ _=>.bl _
def J1:RU vH Br:=λP h d v r=>by
 unfold Br
 split
 ·obtain rfl:=r.int;exact⟨_,rfl,.int _⟩
 ·trivial
def LZ(r:Rds P h ds vs)(e:atI vs i=some v):∃d,atI ds i=some d/\Rd P h d v:=by
 unfold atI at e ⊢
 rw[r.len]
 cases q:ixN vs.length i with
 |none=>rw[q] at e;cases e
 |some j=>rw[q] at e;exact r.get e
def NX:RO gIx aIx:=λP h d1 d2 v1 v2 r1 r2=>by
 unfold aIx
 split
 ·rename_i xs i e1
  obtain⟨ds,e2,q⟩:=r1.items e1
  obtain rfl:=r2.int
  split
  ·rename_i v e3
   obtain⟨d,e4,q2⟩:=LZ q e3
   exact⟨d,by unfold gIx;rw[e2];dsimp only;rw[e4],q2⟩
  ·trivial
 ·trivial
end
mutual
def cL:Nat->Val->Option PyData
 |0,_=>none
 |_+1,.non=>some .none
 |_+1,.bl b=>some (.bool b)
 |_+1,.int i=>some (.int i)
 |_+1,.str x=>some (.str x)
 |k+1,.tup xs=>(d7 k xs).map .tuple
 |k+1,.lst xs=>(d7 k xs).map .list
 |_+1,_=>none
def d7:Nat->List Val->Option (List PyData)
 |_,[]=>some []
 |k,x::xs=>match cL k x,d7 k xs with
  |some a,some b=>some (a::b)
  |_,_=>none
end
def Bq(hk:∀d v pd,Rd P h d v->cL k v=some pd->dY k h d=some pd):∀{ds:List D}{vs:List Val}{ps:List PyData},Rds P h ds vs->d7 k vs=some ps->ds.mapM (dY k h)=some ps:=by
 intro ds
 induction ds with
 |
  nil=>
  intro vs ps r q
  cases r
  unfold d7 at q
  cases q
  rfl
 |
  cons d0 ds ih=>
  intro vs ps r q
  cases r with
  |
   cons r rr=>
   unfold d7 at q
   split at q
   ·rename_i a b e1 e2
    cases q
    rw[Qc,hk _ _ _ r e1,ih rr e2];rfl
   ·cases q
theorem nt:∀(k:Nat) (d:D) (v:Val) (pd:PyData),ShR P h d v->cL k v=some pd->dY k h d=some pd
 |0,_,_,_,_,q=>by unfold cL at q;cases q
 |
  k+1,d,v,pd,r,q=>by
  have ih:∀{ds:List D}{vs:List Val}{ps:List PyData},Rds P h ds vs->d7 k vs=some ps->ds.mapM (dY k h)=some ps:=Bq λd v pd r q=>nt k d v pd (.inl r) q
  cases v with
  |non=>obtain rfl:=r.non;simp only[cL] at q;cases q;rfl
  |bl b=>obtain rfl:=r.bl;simp only[cL] at q;cases q;rfl
  |int b=>obtain rfl:=r.int;simp only[cL] at q;cases q;rfl
  |str b=>obtain rfl:=r.str;simp only[cL] at q;cases q;rfl
  |
   tup xs=>
   obtain⟨ds,rfl,r2⟩:=r.tup
   simp only[cL] at q
   obtain⟨ps,q1,rfl⟩:=M_.mp q
   show (ds.mapM (dY k h)).map PyData.tuple=_
   rw[ih r2 q1];rfl
  |
   lst xs=>
   obtain⟨n,ds,rfl,_,e1,r2⟩:=r.lst
   simp only[cL] at q
   obtain⟨ps,q1,rfl⟩:=M_.mp q
   unfold dY
   rw[e1]
   show (ds.mapM (dY k h)).map PyData.list=_
   rw[ih r2 q1];rfl
  |_=>simp only[cL] at q;cases q
noncomputable def bz(x y:Val):Option Bool:=match cL 164 x,cL 164 y with
 |some a,some b=>if shp a=true/\shp b=true then some (PyData.eqv a b) else none
 |_,_=>none
noncomputable def aEq(neg:Bool):Val->Val->Bv:=λx y=>match bz x y with
 |some b=>.val (.bl (if neg then !b else b))
 |none=>.stuck
def Kr(r1:ShR P h d1 v1)(r2:ShR P h d2 v2)(q:bz v1 v2=some b):rA h d1 d2=some b:=by
 unfold bz at q
 split at q
 ·rename_i a c e1 e2
  unfold rA
  rw[nt 164 _ _ _ r1 e1,nt 164 _ _ _ r2 e2]
  exact q
 ·cases q
def CM(neg:Bool):RO (gEq neg) (aEq neg):=λP h d1 d2 v1 v2 r1 r2=>by
 unfold aEq
 split
 ·rename_i b q
  exact⟨_,by unfold gEq;rw[Kr r1 r2 q],.bl _⟩
 ·trivial
def qt:Val->Bool
 |.non=>true
 |.bl _=>true
 |.int _=>true
 |.str _=>true
 |_=>false
noncomputable def vP:Val->V
 |.bl b=>.bl b
 |.int i=>.int i
 |.str x=>.str x
 |_=>.non
def eq1(x y:Val):Bool:=eqV (vP x) (vP y)
noncomputable def aIn(neg:Bool):Val->Val->Bv:=λx y=>match y.items with
 |some xs=>if qt x=true/\xs.all qt=true then .val (.bl (if neg then !(xs.any λd=>eq1 d x) else xs.any λd=>eq1 d x)) else .stuck
 |none=>.stuck
def vx(r:ShR P h d v)(f:qt v=true):ku d=true/\toV d=vP v:=by
 cases v with
 |non=>obtain rfl:=r.non;exact⟨rfl,rfl⟩
 |bl b=>obtain rfl:=r.bl;exact⟨rfl,rfl⟩
 |int b=>obtain rfl:=r.int;exact⟨rfl,rfl⟩
 |str b=>obtain rfl:=r.str;exact⟨rfl,rfl⟩
 |_=>cases f
def Co(x:D)(y:Val)(hx:toV x=vP y):∀{ds:List D}{vs:List Val},Rds P h ds vs->vs.all qt=true->ds.all ku=true/\(ds.any λd=>eqF d x)=vs.any λd=>eq1 d y:=by
 intro ds
 induction ds with
 |
  nil=>
  intro vs r f
  cases r
  exact⟨rfl,rfl⟩
 |
  cons d0 ds ih=>
  intro vs r f
  cases r with
  |
   cons r rr=>
   rw[Qk,r_] at f
   obtain⟨h1,h2⟩:=vx (.inl r) f.1
   obtain⟨h3,h4⟩:=ih rr f.2
   refine⟨by rw[Qk,h1,h3];rfl,?_⟩
   rw[OZ,OZ,h4]
   unfold eqF eq1
   rw[h2,hx]
def M5(neg:Bool):RO (gIn neg) (aIn neg):=λP h d1 d2 v1 v2 r1 r2=>by
 unfold aIn
 split
 ·rename_i xs e
  obtain⟨ds,e2,q⟩:=r2.items e
  split
  ·rename_i hf
   obtain⟨f1,f2⟩:=vx r1 hf.1
   obtain⟨f3,f4⟩:=Co d1 v1 f2 q hf.2
   exact⟨_,by unfold gIn;rw[e2];dsimp only;rw[if_pos ⟨f1,f3⟩,f4],.bl _⟩
  ·trivial
 ·trivial
noncomputable def v7(neg:Bool):Val->Val->Bv:=λx y=>match x,y with
 |.non,.non=>.val (.bl (!neg))
 |_,.non=>.val (.bl neg)
 |_,_=>.stuck
def yZ(neg:Bool):RO (jT neg) (v7 neg):=λP h d1 d2 v1 v2 r1 r2=>by
 unfold v7
 split
 ·obtain rfl:=r1.non;obtain rfl:=r2.non;exact⟨_,rfl,.bl _⟩
 ·rename_i hn
  obtain rfl:=r2.non
  have:d1 ≠ .non:=by
   rintro rfl
   rcases r1 with r |⟨n,o,z,_⟩
   ·cases r;exact hn rfl
   ·cases z
  refine⟨_,?_,.bl neg⟩
  unfold jT
  split
  ·exact absurd rfl this
  ·rfl
  ·rename_i h1 h2;exact (h1 rfl).elim
 ·trivial
noncomputable def A9:List Val->Bv:=λvs=>match vs with
 | [v]=>(match v.items with
  |some xs=>.val (.int xs.length)
  |none=>(match v with
   |.str z=>if z.length<=16777216 then .val (.int z.length) else .stuck
   |_=>.stuck))
 |_=>.stuck
noncomputable def Bo:List Val->Bv:=λvs=>match vs with
 | [.int i]=>.val (.int (if i<0 then -i else i))
 |_=>.stuck
noncomputable def wu:List Val->Bv:=λvs=>match vs with
 | [.int i,.int j]=>.val (.int (if j>i then j else i))
 |_=>.stuck
noncomputable def wY:List Val->Bv:=λvs=>match vs with
 | [.int i,.int j]=>.val (.int (if j<i then j else i))
 |_=>.stuck
noncomputable def jP:List Val->Option (List Bool)
 | []=>some []
 |.bl b::r=>(jP r).map (b :: ·)
 |_=>none
noncomputable def jo:List Val->Option (List Int)
 | []=>some []
 |.int b::r=>(jo r).map (b :: ·)
 |_=>none
noncomputable def AR:List Val->Bv:=λvs=>match vs with
 | [.lst xs]=>(match jP xs with
  |some bs=>.val (.bl (bs.all id))
  |none=>.stuck)
 |_=>.stuck
noncomputable def AK:List Val->Bv:=λvs=>match vs with
 | [.lst xs]=>(match jo xs with
  |some bs=>.val (.int bs.sum)
  |none=>.stuck)
 |_=>.stuck
noncomputable def tN:List Val->Bv:=λvs=>match vs with
 | [v]=>(match v.items with
  |some xs=>.val (.tup xs)
  |none=>.stuck)
 |_=>.stuck
def Js:RFn sH A9:=λP h ds vs r=>by
 unfold A9
 split
 ·obtain⟨d,hd,rr1⟩:=iU r;subst hd;clear r;have r:=rr1
  split
  ·rename_i xs e
   obtain⟨es,e2,q⟩:=r.items e
   exact⟨_,by unfold sH;dsimp only;rw[e2],by rw[<- q.len];exact .int _⟩
  ·split
   ·rename_i z _
    obtain rfl:=r.str
    split
    ·rename_i hl;exact⟨_,by show (if z.length<=16777216 then _ else _)=_;rw[if_pos hl],.int _⟩
    ·trivial
   ·trivial
 ·trivial
def JA:RFn xw Bo:=λP h ds vs r=>by
 unfold Bo
 split
 ·obtain⟨d,hd,rr1⟩:=iU r;subst hd;clear r;have r:=rr1;obtain rfl:=r.int;exact⟨_,rfl,.int _⟩
 ·trivial
def EX:RFn qc wu:=λP h ds vs r=>by
 unfold wu
 split
 ·obtain⟨d,d',hd,rr1,r'⟩:=wg r;subst hd;clear r;have r:=rr1;obtain rfl:=r.int;obtain rfl:=r'.int;exact⟨_,rfl,.int _⟩
 ·trivial
def Gi:RFn p7 wY:=λP h ds vs r=>by
 unfold wY
 split
 ·obtain⟨d,d',hd,rr1,r'⟩:=wg r;subst hd;clear r;have r:=rr1;obtain rfl:=r.int;obtain rfl:=r'.int;exact⟨_,rfl,.int _⟩
 ·trivial
def Mz:∀{ds:List D}{vs:List Val}{bs:List Bool},Rds P h ds vs->jP vs=some bs->ia ds=some bs:=by
 intro ds
 induction ds with
 |
  nil=>
  intro vs bs r q
  cases r
  cases q
  rfl
 |
  cons d0 ds ih=>
  intro vs bs r q
  cases r with
  |
   cons r rr=>
   rename_i v vs
   cases v with
   |
    bl b=>
    obtain rfl:=ShR.bl (.inl r)
    obtain⟨b',q1,rfl⟩:=M_.mp (show (jP vs).map (b :: ·)=some bs from q)
    show (ia _).map (b :: ·)=_
    rw[ih rr q1];rfl
   |_=>cases q
def KG:∀{ds:List D}{vs:List Val}{bs:List Int},Rds P h ds vs->jo vs=some bs->fT ds=some bs:=by
 intro ds
 induction ds with
 |
  nil=>
  intro vs bs r q
  cases r
  cases q
  rfl
 |
  cons d0 ds ih=>
  intro vs bs r q
  cases r with
  |
   cons r rr=>
   rename_i v vs
   cases v with
   |
    int b=>
    obtain rfl:=ShR.int (.inl r)
    obtain⟨b',q1,rfl⟩:=M_.mp (show (jo vs).map (b :: ·)=some bs from q)
    show (fT _).map (b :: ·)=_
    rw[ih rr q1];rfl
   |_=>cases q
def Gu:RFn sf AR:=λP h ds vs r=>by
 unfold AR
 split
 ·obtain⟨d,hd,rr1⟩:=iU r;subst hd;clear r;have r:=rr1
  obtain⟨n,es,rfl,_,e1,q⟩:=r.lst
  split
  ·rename_i bs e2
   exact⟨_,by unfold sf;dsimp only;rw[e1];show (match ia es with |some bs=>_ |none=>_)=_;rw[Mz q e2],.bl _⟩
  ·trivial
 ·trivial
def G6:RFn tq AK:=λP h ds vs r=>by
 unfold AK
 split
 ·obtain⟨d,hd,rr1⟩:=iU r;subst hd;clear r;have r:=rr1
  obtain⟨n,es,rfl,_,e1,q⟩:=r.lst
  split
  ·rename_i bs e2
   exact⟨_,by unfold tq;dsimp only;rw[e1];show (match fT es with |some bs=>_ |none=>_)=_;rw[KG q e2],.int _⟩
  ·trivial
 ·trivial
def Cc:RFn jL tN:=λP h ds vs r=>by
 unfold tN
 split
 ·obtain⟨d,hd,rr1⟩:=iU r;subst hd;clear r;have r:=rr1
  split
  ·rename_i xs e
   obtain⟨es,e2,q⟩:=r.items e
   exact⟨_,by unfold jL;dsimp only;rw[e2],.tup q⟩
  ·trivial
 ·trivial
noncomputable def tyC:Val->Option Cl
 |.non=>some (.b "NoneType")
 |.bl _=>some (.b "bool")
 |.int _=>some (.b "int")
 |.str _=>some (.b "str")
 |.tup _=>some (.b "tuple")
 |.exc x=>some (.o x)
 |.lst _=>some (.b "list")
 |.dct _=>some (.b "dict")
 |_=>none
noncomputable def clV:Val->Option Cl
 |.ty n=>some (.b n)
 |.glb x=>some (.o x)
 |_=>none
noncomputable def wj:List Val->Option (List Cl)
 | []=>some []
 |v::vs=>match clV v,wj vs with
  |some c,some cs=>some (c::cs)
  |_,_=>none
noncomputable def Mo:Val->Option (List Cl)
 |.tup cs=>wj cs
 |v=>(clV v).map ([·])
noncomputable def Cb(kt:jl):List Val->Bv:=λvs=>match vs with
 | [v,c]=>(match tyC v,Mo c with
  |some t,some (c0::cr)=>(match fD kt t (c0::cr),kit kt t c0 with
   |some b,some _=>.val (.bl b)
   |_,_=>.stuck)
  |_,_=>.stuck)
 |_=>.stuck
def LC(r:ShR P h d v)(q:tyC v=some t):tyD h d=some t:=by
 cases v with
 |non=>obtain rfl:=r.non;exact q
 |bl b=>obtain rfl:=r.bl;exact q
 |int b=>obtain rfl:=r.int;exact q
 |str b=>obtain rfl:=r.str;exact q
 |exc b=>obtain rfl:=r.exc;exact q
 |tup b=>obtain⟨ds,rfl,_⟩:=r.tup;exact q
 |lst b=>obtain⟨n,ds,rfl,e,_⟩:=r.lst;unfold tyD;dsimp only;rw[e];exact q
 |dct b=>obtain⟨n,ds,rfl,e,_⟩:=r.dct;unfold tyD;dsimp only;rw[e];exact q
 |_=>cases q
def Du(r:ShR P h d v)(q:clV v=some c):clD d=some c:=by
 cases v with
 |ty b=>obtain rfl:=r.ty;exact q
 |glb b=>obtain rfl:=r.glb;exact q
 |_=>cases q
def JT:∀{ds:List D}{vs:List Val}{cs:List Cl},Rds P h ds vs->wj vs=some cs->ds.mapM clD=some cs:=by
 intro ds
 induction ds with
 |
  nil=>
  intro vs cs r q
  cases r
  cases q
  rfl
 |
  cons d0 ds ih=>
  intro vs cs r q
  cases r with
  |
   cons r rr=>
   unfold wj at q
   split at q
   ·rename_i c cs' e1 e2
    cases q
    rw[Qc,Du (.inl r) e1,ih rr e2];rfl
   ·cases q
def H9(kt:jl):RFn (rS kt) (Cb kt):=λP h ds vs r=>by
 unfold Cb
 split
 ·rename_i v c
  obtain⟨d,d',rfl,r1,r2⟩:=wg r
  split
  ·rename_i t c0 cr e1 e2
   have e3:=LC r1 e1
   split
   ·rename_i b b' e4 e5
    refine⟨.bl b,?_,.bl b⟩
    unfold rS
    dsimp only
    rw[e3]
    dsimp only
    by_cases ht:∃cs,c=.tup cs
    ·obtain⟨cs,rfl⟩:=ht
     obtain⟨es,rfl,q⟩:=r2.tup
     dsimp only
     rw[JT q e2]
     dsimp only
     rw[e4,e5]
    ·have e2':(clV c).map ([·])=some (c0::cr):=by
      cases c with
      |tup cs=>exact absurd ⟨cs,rfl⟩ ht
      |_=>exact e2
     obtain⟨cl,y1,y2⟩:=M_.mp e2'
     cases y2
     have y3:=Du r2 y1
     have hd:∀cs,d' ≠ .tup cs:=λcs z=>by subst z;cases y3
     split
     ·rename_i cs;exact absurd rfl (hd cs)
     ·rw[y3]
      dsimp only
      have:kit kt t c0=some b:=by
       unfold fD at e4
       rw[e5] at e4 ⊢
       cases b' with
       |true=>exact e4
       |false=>unfold fD at e4;exact e4
      rw[this]
   ·trivial
  ·trivial
 ·trivial
def fX(xs:List Val)(lo hi:Option Int):List Val:=(xs.drop (HT.sIx xs.length 0 lo)).take (HT.sIx xs.length xs.length hi-HT.sIx xs.length 0 lo)
abbrev MO3:=E3->R3 (Option Int)
def Ba(_:Ns)(_:E3)(_:AH)(b c:Option Int):Prop:=b=c
def ROp(F:MO)(G:MO3):Prop:=∀X h0 ns e ae h,Sat X h0 ns e ae h->Po X h0 ns e ae h Ba (F ae h) (G e)
def zb:MO3:=λe=>.ok none e
noncomputable def zO(F:ME3):MO3:=λe=>(F e).bind λt e1=>match rs e1 t with
 |some (.int i)=>.ok (some i) e1
 |_=>.stuck
noncomputable def aSl(x:Val)(lo hi:Option Int):Bv:=match x with
 |.tup xs=>if HT.sIx xs.length 0 lo=0/\HT.sIx xs.length xs.length hi=xs.length then .stuck else .val (.tup (fX xs lo hi))
 |.lst xs=>.new (.lst (fX xs lo hi))
 |.kl xs=>.new (.lst (fX xs lo hi))
 |_=>.stuck
noncomputable def vSl(F:ME3)(L U:MO3):ME3:=λe=>(F e).bind λt e1=>(L e1).bind λlo e2=>(U e2).bind λhi e3=>match rs e3 t.drop with
 |some v=>(aSl v lo hi).at e3
 |none=>.stuck
def Er:ROp wX zb:=λX h0 ns e ae h S=>Po.ret S rfl
def Ec(hF:RE F F3):ROp (vZ F) (zO F3):=λX h0 ns e ae h S=>
 Po.bind S (hF X h0 0 ns e ae h S (OH _)) λd t h1 ns1 e1 a1 S1 r1=>by
  by_cases hq:∃i,rs e1 t=some (.int i)
  ·obtain⟨i,hq⟩:=hq
   have hd:=(r1.sh S1 hq).int
   subst hd
   show Po X h0 ns1 e1 ae h1 Ba (R.ok (some i) h1) (match rs e1 t with |some (.int i)=>R3.ok (some i) e1 |_=>.stuck)
   rw[hq]
   exact Po.ret S1 rfl
  ·have:(match rs e1 t with |some (.int i)=>R3.ok (some i) e1 |_=>.stuck)=(.stuck:R3 (Option Int)):=by
    split
    ·rename_i i q;exact absurd ⟨i,q⟩ hq
    ·rfl
   show Po X h0 ns1 e1 ae h1 Ba _ (match rs e1 t with |some (.int i)=>R3.ok (some i) e1 |_=>.stuck)
   rw[this];trivial
def ND(hF:RE F F3)(hL:ROp L L3')(hU:ROp U U3):RE (eSl F L U) (vSl F3 L3' U3):=λX h0 LL ns e ae h S hl=>
 Po.bind
  S (hF X h0 LL ns e ae h S hl) λd t h1 ns1 e1 a1 S1 r1=>Po.bind S1 (hL X h0 ns1 e1 ae h1 S1) λlo lo' h2 db e2 a2 S2 r2=>Po.bind S2 (hU X h0 db e2 ae h2 S2) λhi hi' h3 ns3 e3 a3 S3 r3=>by
  cases r2;cases r3
  obtain⟨r1',hn⟩:=r1.drop
  have r4:=(r1'.stp S1 a2 hn).stp S2 a3 hn
  try dsimp only
  split
  ·rename_i v q
   have rr:=r4.sh S3 q
   refine BvR.po S3 (F_ hl (F_ a1.len (F_ a2.len a3.len))) ?_
   unfold aSl
   split
   ·rename_i xs
    obtain⟨ds,rfl,q1⟩:=rr.tup
    split
    ·trivial
    ·rename_i hne
     refine⟨_,by unfold gSl;dsimp only;rw[if_neg (by rw[q1.len];exact hne)],.tup ?_⟩
     unfold L2.cutD fX
     rw[q1.len]
     exact (q1.drop _).take _
   ·rename_i xs
    obtain⟨n,ds,rfl,_,e1,q1⟩:=rr.lst
    refine⟨.lst (L2.cutD ds lo hi),by unfold gSl;dsimp only;rw[e1],trivial,.lst ?_⟩
    unfold L2.cutD fX
    rw[q1.len]
    exact (q1.drop _).take _
   ·rename_i xs
    have key:∃ds,gSl d lo hi h3=.ok (.ref h3.length) (h3++[.lst (L2.cutD ds lo hi)])/\Rds (Oc X ns3) h3 ds xs:=by
     rcases rr with rr |⟨n,o,rfl,e,rr⟩
     ·cases rr with
      |kl q1=>exact⟨_,rfl,q1⟩
      |cell p e rc=>cases rc with |fz q1=>exact⟨_,by unfold gSl aV;dsimp only;rw[e],q1⟩
     ·cases rr with |fz q1=>exact⟨_,by unfold gSl aV;dsimp only;rw[e],q1⟩
    obtain⟨ds,e1,q1⟩:=key
    refine⟨.lst (L2.cutD ds lo hi),e1,trivial,.lst ?_⟩
    unfold L2.cutD fX
    rw[q1.len]
    exact (q1.drop _).take _
   ·trivial
  ·trivial
noncomputable def nU:Val->List Val->Option (Val×Val):=λu vs=>match u,vs with
 |.lst xs,[v]=>if xs.length<16777216 then some (.lst (xs++[v]),.non) else none
 |_,_=>none
noncomputable def tM:Val->List Val->Option (Val×Val):=λu vs=>match u,vs with
 |.lst xs,[]=>(match xs[xs.length-1]? with
  |some v=>some (.lst xs.dropLast,v)
  |none=>none)
 |_,_=>none
section
variable{P:Nat->Prop}{h:AH}
def lO(e:h[n]?=some o)(r:Rc P h o (.lst xs)):ju h (.ref n)=true/\∃ds,h[n]?=some (.lst ds)/\Rds P h ds xs/\∀f,gr h (.ref n) f=f n ds:=by
 obtain⟨ds,e1,e2,q⟩:=Rc.seq e r
 refine⟨by show (aV h n).isSome=true;rw[e2];rfl,ds,e1,q,λf=>?_⟩
 unfold gr;dsimp only;rw[e1]
def xg(r:Rds P h ds [v]):∃d,ds=[d]/\Rd P h d v:=by
 cases r with |cons r rr=>cases rr;exact⟨_,rfl,r⟩
end
def xI:RM cP nU:=λP h n o u ds vs u' v e hf r rs q=>by
 unfold nU at q
 split at q
 ·split at q
  ·rename_i hl
   cases q
   obtain⟨q1,es,q2,q3,q4⟩:=lO e r
   obtain⟨d,rfl,rd⟩:=xg rs
   refine⟨q1,.lst (es++[d]),.non,?_,trivial,.lst (q3.append (.cons rd .nil)),.non⟩
   unfold cP;rw[q4];dsimp only;rw[if_pos (by rw[q3.len];exact hl)]
  ·cases q
 ·cases q
def J5:RM v3 tM:=λP h n o u ds vs u' v e hf r rs q=>by
 unfold tM at q
 split at q
 ·split at q
  ·rename_i w hw
   cases q
   obtain⟨q1,es,q2,q3,q4⟩:=lO e r
   cases rs
   obtain⟨d,e2,rd⟩:=q3.get hw
   refine⟨q1,.lst es.dropLast,d,?_,trivial,.lst ?_,rd⟩
   ·unfold v3;rw[q4];dsimp only;rw[q3.len,e2]
   ·rw[Qb,Qb,q3.len];exact q3.take _
  ·cases q
 ·cases q
noncomputable def sL:Val->Val->Val->Option Val:=λu i v=>match u,i with
 |.lst xs,.int k=>(match ixN xs.length k with
  |some j=>some (.lst (xs.set j v))
  |none=>none)
 |_,_=>none
def JZ:wm wL sL:=λP h n o u di vi d v u' _ e hf r ri rd q=>by
 unfold sL at q
 split at q
 ·split at q
  ·rename_i j hj
   cases q
   obtain⟨q1,es,q2,q3,q4⟩:=lO e r
   obtain rfl:=ri.int
   refine⟨.lst (es.set j d),?_,trivial,.lst (q3.set rd j)⟩
   unfold wL;dsimp only;rw[q2];dsimp only;rw[q3.len,hj]
  ·cases q
 ·cases q
def vD0:ME3:=λe=>.ok (.new (.dct [])) e
def MC:RE eD0 vD0:=λX h0 L ns e ae h S hl=>BvR.po (r:=eD0 ae h) (b:=.new (.dct [])) S hl ⟨.dct [],rfl,trivial,.dct .nil⟩
structure PEx where
 F:ME
 G:ME3
 ok:RE F G
structure PTs where
 F:MT
 G:MT3
 ok:RT F G
structure PAs where
 F:MA
 G:MA3
 ok:RA F G
structure PSt where
 F:MS
 G:MS3
 ok:RS F G
structure PGt where
 F:MG
 G:MG3
 ok:RG F G
structure PGs where
 F:MGs
 G:jN
 ok:RGs F G
structure PIt where
 F:MI
 G:MI3
 ok:RI F G
structure POp where
 F:MO
 G:MO3
 ok:ROp F G
structure PO2 where
 F:D->D->AH->R D
 G:Val->Val->Bv
 ok:RO F G
structure PU1 where
 F:D->AH->R D
 G:Val->Bv
 ok:RU F G
structure PBf where
 F:Fn
 G:List Val->Bv
 ok:RFn F G
structure PMm where
 F:D->List D->AH->R D
 G:Val->List Val->Option (Val×Val)
 ok:RM F G
structure PMv where
 F:D->List D->AH->R D
 G:Val->List Val->Bv
 ok:RMv F G
structure PSe where
 F:D->D->D->AH->R Unit
 G:Val->Val->Val->Option Val
 ok:wm F G
structure PFn where
 ms:List Bool
 F:Fn
 G:Fn3
 ok:RF ms F G
structure PFx(ms:List Bool) where
 F:Fn
 G:Fn3
 ok:RF ms F G
noncomputable section
def PFx.fn{ms:List Bool}(p:PFx ms):PFn:=⟨ms,p.F,p.G,p.ok⟩
def af(i:Nat):PEx:=⟨aM i,Cg i,Ke i⟩
def ah(i:Int):PEx:=⟨eC (.int i),vC (.int i),lL λ_ _=>.int i⟩
def pBl(i:Bool):PEx:=⟨eC (.bl i),vC (.bl i),lL λ_ _=>.bl i⟩
def aG(i:Str):PEx:=⟨eC (.str i),vC (.str i),lL λ_ _=>.str i⟩
def ir:PEx:=⟨eC .non,vC .non,lL λ_ _=>.non⟩
def pTy(i:String):PEx:=⟨eC (.ty i),vC (.ty i),lL λ_ _=>.ty i⟩
def jY(i:Str):PEx:=⟨eC (.glb i),vC (.glb i),lL λ_ _=>.glb i⟩
def sA(d:D)(v:Val)(r:∀P h,Rd P h d v):PEx:=⟨eC d,vC v,lL r⟩
def pUn(o:PU1)(a:PEx):PEx:=⟨eUn o.F a.F,vUn o.G a.G,Nf o.ok a.ok⟩
noncomputable def pOp(o:PO2)(a b:PEx):PEx:=⟨eOp o.F a.F b.F,vOp o.G a.G b.G,MR o.ok a.ok b.ok⟩
def ag:PAs:=⟨dW,nz,xW⟩
def aa(a:PEx)(r:PAs):PAs:=⟨dm a.F r.F,Dv a.G r.G,E9 a.ok r.ok⟩
def pFn(o:PBf)(a:PAs):PEx:=⟨eFn o.F a.F,vFn o.G a.G,MW o.ok a.ok⟩
def a0(a:PAs):PEx:=⟨eFn mR a.F,vTup a.G,JW a.ok⟩
def cH(a:PAs):PEx:=⟨eFn bI a.F,vLst a.G,IW a.ok⟩
def fi(a b:PEx):PEx:=⟨BB a.F b.F,vAnd a.G b.G,Jk a.ok b.ok⟩
def nj(a:PEx):PEx:=⟨Ct a.F,vNot a.G,Kd a.ok⟩
noncomputable def pIf(c:PTs)(a b:PEx):PEx:=⟨eIf c.F a.F b.F,vIf c.G a.G b.G,L8 c.ok a.ok b.ok⟩
def qOf(a:PEx):PTs:=⟨tOf a.F,cOf a.G,Oo a.ok⟩
def qTr(a:PEx):PTs:=⟨tTr a.F,cTr a.G,Nd a.ok⟩
def qAn(a b:PTs):PTs:=⟨tAn a.F b.F,cAn a.G b.G,Mv a.ok b.ok⟩
def qO(a b:PTs):PTs:=⟨tO a.F b.F,cO a.G b.G,rt_o a.ok b.ok⟩
def qNo(a:PTs):PTs:=⟨tNo a.F,cNo a.G,NN a.ok⟩
def qY:PTs:=⟨tY,cY,rt_y⟩
def xNx:PSt:=⟨sNx,wNx,Nj⟩
def wc:PSt:=⟨wH,CT,Fl⟩
def aw(a:PEx):PSt:=⟨Cf a.F,wRet a.G,JM a.ok⟩
def bH(a:PEx):PSt:=⟨gp a.F,CH a.G,Fp a.ok⟩
def ao(a b:PSt):PSt:=⟨gF a.F b.F,wSeq a.G b.G,JQ a.ok b.ok⟩
noncomputable def xIf(c:PTs)(a b:PSt):PSt:=⟨sIf c.F a.F b.F,wIf c.G a.G b.G,M7 c.ok a.ok b.ok⟩
noncomputable def az(o:Bool)(i:Nat)(a:PEx):PSt:=⟨f6 a.F (gN i),wAsg o i a.G,H0 o i a.ok⟩
def gtN(i:Nat):PGt:=⟨gN i,pN i,sT i⟩
def bu:PGs:=⟨gsN,psN,MJ⟩
def ax(a:PGt)(b:PGs):PGs:=⟨gsC a.F b.F,psC a.G b.G,Ox a.ok b.ok⟩
noncomputable def gtT(n:Nat)(a:PGs):PGt:=⟨gT λds ae h=>if ds.length=n then a.F ds ae h else .stuck,pT n a.G,rg_t n a.ok⟩
def gtX(a:PGt):PGt:=⟨λd ae h=>noX (a.F d ae h),a.G,JV a.ok⟩
def fR(a:PEx)(g:PGt):PSt:=⟨f6 a.F g.F,CY a.G g.G,DX a.ok g.ok⟩
def eR(i j:Nat)(a:PAs):PSt:=⟨Aw i j a.F,wPar i j a.G,Jj i j a.ok⟩
def Cy(i:Nat)(o:PO2)(a:PEx):PSt:=⟨sF i o.F a.F,Cm i o.G a.G,GN i o.ok a.ok⟩
def er(c:Str)(a:PAs):PSt:=⟨sW c a.F,yI c a.G,Ag c a.ok⟩
noncomputable def rO(i:Nat)(w:PSe)(k a:PEx):PSt:=⟨f6 a.F (gS (aM i) k.F w.F),wSet i k.G a.G w.G,Ht i w.ok k.ok a.ok⟩
noncomputable def AX(mro:List Str)(i:Nat)(b u:PSt):PSt:=⟨rJ mro i b.F u.F,tE mro i b.G u.G,Jc mro i b.ok u.ok⟩
noncomputable def jO(i:Nat)(m:PMm)(a:PAs):PEx:=⟨eM m.F (aM i) a.F,lu i m.G a.G,xU i m.ok a.ok⟩
def pY(i:Nat)(m:PMm):PEx:=⟨eM0 m.F (aM i),lu i m.G nz,Dy i m.ok⟩
def bY(a:PEx):PIt:=⟨Bh a.F,Dc a.G,GY a.ok⟩
def gn(a:PAs):PIt:=⟨BU a.F,Cu fZ a.G,Iy a.ok⟩
def iZ(a:PAs):PIt:=⟨Be a.F,Dk a.G,JJ a.ok⟩
def wF(a:PAs):PIt:=⟨AV a.F,C8 a.G,Kq a.ok⟩
def dC(i:PIt)(g:PGt)(b:PSt):PSt:=⟨nQ i.F g.F b.F,wFor i.G g.G b.G,Km i.ok g.ok b.ok⟩
def xWh(c:PTs)(b:PSt):PSt:=⟨sWh c.F b.F,wWh c.G b.G,Mm c.ok b.ok⟩
def pLC(i:PIt)(sub:Rh)(hs:(sub.filterMap id).Nodup)(g:PGt)(c:PTs)(a:PEx):PEx:=⟨eLC i.F sub g.F c.F a.F,vLC i.G sub g.G c.G a.G,MF hs i.ok g.ok c.ok a.ok⟩
noncomputable def ak(f:PFn)(a:PAs):PEx:=⟨vD f.ms.length f.F a.F,Df f.ms f.G a.G,Ef rfl f.ok a.ok⟩
def oN:POp:=⟨wX,zb,Er⟩
def oS(a:PEx):POp:=⟨vZ a.F,zO a.G,Ec a.ok⟩
noncomputable def pSl(a:PEx)(l u:POp):PEx:=⟨eSl a.F l.F u.F,vSl a.G l.G u.G,ND a.ok l.ok u.ok⟩
def pD0:PEx:=⟨eD0,vD0,MC⟩
def PFx.none(ms:List Bool)(N:Nat:=0):PFx ms:=⟨λ_ _=>.stuck,λ_=>.stuck,λ_ _ _ _ _ _ _=>trivial⟩
def PFx.of(ms:List Bool)(N:Nat)(c:PSt):PFx ms:=⟨fnD N c.F,fnV ms N c.G,CK c.ok⟩
def fnP(ms:List Bool)(N:Nat)(c:PSt):PFn:=⟨ms,fnD N c.F,fnV ms N c.G,CK c.ok⟩
def aT:PO2:=⟨xu,AY,J9⟩
def eW:PO2:=⟨BX,aMin,Ko⟩
def bU:PO2:=⟨zU,vR,Ld⟩
def jk:PO2:=⟨Bz,vV,Hs⟩
def b9:PO2:=⟨BO,vX,II⟩
def gf:PO2:=⟨Al,wM,KW⟩
def qT:PO2:=⟨Ap,wK,Gz⟩
def bLt:PO2:=⟨gLt,aLt,MQ⟩
def bLe:PO2:=⟨gLe,aLe,Oi⟩
def bGt:PO2:=⟨gGt,aGt,Mn⟩
def bGe:PO2:=⟨gGe,aGe,Lo⟩
def bIx:PO2:=⟨gIx,aIx,NX⟩
def bEq:PO2:=⟨gEq false,aEq false,CM false⟩
def bNe:PO2:=⟨gEq true,aEq true,CM true⟩
def bIn:PO2:=⟨gIn false,aIn false,M5 false⟩
def bIs:PO2:=⟨jT false,v7 false,yZ false⟩
def oh:PO2:=⟨jT true,v7 true,yZ true⟩
def AS:PO2:=⟨gI λi j=>.int (i+j),aI λi j=>.int (i+j),nT λ_ _ _ _=>.int _⟩
def B0:PU1:=⟨vH,Br,J1⟩
def bM:PBf:=⟨sH,A9,Js⟩
def fL:PBf:=⟨xw,Bo,JA⟩
def sI:PBf:=⟨qc,wu,EX⟩
def lU:PBf:=⟨p7,wY,Gi⟩
def qh:PBf:=⟨sf,AR,Gu⟩
def kq:PBf:=⟨tq,AK,G6⟩
def nO:PBf:=⟨jL,tN,Cc⟩
def aQ(kt:jl):PBf:=⟨rS kt,Cb kt,H9 kt⟩
def gP:PMm:=⟨cP,nU,xI⟩
def qb:PMm:=⟨v3,tM,J5⟩
def seL:PSe:=⟨wL,sL,JZ⟩
end
theorem nC:∀(ns:List Int),Rds P h (ns.map D.int) (ns.map Val.int)
 | []=>.nil
 |_::r=>.cons (.int _) (nC r)
def law3(p:PFn)(hm:p.ms=[false])(hG:∀ns:List Int,ns.length<=63->p.G [.kl (ns.map .int)]=.ok (.val (.bl true)) [])(d:D)(h:AH)(ns:List Int)(hl:ns.length<=63)(sc:Script h d ns):∃h',p.F [d] h=.ok (.bl true) h':=by
 have hp:=p.ok
 rw[hm] at hp
 have rd:Rd (Oc (λ_=>False) [none]) h d (.kl (ns.map .int)):=by
  rcases sc.form with ⟨n,rfl,e⟩ |rfl
  ·exact .cell ⟨λz=>z,by simp⟩ e (.fz (nC ns))
  ·exact .kl (nC ns)
 have S:Sat (λ_=>False) h.length [none] (sls [false] [.kl (ns.map .int)]) ([d].map some) h:=by
  refine⟨rfl,rfl,m_ _,λ_ z=>z.elim,λi j n q=>?_,λi n q z=>z,λi s q=>?_⟩
  ·cases i with
   |zero=>simp at q
   |succ i=>simp at q
  ·cases i with
   |
    zero=>
    have:sl1 false (.kl (ns.map .int))=s:=by simpa [sls] using q
    subst this
    exact⟨rfl,d,rfl,rd⟩
   |succ i=>simp [sls] at q
 have:=hp _ _ [d] [.kl (ns.map .int)] h rfl S
 rw[hG ns hl] at this
 obtain⟨d',h',e,_,_,r⟩:=this
 cases r with
 |bl=>exact⟨h',e⟩
 |cell p e r=>cases r
section
variable(e:E3)
@[simp] theorem iY(a:α)(f:α->E3->R3 β):(R3.ok a e).bind f=f a e:=rfl
@[simp] theorem Nq(a:α)(f:α->E3->SR3):(R3.ok a e).toS f=f a e:=rfl
@[simp] theorem Hx(c:Str)(f:α->E3->SR3):(R3.exc c e:R3 α).toS f=.exc c e:=rfl
@[simp] theorem NQ(f:E3->SR3):(SR3.nx e).then f=f e:=rfl
@[simp] theorem NU(r:Rt)(f:E3->SR3):(SR3.rt r e).then f=.rt r e:=rfl
@[simp] theorem Jl(c:Str)(f:E3->SR3):(SR3.exc c e).then f=.exc c e:=rfl
@[simp] theorem mQ(f:E3->SR3):(SR3.nx e).loop f=f e:=rfl
@[simp] theorem vF(f:E3->SR3):(SR3.ct e).loop f=f e:=rfl
@[simp] theorem Oe(r:Rt)(f:E3->SR3):(SR3.rt r e).loop f=.rt r e:=rfl
@[simp] theorem Mr(r:SR3):r.unl none=r:=by cases r <;> rfl
@[simp] theorem Ax:lockO e none=e:=rfl
@[simp] theorem wU:eJ e none=e:=rfl
@[simp] theorem HK(v:Val):(Bv.val v).at e=.ok (.val v) e:=rfl
@[simp] theorem Kf(v:Val):(Bv.new v).at e=.ok (.new v) e:=rfl
@[simp] theorem Kb(v:Val):rs e (.val v)=some v:=rfl
@[simp] theorem Ky(v:Val):rs e (.new v)=some v:=rfl
@[simp] theorem HR(i:Nat):rs e (.bor i)=(e[i]?).bind Sl.val:=rfl
@[simp] theorem Jy(v:Val):(Tm.val v).drop=.val v:=rfl
@[simp] theorem IJ(v:Val):(Tm.new v).drop=.val v:=rfl
@[simp] theorem Ka(i:Nat):(Tm.bor i).drop=.bor i:=rfl
@[simp] theorem EU:rss e []=some []:=rfl
@[simp] theorem BN(t:Tm)(ts:List Tm):rss e (t::ts)=match rs e t,rss e ts with
 |some v,some vs=>some (v::vs)
 |_,_=>none:=rfl
@[simp] theorem G9(v:Val):cz e (.val v)=some (e,v):=rfl
@[simp] theorem zi:dem e []=some (e,[]):=rfl
@[simp] theorem Fs(t:Tm)(ts:List Tm):dem e (t::ts)=match cz e t with
 |some (e1,v)=>match dem e1 ts with
  |some (e2,vs)=>some (e2,v::vs)
  |none=>none
 |none=>none:=rfl
@[simp] theorem Jr(b:Bool):bOf (some (.bl b))=some b:=rfl
@[simp] theorem Ni(i:Nat):(af i).G e=match e[i]? with
 |some (.sh v)=>.ok (.val v) e
 |some .no=>.stuck
 |some _=>.ok (.bor i) e
 |none=>.stuck:=rfl
@[simp] theorem Me(i:Int):(ah i).G e=.ok (.val (.int i)) e:=rfl
@[simp] theorem v_bl(i:Bool):(pBl i).G e=.ok (.val (.bl i)) e:=rfl
@[simp] theorem Nw(i:Str):(aG i).G e=.ok (.val (.str i)) e:=rfl
@[simp] theorem L5:ir.G e=.ok (.val .non) e:=rfl
@[simp] theorem v_ty(i:String):(pTy i).G e=.ok (.val (.ty i)) e:=rfl
@[simp] theorem LO(i:Str):(jY i).G e=.ok (.val (.glb i)) e:=rfl
@[simp] theorem v_un(o:PU1)(a:PEx):(pUn o a).G e=(a.G e).bind λt e1=>match rs e1 t with
 |some v=>(o.G v).at e1
 |none=>.stuck:=rfl
@[simp] theorem v_op(o:PO2)(a b:PEx):(pOp o a b).G e=(a.G e).bind λt1 e1=>(b.G e1).bind λt2 e2=>match rs e2 t1.drop,rs e2 t2 with
 |some v1,some v2=>(o.G v1 v2).at e2
 |_,_=>.stuck:=rfl
@[simp] theorem Mq:ag.G e=.ok [] e:=rfl
@[simp] theorem KO(a:PEx)(r:PAs):(aa a r).G e=(a.G e).bind λt e1=>(r.G e1).bind λts e2=>.ok (t.drop::ts) e2:=rfl
@[simp] theorem v_fn(o:PBf)(a:PAs):(pFn o a).G e=(a.G e).bind λts e1=>match rss e1 ts with
 |some vs=>(o.G vs).at e1
 |none=>.stuck:=rfl
@[simp] theorem Ow(a:PAs):(a0 a).G e=(a.G e).bind λts e1=>match dem e1 ts with
 |some (e2,vs)=>if vs.length<=16777216 then .ok (.val (.tup vs)) e2 else .stuck
 |none=>.stuck:=rfl
@[simp] theorem N6(a:PAs):(cH a).G e=(a.G e).bind λts e1=>match dem e1 ts with
 |some (e2,vs)=>if vs.length<=16777216 then .ok (.new (.lst vs)) e2 else .stuck
 |none=>.stuck:=rfl
@[simp] theorem Ol(a b:PEx):(fi a b).G e=(a.G e).bind λt e1=>match bOf (rs e1 t) with
 |some true=>b.G e1
 |some false=>.ok (.val (.bl false)) e1
 |none=>.stuck:=rfl
@[simp] theorem Mh(a:PEx):(nj a).G e=(a.G e).bind λt e1=>match bOf (rs e1 t) with
 |some b=>.ok (.val (.bl (!b))) e1
 |none=>.stuck:=rfl
@[simp] theorem v_if(c:PTs)(a b:PEx):(pIf c a b).G e=(c.G e).bind λk e1=>if k=true then a.G e1 else b.G e1:=rfl
@[simp] theorem c_of(a:PEx):(qOf a).G e=(a.G e).bind λt e1=>match bOf (rs e1 t) with
 |some b=>.ok b e1
 |none=>.stuck:=rfl
@[simp] theorem c_tr(a:PEx):(qTr a).G e=(a.G e).bind λt e1=>match (rs e1 t).bind jU with
 |some b=>.ok b e1
 |none=>.stuck:=rfl
@[simp] theorem c_an(a b:PTs):(qAn a b).G e=(a.G e).bind λk e1=>if k=true then b.G e1 else .ok false e1:=rfl
@[simp] theorem c_o(a b:PTs):(qO a b).G e=(a.G e).bind λk e1=>if k=true then .ok true e1 else b.G e1:=rfl
@[simp] theorem c_no(a:PTs):(qNo a).G e=(a.G e).bind λk e1=>.ok (!k) e1:=rfl
@[simp] theorem x_nx:xNx.G e=.nx e:=rfl
@[simp] theorem Iq:wc.G e=.rt (.val .non) e:=rfl
@[simp] theorem Nv(a:PEx):(aw a).G e=(a.G e).toS oA:=rfl
@[simp] theorem EZ(v:Val):oA (.val v) e=.rt (.val v) e:=rfl
@[simp] theorem FJ(v:Val):oA (.new v) e=.rt (.new v) e:=rfl
@[simp] theorem EE(i:Nat):oA (.bor i) e=match e[i]? with
 |some (.sh v)=>.rt (.val v) e
 |some (.ow v)=>.rt (.new v) (e.set i .no)
 |some (.mu _)=>.rt (.par i) e
 |_=>.stuck:=rfl
@[simp] theorem Jd(a:PEx):(bH a).G e=(a.G e).toS λ_ e1=>.nx e1:=rfl
@[simp] theorem CJ(a b:PSt):(ao a b).G e=(a.G e).then b.G:=rfl
@[simp] theorem x_if(c:PTs)(a b:PSt):(xIf c a b).G e=(c.G e).toS λk e1=>if k=true then a.G e1 else b.G e1:=rfl
@[simp] theorem Nn(o:Bool)(i:Nat)(a:PEx):(az o i a).G e=(a.G e).toS (ik o i):=rfl
@[simp] theorem LS:Sl.no.pl=true:=rfl
@[simp] theorem Ll(v:Val):(Sl.sh v).pl=true:=rfl
@[simp] theorem Fg(o:Bool)(i:Nat)(v:Val):ik o i (.val v) e=match e[i]? with
 |some s0=>if s0.pl=true then .nx (e.set i (.sh v)) else .stuck
 |none=>.stuck:=by unfold ik;rfl
@[simp] theorem Ae(i:Nat)(v:Val):ik true i (.new v) e=match e[i]? with
 |some s0=>if s0.pl=true then .nx (e.set i (.ow v)) else .stuck
 |none=>.stuck:=by unfold ik;rfl
@[simp] theorem B1(i:Nat)(v:Val):ik false i (.new v) e=match e[i]? with
 |some s0=>if s0.pl=true then .nx (e.set i (.sh v)) else .stuck
 |none=>.stuck:=by unfold ik;rfl
@[simp] theorem g_n(i:Nat)(v:Val):(gtN i).G v e=match e[i]? with
 |some s=>if s.pl=true then some (e.set i (.sh v)) else none
 |none=>none:=rfl
@[simp] theorem g_sn:bu.G [] e=some e:=rfl
@[simp] theorem g_sc(a:PGt)(b:PGs)(v:Val)(vs:List Val):(ax a b).G (v::vs) e=(a.G v e).bind λe1=>b.G vs e1:=rfl
@[simp] theorem g_t(n:Nat)(a:PGs)(vs:List Val):(gtT n a).G (.tup vs) e=if vs.length=n then a.G vs e else none:=rfl
@[simp] theorem g_x(a:PGt)(v:Val):(gtX a).G v e=a.G v e:=rfl
@[simp] theorem HD(a:PEx)(g:PGt):(fR a g).G e=(a.G e).toS λt e1=>match cz e1 t with
 |some (e2,v)=>match g.G v e2 with
  |some e3=>.nx e3
  |none=>.stuck
 |none=>.stuck:=rfl
@[simp] theorem LY(i j:Nat)(a:PAs):(eR i j a).G e=(a.G e).toS λts e1=>match dem e1 ts with
 |some (e2,[v,u])=>match (pN i v e2).bind (pN j u) with
  |some e3=>.nx e3
  |none=>.stuck
 |_=>.stuck:=rfl
@[simp] theorem NK(i:Nat)(v:Val):pN i v e=match e[i]? with
 |some s=>if s.pl=true then some (e.set i (.sh v)) else none
 |none=>none:=rfl
@[simp] theorem M3(i:Nat)(o:PO2)(a:PEx):(Cy i o a).G e=match e[i]? with
 |some (.sh x)=>(a.G e).toS λt e1=>match rs e1 t with
  |some y=>match o.G x y with
   |.val z=>match pN i z e1 with
    |some e2=>.nx e2
    |none=>.stuck
   |_=>.stuck
  |none=>.stuck
 |_=>.stuck:=rfl
@[simp] theorem Fm(c:Str)(a:PAs):(er c a).G e=(a.G e).toS λts e1=>if ts.length<=16777216 then .exc c e1 else .stuck:=rfl
@[simp] theorem MX(i:Nat)(w:PSe)(k a:PEx):(rO i w k a).G e=(a.G e).toS λt e1=>match (e1[i]?).bind Sl.mv with
 |none=>.stuck
 |some _=>(k.G e1).toS λt2 e2=>match rs e2 t2 with
  |none=>.stuck
  |some vi=>match cz e2 t.drop with
   |none=>.stuck
   |some (e3,v)=>match e3[i]? with
    |none=>.stuck
    |some s=>match s.mv with
     |none=>.stuck
     |some u=>match w.G u vi v with
      |some u'=>.nx (e3.set i (s.re u'))
      |none=>.stuck:=rfl
@[simp] theorem Mi(v:Val):(Sl.ow v).mv=some v:=rfl
@[simp] theorem Mw(v:Val):(Sl.mu v).mv=some v:=rfl
@[simp] theorem Ot(v u:Val):(Sl.ow v).re u=.ow u:=rfl
@[simp] theorem Mg(v u:Val):(Sl.mu v).re u=.mu u:=rfl
@[simp] theorem Lf(v:Val):(Sl.ow v).val=some v:=rfl
@[simp] theorem JK(v:Val):(Sl.mu v).val=some v:=rfl
@[simp] theorem Oq(mro:List Str)(i:Nat)(b u:PSt):(AX mro i b u).G e=tE mro i b.G u.G e:=rfl
@[simp] theorem Na(i:Nat)(m:PMm)(a:PAs):(jO i m a).G e=match e[i]? with
 |some s=>if (s.mv.map jt)=some true then (a.G e).bind λts e1=>match dem e1 ts with
  |some (e2,vs)=>match e2[i]? with
   |some s2=>match s2.mv with
    |some u=>match m.G u vs with
     |some (u',v)=>.ok (.val v) (e2.set i (s2.re u'))
     |none=>.stuck
    |none=>.stuck
   |none=>.stuck
  |none=>.stuck else .stuck
 |none=>.stuck:=rfl
@[simp] theorem IG(i:Nat)(m:PMm):(pY i m).G e=match e[i]? with
 |some s=>if (s.mv.map jt)=some true then (match s.mv with
  |some u=>match m.G u [] with
   |some (u',v)=>.ok (.val v) (e.set i (s.re u'))
   |none=>.stuck
  |none=>.stuck) else .stuck
 |none=>.stuck:=by
 show lu i m.G nz e=_
 unfold lu
 cases q:e[i]? with
 |none=>rfl
 |
  some s=>
  dsimp only
  split
  ·simp only[nz,iY,zi,q];try rfl
  ·rfl
@[simp] theorem BV(xs:List Val):jt (.lst xs)=true:=rfl
@[simp] theorem MZ(a:PEx):(bY a).G e=(a.G e).bind λt e1=>match dX t e1 with
 |some p=>.ok p e1
 |none=>.stuck:=rfl
@[simp] theorem NF(a:PAs):(iZ a).G e=(a.G e).bind λts e1=>match ts with
 | [t]=>(match dX t e1 with
  |some p=>.ok (fg 0 p.1,p.2) e1
  |none=>.stuck)
 |_=>.stuck:=rfl
@[simp] theorem LD(a:PAs):(wF a).G e=(a.G e).bind λts e1=>match ts with
 | [t,u]=>(match dX t e1,dX u e1 with
  |some (xs,k),some (ys,none)=>.ok (List.zipWith (λx y=>.tup [x,y]) xs ys,k) e1
  |_,_=>.stuck)
 |_=>.stuck:=rfl
@[simp] theorem Ip(v:Val):dX (.val v) e=(hZ v).map λxs=>(xs,none):=rfl
@[simp] theorem JH(v:Val):dX (.new v) e=(hZ v).map λxs=>(xs,none):=rfl
@[simp] theorem HY(xs:List Val):hZ (.tup xs)=some xs:=rfl
@[simp] theorem JP(xs:List Val):hZ (.lst xs)=some xs:=rfl
@[simp] theorem Nz(a:PAs):(gn a).G e=(a.G e).bind λts e1=>match (rss e1 ts).bind fZ with
 |some xs=>.ok (xs,none) e1
 |none=>.stuck:=rfl
@[simp] theorem Ma(i:PIt)(g:PGt)(b:PSt):(dC i g b).G e=(i.G e).toS λp e1=>(cq g.G b.G p.1 (lockO e1 p.2)).unl p.2:=rfl
@[simp] theorem nB(g:MG3)(B:MS3):cq g B [] e=.nx e:=rfl
theorem cU(g:MG3)(B:MS3)(v:Val)(vs:List Val):cq g B (v::vs) e=match g v e with
 |some e1=>(B e1).loop (cq g B vs)
 |none=>.stuck:=rfl
def jd(c:PTs)(b:PSt):(xWh c b).G e=(c.G e).toS λk e1=>if k=true then (b.G e1).loop (xWh c b).G else .nx e1:=A7 c.G b.G e
@[simp] theorem v_lc(i:PIt)(sub:Rh)(hs:(sub.filterMap id).Nodup)(g:PGt)(c:PTs)(a:PEx):(pLC i sub hs g c a).G e=(i.G e).bind λp e1=>match lcV g.G c.G a.G p.1 [] (b8 sub (lockO e1 p.2)) with
 |.ok ys e2=>if ys.length<=16777216 then .ok (.new (.lst ys)) (eJ (bc sub e2 (lockO e1 p.2)) p.2) else .stuck
 |_=>.stuck:=rfl
@[simp] theorem J7(f:PFn)(a:PAs):(ak f a).G e=(a.G e).bind λts e1=>match rss e1 ts with
 |none=>.stuck
 |some vs=>if okA e1 f.ms ts=true then (match f.G vs with
  |.stuck=>.stuck
  |.ok r mv=>if (aX e1 f.ms ts).isEmpty || (j8 r&&mv.all cT) then .ok (r.tm ts) (bc (bT f.ms ts) (aH f.ms mv) e1) else (match nJ e1 (aX e1 f.ms ts) with
   |some e2=>.ok (r.tm ts) (bc (bT f.ms ts) (aH f.ms mv) e2)
   |none=>.stuck)
  |.exc c mv=>if (aX e1 f.ms ts).isEmpty || mv.all cT then .exc c (bc (bT f.ms ts) (aH f.ms mv) e1) else .stuck) else .stuck:=rfl
@[simp] theorem Ju(ts:List Tm)(v:Val):(Rt.val v).tm ts=.val v:=rfl
@[simp] theorem Gn(ts:List Tm)(v:Val):(Rt.new v).tm ts=.new v:=rfl
@[simp] theorem o_n:oN.G e=.ok none e:=rfl
@[simp] theorem o_s(a:PEx):(oS a).G e=(a.G e).bind λt e1=>match rs e1 t with
 |some (.int i)=>.ok (some i) e1
 |_=>.stuck:=rfl
@[simp] theorem v_sl(a:PEx)(l u:POp):(pSl a l u).G e=(a.G e).bind λt e1=>(l.G e1).bind λlo e2=>(u.G e2).bind λhi e3=>match rs e3 t.drop with
 |some v=>(aSl v lo hi).at e3
 |none=>.stuck:=rfl
@[simp] theorem v_d0:pD0.G e=.ok (.new (.dct [])) e:=rfl
theorem aJ(ms:List Bool)(N:Nat)(c:PSt)(vs:List Val):(fnP ms N c).G vs=if vs.length=ms.length then (match c.G (sls ms vs++List.replicate (N-vs.length) .no) with
 |.nx e=>(match muV ms e with |some mv=>.ok (.val .non) mv |none=>.stuck)
 |.rt r e=>(match muV ms e with |some mv=>.ok r mv |none=>.stuck)
 |.exc c e=>(match muV ms e with |some mv=>.exc c mv |none=>.stuck)
 |_=>.stuck) else .stuck:=rfl
theorem kd(ms:List Bool)(N:Nat)(c:PSt)(vs:List Val):(PFx.of ms N c).G vs=if vs.length=ms.length then (match c.G (sls ms vs++List.replicate (N-vs.length) .no) with
 |.nx e=>(match muV ms e with |some mv=>.ok (.val .non) mv |none=>.stuck)
 |.rt r e=>(match muV ms e with |some mv=>.ok r mv |none=>.stuck)
 |.exc c e=>(match muV ms e with |some mv=>.exc c mv |none=>.stuck)
 |_=>.stuck) else .stuck:=rfl
@[simp] theorem Nk(p:PFx ms):p.fn.ms=ms:=rfl
@[simp] theorem fx_G(p:PFx ms)(vs:List Val):p.fn.G vs=p.G vs:=rfl
end
@[simp] theorem Mb(i j:Int):aT.G (.int i) (.int j)=.val (.int (i+j)):=rfl
@[simp] theorem Om(i j:Int):eW.G (.int i) (.int j)=.val (.int (i-j)):=rfl
@[simp] theorem k_lt(i j:Int):bLt.G (.int i) (.int j)=.val (.bl (decide (i<j))):=rfl
@[simp] theorem k_le(i j:Int):bLe.G (.int i) (.int j)=.val (.bl (decide (i<=j))):=rfl
@[simp] theorem k_gt(i j:Int):bGt.G (.int i) (.int j)=.val (.bl (decide (j<i))):=rfl
@[simp] theorem k_ge(i j:Int):bGe.G (.int i) (.int j)=.val (.bl (decide (j<=i))):=rfl
@[simp] theorem LW(i j:Int):AS.G (.int i) (.int j)=.val (.int (i+j)):=rfl
@[simp] theorem M6(i:Int):B0.G (.int i)=.val (.int (-i)):=rfl
def bW(c:CMulA i j):bU.G (.int i) (.int j)=.val (.int (i*j)):=by show vR (.int i) (.int j)=_;unfold vR aIc;dsimp only;rw[if_pos c]
def kj(c:CDivB i j):jk.G (.int i) (.int j)=.val (.int (i.fdiv j)):=by show vV (.int i) (.int j)=_;unfold vV aIc;dsimp only;rw[if_pos c]
def eY(c:j≠0):b9.G (.int i) (.int j)=.val (.int (i.fmod j)):=by show vX (.int i) (.int j)=_;unfold vX aIc;dsimp only;rw[if_pos c]
def qf(c:gi i j):gf.G (.int i) (.int j)=.val (.int (i^j.toNat)):=by show wM (.int i) (.int j)=_;unfold wM aIc;dsimp only;rw[if_pos c]
def Mc(c:gi i j):qT.G (.int i) (.int j)=.val (.int (i*2^j.toNat)):=by show wK (.int i) (.int j)=_;unfold wK aIc;dsimp only;rw[if_pos c]
@[simp] theorem k_ix(x:Val)(i:Int):bIx.G x (.int i)=match x.items with
 |some xs=>(match atI xs i with
  |some v=>.val v
  |none=>.stuck)
 |none=>.stuck:=by show aIx x (.int i)=_;unfold aIx;cases x.items <;> rfl
@[simp] theorem KU(xs:List Val):(Val.tup xs).items=some xs:=rfl
@[simp] theorem Ja(xs:List Val):(Val.lst xs).items=some xs:=rfl
@[simp] theorem Lp(xs:List Val):(Val.kl xs).items=some xs:=rfl
@[simp] theorem k_eq(x y:Val):bEq.G x y=match bz x y with
 |some b=>.val (.bl b)
 |none=>.stuck:=by show aEq false x y=_;unfold aEq;cases bz x y <;> rfl
@[simp] theorem k_ne(x y:Val):bNe.G x y=match bz x y with
 |some b=>.val (.bl (!b))
 |none=>.stuck:=by show aEq true x y=_;unfold aEq;cases bz x y <;> rfl
@[simp] theorem qg(x y:Int):bz (.int x) (.int y)=some (x==y):=rfl
def eq_str(hx:PyData.strOk x=true)(hy:PyData.strOk y=true):bz (.str x) (.str y)=some (x==y):=by
 unfold bz
 show (if shp (.str x)=true/\shp (.str y)=true then _ else _)=_
 rw[if_pos ⟨g6 hx (OH _),g6 hy (OH _)⟩]
 rfl
@[simp] theorem k_is(x:Val):bIs.G x .non=match x with
 |.non=>.val (.bl true)
 |_=>.val (.bl false):=by cases x <;> rfl
@[simp] theorem Ml(x:Val):oh.G x .non=match x with
 |.non=>.val (.bl false)
 |_=>.val (.bl true):=by cases x <;> rfl
@[simp] theorem Lq(v:Val):bM.G [v]=match v.items with
 |some xs=>.val (.int xs.length)
 |none=>(match v with
  |.str z=>if z.length<=16777216 then .val (.int z.length) else .stuck
  |_=>.stuck):=rfl
@[simp] theorem Ov(i:Int):fL.G [.int i]=.val (.int (if i<0 then -i else i)):=rfl
@[simp] theorem MB(i j:Int):sI.G [.int i,.int j]=.val (.int (if j>i then j else i)):=rfl
@[simp] theorem Nl(i j:Int):lU.G [.int i,.int j]=.val (.int (if j<i then j else i)):=rfl
@[simp] theorem Og(xs:List Val):qh.G [.lst xs]=match jP xs with
 |some bs=>.val (.bl (bs.all id))
 |none=>.stuck:=rfl
@[simp] theorem NW(xs:List Val):kq.G [.lst xs]=match jo xs with
 |some bs=>.val (.int bs.sum)
 |none=>.stuck:=rfl
@[simp] theorem EW(v:Val):nO.G [v]=match v.items with
 |some xs=>.val (.tup xs)
 |none=>.stuck:=rfl
@[simp] theorem Aa(xs:List Val)(v:Val):gP.G (.lst xs) [v]=if xs.length<16777216 then some (.lst (xs++[v]),.non) else none:=rfl
@[simp] theorem pj:∀(bs:List Int),jo (bs.map Val.int)=some bs
 | []=>rfl
 |b::r=>by show (jo (r.map Val.int)).map (b :: ·)=_;rw[pj r];rfl
def xF{K:W.Frag}{mg:Ra}{X:Cx}{ES:L2.St->XK}{sts:List Stmt}:DSs K mg X ES sts (λ_ _=>.stuck):=λpins s σ H D I ⟨_,_,_,_,_,p⟩=>p.elim
section
variable(K:W.Frag)(mg:Ra)(X:Cx)(ES:L2.St->XK)
@[irreducible] def DE(e:Expr)(F:ME):Prop:=L2.DE K mg X ES e F
@[irreducible] def DT(e:Expr)(F:MT):Prop:=L2.DT K mg X ES e F
@[irreducible] def DA(es:List Expr)(F:MA):Prop:=L2.DA K mg X ES es F
@[irreducible] def DS(st:Stmt)(F:MS):Prop:=L2.DS K mg X ES st F
@[irreducible] def DSs(st:List Stmt)(F:MS):Prop:=L2.DSs K mg X ES st F
@[irreducible] def DI(tg am:Expr)(F:MI):Prop:=L2.DI K mg X ES tg am F
end
section
variable{K:W.Frag}{mg:Ra}{X:Cx}{ES:L2.St->XK}{e a b c o i tg am g_:Expr}{es:List Expr}{st:Stmt}{sts sts':List Stmt}{p q r:PEx}{A:PAs}{t u:PTs}{x y:PSt}{g:PGt}{gs:PGs}{I:PIt}{pos:Pos}
def yx(i:Nat){x:Str}(hN:X.N[i]?=some x:=by rfl)(hv:Vis X.env.scope x:=by first |exact Or.inl rfl |exact Or.inr (Or.inl rfl) |exact Or.inr (Or.inr rfl))(hd:(x==("__debug__" : Str))=false:=by decide)(hcd:(x==("__classdict__" : Str))=false:=by decide):DE K mg X ES (.Name x pos) (af i).F:=by with_unfolding_all exact GS i hN hv hd hcd
def Ib{i:Int}{j:Nat}:DE K mg X ES (.Constant (.int i) j pos) (ah i).F:=by with_unfolding_all exact Ho
def OC{i:Bool}{j:Nat}:DE K mg X ES (.Constant (.bool i) j pos) (pBl i).F:=by with_unfolding_all exact Ls
def Ie:DE K mg X ES (.Constant .none j pos) ir.F:=by with_unfolding_all exact Io
def jE{i:Str}{j:Nat}:DE K mg X ES (.Constant (.str i) j pos) (aG i).F:=by with_unfolding_all exact IS
def JC{x:Str}(hg:Gl X x)(ha:∃a,mg x=some (.ref a))(hm:X.mg=mg:=by rfl)(hd:(x==("__debug__" : Str))=false:=by decide):DE K mg X ES (.Name x pos) (jY x).F:=by with_unfolding_all exact Lg hg ha hm hd
def Ln{x:Str}{d:D}{v:Val}{r:∀P h,Rd P h d v}(hg:Gl X x)(ha:GC K mg x d)(hm:X.mg=mg:=by rfl)(hd:(x==("__debug__" : Str))=false:=by decide):DE K mg X ES (.Name x pos) (sA d v r).F:=by with_unfolding_all exact Lv hg ha hm hd
def NJ{x:Str}{n:String}(hg:Gl X x)(hm:mg x=none)(hv:bootBuiltins x=some (.type n))(he:X.mg=mg:=by rfl)(hn:x ≠ "__name__":=by decide)(hd:(x==("__debug__" : Str))=false:=by decide):DE K mg X ES (.Name x pos) (pTy n).F:=by with_unfolding_all exact Ny hg hm hv he hn hd
def Md(ho:OpR X (binaryOp op) r')(hd:OpD K mg r' k.F)(ha:DE K mg X ES a p.F)(hb:DE K mg X ES b q.F):DE K mg X ES (.BinOp a op b pos) (pOp k p q).F:=by with_unfolding_all exact LK ho hd ha hb
def MH(hr:IxR X r')(hd:OpD K mg r' k.F)(ha:DE K mg X ES a p.F)(hb:DE K mg X ES b q.F)(hs:kc b:=by exact λ_ _=>rfl):DE K mg X ES (.Subscript a b pos) (pOp k p q).F:=by with_unfolding_all exact C7 hr hd ha hb hs
def JE(ho:OpR X (compareOp op) r')(hd:OpD K mg r' k.F)(ha:DE K mg X ES a p.F)(hb:DE K mg X ES b q.F)(hm:behindInMarks op b=false:=by first |exact yo _ |with_unfolding_all rfl):DE K mg X ES (.Compare a [op] [b] pos) (pOp k p q).F:=by with_unfolding_all exact Lj ho hd ha hb hm
def HG(ho:OpR X (compareOp op) r')(hd:OpD K mg r' k.F)(ha:DE K mg X ES a p.F)(hb:DE K mg X ES b q.F)(hm:behindInMarks op b=false:=by first |exact yo _ |with_unfolding_all rfl):DT K mg X ES (.Compare a [op] [b] pos) (qOf (pOp k p q)).F:=by with_unfolding_all exact IQ ho hd ha hb hm
def rC(ha:DE K mg X ES a p.F)(he:∀c_,isTrue a X.env c_=(do let v <- c_;standAt a.pos;holding [v] (truthy v)):=by intro _;rfl):DT K mg X ES a (qOf p).F:=by with_unfolding_all exact G0 ha he
def Bl(hK:X.K=K)(ha:DE K mg X ES a p.F)(he:∀c_,isTrue a X.env c_=(do let v <- c_;standAt a.pos;holding [v] (truthy v)):=by intro _;rfl):DT K mg X ES a (qTr p).F:=by with_unfolding_all exact Cs hK ha he
def qG(ha:DT K mg X ES a t.F):DT K mg X ES (.UnaryOp .Not a pos) (qNo t).F:=by with_unfolding_all exact IH ha
def EY(ha:DT K mg X ES a t.F):DW K mg X ES (.BoolOp .And [a] pos) t.F:=by with_unfolding_all exact DD ha
def Hk(ha:DT K mg X ES a t.F):DW K mg X ES (.BoolOp .Or [a] pos) t.F:=by with_unfolding_all exact HF ha
def GG(ha:DT K mg X ES a t.F)(hb:DW K mg X ES (.BoolOp .And (b::es) pos) u.F):DW K mg X ES (.BoolOp .And (a::b::es) pos) (qAn t u).F:=by with_unfolding_all exact Kx ha hb
def L9(ha:DT K mg X ES a t.F)(hb:DW K mg X ES (.BoolOp .Or (b::es) pos) u.F):DW K mg X ES (.BoolOp .Or (a::b::es) pos) (qO t u).F:=by with_unfolding_all exact MK ha hb
def ZW.dt(h:DW K mg X ES a t.F):DT K mg X ES a t.F:=by with_unfolding_all exact DW.dt h
def zt_w{op}(h:DW K mg X ES (.BoolOp op es pos) t.F):DT K mg X ES (.BoolOp op es pos) t.F:=ZW.dt h
def Hu{op}(h:DE K mg X ES a p.F):DE K mg X ES (.BoolOp op [a] pos) p.F:=by with_unfolding_all exact KC h
def Hf(ha:DE K mg X ES a p.F)(hb:DE K mg X ES (.BoolOp .And (b::es) pos) q.F):DE K mg X ES (.BoolOp .And (a::b::es) pos) (fi p q).F:=by with_unfolding_all exact Hn ha hb
def JO(ha:DE K mg X ES a p.F):DE K mg X ES (.UnaryOp .Not a pos) (nj p).F:=by with_unfolding_all exact JX ha
def N7(hc:DT K mg X ES c t.F)(ha:DE K mg X ES a p.F)(hb:DE K mg X ES b q.F):DE K mg X ES (.IfExp c a b pos) (pIf t p q).F:=by with_unfolding_all exact OA hc ha hb
def Oh(ho:UnR X (unaryOp op) r')(hd:UnD K mg r' k.F)(ha:DE K mg X ES a p.F):DE K mg X ES (.UnaryOp op a pos) (pUn k p).F:=by with_unfolding_all exact Mp ho hd ha
def La:DA K mg X ES [] ag.F:=by with_unfolding_all exact zx
def c9(ha:DE K mg X ES e p.F)(hr:DA K mg X ES es A.F)(hs:starEach (e::es) X.env=(false,eval e X.env)::starEach es X.env:=by rfl):DA K mg X ES (e::es) (aa p A).F:=by with_unfolding_all exact vn ha hr hs
def yu{x1}(h:DA K mg X ES es A.F):DE K mg X ES (.Tuple es x1 pos) (a0 A).F:=by with_unfolding_all exact HS h
def Ks(h:DA K mg X ES es A.F):DE K mg X ES (.List es pos) (cH A).F:=by with_unfolding_all exact Jw h
def i6{id:String}{r':List V->Hp->VK->Prop}{k:PBf}{x:Str}{p0:Pos}(hc:CallR X (.builtin id) r')(hd:bA K mg r' k.F)(hg:Gl X x)(hm:mg x=none)(hv:bootBuiltins x=some (.builtin id))(ha:DA K mg X ES (e::es) A.F)(hk:X.mg=mg:=by rfl)(hn:x ≠ "__name__":=by decide)(hdb:(x==("__debug__" : Str))=false:=by decide)(he:starEach (e::es) X.env=(false,eval e X.env)::starEach es X.env:=by rfl)(hpl:(backTo pos (starEach es X.env)).any (·.1)=false:=by rfl):DE K mg X ES (.Call (.Name x p0) (e::es) [] pos) (pFn k A).F:=by with_unfolding_all exact Ah hc hd hg hm hv ha hk hn hdb he hpl
def ze{id:String}{r':List V->Hp->VK->Prop}{k:PBf}{x:Str}{p0:Pos}(hc:CallR X (.type id) r')(hd:bA K mg r' k.F)(hg:Gl X x)(hm:mg x=none)(hv:bootBuiltins x=some (.type id))(ha:DA K mg X ES (e::es) A.F)(hk:X.mg=mg:=by rfl)(hn:x ≠ "__name__":=by decide)(hdb:(x==("__debug__" : Str))=false:=by decide)(he:starEach (e::es) X.env=(false,eval e X.env)::starEach es X.env:=by rfl)(hpl:(backTo pos (starEach es X.env)).any (·.1)=false:=by rfl):DE K mg X ES (.Call (.Name x p0) (e::es) [] pos) (pFn k A).F:=by with_unfolding_all exact xV hc hd hg hm hv ha hk hn hdb he hpl
def Bf{f:PFn}{x:Str}{p0:Pos}{k n:Nat}{ps:List Str}(C:Callee X.prog X.w X.K X.mg X.base x k ps (spD K mg n f.F))(hr:Room k X.A)(hg:Gl X x)(hx:fM X ES)(ha:DA K mg X ES (e::es) A.F)(hn:f.ms.length=n)(hdb:(x==("__debug__" : Str))=false)(he:starEach (e::es) X.env=(false,eval e X.env)::starEach es X.env)(hpl:(backTo pos (starEach es X.env)).any (·.1)=false):DE K mg X ES (.Call (.Name x p0) (e::es) [] pos) (ak f A).F:=by
 subst hn
 with_unfolding_all exact AZ C hr hg hx ha hdb he hpl
def Fy:DSs K mg X ES [] xNx.F:=by with_unfolding_all exact F2
def gz(h1:DS K mg X ES st x.F):DSs K mg X ES [st] x.F:=by with_unfolding_all exact uR h1
def aD(h1:DS K mg X ES st x.F)(h2:DSs K mg X ES sts y.F):DSs K mg X ES (st::sts) (ao x y).F:=by with_unfolding_all exact lI h1 h2
def D5:DS K mg X ES (.Return none pos) wc.F:=by with_unfolding_all exact Eg
def iE(he:DE K mg X ES e p.F):DS K mg X ES (.Return (some e) pos) (aw p).F:=by with_unfolding_all exact GD he
def FG(he:DE K mg X ES e p.F)(hs:swapsWith e none pos.line X.env=pure false:=by rfl):DS K mg X ES (.Expr e pos) (bH p).F:=by with_unfolding_all exact uV he hs
def qa(hc:DT K mg X ES c t.F)(ha:DSs K mg X ES sts x.F)(hb:DSs K mg X ES sts' y.F):DS K mg X ES (.If c sts sts' pos) (xIf t x y).F:=by with_unfolding_all exact M0 hc ha hb
def Eb{i:Nat}{x:Str}(hN:X.N.Nodup)(hi:X.N[i]?=some x)(hx:Loc X.env.scope x)(hf:X.fn x=true\/X.env.scope.names.lookup x=some .local):DG K mg X ES (.Name x pos) (gtN i).F:=Gg hN hi hx hf
def FN:DGs K mg X ES [] bu.F:=F5
def Av(h1:DG K mg X (λ_=>E0) e g.F)(h2:DGs K mg X (λ_=>E0) es gs.F)(hs:(assignEach (e::es) X.env).map (·.2)=assign e X.env::(assignEach es X.env).map (·.2):=by rfl):DGs K mg X (λ_=>E0) (e::es) (ax g gs).F:=Ar h1 h2 hs
def IC(hK:X.K=K)(hc:X.calm=true)(h:DGs K mg X (λ_=>E0) es gs.F)(hn:(assignEach es X.env).length=n:=by rfl)(hst:(assignEach es X.env).findIdx? (·.1)=none:=by rfl):DG K mg X (λ_=>E0) (.Tuple es k pos) (gtT n gs).F:=HC hK hc h hn hst
def ZG.weak(hg:DG K mg X (λ_=>E0) e g.F):DG K mg X ES e (gtX g).F:=DG.weak hg
def E7(he:DE K mg X ES e p.F)(hg:DG K mg X ES a g.F)(hs:swapsWithSole [a] e pos.line X.env=pure false:=by rfl)(hw:swappedStores [a] e X.env=pure none:=by rfl)(h1:(assignEach [a] X.env).map (·.2)=[assign a X.env]:=by rfl):DS K mg X ES (.Assign [a] e pos) (fR p g).F:=by with_unfolding_all exact yA he hg hs hw h1
def DN(he:DE K mg X ES e p.F)(ho:DE K mg X ES o (af j).F)(hi:DE K mg X ES i q.F)(hs':rQ X r')(hd:nW K mg r' w.F)(hs:swapsWithSole [.Subscript o i p1] e pos.line X.env=pure false:=by rfl)(hw:swappedStores [.Subscript o i p1] e X.env=pure none:=by rfl)(h1:(assignEach [.Subscript o i p1] X.env).map (·.2)=[assign (.Subscript o i p1) X.env]:=by rfl)
 (ha:∀v,assign (.Subscript o i p1) X.env v=(do
  let ov <- holding [v] (eval o X.env)
  let iv <- holding [v,ov] (eval i X.env)
  standAt p1
  holding [v,ov,iv] (setItem ov iv v)
  release [v,ov,iv] []):=by intro _;rfl):DS K mg X ES (.Assign [.Subscript o i p1] e pos) (rO j w q p).F:=by with_unfolding_all exact yA he (HX ho hi hs' hd ha) hs hw h1
def Gr{ow:Bool}{i:Nat}{x:Str}{ii:Pos}(hN:X.N.Nodup)(hi:X.N[i]?=some x)(hx:Loc X.env.scope x)(he:DE K mg X ES e p.F)(hs:swapsWith e (some (.Name x ii)) pos.line X.env=pure false)(hf:X.fn x=true\/X.env.scope.names.lookup x=some .local):DS K mg X ES (.Assign [.Name x ii] e pos) (az ow i p).F:=by with_unfolding_all exact Ij hN hi hx he hs hf
def Ic{i j:Nat}{x y:Str}{px py pt:Pos}{kt k2 pt2}(hN:X.N.Nodup)(ha:DA K mg X ES [a,b] A.F)(hc:X.calm=true:=by rfl)(hi:X.N[i]?=some x:=by rfl)(hj:X.N[j]?=some y:=by rfl)(im:i≠j:=by decide)(hx:X.env.scope.names.lookup x=some .local:=by rfl)(hy:X.env.scope.names.lookup y=some .local:=by rfl)(hw:swappedStores [.Tuple [.Name x px,.Name y py] kt pt] (.Tuple [a,b] k2 pt2) X.env=pure (some [x,y]):=by rfl)(hs:swapsWithSole [.Tuple [.Name x px,.Name y py] kt pt] (.Tuple [a,b] k2 pt2) pos.line X.env=pure false:=by rfl):DS K mg X ES (.Assign [.Tuple [.Name x px,.Name y py] kt pt] (.Tuple [a,b] k2 pt2) pos) (eR i j A).F:=by with_unfolding_all exact GW hc hN hi hj im hx hy ha hw hs
def K8{i:Nat}{x:Str}{op:Operator}{ti:TIp}{ii:Pos}{k:PO2}(hN:X.N.Nodup)(he:DE K mg X ES e p.F)(ho:PIp X op ti)(hd:IpD K mg ti k.F)(hi:X.N[i]?=some x:=by rfl)(hx:Loc X.env.scope x:=by first |exact Or.inl rfl |exact Or.inr rfl)(hf:X.fn x=true\/X.env.scope.names.lookup x=some .local:=by first |exact .inl rfl |exact .inr rfl |assumption):DS K mg X ES (.AugAssign (.Name x ii) op e pos) (Cy i k p).F:=by with_unfolding_all exact Hg hN hi hx he ho hd hf
def AU{x:Str}{C:Addr}{E:XK}{np cpos:Pos}(hc:X.calm=true)(hR:Rz X E)(hg:Gl X x)(hm:mg x=some (.ref C))(hq:W.excIn X.K C lg "ValueError.__new__"=true)(ha:DA K mg X (λ_=>E) (e::es) A.F)(hk:X.mg=mg:=by rfl)(he:starEach (e::es) X.env=(false,eval e X.env)::starEach es X.env:=by rfl)(ci:(backTo cpos (starEach es X.env)).any (·.1)=false:=by rfl)(hd:(x==("__debug__" : Str))=false:=by decide):DS K mg X (λ_=>E) (.Raise (some (.Call (.Name x np) (e::es) [] cpos)) none pos) (er x A).F:=by with_unfolding_all exact CA hc hR hg hm hq ha hk he ci hd
def JB(hK:X.K=K)(he:DE K mg X ES e p.F):DI K mg X ES tg e (bY p).F:=by with_unfolding_all exact Jn hK he
def yQ(hg:Gl X "range")(hm:mg "range"=none)(ha:DA K mg X ES [a] A.F)(hk:X.mg=mg:=by rfl)(hs:starEach [a] X.env=[(false,eval a X.env)]:=by rfl):DI K mg X ES tg (.Call (.Name "range" p0) [a] [] pos) (gn A).F:=by with_unfolding_all exact yb hg hm ha hk hs
def Ey(hK:X.K=K)(hg:Gl X "enumerate")(hm:mg "enumerate"=none)(ha:DA K mg X ES [a] A.F)(hk:X.mg=mg:=by rfl)(hs:starEach [a] X.env=[(false,eval a X.env)]:=by rfl):DI K mg X ES (.Tuple elts x1 tp) (.Call (.Name "enumerate" p0) [a] [] pos) (iZ A).F:=by with_unfolding_all exact DC hK hg hm ha hk hs
def Hv(hK:X.K=K)(hg:Gl X "zip")(hm:mg "zip"=none)(ha:DA K mg X ES [a,b] A.F)(hk:X.mg=mg:=by rfl)(hs:starEach [a,b] X.env=[(false,eval a X.env),(false,eval b X.env)]:=by rfl)(hs2:starEach [b] X.env=[(false,eval b X.env)]:=by rfl):DI K mg X ES (.Tuple elts x1 tp) (.Call (.Name "zip" p0) [a,b] [] pos) (wF A).F:=by with_unfolding_all exact GV hK hg hm ha hk hs hs2
def IP(hp:PassesOwn (model X.prog X.w) X.A X.env X.xe)(hc:X.calm=true)(hi:DI K mg X ES tg am I.F)(hg:DG K mg X ES tg g.F)(hb:DSs K mg X ES sts x.F)(hs:∀x,foldedSetIterable am X.env x=pure x:=by intro _;rfl):DS K mg X ES (.For tg am sts [] pos) (dC I g x).F:=by with_unfolding_all exact yL hp hc hi hg hb hs
def Ci(hp:PassesOwn (model X.prog X.w) X.A X.env X.xe)(hc:DT K mg X ES c t.F)(hb:DSs K mg X ES sts x.F):DS K mg X ES (.While c sts [] pos) (xWh t x).F:=by with_unfolding_all exact AD hp hc hb
def N4{scope:Scope}(M:List Str)(kn:List (Str×NameKind))(N:List Str)(sub:Rh){hsb:(sub.filterMap id).Nodup}(hc:X.calm=true)(hi:DI K mg X ES tg am I.F)(hg:∀cl C s₂ H fp,DG K mg (aO X N scope cl C s₂ H fp) (λ_=>E0) tg g.F)(he:∀cl C s₂ H fp,DE K mg (aO X N scope cl C s₂ H fp) (λ_=>E0) g_ p.F)(hM:X.N=M)(hkn:X.env.scope.names=kn)(f_:fO M scope.names sub N=true)(hk:scope.kind=.function)(hnc:∀x∈scope.names,x.2 ≠ .cell)(b_:∀x∈scope.names,x.2=.local->scope.names.lookup x.1=some .local)(hfr:ij kn scope.names=true)(hsl:sub.length=N.length)(hs:∀x,foldedSetIterable am X.env x=pure x):DE K mg X ES (.ListComp g_ [⟨tg,am,[],0⟩] scope pos) (pLC I sub hsb g qY p).F:=by with_unfolding_all exact LG M kn N sub hc hi hg he hM hkn f_ hk hnc b_ hfr hsl hs
def N0{ow:Bool}{px spos:Pos}{iT:Nat}{xT:Str}{scope:Scope}(M:List Str)(kn:List (Str×NameKind))(N:List Str)(sub:Rh){hsb:(sub.filterMap id).Nodup}(hc:X.calm=true)(hN:X.N.Nodup)(hix:X.N[iT]?=some xT)(hxl:Loc X.env.scope xT)(hi:DI K mg X ES tg am I.F)(hg:∀cl C s₂ H fp,DG K mg (aO X N scope cl C s₂ H fp) (λ_=>E0) tg g.F)(he:∀cl C s₂ H fp,DE K mg (aO X N scope cl C s₂ H fp) (λ_=>E0) g_ p.F)(hsw:swapsWith (.ListComp g_ [⟨tg,am,[],0⟩] scope pos) (some (.Name xT px)) spos.line X.env=pure true)(hM:X.N=M)(hkn:X.env.scope.names=kn)(f_:fO M scope.names sub N=true)(hk:scope.kind=.function)(hnc:∀x∈scope.names,x.2 ≠ .cell)(b_:∀x∈scope.names,x.2=.local->scope.names.lookup x.1=some .local)(hfr:ij kn scope.names=true)(hsl:sub.length=N.length)(hs:∀x,foldedSetIterable am X.env x=pure x)(hf:X.fn xT=true\/X.env.scope.names.lookup xT=some .local):DS K mg X ES (.Assign [.Name xT px] (.ListComp g_ [⟨tg,am,[],0⟩] scope pos) spos) (az ow iT (pLC I sub hsb g qY p)).F:=by with_unfolding_all exact LU M kn N sub hc hN hix hxl hi hg he hsw hM hkn f_ hk hnc b_ hfr hsl hs hf
def GJ{j:Nat}{name:Str}{id:String}{apos cpos:Pos}{r':V->List V->Hp->VK->Prop}{k:PMm}(hK:X.K=K)(slot:Slot "list" name id)(hty:typeOf (.builtin id)=pure (.type "method_descriptor"))(hm:MtM X id r')(hd:MtD K mg r' k.F)(ho:DE K mg X ES o (af j).F)(ha:DA K mg X ES (e::es) A.F)(d_:attributeBase o name X.env (eval o X.env)=eval o X.env:=by rfl)(hfew:((backTo cpos (starEach (e::es) X.env)).all (λx=>!x.1)&&(backToKw cpos (keywordEach [] X.env)).all (λx=>x.1.isSome)&&decide ((e::es).length+([]:List Keyword).length+(if ([]:List Keyword).isEmpty then 0 else 1)<30))=true:=by rfl)(e_:(apos.endLine==cpos.line)=true:=by rfl)(hs:starEach (e::es) X.env=(false,eval e X.env)::starEach es X.env:=by rfl)(ci:(backTo cpos (starEach es X.env)).any (·.1)=false:=by rfl):DE K mg X ES (.Call (.Attribute o name apos) (e::es) [] cpos) (jO j k A).F:=by with_unfolding_all exact de_m hK slot hty hm hd ho ha d_ hfew e_ hs ci
def El{j:Nat}{name:Str}{id:String}{apos cpos:Pos}{r':V->List V->Hp->VK->Prop}{k:PMm}(hK:X.K=K)(slot:Slot "list" name id)(hty:typeOf (.builtin id)=pure (.type "method_descriptor"))(hm:MtM X id r')(hd:MtD K mg r' k.F)(ho:DE K mg X ES o (af j).F)(d_:attributeBase o name X.env (eval o X.env)=eval o X.env:=by rfl)(e_:(apos.endLine==cpos.line)=true:=by rfl):DE K mg X ES (.Call (.Attribute o name apos) [] [] cpos) (pY j k).F:=by with_unfolding_all exact Od hK slot hty hm hd ho d_ e_
def FQ:DO K mg X ES none oN.F:=FU
def Dz(he:DE K mg X ES e p.F):DO K mg X ES (some e) (oS p).F:=by with_unfolding_all exact Ed he
def B6{l u:POp}{lo hi:Option Expr}{p2:Pos}(hK:X.K=K)(he:DE K mg X ES e p.F)(hl:DO K mg X ES lo l.F)(hu:DO K mg X ES hi u.F):DE K mg X ES (.Subscript e (.Slice lo hi none p2) pos) (pSl p l u).F:=by with_unfolding_all exact Az hK he hl hu
def Mu:DE K mg X ES (.Dict [] [] pos) pD0.F:=by with_unfolding_all exact NY
def Im{cn n:Str}{C:Addr}{i:Nat}{body suite:List Stmt}{b₀:Stmt}{np hpos:Pos}{mro:List Str}(T:X.Top)(hN:X.N.Nodup)(hi:X.N[i]?=some n)(hl:X.env.kindOf n=some .local)(hg:Gl X cn)(hm:mg cn=some (.ref C))(hh:XHand K C)(hmro:∀c∈mro,∀Ce,mg c=some (.ref Ce)->W.mroIn K Ce (.ref C)=some true)(hb:∀(pn:Rb) (xe:Rg) (ES':L2.St->XK),fM (cxT X pn xe) ES'->DSs K mg (cxT X pn xe) ES' body x.F)(hs:∀ea,DSs K mg (gy X ea) (λ_=>E0) (b₀::suite) y.F)(hK:X.K=K:=by rfl)(hk:X.mg=mg:=by rfl)(hd:(cn==("__debug__" : Str))=false:=by decide):DS K mg X ES (.Try body [.ExceptHandler (some (.Name cn np)) (some n) (b₀::suite) hpos] [] [] pos) (AX mro i x y).F:=by with_unfolding_all exact Ki T hN hi hl hg hm hh hmro hb hs hK hk hd
def K5:OpD K mg (λx y H Q=>rI0 (λi j=>.int (i+j)) x y H Q\/(n8 x y H Q\/(j4 K x y H Q\/jZ K x y H Q))) aT.F:=Gm
def IL:OpD K mg (rI0 λi j=>.int (i-j)) eW.F:=Je
def GB:OpD K mg (rI CMulA λi j=>.int (i*j)) bU.F:=HJ
def IU:OpD K mg (rI CDivB λi j=>.int (i.fdiv j)) jk.F:=IK
def JF:OpD K mg (rI (λ_ j=>j≠0) λi j=>.int (i.fmod j)) b9.F:=I0
def KL:OpD K mg (rI gi λi j=>.int (i^j.toNat)) gf.F:=Hw
def Hd:OpD K mg (rI gi λi j=>.int (i*2^j.toNat)) qT.F:=HZ
def CZ:OpD K mg (rI0 λi j=>.bl (decide (i<j))) bLt.F:=Nr
def N5:OpD K mg (rI0 λi j=>.bl (decide (i<=j))) bLe.F:=NM
def C1:OpD K mg (rI0 λi j=>.bl (decide (j<i))) bGt.F:=N2
def Ds:OpD K mg (rI0 λi j=>.bl (decide (j<=i))) bGe.F:=NS
def C5:OpD K mg (λx y H Q=>vS K x y H Q\/vU K x y H Q) bIx.F:=Ih
def Dn:OpD K mg (xo K) bEq.F:=Gv
def Lm:OpD K mg (wQ K) bNe.F:=GA
def ML:OpD K mg (rIn K false) bIn.F:=(KZ false)
def NB:OpD K mg (λx y H Q=>y=.non/\Q (.bl (decide (x=.non))) H) bIs.F:=ET
def GZ:OpD K mg (λx y H Q=>y=.non/\Q (.bl (!decide (x=.non))) H) oh.F:=BQ
def KP:bA K mg (λxs H Q=>(∃p ys,xs=[.ref p]/\(SqL K H p ys\/SqT K H p ys)/\Q (.int ys.length) H)\/(∃z,xs=[.str z]/\z.length<=sizeLine/\Q (.int z.length) H)) bM.F:=Jt
def Jb:bA K mg (λxs H Q=>∃i,xs=[.int i]/\Q (.int (if i<0 then -i else i)) H) fL.F:=HB
def Es:bA K mg (λxs H Q=>∃i j,xs=[.int i,.int j]/\Q (.int (if j>i then j else i)) H) sI.F:=DK
def EG:bA K mg (λxs H Q=>∃i j,xs=[.int i,.int j]/\Q (.int (if j<i then j else i)) H) lU.F:=EL
def yW:bA K mg (λxs H Q=>∃(a:Addr) (bs:List Bool),xs=[.ref a]/\SqL K H a (bs.map V.bl)/\Q (.bl (bs.all id)) H) qh.F:=HL
def zL:bA K mg (λxs H Q=>∃(a:Addr) (ns:List Int),xs=[.ref a]/\SqL K H a (ns.map V.int)/\Q (.int ns.sum) H) kq.F:=Lc
def Cz:bA K mg (λxs H Q=>∃p ys,xs=[.ref p]/\((SqL K H p ys/\∀l,H l=none->Q (.ref l) (upd H l (.tup ys)))\/(SqT K H p ys/\Q (.ref p) H))) nO.F:=Cj
def G1(ok:KitsOk K mg kt):bA K mg (λxs H Q=>(∃x c t v b,xs=[x,c]/\TyX K H x t/\eQ c=some v/\W.kitOne K t v=some b/\Q (.bl b) H)\/
 (∃x tp cs t vs b,xs=[x,.ref tp]/\SqT K H tp cs/\TyX K H x t/\cs.mapM eQ=some vs/\W.kitAny K t vs=some b/\Q (.bl b) H)) (aQ kt).F:=Gw ok
def yg:MtD K mg oB gP.F:=oQ
def K2:MtD K mg By qb.F:=IZ
def D9:nW K mg wO seL.F:=E4
def Kh:IpD K mg (ipI λi j=>i+j) AS.F:=ED
def Jp:UnD K mg (rU λi=>.int (-i)) B0.F:=JI
variable{P:Program}{w:World}{base:Heap}{fx:Str}{fst:Stmt}{k n m:Nat}{ps N:List Str}{ms:List Bool}
def okP(D:Def K mg fx fst)(S:FnScope N ps (au fst))
 (hb:∀(kV doc pm:Value) (an:Option Addr) (cdv ct:Value) (us:List Value),us.length=ps.length->bindArgs (W.fnOf fx fx (b0 fst) (aY fst) (au fst) .none kV doc pm an cdv ct) ⟨us,[]⟩=pure (ps.zip us))
 (ge:∀(f:Addr) (cdv:Value) (A:Around) (outer:List Env) (s:Shared) (H:Hp) (E:XK),Room k (A.deeper (envOfC fx (au fst) s.heap.objs.size f cdv))->
  DSs K mg (dg (CX1 P w) P w K mg base N fx (au fst) f cdv A outer s H E) (λ_=>E) (aY fst) x.F) (hn:ps.length=n) (hm:N.length=m):Callee P w K mg base fx (k+1) ps (spD K mg n (fnP ms m x).F):=by
 subst hn hm
 with_unfolding_all exact D.okD S hb ge
def okX(D:Def K mg fx fst)(S:FnScope N ps (au fst))
 (hb:∀(kV doc pm:Value) (an:Option Addr) (cdv ct:Value) (us:List Value),us.length=ps.length->bindArgs (W.fnOf fx fx (b0 fst) (aY fst) (au fst) .none kV doc pm an cdv ct) ⟨us,[]⟩=pure (ps.zip us))
 (ge:∀(f:Addr) (cdv:Value) (A:Around) (outer:List Env) (s:Shared) (H:Hp) (E:XK),Room k (A.deeper (envOfC fx (au fst) s.heap.objs.size f cdv))->
  DSs K mg (dg (CX1 P w) P w K mg base N fx (au fst) f cdv A outer s H E) (λ_=>E) (aY fst) x.F) (hn:ps.length=n) (hm:N.length=m):Callee P w K mg base fx (k+1) ps (spD K mg n (PFx.of ms m x).F):=by
 subst hn hm
 with_unfolding_all exact D.okD S hb ge
def ok0(D:Def K mg fx fst)(S:FnScope N ps (au fst))
 (hb:∀(kV doc pm:Value) (an:Option Addr) (cdv ct:Value) (us:List Value),us.length=ps.length->bindArgs (W.fnOf fx fx (b0 fst) (aY fst) (au fst) .none kV doc pm an cdv ct) ⟨us,[]⟩=pure (ps.zip us)) (hn:ps.length=n:=by rfl):Callee P w K mg base fx (k+1) ps (spD K mg n (PFx.none ms).F):=by
 subst hn
 exact D.okD (F:=λ_ _=>.stuck) S hb λ_ _ _ _ _ _ _ _=>xF
end
def J3(b:Bool)(ms:List Bool)(v:Val)(vs:List Val):sls (b::ms) (v::vs)=sl1 b v::sls ms vs:=rfl
def Ej:sls [] []=[]:=rfl
def M9(v:Val):sl1 true v=.mu v:=rfl
def Lx(v:Val):sl1 false v=.sh v:=rfl
section
variable(e:E3)
def D6:okA e [] []=true:=rfl
def IE(i:Nat)(ms:List Bool)(ts:List Tm):okA e (true::ms) (.bor i::ts)=(((e[i]?).bind Sl.mv).isSome && !(iA i ts)&&okA e ms ts):=rfl
def IF(v:Val)(ms:List Bool)(ts:List Tm):okA e (false::ms) (.val v::ts)=okA e ms ts:=rfl
def Ay(i:Nat):iA i []=false:=rfl
def Hl(i:Nat)(v:Val)(ts:List Tm):iA i (.val v::ts)=iA i ts:=rfl
def zm:aX e [] []=[]:=rfl
def FZ(v:Val)(ms:List Bool)(ts:List Tm):aX e (false::ms) (.val v::ts)=aX e ms ts:=rfl
def Jm(t:Tm)(ms:List Bool)(ts:List Tm):aX e (true::ms) (t::ts)=aX e ms ts:=by cases t <;> rfl
end
def zK:bT [] []=[]:=rfl
def Ek(b:Bool)(t:Tm)(ms:List Bool)(ts:List Tm):bT (b::ms) (t::ts)=nX b t::bT ms ts:=rfl
def EK(i:Nat):nX true (.bor i)=some i:=rfl
def Hc(t:Tm):nX false t=none:=by cases t <;> rfl
def Cv(e:E3):bc [] [] e=e:=rfl
def Ik(o:Option Nat)(sub:Rh)(s:Sl)(i e:E3):bc (o::sub) (s::i) e=bc sub i (fG o s e):=rfl
theorem D7(i:Nat)(v:Val)(e:E3):fG (some i) (.mu v) e=match e[i]? with
 |some t=>e.set i (t.re v)
 |none=>e:=rfl
def IM(s:Sl)(e:E3):fG none s e=e:=rfl
def BP(vs:List Val):aH [] vs=[]:=rfl
def Kk(ms:List Bool)(v:Val)(vs:List Val):aH (true::ms) (v::vs)=.mu v::aH ms vs:=rfl
def G7(ms:List Bool)(vs:List Val):aH (false::ms) vs=.no::aH ms vs:=by cases vs <;> rfl
def FK(e:E3):muV [] e=some []:=by cases e <;> rfl
def Oj(ms:List Bool)(v:Val)(e:E3):muV (true::ms) (.mu v::e)=(muV ms e).map (v :: ·):=rfl
def NA(ms:List Bool)(s:Sl)(e:E3):muV (false::ms) (s::e)=muV ms e:=by cases s <;> rfl
def x9(v:Val):j8 (.val v)=aK v:=rfl
def yE(v:Val):j8 (.new v)=cT v:=rfl
def yd(xs:List Val):cT (.lst xs)=bO xs:=rfl
def mJ:bO []=true:=by simp [bO]
def kI(v:Val)(vs:List Val):bO (v::vs)=(aK v&&bO vs):=by simp [bO]
def zG(i:Int):aK (.int i)=true:=by simp [aK]
def AF(i:Bool):aK (.bl i)=true:=by simp [aK]
def zu(i:Str):aK (.str i)=true:=by simp [aK]
def yG:aK .non=true:=by simp [aK]
def yH(xs:List Val):aK (.tup xs)=bO xs:=by simp [aK]
theorem m9(f:α->Val)(hf:∀a,aK (f a)=true):∀l:List α,bO (l.map f)=true
 | []=>mJ
 |a::l=>by rw[o_,kI,hf a,m9 f hf l];rfl
def dM(h0:0<=i)(h:l[i.toNat]?=some x):atI l i=some x:=by
 have hl:=(k_.mp h).1
 unfold atI ixN
 rw[if_pos h0,if_pos (by omega)]
 exact h
def tH(h0:0<=i)(h:i.toNat<n):ixN n i=some i.toNat:=by
 unfold ixN
 rw[if_pos h0,if_pos (by omega)]
section
variable(a b c d e f g h:α)(l:List α)
def ati0:atI (a::l) 0=some a:=dM (by decide) rfl
def ati1:atI (a::b::l) 1=some b:=dM (by decide) rfl
def ati2:atI (a::b::c::l) 2=some c:=dM (by decide) rfl
def ati3:atI (a::b::c::d::l) 3=some d:=dM (by decide) rfl
end
def ixn0(n:Nat):ixN (n+1) 0=some 0:=tH (i:=0) (by decide) (by show 0<n+_;omega)
def ixn1(n:Nat):ixN (n+2) 1=some 1:=tH (i:=1) (by decide) (by show 1<n+_;omega)
theorem LH(xs:List Val)(k:Int)(v:Val):seL.G (.lst xs) (.int k) v=match ixN xs.length k with
 |some j=>some (.lst (xs.set j v))
 |none=>none:=rfl
mutual
def vq:Val->Val->Bool
 |.non,.non=>true
 |.bl a,.bl b=>a==b
 |.bl a,.int j=>(if a then 1 else 0)==j
 |.int i,.bl b=>i==(if b then 1 else 0)
 |.int i,.int j=>i==j
 |.str x,.str y=>x==y
 |.tup xs,.tup ys=>vqs xs ys
 |.lst xs,.lst ys=>vqs xs ys
 |_,_=>false
def vqs:List Val->List Val->Bool
 | [],[]=>true
 |x::xs,y::ys=>vq x y&&vqs xs ys
 |_,_=>false
end
mutual
def wfV:Nat->Val->Bool
 |_,.non=>true
 |_,.bl _=>true
 |_,.int _=>true
 |_,.str x=>PyData.strOk x
 |k+1,.tup xs=>eD k xs
 |k+1,.lst xs=>eD k xs
 |_,_=>false
def eD:Nat->List Val->Bool
 |_,[]=>true
 |k,x::xs=>wfV k x&&eD k xs
end
mutual
def gh:Val->PyData
 |.bl b=>.bool b
 |.int i=>.int i
 |.str x=>.str x
 |.tup xs=>.tuple (dP xs)
 |.lst xs=>.list (dP xs)
 |_=>.none
def dP:List Val->List PyData
 | []=>[]
 |x::xs=>gh x::dP xs
end
mutual
theorem nr:∀(k:Nat) (v:Val),wfV k v=true->(∀j,k<j->cL j v=some (gh v))/\(gh v).canLay0=true/\(gh v).depth<=k
 |k,.non,_=>⟨λj hj=>by cases j with |zero=>exact absurd hj (P7 _) |succ j=>rfl,rfl,OH _⟩
 |k,.bl b,_=>⟨λj hj=>by cases j with |zero=>exact absurd hj (P7 _) |succ j=>rfl,rfl,OH _⟩
 |k,.int b,_=>⟨λj hj=>by cases j with |zero=>exact absurd hj (P7 _) |succ j=>rfl,rfl,OH _⟩
 |k,.str b,w=>⟨λj hj=>by cases j with |zero=>exact absurd hj (P7 _) |succ j=>rfl,by cases k <;> exact w,OH _⟩
 |0,.tup xs,w=>absurd w s_
 |0,.lst xs,w=>absurd w s_
 |
  k+1,.tup xs,w=>by
  obtain⟨h1,h2,h3⟩:=lK k xs w
  exact⟨λj hj=>by cases j with |zero=>exact absurd hj (P7 _) |succ j=>simp only[cL,gh,h1 j (Nat.lt_of_succ_lt_succ hj),Option.map_some],h2,by simpa [gh,PyData.depth] using h3⟩
 |
  k+1,.lst xs,w=>by
  obtain⟨h1,h2,h3⟩:=lK k xs w
  exact⟨λj hj=>by cases j with |zero=>exact absurd hj (P7 _) |succ j=>simp only[cL,gh,h1 j (Nat.lt_of_succ_lt_succ hj),Option.map_some],h2,by simpa [gh,PyData.depth] using h3⟩
 |k,.ty _,w=>by cases k <;> exact absurd w s_
 |k,.glb _,w=>by cases k <;> exact absurd w s_
 |k,.exc _,w=>by cases k <;> exact absurd w s_
 |k,.kl _,w=>by cases k <;> exact absurd w s_
 |k,.dct _,w=>by cases k <;> exact absurd w s_
 |k,.set _,w=>by cases k <;> exact absurd w s_
theorem lK:∀(k:Nat) (vs:List Val),eD k vs=true->(∀j,k<j->d7 j vs=some (dP vs))/\PyData.canLayAll0 (dP vs)=true/\PyData.depthAll (dP vs)<=k
 |k,[],_=>⟨λj hj=>by simp [d7,dP],rfl,OH _⟩
 |
  k,v::vs,w=>by
  have w':(wfV k v&&eD k vs)=true:=w
  rw[r_] at w'
  obtain⟨h1,h2,h3⟩:=nr k v w'.1
  obtain⟨i1,i2,i3⟩:=lK k vs w'.2
  exact⟨λj hj=>by simp [d7,dP,h1 j hj,i1 j hj],by simp [dP,PyData.canLayAll0,h2,i2],Nat.max_le.mpr ⟨h3,i3⟩⟩
end
mutual
theorem yK:∀(k:Nat) (v u:Val),wfV k v=true->wfV k u=true->PyData.eqv (gh v) (gh u)=vq v u
 |
  k,v,u,hv,hu=>by
  cases v <;> first |(cases k <;> exact absurd hv s_) |skip
  all_goals (cases u <;> first |(cases k <;> exact absurd hu s_) |rfl |(cases k with |zero=>exact absurd hv s_ |succ k=>exact va k _ _ hv hu))
theorem va:∀(k:Nat) (v u:List Val),eD k v=true->eD k u=true->PyData.eqvAll (dP v) (dP u)=vqs v u
 |_,[],[],_,_=>rfl
 |_,[],_::_,_,_=>rfl
 |_,_::_,[],_,_=>rfl
 |
  k,x::xs,y::ys,hv,hu=>by
  have h1:(wfV k x&&eD k xs)=true:=hv
  have h2:(wfV k y&&eD k ys)=true:=hu
  rw[r_] at h1 h2
  show (PyData.eqv (gh x) (gh y)&&PyData.eqvAll (dP xs) (dP ys))=(vq x y&&vqs xs ys)
  rw[yK k x y h1.1 h2.1,va k xs ys h1.2 h2.2]
end
def HU(hk:k<=160)(hx:wfV k x=true)(hy:wfV k y=true):bz x y=some (vq x y):=by
 obtain⟨h1,h2,h3⟩:=nr k x hx
 obtain⟨i1,i2,i3⟩:=nr k y hy
 unfold bz
 rw[h1 164 (by omega),i1 164 (by omega)]
 dsimp only
 rw[if_pos ⟨g6 h2 (by omega),g6 i2 (by omega)⟩,yK k x y hx hy]
def v5(hx:wfV 60 x=true)(hy:wfV 60 y=true):bz x y=some (vq x y):=HU (by decide) hx hy
mutual
def iw:Val->Bool
 |.bl _=>false
 |.tup xs=>fQ xs
 |.lst xs=>fQ xs
 |.non=>true
 |.int _=>true
 |.str _=>true
 |_=>false
def fQ:List Val->Bool
 | []=>true
 |x::xs=>iw x&&fQ xs
end
mutual
theorem rV:∀(v u:Val),iw v=true->iw u=true->(vq v u=true ↔ v=u)
 |
  v,u,hv,hu=>by
  cases v <;> first |exact absurd hv s_ |skip
  all_goals (cases u <;> first |exact absurd hu s_ |exact⟨λz=>absurd z s_,λz=>nomatch z⟩ |(simp [vq];done) |skip)
  all_goals
   refine Iff.trans (uw _ _ hv hu) ?_
   constructor
   ·rintro rfl;rfl
   ·intro z;cases z;rfl
theorem uw:∀(v u:List Val),fQ v=true->fQ u=true->(vqs v u=true ↔ v=u)
 | [],[],_,_=>⟨λ_=>rfl,λ_=>rfl⟩
 | [],_::_,_,_=>⟨λz=>absurd z s_,λz=>nomatch z⟩
 |_::_,[],_,_=>⟨λz=>absurd z s_,λz=>nomatch z⟩
 |
  x::xs,y::ys,hv,hu=>by
  have h1:(iw x&&fQ xs)=true:=hv
  have h2:(iw y&&fQ ys)=true:=hu
  rw[r_] at h1 h2
  show (vq x y&&vqs xs ys)=true ↔ _
  rw[r_,rV x y h1.1 h2.1,uw xs ys h1.2 h2.2,List.cons.injEq]
end
mutual
theorem uI:∀(k:Nat) (v:Val),wfV k v=true->vq v v=true
 |
  k,v,hv=>by
  cases v <;> first |(cases k <;> exact absurd hv s_) |rfl |exact Qg _ |(cases k with |zero=>exact absurd hv s_ |succ k=>exact rR k _ hv)
theorem rR:∀(k:Nat) (v:List Val),eD k v=true->vqs v v=true
 |_,[],_=>rfl
 |
  k,x::xs,hv=>by
  have h1:(wfV k x&&eD k xs)=true:=hv
  rw[r_] at h1
  show (vq x x&&vqs xs xs)=true
  rw[uI k x h1.1,rR k xs h1.2]
  rfl
end
noncomputable def fV(q:Rat):Val:=.tup [.int q.num,.int q.den]
structure Bx where
 l:Rat
 t:Rat
 w:Rat
 h:Rat
structure Bx.Ok(b:Bx):Prop where
 w:0<b.w
 h:0<b.h
structure Bx.Sz(n:Nat)(b:Bx):Prop where
 l:L2.Sz n b.l
 t:L2.Sz n b.t
 w:L2.Sz n b.w
 h:L2.Sz n b.h
def Bx.Sz.mono{n m:Nat}{b:Bx}(s:b.Sz n)(l:n<=m):b.Sz m:=⟨s.l.mono l,s.t.mono l,s.w.mono l,s.h.mono l⟩
def bV(b:Bx):Val:=.tup [fV b.l,fV b.t,fV b.w,fV b.h]
def Ir(e:fV p=fV q):p=q:=by
 unfold fV at e
 simp only[Val.tup.injEq,List.cons.injEq,Val.int.injEq,PY] at e
 rw[fj p,fj q,e.1,e.2]
def Dh(q:Rat)(k:Nat):wfV (k+1) (fV q)=true:=by simp [fV,wfV,eD]
def CV(q:Rat):iw (fV q)=true:=by simp [fV,iw,fQ]
def MP(p q:Rat):bz (fV p) (fV q)=some (decide (p=q)):=by
 rw[v5 (Dh p 59) (Dh q 59)]
 congr 1
 rw[P5,rV _ _ (CV p) (CV q),PN]
 exact⟨Ir,λz=>by rw[z]⟩
def Nb(q:Rat):aK (fV q)=true:=by simp [fV,aK,bO]
def NP(b:Bx):aK (bV b)=true:=by simp [bV,aK,bO,Nb]
def knV:Val->Bool
 |.exc _=>false
 |v=>(tyC v).isSome
def gO:Nat->Val->Bool
 |k+1,.tup xs=>xs.all (gO k)
 |_,v=>knV v
def je:Val->Bool
 |.int _=>true
 |_=>false
noncomputable def aP:Val->Bool
 |.tup [.int a,.int b]=>decide (1<=b)&&decide (Int.gcd a b=1)
 |_=>false
def i0:Val->Bool
 |.tup (.int a::_)=>decide (0<a)
 |_=>false
noncomputable def dO:Val->Bool
 |.tup [a,b,c,d]=>aP a&&(aP b&&(aP c&&(aP d&&(i0 c&&i0 d))))
 |_=>false
def gX:Val->Bool
 |.int i=>decide (1<=i)
 |_=>false
def eX:Val->Bool
 |.tup _=>true
 |_=>false
def NC(h1:1<=b)(h2:Int.gcd a b=1):Val.tup [.int a,.int b]=fV ((a:Rat)/(b:Rat)):=by
 have hb:b≠0:=by omega
 have h:=mP (a:=a) hb
 have s:=Fr.self (by omega) h2
 unfold fV
 rw[<- h.1,<- h.2,s.1,s.2]
def i5(q:Rat):aP (fV q)=true:=by
 show (decide (1<=(q.den:Int))&&decide (Int.gcd q.num q.den=1))=true
 have:=q.den_pos
 rw[G_ (by omega),G_ (uo q)];rfl
def zH(h:aP d=true):∃q,d=fV q:=by
 unfold aP at h
 split at h
 ·simp only[r_,PN] at h
  exact⟨_,NC h.1 h.2⟩
 ·cases h
def u7(q:Rat):i0 (fV q)=decide (0<q):=by
 show decide (0<q.num)=decide (0<q)
 rw[decide_eq_decide]
 exact uU
def tP(h:b.Ok):dO (bV b)=true:=by
 show (aP (fV b.l)&&(aP (fV b.t)&&(aP (fV b.w)&&(aP (fV b.h)&&(i0 (fV b.w)&&i0 (fV b.h))))))=true
 rw[i5,i5,i5,i5,u7,u7,G_ h.w,G_ h.h];rfl
def ym(b:Bx):gO 2 (bV b)=true:=by simp [bV,fV,gO,knV,tyC]
theorem oE(P:E3->Prop):∀(vs acc:List Val) (e:E3),P e->(∀v∈vs,∀e,P e->∃e1 t e2,g v e=some e1/\F e1=.ok t e2/\cz e2 t=some (e2,f v)/\P e2)->acc.length+vs.length<=16777216->∃e',P e'/\lcV g cY F vs acc e=.ok (acc++vs.map f) e'
 | [],acc,e,hp,_,_=>⟨e,hp,by simp [lcV]⟩
 |
  v::vs,acc,e,hp,hf,hl=>by
  obtain⟨e1,t,e2,q1,q2,q3,q4⟩:=hf v (n_ ..) e hp
  obtain⟨e',p',q5⟩:=oE P vs (acc++[f v]) e2 q4 (λu hu=>hf u (l_ _ hu)) (by simp at hl ⊢;omega)
  refine⟨e',p',?_⟩
  unfold lcV
  rw[if_pos (by simp at hl;omega),q1]
  simp only[cY,iY,Pd,q2,q3,q5]
  simp
theorem qK(P:E3->Prop):∀(vs:List Val) (e:E3),P e->(∀v∈vs,∀e,P e->∃e1 e2,g v e=some e1/\(B e1=.nx e2\/B e1=.ct e2)/\P e2)->∃e',P e'/\cq g B vs e=.nx e'
 | [],e,hp,_=>⟨e,hp,rfl⟩
 |
  v::vs,e,hp,hf=>by
  obtain⟨e1,e2,q1,q2,q3⟩:=hf v (n_ ..) e hp
  obtain⟨e',p',q4⟩:=qK P vs e2 q3 λu hu=>hf u (l_ _ hu)
  refine⟨e',p',?_⟩
  rw[cU,q1]
  rcases q2 with q2 |q2 <;> simp only[q2,mQ,vF,q4]
theorem iP(f:α->Val):∀(l:List α) (k:Nat),fg k (l.map f)=(l.zipIdx k).map λp=>.tup [.int (p.2:Nat),f p.1]
 | [],k=>rfl
 |
  a::l,k=>by
  show Val.tup [.int (k:Nat),f a]::fg (k+1) (l.map f)=_
  rw[iP f l (k+1),List.zipIdx_cons]
  rfl
def FL(l:List Val)(k:Nat):fg k l=(l.zipIdx k).map λp=>.tup [.int (p.2:Nat),p.1]:=by
 have:=iP id l k
 rwa [List.map_id] at this
def rgV(k:Nat):List Val:=(List.range k).map λj=>Val.int (j:Nat)
def iR(h:k<1000000):fZ [.int (k:Nat)]=some (rgV k):=by
 simp only[fZ]
 rw[if_pos (⟨by omega,by omega⟩:RgB _),ON]
 unfold wa rgV
 simp only[Int.zero_add]
def ox(h0:0<=i)(h:i<1000000):fZ [.int i]=some (rgV i.toNat):=by
 have:=iR (k:=i.toNat) (by omega)
 rwa [show ((i.toNat:Nat):Int)=i from by omega] at this
def fdS{α:Type}(r:α->Rt)(e:E3):Option α->SR3
 |some a=>.rt (r a) e
 |none=>.nx e
def iX(r:α->Rt)(e:E3)(a:α):fdS r e (some a)=.rt (r a) e:=rfl
def gH(r:α->Rt)(e:E3):fdS r e none=.nx e:=rfl
theorem eK(f:α->Val)(p:α->Bool)(r:α->Rt)(P:E3->Prop):∀(l:List α) (e:E3),P e->(∀a∈l,∀e,P e->∃e1 e2,g (f a) e=some e1/\P e2/\((p a=true/\B e1=.rt (r a) e2)\/(p a=false/\(B e1=.nx e2\/B e1=.ct e2))))->∃e',P e'/\cq g B (l.map f) e=fdS r e' (l.find? p)
 | [],e,hp,_=>⟨e,hp,rfl⟩
 |
  a::l,e,hp,hf=>by
  obtain⟨e1,e2,q1,q2,q3⟩:=hf a (n_ ..) e hp
  rw[o_,cU,q1]
  rcases q3 with ⟨c,q3⟩ |⟨c,q3⟩
  ·exact⟨e2,q2,by rw[OM,c];simp only[q3,Oe,fdS]⟩
  ·obtain⟨e',p',q4⟩:=eK f p r P l e2 q2 λu hu=>hf u (l_ _ hu)
   refine⟨e',p',?_⟩
   rw[OM,c]
   rcases q3 with q3 |q3 <;> simp only[q3,mQ,vF,q4]
theorem eB(fv fw:α->Val)(P:E3->Prop):∀(l:List α) (acc:List Val) (e:E3),P e->(∀a∈l,∀e,P e->∃e1 t e2,g (fv a) e=some e1/\F e1=.ok t e2/\cz e2 t=some (e2,fw a)/\P e2)->acc.length+l.length<=16777216->∃e',P e'/\lcV g qY.G F (l.map fv) acc e=.ok (acc++l.map fw) e'
 | [],acc,e,hp,_,_=>⟨e,hp,by simp [lcV]⟩
 |
  v::vs,acc,e,hp,hf,hl=>by
  obtain⟨e1,t,e2,q1,q2,q3,q4⟩:=hf v (n_ ..) e hp
  obtain⟨e',p',q5⟩:=eB fv fw P vs (acc++[fw v]) e2 q4 (λu hu=>hf u (l_ _ hu)) (by simp at hl ⊢;omega)
  refine⟨e',p',?_⟩
  rw[o_]
  unfold lcV
  have cy:qY.G=cY:=rfl
  rw[cy] at q5 ⊢
  rw[if_pos (by simp at hl;omega),q1]
  simp only[cY,iY,Pd,q2,q3,q5]
  simp
def J4(v:Val):inS (.sh v)=.sh v:=rfl
def Gh(i:Nat)(v:Val)(e:E3):fG (some i) (.sh v) e=e:=rfl
noncomputable def lJ(ms:List Bool)(r:SR3):R3F:=match r with
 |.nx e=>(match muV ms e with |some mv=>.ok (.val .non) mv |none=>.stuck)
 |.rt r e=>(match muV ms e with |some mv=>.ok r mv |none=>.stuck)
 |.exc c e=>(match muV ms e with |some mv=>.exc c mv |none=>.stuck)
 |_=>.stuck
def wZ(h:vs.length=ms.length):(fnP ms N c).G vs=lJ ms (c.G (sls ms vs++List.replicate (N-vs.length) .no)):=by
 rw[aJ,if_pos h];rfl
def GR(h:vs.length=ms.length):(PFx.of ms N c).G vs=lJ ms (c.G (sls ms vs++List.replicate (N-vs.length) .no)):=by
 rw[kd,if_pos h];rfl
def xi(ms:List Bool)(r:Rt)(e:E3):lJ ms (.rt r e)=match muV ms e with |some mv=>.ok r mv |none=>.stuck:=rfl
def aF{Q:SR3->Prop}(I:E3->Prop){a b:PSt}{e:E3}(h1:∃e1,a.G e=.nx e1/\I e1)(h2:∀e1,I e1->Q (b.G e1)):Q ((ao a b).G e):=by
 obtain⟨e1,q,i⟩:=h1
 rw[CJ,q]
 exact h2 e1 i
def iV(i:Int):Val.tup [.int i,.int 1]=fV (i:Rat):=rfl
def sm8(h:m.natAbs<1099511627776):Sm 8000 m:=Em (show m.natAbs<2^40 from h) (Pp (by decide) (by decide))
def mf(h:m.natAbs<=2000000000000000000000000000000):Sm 101 m:=by unfold Sm;exact Pz h (by decide)
def fW{m:Int}(h:m.natAbs<=2000000000000000000000000000000):Sz 101 (m:Rat):=⟨mf h,mf (by show (1:Int).natAbs<=_;decide)⟩
def gx{a b:Int}(hb:b≠0)(h1:a.natAbs<=2000000000000000000000000000000)(h2:b.natAbs<=2000000000000000000000000000000):Sz 101 ((a:Rat)/(b:Rat)):=Sz.div hb (mf h1) (mf h2) 101 (m_ _) (m_ _)
def fC{m:Int}(h:0<m):(0:Rat)<(m:Rat):=Rat.intCast_pos.mpr h
def fA{a b:Int}(h1:0<a)(h2:0<b):(0:Rat)<(a:Rat)/(b:Rat):=by
 rw[Rat.div_def]
 exact Rat.mul_pos (fC h1) (Rat.inv_pos.mpr (fC h2))
structure Good(b:Bx):Prop where
 ok:b.Ok
 sz:b.Sz 101
def kg(h:m.natAbs<=2000000000000000000000000000000):Sm 8000 m:=(mf h).mono (by decide)
section
variable{K:W.Frag}{mg:Ra}{X:Cx}{ES:L2.St->XK}{e:Expr}{es:List Expr}{A:PAs}{pos:Pos}
end
def zA(xs ys:List Val):aT.G (.lst xs) (.lst ys)=if xs.length+ys.length<=16777216 then .new (.lst (xs++ys)) else .stuck:=rfl
section
variable{K:W.Frag}{mg:Ra}{X:Cx}{ES:L2.St->XK}{e a b c o lo hi:Expr}{p q r:PEx}{pos p1 p2:Pos}
end
theorem ar1{α:Type}{P:List α->Prop}(h:∀a,P [a]):∀us:List α,us.length=1->P us
 | [a],_=>h a
theorem ar2{α:Type}{P:List α->Prop}(h:∀a b,P [a,b]):∀us:List α,us.length=2->P us
 | [a,b],_=>h a b
theorem ar3{α:Type}{P:List α->Prop}(h:∀a b c,P [a,b,c]):∀us:List α,us.length=3->P us
 | [a,b,c],_=>h a b c
theorem ar4{α:Type}{P:List α->Prop}(h:∀a b c d,P [a,b,c,d]):∀us:List α,us.length=4->P us
 | [a,b,c,d],_=>h a b c d
section
variable{P:Nat->Prop}{h:AH}
def Dp(r:Rk P h ws us):lkD us k=some v->∃d,lkD ws k=some d/\Rd P h d v:=
 r.ind (M:=λws us=>lkD us k=some v->∃d,lkD ws k=some d/\Rd P h d v) (λq=>by cases q) (λ{k2 d v2 ds vs} r _ ih q=>by
  unfold lkD at q ih ⊢
  rw[OM] at q ⊢
  dsimp only at q ⊢
  by_cases hk:k2=k
  ·rw[G_ hk] at q ⊢
   cases q
   exact⟨d,rfl,r⟩
  ·rw[u_ hk] at q ⊢
   exact ih q)
def um(r:Rk P h ws us):us.map (·.1)=ws.map (·.1):=
 r.ind (M:=λws us=>us.map (·.1)=ws.map (·.1)) rfl λ_ _ ih=>by rw[o_,o_,ih]
def HH(r:Rk P h ws us):ws.length=us.length:=
 r.ind (M:=λws us=>ws.length=us.length) rfl λ_ _ ih=>Pg (· + 1) ih
def K6(r:Rk P h ws us)(q:Rk P h ws' us'):Rk P h (ws++ws') (us++us'):=
 r.ind (M:=λws us=>Rk P h (ws++ws') (us++us')) q λr _ ih=>.cons r ih
def GU(rd:Rd P h d v)(r:Rk P h ws us):Rk P h (cN ws k d) (cN us k v):=by
 unfold cN
 rw[sd (um r)]
 by_cases hc:(ws.any λkv=>decide (kv.1=k))=true
 ·rw[if_pos hc,if_pos hc]
  exact r.ind (M:=λws us=>Rk P h (ws.map λkv=>if kv.1=k then (kv.1,d) else kv) (us.map λkv=>if kv.1=k then (kv.1,v) else kv)) .nil (λ{k2 d2 v2 ds vs} r _ ih=>by
   rw[o_,o_]
   dsimp only
   by_cases hk:k2=k
   ·rw[if_pos hk,if_pos hk];exact .cons rd ih
   ·rw[if_neg hk,if_neg hk];exact .cons r ih)
 ·rw[if_neg hc,if_neg hc]
  exact K6 r (.cons rd .nil)
def Jg:∀{ks:List Key}{ds:List D}{vs:List Val},Rds P h ds vs->Rk P h (ks.zip ds) (ks.zip vs):=by
 intro ks
 induction ks with
 |nil=>intro ds vs _;exact .nil
 |
  cons k ks ih=>
  intro ds vs r
  cases r with
  |nil=>exact .nil
  |cons r rr=>exact .cons r (ih rr)
end
noncomputable def BL:Val->Val->Bv:=λx y=>match x with
 |.dct kvs=>(match y with
  |.str k=>(match lkD kvs (.inr k) with
   |some v=>.val v
   |none=>.stuck)
  |_=>.stuck)
 |_=>.stuck
def Hq:RO rY BL:=λP h d1 d2 v1 v2 r1 r2=>by
 unfold BL
 split
 ·rename_i kvs
  split
  ·rename_i k
   split
   ·rename_i v q
    obtain⟨n,ws,rfl,e,rk⟩:=r1.dct
    obtain rfl:=r2.str
    obtain⟨d,q1,rd⟩:=Dp rk q
    refine⟨d,?_,rd⟩
    unfold rY
    dsimp only
    rw[e]
    dsimp only
    rw[q1]
   ·trivial
  ·trivial
 ·trivial
def BJ:PO2:=⟨rY,BL,Hq⟩
theorem Nu(kvs:List (Key×Val))(k:Str):BJ.G (.dct kvs) (.str k)=match lkD kvs (.inr k) with
 |some v=>.val v
 |none=>.stuck:=rfl
noncomputable def sD:Val->Val->Val->Option Val:=λo i v=>match o with
 |.dct kvs=>(match i with
  |.str k=>if kvs.length<16777216 then some (.dct (cN kvs (.inr k) v)) else none
  |_=>none)
 |_=>none
noncomputable def vM(ks:List Str)(A:MA3):ME3:=λe=>(A e).bind λts e1=>match dem e1 ts with
 |some (e2,vs)=>if ks.length=vs.length then .ok (.new (.dct ((ks.map Sum.inr).zip vs))) e2 else .stuck
 |none=>.stuck
def Fc(ks:List Str)(hA:RA A A3):RE (lZ ks A) (vM ks A3):=λX h0 L ns e ae h S hl=>by
 have SG:=S.grow (.dct [])
 have p:=hA (Xn X h.length) h0 ns e ae (h++[.dct []]) SG
 unfold vM lZ
 cases q:A3 e with
 |stuck=>trivial
 |
  exc c e'=>
  rw[q] at p
  obtain⟨h',ns',y,a,S'⟩:=p
  exact⟨h',ns',by rw[y];rfl,(Stp.grow _).trans S a,S'.weak λn z=>.inl z⟩
 |
  ok ts e1=>
  rw[q] at p
  obtain⟨ds,h1,ns1,y,a1,S1,r1⟩:=p
  rw[y]
  show Po X h0 ns e ae h (relE X h0 L ae) _ (match dem e1 ts with
   |some (e2,vs)=>if ks.length=vs.length then .ok (.new (.dct ((ks.map Sum.inr).zip vs))) e2 else .stuck
   |none=>.stuck)
  cases qd:dem e1 ts with
  |none=>trivial
  |
   some w=>
   obtain⟨e2,vs⟩:=w
   dsimp only
   by_cases bd:ks.length=vs.length
   ·rw[if_pos bd]
    obtain⟨db,S2,a2,r2⟩:=gv S1 r1 qd
    have hk:h1[h.length]?=some (.dct []):=a1.keep _ _ ve λ⟨i,s,z,_⟩=>SG.nx i _ z (.inr rfl)
    have A:=((Stp.grow (.dct [])).trans S a1).trans S a2
    have hlt:=bg hk
    have mv:Mov (Oc (Xn X h.length) db) (Oc (Xn X h.length) db) h1 (h1.set h.length (.dct ((ks.map Sum.inr).zip ds))):=λm o p q=>⟨p,by
     have:m≠h.length:=λz=>p.1 (.inr z)
     rw[aU this];exact q⟩
    have S3:Sat (Xn X h.length) h0 db e2 ae (h1.set h.length (.dct ((ks.map Sum.inr).zip ds))):=⟨S2.l1,S2.l2,by rw[B_];exact S2.lh,λm z=>by rw[B_];exact S2.xl m z,S2.inj,S2.nx,λj s qj=>(S2.sl j s qj).mono mv λm o qm qo=>by
     have:m≠h.length:=λz=>S2.nx j m qm (.inr z)
     rw[aU this];exact qo⟩
    have A3':Stp ns e h db e2 (h1.set h.length (.dct ((ks.map Sum.inr).zip ds))):=⟨by rw[B_];exact A.len,λm o qm hm=>by
     have:m≠h.length:=L_ (bg qm)
     rw[aU this];exact A.keep m o qm hm,A.nw,A.lk,A.lk',A.mu,A.mu'⟩
    refine⟨.ref h.length,_,db,?_,A3',S3.weak λn z=>.inl z,h.length,_,rfl,hl,λz=>O1 _ (S.xl _ z),bp hlt,trivial,S3,.dct ((Jg r2).mono mv)⟩
    show (match h1[h.length]? with
     |some (.dct [])=>if ks.length=ds.length then R.ok (D.ref h.length) (h1.set h.length (.dct ((ks.map Sum.inr).zip ds))) else .stuck
     |_=>.stuck)=_
    rw[hk]
    dsimp only
    rw[if_pos (by rw[r2.len];exact bd)]
   ·rw[if_neg bd]
    trivial
def xy(ks:List Str)(a:PAs):PEx:=⟨lZ ks a.F,vM ks a.G,Fc ks a.ok⟩
theorem JR(e:E3)(ks:List Str)(a:PAs):(xy ks a).G e=(a.G e).bind λts e1=>match dem e1 ts with
 |some (e2,vs)=>if ks.length=vs.length then .ok (.new (.dct ((ks.map Sum.inr).zip vs))) e2 else .stuck
 |none=>.stuck:=rfl
section
variable{K:W.Frag}{mg:Ra}{X:Cx}{ES:L2.St->XK}{a b:Expr}{p q:PEx}{pos:Pos}
def D8(hu:X.A.units+1<cLine)(ha:DE K mg X ES a p.F)(hb:DE K mg X ES b q.F)(hs:nR b):DE K mg X ES (.Subscript a b pos) (pOp BJ p q).F:=by with_unfolding_all exact EI hu ha hb hs
def jg(hv:DE K mg X ES v F)(hr:PPs X pos ks vs (tps K mg ES prs)):PPs X pos (some (.Constant (.str k) j kp)::ks) (v::vs) (tps K mg ES ((k,F)::prs)):=by with_unfolding_all exact BR hv hr
def Gd(hp:PPs X pos keys values (tps K mg ES prs))(h1:ks=prs.map (·.1):=by rfl)(h2:A.F=aL prs:=by rfl)(hn:ks.Nodup:=by decide)(hall:keys.all (·.isSome)=true:=by rfl)(hl:keys.length=values.length:=by rfl)(h0:keys≠[]:=by intro h;cases h)(h15:keys.length<=15:=by decide)(hp15:prs.length<=15:=by decide):DE K mg X ES (.Dict keys values pos) (xy ks A).F:=by
 subst h1
 show DE K mg X ES (.Dict keys values pos) (lZ (prs.map (·.1)) A.F)
 rw[h2]
 with_unfolding_all exact F6 hp hall hl h0 h15 hn hp15
end
end L3
namespace L3
open PySem L2
theorem pz(P:Nat->E3->Prop)(m:Nat)(hs:∀i,i<m->∀e,P i e->∃e1 e2,g (.int (i:Nat)) e=some e1/\(B e1=.nx e2\/B e1=.ct e2)/\P (i+1) e2):∀(k i:Nat) (e:E3),i+k=m->P i e->∃e',P m e'/\cq g B ((List.range' i k).map λj=>Val.int (j:Nat)) e=.nx e'
 |
  0,i,e,h,p=>by
  obtain rfl:i=m:=by omega
  exact⟨e,p,rfl⟩
 |
  k+1,i,e,h,p=>by
  obtain⟨e1,e2,q1,q2,q3⟩:=hs i (by omega) e p
  obtain⟨e',p',q4⟩:=pz P m hs k (i+1) e2 (by omega) q3
  refine⟨e',p',?_⟩
  rw[List.range'_succ,o_,cU,q1]
  rcases q2 with q2 |q2
  ·simp only[q2,mQ];exact q4
  ·simp only[q2,vF];exact q4
def lC(P:Nat->E3->Prop)(m:Nat)(h0:P 0 e)(hs:∀i,i<m->∀e,P i e->∃e1 e2,g (.int (i:Nat)) e=some e1/\(B e1=.nx e2\/B e1=.ct e2)/\P (i+1) e2):∃e',P m e'/\cq g B (rgV m) e=.nx e':=by
 have:=pz P m hs m 0 e (by omega) h0
 rw[<- List.range_eq_range'] at this
 exact this
def JD(xs:List Val)(n:Nat):fX xs none (some (n:Int))=xs.take n:=by
 unfold fX
 rw[HT.sIx_none,HT.sIx_nat,List.drop_zero,Nat.sub_zero]
 by_cases h:n<=xs.length
 ·rw[QP h]
 ·rw[Nat.min_eq_right (by omega),Py (m_ _),Py (by omega)]
def r9(xs:List Val)(n:Nat):fX xs (some (n:Int)) none=xs.drop n:=by
 unfold fX
 rw[HT.sIx_none,HT.sIx_nat]
 by_cases h:n<=xs.length
 ·rw[QP h,Py (by rw[Qf];exact m_ _)]
 ·rw[Nat.min_eq_right (by omega),List.drop_of_length_le (m_ _),List.drop_of_length_le (by omega),P4]
def lR(xs:List Val)(lo hi:Option Int):aSl (.lst xs) lo hi=.new (.lst (fX xs lo hi)):=rfl
end L3
namespace L3
open PySem PySem.Spec PyProof.Rows L2
section
variable{gs:MGs}{gs3:jN}
end
section
variable{e:E3}
end
section
variable{K:W.Frag}{mg:Ra}{X:Cx}{es:List Expr}{gs:PGs}{pos:Pos}
end
section
variable{K:W.Frag}{mg:Ra}{X:Cx}{ES:L2.St->XK}{a:Expr}{A:PAs}{pos q2 p1 p2:Pos}
end
section
variable{K:W.Frag}{mg:Ra}{n:Str}{kvs:List (Str×Int)}
end
end L3
namespace L3
open PySem L2
end L3
namespace L3
open PySem PySem.Spec PyProof.Rows L2
section
variable{K:W.Frag}{mg:Ra}
end
section
variable{X:Cx}{K:W.Frag}{mg:Ra}{ES:L2.St->XK}{e:Expr}{es:List Expr}{A:PAs}{pos:Pos}{x:PSt}
variable{P:Program}{w:World}{base:Heap}{fx:Str}{fst:Stmt}{k n m:Nat}{ps N:List Str}{ms:List Bool}
end
end L3
namespace L3
open PySem L2
end L3
namespace L3
open PySem PySem.Spec PyProof.Rows L2
noncomputable def oo:Val->List Val->Option (Val×Val):=λu vs=>match u,vs with
 |.lst xs,[.int i,v]=>if 0<=i/\i<=(xs.length:Nat)/\xs.length<16777216 then some (.lst (xs.take i.toNat++v::xs.drop i.toNat),.non) else none
 |_,_=>none
def y9:RM j6 oo:=λP h n o u ds vs u' v e hf r rs q=>by
 unfold oo at q
 split at q
 ·split at q
  ·rename_i hb
   cases q
   obtain⟨q1,es,q2,q3,q4⟩:=lO e r
   cases rs with
   |
    cons r1 rs=>
    obtain⟨d,rfl,rd⟩:=xg rs
    obtain rfl:=ShR.int (.inl r1)
    refine⟨q1,.lst (es.take _++d::es.drop _),.non,?_,trivial,.lst ((q3.take _).append (.cons rd (q3.drop _))),.non⟩
    unfold j6;rw[q4];dsimp only;rw[if_pos (by rw[q3.len];exact hb)]
  ·cases q
 ·cases q
def lj:PMm:=⟨j6,oo,y9⟩
def zW(xs:List Val)(i:Int)(v:Val):lj.G (.lst xs) [.int i,v]=if 0<=i/\i<=(xs.length:Nat)/\xs.length<16777216 then some (.lst (xs.take i.toNat++v::xs.drop i.toNat),.non) else none:=rfl
def zJ{K:W.Frag}{mg:Ra}:MtD K mg ni lj.F:=ye
def Xd(X:Nat->Prop)(b k:Nat):Nat->Prop:=λn=>X n\/(b<=n/\n<b+k)
section
variable{X:Nat->Prop}{h0:Nat}{ns ns1:Ns}{e e1:E3}{ae:AE}{h h1:AH}
def Sat.growL(S:Sat X h0 ns e ae h)(os:List Ob):Sat (Xd X h.length os.length) h0 ns e ae (h++os):=by
 have mv:Mov (Oc X ns) (Oc (Xd X h.length os.length) ns) h (h++os):=λn o' p q=>⟨⟨λz=>by
  rcases z with z |z
  ·exact p.1 z
  ·have:=bg q;omega,p.2⟩,eI q⟩
 refine⟨S.l1,S.l2,by rw[p_];have:=S.lh;omega,λn z=>?_,S.inj,λi n q z=>?_,λi s q=>(S.sl i s q).mono mv λj o' _ q'=>eI q'⟩
 ·rw[p_]
  rcases z with z |z
  ·have:=S.xl n z;omega
  ·exact z.2
 ·rcases z with z |z
  ·exact S.nx i n q z
  ·obtain⟨_,_,_,_,_,_,_,q',_⟩:=S.own q
   have:=bg q';omega
def Stp.growL(os:List Ob):Stp ns e h ns e (h++os):=⟨by rw[p_];omega,λ_ _ q _=>eI q,λ_ _ q=>.inl q,λ_ _ q _=>⟨q,rfl⟩,λ_ _ q _=>⟨q,rfl⟩,λ_ _ q=>⟨_,q,rfl⟩,λ_ _ q=>⟨_,q,rfl⟩⟩
def Stp.wr(a:Stp ns e h ns1 e1 h1)(hc:h.length<=c):Stp ns e h ns1 e1 (h1.set c o):=
 ⟨by rw[B_];exact a.len,λm o' q z=>by rw[aU (by have:=bg q;omega)];exact a.keep m o' q z,a.nw,a.lk,a.lk',a.mu,a.mu'⟩
def xC(hc:X c):Mov (Oc X ns) (Oc X ns) h (h.set c o):=λn o' p q=>⟨p,by rw[aU (show n≠c from λz=>p.1 (by rw[z];exact hc))];exact q⟩
def Sat.wr(S:Sat X h0 ns e ae h)(hc:X c):Sat X h0 ns e ae (h.set c o):=by
 refine⟨S.l1,S.l2,by rw[B_];exact S.lh,λn z=>by rw[B_];exact S.xl n z,S.inj,S.nx,λi s q=>?_⟩
 exact (S.sl i s q).mono (xC hc) λj o' z q'=>by rw[aU (λy=>S.nx i c (by rw[<- y];exact z) hc)];exact q'
end
noncomputable def eT(j t:Nat)(q:ME3):List Val->List (List Val)->MS3
 | [],xss,e=>match e[j]? with
  |some .no=>.nx (e.set j (.sh (.lst (xss.map .lst))))
  |_=>.stuck
 |v::vs,xss,e=>match pN t v e with
  |none=>.stuck
  |some e1=>match q e1 with
   |.ok tm e2=>match rs e2 tm,e2[j]?,e2[t]? with
    |some (.int i),some .no,some (.sh u)=>match xss[i.toNat]? with
     |some xs=>if 0<=i/\xs.length<16777216 then eT j t q vs (xss.set i.toNat (xs++[u])) e2 else .stuck
     |none=>.stuck
    |_,_,_=>.stuck
   |_=>.stuck
def rfs(b k:Nat):List D:=(List.range' b k).map D.ref
def IV(hi:i<k):(rfs b k)[i]?=some (.ref (b+i)):=by
 unfold rfs
 rw[z_,List.getElem?_range' hi]
 simp
structure Dl(X:Nat->Prop)(b k j:Nat)(ns:Ns)(ae:AE)(h:AH)(xss:List (List Val)):Prop where
 aj:ae[j]?=some (some (.ref (b+k)))
 hm:h[b+k]?=some (.lst (rfs b k))
 len:xss.length=k
 cs:∀(i:Nat) (xs:List Val),xss[i]?=some xs->∃ds,h[b+i]?=some (.lst ds)/\Rds (Oc (Xd X b (k+1)) ns) h ds xs
def Dl.step(d:Dl X b k j ns ae h xss)(S:Sat (Xd X b (k+1)) h0 ns e ae h)(a:Stp ns e h ns1 e1 h1)(ha:ae1[j]?=ae[j]?):Dl X b k j ns1 ae1 h1 xss:=by
 have kp:∀(m:Nat) (o:Ob),b<=m->m<b+(k+1)->h[m]?=some o->h1[m]?=some o:=λm o z1 z2 q=>a.keep m o q λ⟨i,s,y,_⟩=>S.nx i m y (.inr ⟨z1,z2⟩)
 refine⟨ha.trans d.aj,kp _ _ (by omega) (by omega) d.hm,d.len,λi xs q=>?_⟩
 obtain⟨ds,q1,q2⟩:=d.cs i xs q
 have hi:=(k_.mp q).1
 rw[d.len] at hi
 exact⟨ds,kp _ _ (by omega) (by omega) q1,q2.mono (a.mov S)⟩
open Classical in
def Ab{X:Nat->Prop}{h0:Nat}{ns0:Ns}{e0:E3}{ae0:AE}{hh:AH}(S0:Sat X h0 ns0 e0 ae0 hh){b k j t:Nat}(hb:hh.length<=b)(hX:∀n,X n->n<b)(hjt:j≠t){q:PEx}{ns:Ns}{h:AH}{G:AH->Prop}(hG:∀h',(∀m o,Oc (Xd X b (k+1)) ns m->h[m]?=some o->h'[m]?=some o)->G h'):
 ∀{ds:List D}{vs:List Val},Rds (Oc (Xd X b (k+1)) ns) h ds vs->∀{ns1:Ns}{e1:E3}{ae1:AE}{h1:AH}{xss:List (List Val)},Mov (Oc (Xd X b (k+1)) ns) (Oc (Xd X b (k+1)) ns1) h h1->Stp ns0 e0 hh ns1 e1 h1->Sat (Xd X b (k+1)) h0 ns1 e1 ae1 h1->Dl X b k j ns1 ae1 h1 xss->e1[j]?=some .no->
 PoS X h0 ns0 e0 hh (fB G (gN t) (gp (eM cP (eOp gIx (aM j) q.F) (dm (aM t) dW))) ds ae1 h1) (eT j t q.G vs xss e1):=by
 intro ds
 induction ds with
 |
  nil=>
  intro vs r ns1 e1 ae1 h1 xss M A S1 D hj
  cases r
  unfold fB eT
  rw[if_pos (hG _ λm o p q=>(M m o p q).2),hj]
  dsimp only
  have hi:=(k_.mp hj).1
  have oc:∀n,b<=n->n<b+(k+1)->Oc X (ns1.set j none) n:=λn z1 z2=>⟨λz=>by have:=hX n z;omega,λz=>by
   rcases Pm z with z |z
   ·obtain⟨i,z⟩:=aS.mp z
    exact S1.nx i n z (.inr ⟨z1,z2⟩)
   ·cases z⟩
  have mv:Mov (Oc (Xd X b (k+1)) ns1) (Oc X (ns1.set j none)) h1 h1:=λn o p q=>⟨dH ⟨λz=>p.1 (.inl z),p.2⟩,q⟩
  have rows:Rds (Oc X (ns1.set j none)) h1 (rfs b k) (xss.map .lst):=by
   have aux:∀(l:List (List Val)) (i:Nat),xss.drop i=l->Rds (Oc X (ns1.set j none)) h1 (rfs (b+i) l.length) (l.map .lst):=by
    intro l
    induction l with
    |nil=>intro i _;exact .nil
    |
     cons x l ih=>
     intro i hd
     have hx:xss[i]?=some x:=by
      have:=Pg (λq=>q[0]?) hd
      simpa using this
     have hil:=(k_.mp hx).1
     rw[D.len] at hil
     obtain⟨ds,q1,q2⟩:=D.cs i x hx
     have:=ih (i+1) (by rw[<- List.tail_drop,hd];rfl)
     exact .cons (.cell (oc _ (by omega) (by omega)) q1 (.lst (q2.mono mv))) this
   have:=aux xss 0 rfl
   rw[D.len] at this
   exact this
  have Sw:=S1.weak (X:=X) λn z=>.inl z
  refine .nx (A.put (x:=none) hi (λ_ z=>by cases z) hj rfl rfl S1.l2) (Sw.putN' hi ⟨rfl,_,D.aj,.cell (oc _ (by omega) (by omega)) D.hm (.lst rows)⟩)
 |
  cons d0 ds ih=>
  intro vs r ns1 e1 ae1 h1 xss M A S1 D hj
  cases r with
  |
   cons r rr=>
   unfold fB eT
   rw[if_pos (hG _ λm o p q=>(M m o p q).2)]
   split
   ·trivial
   ·rename_i e2
     q2
    obtain⟨ae2,db,p2,S2,a2⟩:=sT t _ _ _ _ _ _ _ _ _ S1 (r.mono M) q2
    have hae:ae2=ae1.set t (some d0):=by cases p2;rfl
    have D2:=D.step S1 a2 (ae1:=ae2) (by rw[hae,aU hjt])
    have A2:=A.trans S0 a2
    have M2:Mov (Oc (Xd X b (k+1)) ns) (Oc (Xd X b (k+1)) db) h h1:=λn o p q=>by
     have:=M n o p q
     exact a2.mov S1 n o this.1 this.2
    rw[p2]
    have pq:=q.ok (Xd X b (k+1)) h0 0 db e2 ae2 h1 S2 (OH _)
    show PoS X h0 ns0 e0 hh ((gp (eM cP (eOp gIx (aM j) q.F) (dm (aM t) dW)) ae2 h1).loop _) _
    split
    ·rename_i tm e3 q3
     rw[q3] at pq
     obtain⟨dq,h3,ns3,y1,a3,S3,y4⟩:=pq
     split
     ·rename_i i u z1 z2 z3
      split
      ·rename_i xs z4
       split
       ·rename_i hb'
        have D3:=D2.step S2 a3 (ae1:=ae2) rfl
        have A3:=A2.trans S0 a3
        obtain rfl:=(y4.sh S3 z1).int
        have hil:=(k_.mp z4).1
        rw[D.len] at hil
        obtain⟨dsi,w1,w2⟩:=D3.cs _ xs z4
        obtain⟨_,du,w3,w4⟩:=S3.sl t _ z3
        have ix:atI (rfs b k) i=some (.ref (b+i.toNat)):=by
         unfold atI
         rw[show (rfs b k).length=k from by unfold rfs;rw[j_,List.length_range'],tH hb'.1 (by omega)]
         exact IV hil
        have f1:eOp gIx (aM j) q.F ae2 h1=.ok (.ref (b+i.toNat)) h3:=by
         unfold eOp aM
         rw[D2.aj]
         show (q.F ae2 h1).bind _=_
         rw[y1]
         show gIx (.ref (b+k)) (.int i) h3=_
         unfold gIx cM aV
         dsimp only
         rw[D3.hm]
         dsimp only
         rw[ix]
        have f2:gp (eM cP (eOp gIx (aM j) q.F) (dm (aM t) dW)) ae2 h1=.nx ae2 (h3.set (b+i.toNat) (.lst (dsi++[du]))):=by
         unfold gp eM
         rw[f1]
         show R.toS (if ju h3 (.ref (b+i.toNat))=true then _ else _) _ _=_
         rw[if_pos (by show (aV h3 (b+i.toNat)).isSome=true;unfold aV;rw[w1];rfl)]
         unfold dm aM dW
         rw[w3]
         show R.toS (cP (.ref (b+i.toNat)) [du] h3) _ _=_
         unfold cP gr
         dsimp only
         rw[w1]
         dsimp only
         rw[if_pos (by rw[w2.len];exact hb'.2)]
         rfl
        rw[f2]
        have xc:Xd X b (k+1) (b+i.toNat):=.inr ⟨by omega,by omega⟩
        have mw:=xC (ns:=ns3) (h:=h3) (o:=.lst (dsi++[du])) xc
        have bnd:b+i.toNat<h3.length:=bg w1
        refine ih rr (λn o p q=>?_) (A3.wr (by omega)) (S3.wr xc) ⟨D3.aj,?_,by rw[B_];exact D3.len,λi' xs' qx=>?_⟩ z2
        ·have m2:=M2 n o p q
         have m3:=a3.mov S2 n o m2.1 m2.2
         exact mw n o m3.1 m3.2
        ·rw[aU (by omega)]
         exact D3.hm
        ·rcases bo (by rw[D3.len];exact hil) qx with ⟨rfl,rfl⟩ |⟨z,qx⟩
         ·exact⟨_,bp bnd,((w2.append (.cons w4 .nil)).mono mw)⟩
         ·obtain⟨dsj,v1,v2⟩:=D3.cs i' xs' qx
          exact⟨dsj,by rw[aU (by omega)];exact v1,v2.mono mw⟩
       ·trivial
      ·trivial
     ·trivial
    ·trivial
theorem sy:∀(ds acc:List D) (x:Option D) (h:AH),acc.length+ds.length<=16777216->(∀g,G (h++g))->lcL G (gN 0) tY (eFn bI (dm (aM 0) dW)) ds acc [x] h=.ok (acc++rfs h.length ds.length) (h++ds.map λd=>Ob.lst [d])
 |
  [],acc,x,h,_,hG=>by
  unfold lcL
  rw[if_pos (by have:=hG [];rwa [OS] at this)]
  simp [rfs]
 |
  d::ds,acc,x,h,hl,hG=>by
  rw[v_] at hl
  have ih:=sy ds (acc++[.ref h.length]) (some d) (h++[.lst [d]]) (by rw[p_];show acc.length+1+_<=_;omega) (λg=>by rw[O3];exact hG _)
  unfold lcL
  rw[if_pos ⟨by have:=hG [];rwa [OS] at this,by omega⟩]
  show lcL G (gN 0) tY (eFn bI (dm (aM 0) dW)) ds (acc++[.ref h.length]) [some d] (h++[.lst [d]])=_
  rw[ih]
  congr 1
  ·rw[O3,p_]
   simp [rfs,List.range'_succ]
  ·simp
def kh(I1 I2:MI)(j t:Nat)(q:ME):MS:=gF (f6 (eLC I1 [none] (gN 0) tY (eFn bI (dm (aM 0) dW))) (gN j)) (nQ I2 (gN t) (gp (eM cP (eOp gIx (aM j) q) (dm (aM t) dW))))
noncomputable def C9(I1 I2:MI3)(j t:Nat)(q:ME3):MS3:=λe=>(I1 e).toS λp e1=>match p.2,e1[j]? with
 |
  none,some s=>if s.pl=true/\p.1.length<16777216 then (I2 (e1.set j .no)).toS λp2 e2=>match p2.2,e2[j]? with
   |none,some .no=>eT j t q p2.1 (p.1.map λv=>[v]) e2
   |_,_=>.stuck
  else .stuck
 |_,_=>.stuck
def FO{I1 I2:PIt}{j t:Nat}{q:PEx}(hjt:j≠t):RS (kh I1.F I2.F j t q.F) (C9 I1.G I2.G j t q.G):=λX h0 ns e ae h S=>by
 have hs:kh I1.F I2.F j t q.F ae h=(I1.F ae h).toS ae λit h1=>(((noX (lcL it.guard (gN 0) tY (eFn bI (dm (aM 0) dW)) it.items [] [none] h1)).bind bI).toS ae λd h2=>.nx (ae.set j (some d)) h2).then (nQ I2.F (gN t) (gp (eM cP (eOp gIx (aM j) q.F) (dm (aM t) dW)))):=by
  unfold kh gF f6 eLC
  cases I1.F ae h <;> rfl
 rw[hs]
 refine PoS.toS (I1.ok X h0 ns e ae h S) λit p h1 ns1 e1 a1 S1 r1=>?_
 obtain⟨vs,lk⟩:=p
 obtain⟨r2,gd,hk⟩:=r1
 cases lk with
 |some _=>trivial
 |none=>
 cases z2:e1[j]? with
 |none=>trivial
 |
  some s=>
  dsimp only
  split
  ·rename_i hp
   dsimp only at r2 gd hp
   have ln:=r2.len
   have g1:∀g,it.guard (h1++g):=λg=>gd _ λm o q _=>eI q
   rw[sy it.items [] none h1 (by rw[OE];omega) g1,OP]
   have hk1:(rfs h1.length it.items.length).length<=16777216:=by unfold rfs;rw[j_,List.length_range'];omega
   show PoS X h0 ns e h (SR.then (R.toS (bI (rfs h1.length it.items.length) _) ae _) _) _
   unfold bI
   rw[if_pos hk1]
   show PoS X h0 ns e h (nQ I2.F (gN t) _ (ae.set j (some (.ref (h1++it.items.map λd=>Ob.lst [d]).length))) (h1++(it.items.map λd=>Ob.lst [d])++[Ob.lst (rfs h1.length it.items.length)])) _
   have bd:(h1++it.items.map λd=>Ob.lst [d]).length=h1.length+it.items.length:=by rw[p_,j_]
   rw[bd,O3]
   have hol:((it.items.map λd=>Ob.lst [d])++[Ob.lst (rfs h1.length it.items.length)]).length=it.items.length+1:=by rw[p_,j_];rfl
   have S2:=S1.growL ((it.items.map λd=>Ob.lst [d])++[Ob.lst (rfs h1.length it.items.length)])
   rw[hol] at S2
   have A2:Stp ns1 e1 h1 ns1 e1 (h1++((it.items.map λd=>Ob.lst [d])++[Ob.lst (rfs h1.length it.items.length)])):=.growL _
   have hj:=(k_.mp z2).1
   have S3:=S2.putN hj (s:=.no) (d:=some (.ref (h1.length+it.items.length))) rfl
   have A3:=A2.put (x:=none) (s:=.no) hj (λ_ z=>by cases z) z2 hp.1 rfl S1.l2
   have A3':Stp ns e h _ _ _:=a1.trans S A3
   have cellAt:∀(i:Nat) (d:D),it.items[i]?=some d->(h1++((it.items.map λd=>Ob.lst [d])++[Ob.lst (rfs h1.length it.items.length)]))[h1.length+i]?=some (.lst [d]):=λi d qd=>by
    have:=(k_.mp qd).1
    rw[I_ (by omega),J_ (by rw[j_];omega),Nat.add_sub_cancel_left,z_,qd]
    rfl
   have hmAt:(h1++((it.items.map λd=>Ob.lst [d])++[Ob.lst (rfs h1.length it.items.length)]))[h1.length+it.items.length]?=some (.lst (rfs h1.length it.items.length)):=by
    rw[I_ (by omega),I_ (by rw[j_];omega),j_,Nat.add_sub_cancel_left,PC]
    rfl
   generalize h1++((it.items.map λd=>Ob.lst [d])++[Ob.lst (rfs h1.length it.items.length)])=h2 at *
   have mv:Mov (Oc X ns1) (Oc (Xd X h1.length (it.items.length+1)) (ns1.set j none)) h1 h2:=λn o p qn=>by
    have:=bg qn
    exact⟨dH ⟨λz=>by rcases z with z |z;exact p.1 z;omega,p.2⟩,A2.keep n o qn λ⟨i,s,y,_⟩=>p.2 (aS.mpr ⟨i,y⟩)⟩
   have D3:Dl X h1.length it.items.length j (ns1.set j none) (ae.set j (some (.ref (h1.length+it.items.length)))) h2 (vs.map λv=>[v]):=by
    refine⟨bp (by rw[S1.l1];exact hj),hmAt,by rw[j_,ln],λi xs qx=>?_⟩
    rw[z_] at qx
    obtain⟨v,qv,rfl⟩:=M_.mp qx
    obtain⟨d,qd,rd⟩:=r2.get qv
    exact⟨[d],cellAt i d qd,.cons (rd.mono mv) .nil⟩
   show PoS X h0 ns e h ((I2.F _ h2).toS _ _) _
   have p2:=I2.ok _ h0 _ _ _ h2 S3
   cases q2:I2.G (e1.set j .no) with
   |stuck=>trivial
   |
    exc c e2=>
    rw[q2] at p2
    obtain⟨h3,ns3,y1,a3,S4⟩:=p2
    rw[y1]
    exact⟨_,h3,ns3,rfl,A3'.trans S a3,S4.weak λn z=>.inl z⟩
   |
    ok p2' e2=>
    rw[q2] at p2
    obtain⟨it2,h3,ns3,y1,a3,S4,r3,gd3,hk3⟩:=p2
    obtain⟨vs2,lk2⟩:=p2'
    rw[y1]
    cases lk2 with
    |some _=>trivial
    |none=>
    cases y3:e2[j]? with
    |none=>simp only[R3.toS,y3];trivial
    |
     some s3=>
     by_cases hs3:s3=.no
     case neg=>(simp only[R3.toS,y3];cases s3 <;> first |exact absurd rfl hs3 |trivial)
     subst hs3
     simp only[R3.toS,y3]
     show PoS X h0 ns e h (fB it2.guard (gN t) _ it2.items _ h3) _
     have D4:=D3.step S3 a3 (ae1:=ae.set j (some (.ref (h1.length+it.items.length)))) rfl
     exact Ab S (F_ a1.len (m_ _)) (λn z=>S1.xl n z) hjt (λh' hh'=>gd3 h' λm o qm z=>by
      rcases z with z |⟨_,z,_⟩
      ·exact hh' m o z qm
      ·cases z) r3 (λn o p q=>⟨p,q⟩) (A3'.trans S a3) S4 D4 y3
  ·trivial
def vQ(I1 I2:PIt)(j t:Nat)(q:PEx)(hjt:j≠t):PSt:=⟨kh I1.F I2.F j t q.F,C9 I1.G I2.G j t q.G,FO hjt⟩
def zB(a b c:MS):gF (gF a b) c=gF a (gF b c):=by
 funext ae h
 unfold gF
 cases a ae h <;> rfl
section
variable{K:W.Frag}{mg:Ra}{X:Cx}{ES:L2.St->XK}{re qe am:Expr}{st1:Stmt}{sts:List Stmt}{q:PEx}{y:PSt}{g:PGt}{I1 I2:PIt}{pos p2 p3 p4 p5:Pos}{x:Str}{j t:Nat}{hjt:j≠t}{ow:Bool}{tg oe:Expr}{hsb:(([none]:Rh).filterMap id).Nodup}
def AQ(h1:DS K mg X ES st1 (az ow j (pLC I1 [none] hsb (gtN 0) qY (cH (aa (af 0) ag)))).F)(hp:PassesOwn (model X.prog X.w) X.A X.env X.xe)(hc:X.calm=true)(hK:X.K=K)(hi:DI K mg X ES tg am I2.F)(hg:DG K mg X ES tg (gtN t).F)(hx:DE K mg X ES oe (af j).F)(hq:DE K mg X ES qe q.F)(hr:DE K mg X ES re (af t).F)(hy:DSs K mg X ES sts y.F)
 (hpx:kc qe:=by exact λ_ _=>rfl) (hs:∀x,foldedSetIterable am X.env x=pure x:=by intro _;rfl)
 (hsw:swapsWith (.Call (.Attribute (.Subscript oe qe p2) "append" p3) [re] [] p4) none p5.line X.env=pure false:=by rfl)
 (d_:attributeBase (.Subscript oe qe p2) "append" X.env (eval (.Subscript oe qe p2) X.env)=eval (.Subscript oe qe p2) X.env:=by rfl)
 (hfew:((backTo p4 (starEach [re] X.env)).all (λx=>!x.1)&&(backToKw p4 (keywordEach [] X.env)).all (λx=>x.1.isSome)
  && decide ([re].length+([]:List Keyword).length+(if ([]:List Keyword).isEmpty then 0 else 1)<30))=true:=by rfl)
 (e_:(p3.endLine==p4.line)=true:=by rfl) (hs1:starEach [re] X.env=[(false,eval re X.env)]:=by rfl) (ci:(backTo p4 (starEach ([]:List Expr) X.env)).any (·.1)=false:=by rfl) (hs0:starEach ([]:List Expr) X.env=[]:=by rfl):
 DSs K mg X ES (st1 :: .For tg am [.Expr (.Call (.Attribute (.Subscript oe qe p2) "append" p3) [re] [] p4) p5] [] pos::sts) (ao (vQ I1 I2 j t q hjt) y).F:=by
 have sh:starEach (re::[]) X.env=(false,eval re X.env)::starEach [] X.env:=by rw[hs0];exact hs1
 show DSs K mg X ES _ (gF (kh I1.F I2.F j t q.F) y.F)
 unfold kh
 rw[zB]
 with_unfolding_all exact lI h1 (lI (yL hp hc hi hg (uR (uV (de_m hK PySem.F.slot_list_append PySem.F.type_list_append oG oQ (C7 (ixK (K:=K) hK) C5 hx hq hpx) (vn hr zx sh) d_ hfew e_ sh ci) hsw)) hs) hy)
end
section
variable{K:W.Frag}{mg:Ra}
end
def CQ:ME3:=λe=>.ok (.new (.set [])) e
def Fh:RE xv CQ:=λX h0 L ns e ae h S hl=>BvR.po (r:=.ok (.ref h.length) (h++[Ob.set []])) (b:=.new (.set [])) S hl ⟨.set [],rfl,trivial,.set []⟩
def xn:PEx:=⟨xv,CQ,Fh⟩
def HI(e:E3):xn.G e=.ok (.new (.set [])) e:=rfl
noncomputable def Ad:Val->Val->Bv:=λx y=>match x,y with
 |.int i,.set xs=>.val (.bl (decide (i∈xs)))
 |_,_=>.stuck
def KQ:RO qR Ad:=λP h d1 d2 v1 v2 r1 r2=>by
 unfold Ad
 split
 ·rename_i i xs
  rw[r1.int]
  obtain⟨n,rfl,e⟩:=r2.set
  exact⟨_,by unfold qR;dsimp only;rw[e],.bl _⟩
 ·trivial
def Bb:PO2:=⟨qR,Ad,KQ⟩
def NV(i:Int)(xs:List Int):Bb.G (.int i) (.set xs)=.val (.bl (decide (i∈xs))):=rfl
noncomputable def xq:List Val->Bv:=λvs=>match vs with
 | [.set xs]=>.val (.int (xs.length:Nat))
 |_=>.stuck
def DB:RFn mC xq:=λP h ds vs r=>by
 unfold xq
 split
 ·obtain⟨d,hd,r1⟩:=iU r
  subst hd
  obtain⟨n,rfl,e⟩:=r1.set
  exact⟨_,by unfold mC;dsimp only;rw[e],.int _⟩
 ·trivial
def sk:PBf:=⟨mC,xq,DB⟩
def KY(xs:List Int):sk.G [.set xs]=.val (.int (xs.length:Nat)):=rfl
def A0:Val->Option (List Int)
 |.set xs=>some xs
 |_=>none
noncomputable def sN(i:Nat)(A:MA3):ME3:=λe=>match e[i]? with
 |some s=>match s.mv.bind A0 with
  |some _=>(A e).bind λts e1=>match dem e1 ts with
   |some (e2,[.int k])=>match e2[i]? with
    |some s2=>match s2.mv.bind A0 with
     |some xs=>if xs.length<4000 then .ok (.val .non) (e2.set i (s2.re (.set (eF xs k)))) else .stuck
     |none=>.stuck
    |none=>.stuck
   |_=>.stuck
  |none=>.stuck
 |none=>.stuck
def GP(i:Nat)(hA:RA A A3):RE (eMS (aM i) A) (sN i A3):=λX h0 L ns e ae h S hl=>by
 unfold sN
 cases q0:e[i]? with
 |none=>trivial
 |
  some s0=>
  dsimp only
  split
  ·rename_i xs0 hz
   obtain⟨u0,z1,z2⟩:=OG.mp hz
   obtain⟨n0,o0,b1,b2,b3,b4,_⟩:=S.write q0 z1
   have hL:wb h (.ref n0)=true:=by
    cases u0 with
    |set ys=>cases b4;show (match h[n0]? with |some (.set _)=>true |_=>false)=true;rw[b2]
    |_=>cases z2
   have L2e:eMS (aM i) A ae h=(A ae h).bind λds h2=>tf (.ref n0) ds h2:=by
    unfold eMS aM
    rw[b1]
    simp only[fu,hL,Pd]
   rw[L2e]
   refine Po.bind S (hA X h0 ns e ae h S) λds ts h1 ns1 e1 a1 S1 r1=>?_
   split
   ·rename_i e2 k q1
    obtain⟨db,S2,a2,r2⟩:=gv S1 r1 q1
    cases q2:e2[i]? with
    |none=>trivial
    |
     some s2=>
     dsimp only
     split
     ·rename_i xs q3
      split
      ·rename_i bd
       obtain⟨u,y1,y2⟩:=OG.mp q3
       obtain⟨n,o,k1,k2,k3,k4,k5⟩:=S2.write q2 y1
       rw[b1] at k1;cases k1
       cases u with
       |
        set ys=>
        cases y2
        cases k4
        obtain⟨d,rfl,rd⟩:=xg r2
        obtain rfl:=ShR.int (.inl rd)
        obtain⟨mv,S4,a4⟩:=k5 (.set (eF xs k)) (.set (eF xs k)) trivial (.set _)
        refine⟨.non,_,db,?_,a2.trans S1 a4,S4,.non⟩
        unfold tf
        dsimp only
        rw[k2]
        dsimp only
        rw[if_pos bd]
       |_=>cases y2
      ·trivial
     ·trivial
   ·trivial
  ·trivial
def CG(i:Nat)(a:PAs):PEx:=⟨eMS (aM i) a.F,sN i a.G,GP i a.ok⟩
def G5(e:E3)(i:Nat)(a:PAs):(CG i a).G e=sN i a.G e:=rfl
noncomputable def sq:Val->Val->Bv:=λx y=>match x with
 |.dct kvs=>(match y with
  |.int k=>(match lkD kvs (.inl k) with
   |some v=>.val v
   |none=>.stuck)
  |_=>.stuck)
 |_=>.stuck
def KA:RO rn sq:=λP h d1 d2 v1 v2 r1 r2=>by
 unfold sq
 split
 ·split
  ·split
   ·rename_i kvs k _ v q
    obtain⟨n,ws,rfl,e,rk⟩:=r1.dct
    obtain rfl:=r2.int
    obtain⟨d,q1,rd⟩:=Dp rk q
    refine⟨d,?_,rd⟩
    unfold rn
    dsimp only
    rw[e]
    dsimp only
    rw[q1]
   ·trivial
  ·trivial
 ·trivial
def xa:PO2:=⟨rn,sq,KA⟩
def L6(h:lkD kvs (.inl k)=some v):xa.G (.dct kvs) (.int k)=.val v:=by
 show sq (.dct kvs) (.int k)=_
 unfold sq
 dsimp only
 rw[h]
noncomputable def sDI:Val->Val->Val->Option Val:=λo i v=>match o with
 |.dct kvs=>(match i with
  |.int k=>if kvs.length<16777216 then some (.dct (cN kvs (.inl k) v)) else none
  |_=>none)
 |_=>none
def Eo:wm wDI sDI:=λP h n o u di vi d v u' np e hf r ri rd q=>by
 unfold sDI at q
 split at q
 ·rename_i kvs
  split at q
  ·rename_i k
   split at q
   ·rename_i hl
    cases q
    obtain rfl:=ri.int
    cases r with
    |
     dct rk=>
     rename_i ws
     refine⟨.dct (cN ws (.inl k) d),?_,trivial,.dct (GU rd rk)⟩
     unfold wDI
     dsimp only
     rw[e]
     dsimp only
     rw[if_pos (by rw[HH rk];exact hl)]
   ·cases q
  ·cases q
 ·cases q
def seI:PSe:=⟨wDI,sDI,Eo⟩
def Ha(kvs:List (Key×Val))(k:Int)(v:Val):seI.G (.dct kvs) (.int k) v=if kvs.length<16777216 then some (.dct (cN kvs (.inl k) v)) else none:=rfl
noncomputable def kO:Val->List Val->Option (Val×Val):=λu vs=>match u,vs with
 |.lst xs,[.tup ys]=>if xs.length+ys.length<=16777216 then some (.lst (xs++ys),.non) else none
 |_,_=>none
def xf:RM jw kO:=λP h n o u ds vs u' v e hf r rs q=>by
 unfold kO at q
 split at q
 ·split at q
  ·rename_i hl
   cases q
   obtain⟨q1,es,q2,q3,q4⟩:=lO e r
   obtain⟨d,rfl,rd⟩:=xg rs
   obtain⟨ys',rfl,rr⟩:=ShR.tup (.inl rd)
   refine⟨q1,.lst (es++ys'),.non,?_,trivial,.lst (q3.append rr),.non⟩
   unfold jw;rw[q4];dsimp only;rw[if_pos (by rw[q3.len,rr.len];exact hl)]
  ·cases q
 ·cases q
def g0:PMm:=⟨jw,kO,xf⟩
def oZ(xs ys:List Val):g0.G (.lst xs) [.tup ys]=if xs.length+ys.length<=16777216 then some (.lst (xs++ys),.non) else none:=rfl
section
variable{K:W.Frag}{mg:Ra}{X:Cx}{ES:L2.St->XK}{e o a b:Expr}{es:List Expr}{p q:PEx}{A:PAs}{pos:Pos}
def xx:MtD K mg (kL K) g0.F:=wk
def Kn:OpD K mg tL Bb.F:=Ez
def Fz:bA K mg (λxs H Q=>∃a S n,xs=[.ref a]/\H a=some (.set S n)/\Q (.int (n:Nat)) H) sk.F:=FW
def Bd:nW K mg wA seI.F:=Bp
def Fo(hg:Gl X x)(hm:mg x=none)(hv:bootBuiltins x=some (.type "set"))(hk:X.mg=mg:=by rfl)(hn:x ≠ "__name__":=by decide)(hdb:(x==("__debug__" : Str))=false:=by decide):DE K mg X ES (.Call (.Name x p0) [] [] pos) xn.F:=by with_unfolding_all exact DL hg hm hv hk hn hdb
def Kw(hK:X.K=K)(ho:DE K mg X ES o (af j).F)(ha:DA K mg X ES (e::es) A.F)
 (d_:attributeBase o "add" X.env (eval o X.env)=eval o X.env:=by rfl)
 (hfew:((backTo cpos (starEach (e::es) X.env)).all (λx=>!x.1)&&(backToKw cpos (keywordEach [] X.env)).all (λx=>x.1.isSome)
  && decide ((e::es).length+([]:List Keyword).length+(if ([]:List Keyword).isEmpty then 0 else 1)<30))=true:=by rfl)
 (e_:(apos.endLine==cpos.line)=true:=by rfl) (hs:starEach (e::es) X.env=(false,eval e X.env)::starEach es X.env:=by rfl) (ci:(backTo cpos (starEach es X.env)).any (·.1)=false:=by rfl):
 DE K mg X ES (.Call (.Attribute o "add" apos) (e::es) [] cpos) (CG j A).F:=by with_unfolding_all exact L7 hK ho ha d_ hfew e_ hs ci
def AJ(hu:X.A.units+1<cLine)(ha:DE K mg X ES a p.F)(hb:DE K mg X ES b q.F)(hs:nR b):DE K mg X ES (.Subscript a b pos) (pOp xa p q).F:=by with_unfolding_all exact BF hu ha hb hs
end
section
variable{K:W.Frag}{mg:Ra}
end
end L3
namespace L3
open PySem L2
end L3
namespace L3
open PySem PySem.Spec PyProof.Rows L2
noncomputable def z9(neg:Bool):Val->Val->Bv:=λx y=>match y with
 |.dct kvs=>(match x with
  |.str k=>.val (.bl (neg ^^ oC (kvs.map (·.1)) k))
  |_=>.stuck)
 |_=>.stuck
def Gs(neg:Bool):RO (rj neg) (z9 neg):=λP h d1 d2 v1 v2 r1 r2=>by
 unfold z9
 split
 ·rename_i kvs
  split
  ·rename_i k
   obtain⟨n,ws,rfl,e,rk⟩:=r2.dct
   obtain rfl:=r1.str
   refine⟨_,?_,.bl _⟩
   unfold rj
   dsimp only
   rw[e]
   dsimp only
   rw[um rk]
  ·trivial
 ·trivial
def w6:PO2:=⟨rj true,z9 true,Gs true⟩
def Iw(kvs:List (Key×Val))(k:Str):w6.G (.str k) (.dct kvs)=.val (.bl (!oC (kvs.map (·.1)) k)):=by
 show Bv.val (.bl (true ^^ _))=_
 rw[Bool.true_xor]
section
variable{K:W.Frag}{mg:Ra}
def EC:OpD K mg (Cd true) w6.F:=DQ true
end
section
variable{K:W.Frag}{mg:Ra}{X:Cx}{ES:L2.St->XK}{e:Expr}{es:List Expr}{p:PEx}{A:PAs}{pos:Pos}
def zcF{f:PFn}{x:Str}{p0:Pos}{k j n:Nat}{ps:List Str}(C:Callee X.prog X.w X.K X.mg X.base x j ps (spD K mg n f.F))(hr:Room k X.A)(ha:DA K mg X ES (e::es) A.F)(hk:j<=k:=by omega)(hg:Gl X x:=by exact rfl)(hx:fM X ES:=by first |exact tV Lw |exact As |assumption)(hn:f.ms.length=n:=by rfl)(hdb:(x==("__debug__" : Str))=false:=by decide)(he:starEach (e::es) X.env=(false,eval e X.env)::starEach es X.env:=by rfl)(hpl:(backTo pos (starEach es X.env)).any (·.1)=false:=by rfl):DE K mg X ES (.Call (.Name x p0) (e::es) [] pos) (ak f A).F:=Bf C (hr.mono hk) hg hx ha hn hdb he hpl
def zsS{ow:Bool}(i:Nat){x:Str}{ii:Pos}(hN:X.N.Nodup)(he:DE K mg X ES e p.F)(hi:X.N[i]?=some x:=by exact rfl)(hx:Loc X.env.scope x:=by first |exact Or.inl rfl |exact Or.inr rfl)(hs:swapsWith e (some (.Name x ii)) pos.line X.env=pure false:=by rfl)(hf:X.fn x=true\/X.env.scope.names.lookup x=some .local:=by first |exact .inl rfl |exact .inr rfl |assumption):DS K mg X ES (.Assign [.Name x ii] e pos) (az ow i p).F:=Gr hN hi hx he hs hf
def zgN(i:Nat){x:Str}(hN:X.N.Nodup)(hi:X.N[i]?=some x:=by exact rfl)(hx:Loc X.env.scope x:=by first |exact Or.inl rfl |exact Or.inr rfl)(hf:X.fn x=true\/X.env.scope.names.lookup x=some .local:=by first |exact .inl rfl |exact .inr rfl |assumption):DG K mg X ES (.Name x pos) (gtN i).F:=Eb hN hi hx hf
end
end L3
namespace L3
open PySem PySem.Spec PyProof.Rows L2 PySem.W
def adr(K:Frag)(x:Str):Addr:=match nsIn K mainGlobals x with
 |some (some (.ref a))=>a
 |_=>0
def jW(K:Frag)(x:Str):Bool:=match nsIn K mainGlobals x with
 |some (some (.ref _))=>true
 |_=>false
def A4(K:Frag)(x:Str):Bool:=match nsIn K mainGlobals x with
 |some none=>true
 |_=>false
noncomputable def xcB(K:Frag)(C:Addr):Bool:=(clsIn K C).isSome&&(findIn K (.ref C) "__getattribute__" == some (some (.builtin "BaseException.__getattribute__"))&&(findIn K (.ref C) "__getattr__" == some none&&(findIn K (.ref C) "__class__" == some (some (.builtin "object.__class__"))&&(specialIn K (.builtin "object.__class__") "__get__" == some (some (.builtin "getset_descriptor.__get__"))&&(takesIn K (.builtin "object.__class__")==some true&&(mroIn K C (.type "object")==some true&&mroIn K C (.type "BaseException")==some true))))))
noncomputable def hdB(K:Frag)(C:Addr):Bool:=typeIn K (.ref C)==some (.type "type")&&((clsIn K C).isSome&&mroIn K C (.type "BaseException")==some true)
noncomputable def clA(K:Frag):Cl->Value
 |.b n=>.type n
 |.o x=>.ref (adr K x)
def B2(K:Frag):Cl->Bool
 |.b _=>true
 |.o x=>jW K x
noncomputable def BC(K:Frag)(p:Cl×Cl×Bool):Bool:=kitOne K (clA K p.1) (clA K p.2.1)==some p.2.2&&(B2 K p.1&&B2 K p.2.1)
def xkB(K:Frag):Cl->Bool
 |.b _=>true
 |.o x=>xcB K (adr K x)
noncomputable def wB:D->Value->Bool
 |.int i,.int j _=>i==j
 |.str x,.str y _=>x==y
 |.non,.none=>true
 |.bl b,.bool c=>b==c
 |_,_=>false
noncomputable def dV:D->V
 |.int i=>.int i
 |.str x=>.str x
 |.bl b=>.bl b
 |_=>.non
def pX:List D->List Value->Bool
 | [],[]=>true
 |d::ds,v::vs=>wB d v&&pX ds vs
 |_,_=>false
noncomputable def gcB(K:Frag)(x:Str):D->Bool
 |.tup ds=>(match nsIn K mainGlobals x with
  |some (some (.ref a))=>(match K.lookup a with
   |some ⟨.type "tuple",_,.seq its _,_⟩=>decide (its.size<=1000)&&pX ds its.toList
   |_=>false)
  |_=>false)
 |d=>match nsIn K mainGlobals x with
  |some (some v)=>wB d v
  |_=>false
noncomputable def bFn:List String:=["abs", "all", "any", "isinstance", "len", "max", "min", "sorted", "sum"]
noncomputable def bTy:List String:=["bool", "dict", "int", "list", "set", "str", "tuple"]
def bIt:List String:=["range", "zip", "enumerate"]
def Lh:(bFn.all λn=>bootBuiltins (Str.ofString n)==some (.builtin n))=true:=by decide
def Gp:(bTy.all λn=>bootBuiltins (Str.ofString n)==some (.type n))=true:=by decide
def boF{n:String}(h:bFn.contains n=true):bootBuiltins (Str.ofString n)=some (.builtin n):=OQ.mp (OF.mp Lh n (O6.mp h))
def boT{n:String}(h:bTy.contains n=true):bootBuiltins (Str.ofString n)=some (.type n):=OQ.mp (OF.mp Gp n (O6.mp h))
structure Tb where
 us:List Str
 rs:List Str
 hs:List (Str×List Str)
 kt:jl
 gs:List (Str×D)
def Tb.ok(b:Tb)(K:Frag):Bool:=(bFn++(bTy++bIt)).all (λn=>A4 K (Str.ofString n))&&(b.us.all (jW K)&&(b.rs.all (λx=>excIn K (adr K x) lg "ValueError.__new__" && jW K x)&&(b.hs.all (λp=>hdB K (adr K p.1)&&p.2.all λc=>mroIn K (adr K c) (.ref (adr K p.1))==some true&&jW K c)&&(b.kt.all (λp=>BC K p&&xkB K p.1)&&b.gs.all λp=>gcB K p.1 p.2))))
structure Tx(b:Tb)(K:Frag)(mg:Ra):Prop where
 n:∀{n:String},(bFn++(bTy++bIt)).contains n=true->mg (Str.ofString n)=none
 m:∀{x:Str},b.us.contains x=true->mg x=some (.ref (adr K x))
 x:∀{x:Str},b.rs.contains x=true->excIn K (adr K x) lg "ValueError.__new__"=true
 h:∀{x:Str}{l:List Str},(x,l)∈b.hs->XHand K (adr K x)/\∀c∈l,∀Ce,mg c=some (.ref Ce)->mroIn K Ce (.ref (adr K x))=some true
 k:KitsOk K mg b.kt
 g:∀{x:Str}{d:D},b.gs.lookup x=some d->GC K mg x d
section
variable{K:Frag}{h:Heap}{mg:Ra}{x:Str}(X:K.In h)(G:h.Ns mainGlobals mg)
include X G
def pZ(e:jW K x=true):mg x=some (.ref (adr K x)):=by
 unfold jW at e
 split at e
 ·rename_i a q
  unfold adr
  rw[q]
  exact mg_of X G q
 ·cases e
def NL(e:A4 K x=true):mg x=none:=by
 unfold A4 at e
 split at e
 ·rename_i q
  exact mg_none_of X G q
 ·cases e
omit X G in
def My{C:Addr}(e:xcB K C=true):XCls K C:=by
 simp only[xcB,r_,OQ] at e
 obtain⟨e1,e2,e3,e4,e5,e6,e7,e8⟩:=e
 exact⟨e1,e2,e3,e4,e5,e6,e7,e8⟩
def Dr{c:Cl}{v:Value}(e:B2 K c=true)(q:ClV mg c v):v=clA K c:=by
 cases c with
 |b n=>exact q
 |
  o y=>
  obtain⟨a,rfl,m⟩:=q
  rw[pZ X G (show jW K y=true from e)] at m
  cases m
  rfl
omit X G in
def yF{d:D}{v:Value}(e:wB d v=true):RelV (dV d) v/\∀ρ H,RelD K mg ρ H d (dV d):=by
 unfold wB at e
 split at e
 ·cases OQ.mp e;exact⟨⟨_,rfl⟩,λ_ _=>.int _⟩
 ·cases OQ.mp e;exact⟨⟨_,rfl⟩,λ_ _=>.str _⟩
 ·exact⟨rfl,λ_ _=>.non⟩
 ·cases OQ.mp e;exact⟨rfl,λ_ _=>.bl _⟩
 ·cases e
omit X G in
theorem uC:∀{ds:List D}{vs:List Value},pX ds vs=true->Vals (ds.map dV) vs/\∀ρ H,RelDs K mg ρ H ds (ds.map dV)
 | [],[],_=>⟨.nil,λ_ _=>.nil⟩
 |
  d::ds,v::vs,e=>by
  rw[pX,r_] at e
  obtain⟨a1,a2⟩:=yF (K:=K) (mg:=mg) e.1
  obtain⟨b1,b2⟩:=uC e.2
  exact⟨.cons a1 b1,λρ H=>.cons (a2 ρ H) (b2 ρ H)⟩
 | [],_::_,e=>nomatch e
 |_::_,[],e=>nomatch e
def Of{d:D}(e:gcB K x d=true):GC K mg x d:=by
 unfold gcB at e
 split at e
 ·rename_i ds
  split at e
  ·rename_i a q
   split at e
   ·rename_i dd its n sl l
    rw[r_] at e
    obtain⟨v1,v2⟩:=uC (K:=K) (mg:=mg) e.2
    exact Hy X G q l (F_ (Pr e.1) (by decide)) v1 v2
   ·cases e
  ·cases e
 ·split at e
  ·rename_i v q
   obtain⟨v1,v2⟩:=yF (K:=K) (mg:=mg) e
   exact⟨_,_,mg_of X G q,v1,v2⟩
  ·cases e
omit X G in
theorem zg{d:D}:∀{l:List (Str×D)},l.lookup x=some d->(x,d)∈l
 | [],h=>nomatch h
 |
  (y,e)::l,h=>by
  rw[Pw] at h
  split at h
  ·rename_i q
   cases h
   rw[OQ.mp q]
   exact n_
  ·exact l_ _ (zg h)
def LQ{b:Tb}(e:b.ok K=true):Tx b K mg:=by
 unfold Tb.ok at e
 simp only[r_] at e
 obtain⟨e1,e2,e3,e4,e5,e6⟩:=e
 simp only[OF,r_] at e1 e2 e3 e4 e5 e6
 refine⟨λh=>NL X G (e1 _ (O6.mp h)),λh=>pZ X G (e2 _ (O6.mp h)),λh=>(e3 _ (O6.mp h)).1,λh=>?_,⟨λp hp t v h1 h2=>?_,λp hp x C e' m=>?_⟩,λh=>Of X G (e6 _ (zg h))⟩
 ·obtain⟨a1,a2⟩:=e4 _ h
  refine⟨?_,λc hc Ce m=>?_⟩
  ·simp only[hdB,r_,OQ] at a1
   exact⟨a1.1,a1.2.1,a1.2.2⟩
  ·obtain⟨b1,b2⟩:=a2 c hc
   rw[pZ X G b2] at m
   cases m
   exact OQ.mp b1
 ·obtain⟨a1,_⟩:=e5 p hp
  simp only[BC,r_,OQ] at a1
  rw[Dr X G a1.2.1 h1,Dr X G a1.2.2 h2]
  exact a1.1
 ·obtain⟨a1,a2⟩:=e5 p hp
  simp only[BC,r_,OQ] at a1
  have a3:=a1.2.1
  rw[e'] at a2 a3
  rw[pZ X G (show jW K x=true from a3)] at m
  cases m
  exact My a2
end
def dNm(s:Stmt):Str:=match s with
 |.FunctionDef n ..=>n
 |_=>""
def AllD(K:Frag)(mg:Ra)(top:Nat->Stmt):List Nat->Prop
 | []=>True
 |i::l=>Def K mg (dNm (top i)) (top i)/\AllD K mg top l
theorem AllD.get{K:Frag}{mg:Ra}{top:Nat->Stmt}:∀{l:List Nat},AllD K mg top l->∀i,l.contains i=true->Def K mg (dNm (top i)) (top i)
 | [],_,i,h=>nomatch h
 |
  j::l,⟨a,b⟩,i,h=>by
  rcases D_.mp (O6.mp h) with rfl |h
  ·exact a
  ·exact b.get i (O6.mpr h)
def Tx.e{b:Tb}{K:Frag}{mg:Ra}{x:Str}(T:Tx b K mg)(h:b.us.contains x=true):∃a,mg x=some (.ref a):=⟨_,T.m h⟩
structure Ty(b:Tb)(top:Nat->Stmt)(ds:List Nat)(K:Frag)(mg:Ra):Prop extends Tx b K mg where
 d:AllD K mg top ds
noncomputable def scB(N P:List Str)(sc:Scope):Bool:=decide (sc.kind=.function)&&(!sc.isCoroutine&&(!sc.isGenerator&&(decide N.Nodup&&(decide (N.take P.length=P)&&(P.all (λx=>decide (sc.names.lookup x=some .local\/sc.names.lookup x=some .cell))&&sc.names.all λy=>decide (y.2 ≠ .free))))))
def aA{N P:List Str}{sc:Scope}(e:scB N P sc=true):FnScope N P sc:=by
 simp only[scB,r_,PN,OF,Bool.not_eq_true'] at e
 obtain⟨e1,e2,e3,e4,e5,e6,e7⟩:=e
 exact⟨e1,e2,e3,e4,e5,e6,e7⟩
section
variable{K:W.Frag}{mg:Ra}{X:Cx}{ES:L2.St->XK}{e a b c o i tg am g_:Expr}{p q r:PEx}{t u:PTs}{x y:PSt}{g:PGt}{I:PIt}{pos:Pos}
def jK{scope:Scope}(M:List Str)(kn:List (Str×NameKind))(N:List Str)(sub:Rh){hsb:(sub.filterMap id).Nodup}(hi:DI K mg X ES tg am I.F)(hg:N.Nodup->∀cl C s₂ H fp,DG K mg (aO X N scope cl C s₂ H fp) (λ_=>E0) tg g.F)(he:N.Nodup->∀cl C s₂ H fp,DE K mg (aO X N scope cl C s₂ H fp) (λ_=>E0) g_ p.F)(hnd:N.Nodup:=by decide)(hc:X.calm=true:=by rfl)(hM:X.N=M:=by rfl)(hkn:X.env.scope.names=kn:=by rfl)(f_:fO M scope.names sub N=true:=by decide)(hk:scope.kind=.function:=by rfl)(hnc:∀x∈scope.names,x.2 ≠ .cell:=by decide)(b_:∀x∈scope.names,x.2=.local->scope.names.lookup x.1=some .local:=by decide)(hfr:ij kn scope.names=true:=by decide)(hsl:sub.length=N.length:=by rfl)(hs:∀x,foldedSetIterable am X.env x=pure x:=by intro _;rfl):DE K mg X ES (.ListComp g_ [⟨tg,am,[],0⟩] scope pos) (pLC I sub hsb g qY p).F:=N4 M kn N sub hc hi (hg hnd) (he hnd) hM hkn f_ hk hnc b_ hfr hsl hs
def zSlc{ow:Bool}{px spos:Pos}{iT:Nat}{xT:Str}{scope:Scope}(hN:X.N.Nodup)(M:List Str)(kn:List (Str×NameKind))(N:List Str)(sub:Rh){hsb:(sub.filterMap id).Nodup}(hi:DI K mg X ES tg am I.F)(hg:N.Nodup->∀cl C s₂ H fp,DG K mg (aO X N scope cl C s₂ H fp) (λ_=>E0) tg g.F)(he:N.Nodup->∀cl C s₂ H fp,DE K mg (aO X N scope cl C s₂ H fp) (λ_=>E0) g_ p.F)(hsw:swapsWith (.ListComp g_ [⟨tg,am,[],0⟩] scope pos) (some (.Name xT px)) spos.line X.env=pure true:=by rfl)(hnd:N.Nodup:=by decide)(hc:X.calm=true:=by rfl)(hix:X.N[iT]?=some xT:=by rfl)(hxl:Loc X.env.scope xT:=by first |exact Or.inl rfl |exact Or.inr rfl)(hM:X.N=M:=by rfl)(hkn:X.env.scope.names=kn:=by rfl)(f_:fO M scope.names sub N=true:=by decide)(hk:scope.kind=.function:=by rfl)(hnc:∀x∈scope.names,x.2 ≠ .cell:=by decide)(b_:∀x∈scope.names,x.2=.local->scope.names.lookup x.1=some .local:=by decide)(hfr:ij kn scope.names=true:=by decide)(hsl:sub.length=N.length:=by rfl)(hs:∀x,foldedSetIterable am X.env x=pure x:=by intro _;rfl)(hf:X.fn xT=true\/X.env.scope.names.lookup xT=some .local:=by first |exact .inl rfl |exact .inr rfl |assumption):DS K mg X ES (.Assign [.Name xT px] (.ListComp g_ [⟨tg,am,[],0⟩] scope pos) spos) (az ow iT (pLC I sub hsb g qY p)).F:=N0 M kn N sub hc hN hix hxl hi (hg hnd) (he hnd) hsw hM hkn f_ hk hnc b_ hfr hsl hs hf
end
section
variable{K:W.Frag}{mg:Ra}{P:Program}{w:World}{base:Heap}{fx:Str}{fst:Stmt}{k n m:Nat}{ps N:List Str}{ms:List Bool}{x:PSt}
def aN(D:Def K mg fx fst)(S:FnScope N ps (au fst))
 (hb:∀(kV doc pm:Value) (an:Option Addr) (cdv ct:Value) (us:List Value),us.length=ps.length->bindArgs (W.fnOf fx fx (b0 fst) (aY fst) (au fst) .none kV doc pm an cdv ct) ⟨us,[]⟩=pure (ps.zip us))
 (ge:N.Nodup->∀(f:Addr) (cdv:Value) (A:Around) (outer:List Env) (s:Shared) (H:Hp) (E:XK),Room k (A.deeper (envOfC fx (au fst) s.heap.objs.size f cdv))->
  DSs K mg (dg (CX1 P w) P w K mg base N fx (au fst) f cdv A outer s H E) (λ_=>E) (aY fst) x.F) (hn:ps.length=n:=by rfl) (hm:N.length=m:=by rfl):Callee P w K mg base fx (k+1) ps (spD K mg n (fnP ms m x).F):=okP D S hb (ge S.nd) hn hm
def Bi(D:Def K mg fx fst)(S:FnScope N ps (au fst))
 (hb:∀(kV doc pm:Value) (an:Option Addr) (cdv ct:Value) (us:List Value),us.length=ps.length->bindArgs (W.fnOf fx fx (b0 fst) (aY fst) (au fst) .none kV doc pm an cdv ct) ⟨us,[]⟩=pure (ps.zip us))
 (ge:N.Nodup->∀(f:Addr) (cdv:Value) (A:Around) (outer:List Env) (s:Shared) (H:Hp) (E:XK),Room k (A.deeper (envOfC fx (au fst) s.heap.objs.size f cdv))->
  DSs K mg (dg (CX1 P w) P w K mg base N fx (au fst) f cdv A outer s H E) (λ_=>E) (aY fst) x.F) (hn:ps.length=n:=by rfl) (hm:N.length=m:=by rfl):Callee P w K mg base fx (k+1) ps (spD K mg n (PFx.of ms m x).F):=okX D S hb (ge S.nd) hn hm
end
end L3
namespace L3
open PySem PySem.Spec PyProof.Rows L2
section
variable{K:W.Frag}{mg:Ra}{X:Cx}{ES:L2.St->XK}{a b c:Expr}{F G M:ME}{pos p2:Pos}{ρ:List Addr}{H:Hp}{h:AH}{ae:AE}{σ:L2.St}
end
section
variable{K:W.Frag}{mg:Ra}{X:Cx}{ES:L2.St->XK}{e o i t1 t2:Expr}{pos p2:Pos}{j a b:Nat}
end
end L3
namespace Wb
open L2
def lc(qs:List Rat)(c:Nat):Nat:=qs.foldl (λc q=>Nat.lcm c q.den) c
def gc(ws:List Int)(g:Nat):Nat:=ws.foldl (λg w=>Int.gcd (g:Int) w) g
def wh(L:Nat)(qs:List Rat):List Int:=qs.map λq=>q.num*((L/q.den:Nat):Int)
def ws(qs:List Rat):List Int:=wh (lc qs 1) qs
def dv(qs:List Rat):Nat:=gc (ws qs) 0
end Wb
namespace L3
open PySem L2
def shpB(b:Bx):Rat:=if b.w<b.h then b.h/b.w else b.w/b.h
noncomputable def shL(s l:Rat)(W:Int):Int->List Int->List (Rat×Rat)
 |_,[]=>[]
 |a,w::ws=>(s+l*((a:Rat)/(W:Rat)),l*((w:Rat)/(W:Rat)))::shL s l W (a+w) ws
theorem iM(s l:Rat)(W:Int):∀(ws:List Int) (a:Int),(shL s l W a ws).length=ws.length
 | [],_=>rfl
 |w::ws,a=>by unfold shL;rw[v_,v_,iM s l W ws (a+w)]
noncomputable def aW(b:Bx)(way:Str)(ws:List Int):List Bx:=if way="across" then (shL b.l b.w ws.sum 0 ws).map λp=>⟨p.1,b.t,p.2,b.h⟩ else (shL b.t b.h ws.sum 0 ws).map λp=>⟨b.l,p.1,b.w,p.2⟩
theorem iJ:∀{l:List Int},(∀w∈l,1<=w)->(l.length:Int)<=l.sum
 | [],_=>by simp
 |
  x::l,h=>by
  rw[N_,v_]
  have:=h x (n_ ..)
  have:=iJ (l:=l) λw hw=>h w (l_ _ hw)
  omega
theorem uq:∀(ws:List Int) (a:Int),0<=a->(∀w∈ws,1<=w)->a+ws.sum<=W->p∈shL s l W a ws->∃a' w:Int,0<=a'/\a'<=W/\1<=w/\w<=W/\p=(s+l*((a':Rat)/(W:Rat)),l*((w:Rat)/(W:Rat)))
 | [],_,_,_,_,h=>nomatch h
 |
  w::ws,a,ha,hw,hs,h=>by
  have h1:=hw w (n_ ..)
  have h2:=iJ (l:=ws) λx hx=>hw x (l_ _ hx)
  rw[N_] at hs
  unfold shL at h
  rcases D_.mp h with rfl |h
  ·exact⟨a,w,ha,by omega,h1,by omega,rfl⟩
  ·exact uq ws (a+w) (by omega) (λx hx=>hw x (l_ _ hx)) (by omega) h
def cut1(b:Bx)(way:Str)(u v:Int):Bx:=(aW b way [u,v]).headD b
def cut2(b:Bx)(way:Str)(u v:Int):Bx:=((aW b way [u,v]).drop 1).headD b
def liV(l:List Int):Val:=.lst (l.map .int)
def wsAt(ws:List Int)(i:Int):Int:=ws.getD i.toNat 0
def wt(ws l:List Int):Int:=(l.map (wsAt ws)).sum
def rst(nums l:List Int):List Int:=nums.filter λx=>!l.contains x
structure Lot(nums l:List Int):Prop where
 sub:l.Sublist nums
 ne:l≠[]
 lt:l.length<nums.length
def mx(x y:Rat):Rat:=if x<y then y else x
structure CutOk(nums:List Int)(c:Str×List Int×List Int):Prop where
 way:c.1="across" \/ c.1="down"
 one:Lot nums c.2.1
 two:Lot nums c.2.2
 cQ:c.2.2=rst nums c.2.1
inductive Tr(ws:List Int):Bx->List Int->Val->Rat->Prop
 |leaf (b:Bx) (i:Int):Tr ws b [i] (.int i) (shpB b)
 |node {b:Bx}{way:Str}{l r:List Int}{t1 t2:Val}{q1 q2:Rat} (hw:way="across" \/ way="down") (h1:Tr ws (cut1 b way (wt ws l) (wt ws r)) l t1 q1) (h2:Tr ws (cut2 b way (wt ws l) (wt ws r)) r t2 q2):Tr ws b (l++r) (.tup [.str way,.tup [t1,t2]]) (mx q1 q2)
end L3
namespace L3
open PySem PySem.Spec PyProof.Rows L2
inductive AT where
 |lf (k:Nat)
 |nd (w:Bool) (ts:List AT)
def wy(w:Bool):Str:=if w=true then "across" else "down"
def AT.ind{P:AT->Prop}(h1:∀k,P (.lf k))(h2:∀w ts,(∀t∈ts,P t)->P (.nd w ts))(t:AT):P t:=
 @AT.rec P (λts=>∀t∈ts,P t) h1 (λw ts ih=>h2 w ts ih) (λt h=>nomatch h) (λt ts i1 i2 u hu=>by
  rcases D_.mp hu with rfl |hu
  ·exact i1
  ·exact i2 u hu) t
mutual
def AT.val(f:Nat->Val):AT->Val
 |.lf k=>f k
 |.nd w ts=>.tup [.str (wy w),.tup (AT.vals f ts)]
def AT.vals(f:Nat->Val):List AT->List Val
 | []=>[]
 |t::ts=>AT.val f t::AT.vals f ts
end
mutual
def AT.lvs:AT->List Nat
 |.lf k=>[k]
 |.nd _ ts=>AT.lvsL ts
def AT.lvsL:List AT->List Nat
 | []=>[]
 |t::ts=>AT.lvs t++AT.lvsL ts
end
mutual
def AT.dep:AT->Nat
 |.lf _=>1
 |.nd _ ts=>AT.depL ts+1
def AT.depL:List AT->Nat
 | []=>0
 |t::ts=>max (AT.dep t) (AT.depL ts)
end
mutual
def AT.pth(x:Nat):AT->Option (List Nat)
 |.lf k=>if k=x then some [] else none
 |.nd _ ts=>AT.pthL x 0 ts
def AT.pthL(x:Nat):Nat->List AT->Option (List Nat)
 |_,[]=>none
 |i,t::ts=>match AT.pth x t with
  |some q=>some (i::q)
  |none=>AT.pthL x (i+1) ts
end
mutual
def AT.ok:AT->Bool
 |.lf _=>true
 |.nd _ ts=>decide (2<=ts.length)&&AT.okL ts
def AT.okL:List AT->Bool
 | []=>true
 |t::ts=>AT.ok t&&AT.okL ts
end
theorem AT.vals_map(f:Nat->Val):∀ts,AT.vals f ts=ts.map (AT.val f)
 | []=>rfl
 |t::ts=>by rw[AT.vals,AT.vals_map f ts];rfl
theorem AT.lvsL_mem:∀{ts:List AT},x∈AT.lvsL ts ↔ ∃t∈ts,x∈t.lvs
 | []=>by simp [AT.lvsL]
 |t::ts=>by rw[AT.lvsL,OU,AT.lvsL_mem (ts:=ts)];simp
theorem AT.lvsL_flat:∀ts:List AT,AT.lvsL ts=(ts.map AT.lvs).flatten
 | []=>rfl
 |t::ts=>by rw[AT.lvsL,AT.lvsL_flat ts];rfl
theorem AT.depL_le:∀{ts:List AT},AT.depL ts<=m ↔ ∀t∈ts,t.dep<=m
 | []=>by simp [AT.depL]
 |t::ts=>by rw[AT.depL,Nat.max_le,AT.depL_le (ts:=ts)];simp
theorem AT.okL_mem:∀{ts:List AT},AT.okL ts=true ↔ ∀t∈ts,t.ok=true
 | []=>by simp [AT.okL]
 |t::ts=>by rw[AT.okL,r_,AT.okL_mem (ts:=ts)];simp
def AT.dep_pos(t:AT):1<=t.dep:=by cases t <;> simp [AT.dep]
theorem AT.pthL_some:∀{ts:List AT}{i:Nat}{q:List Nat},AT.pthL x i ts=some q->∃k t r,ts[k]?=some t/\t.pth x=some r/\q=(i+k)::r/\∀(k':Nat) (t':AT),k'<k->ts[k']?=some t'->t'.pth x=none
 | [],i,q,h=>by rw[AT.pthL] at h;cases h
 |
  t::ts,i,q,h=>by
  rw[AT.pthL] at h
  split at h
  ·rename_i r e
   cases h
   exact⟨0,t,r,rfl,e,rfl,λk' t' hk=>absurd hk (by omega)⟩
  ·rename_i e
   obtain⟨k,u,r,h1,h2,h3,h4⟩:=AT.pthL_some h
   refine⟨k+1,u,r,h1,h2,by rw[h3];congr 1;omega,λk' t' hk e'=>?_⟩
   cases k' with
   |zero=>cases e';exact e
   |succ k'=>exact h4 k' t' (by omega) e'
theorem AT.pthL_none:∀{ts:List AT}{i:Nat},AT.pthL x i ts=none ↔ ∀t∈ts,t.pth x=none
 | [],i=>by simp [AT.pthL]
 |
  t::ts,i=>by
  rw[AT.pthL]
  cases e:t.pth x with
  |some q=>simp [e]
  |none=>simp [e,AT.pthL_none (ts:=ts)]
def AT.pth_mem(t:AT):t.pth x=none ↔ x∉t.lvs:=by
 induction t using AT.ind with
 |h1 k=>simp [AT.pth,AT.lvs,eq_comm]
 |
  h2 w ts ih=>
  rw[AT.pth,AT.lvs,AT.pthL_none,AT.lvsL_mem]
  constructor
  ·rintro h ⟨t,ht,hx⟩
   exact (ih t ht).mp (h t ht) hx
  ·intro h t ht
   exact (ih t ht).mpr λhx=>h ⟨t,ht,hx⟩
def AT.at:List Nat->AT->Option Nat
 | [],.lf k=>some k
 |i::p,.nd _ ts=>match ts[i]? with
  |some t=>AT.at p t
  |none=>none
 |_,_=>none
def AT.pth_at(t:AT):∀p,t.pth x=some p->AT.at p t=some x:=by
 induction t using AT.ind with
 |
  h1 k=>
  intro p h
  rw[AT.pth] at h
  split at h
  ·cases h;rename_i e;rw[<- e];rfl
  ·cases h
 |
  h2 w ts ih=>
  intro p h
  rw[AT.pth] at h
  obtain⟨k,u,r,h1,h2,h3,_⟩:=AT.pthL_some h
  subst h3
  rw[Nat.zero_add,AT.at,h1]
  exact ih u (OO h1) r h2
noncomputable def wd(w b:Bool):Str:=if w=true then (if b=true then "left" else "right") else (if b=true then "above" else "below")
def AT.rel:List Nat->List Nat->AT->Option Str
 |i::p,j::q,.nd w ts=>if i=j then (match ts[i]? with
  |some t=>AT.rel p q t
  |none=>none) else some (wd w (decide (i<j)))
 |_,_,_=>none
theorem AT.rel_some(hxy:x≠y):∀(p q:List Nat) (t:AT),AT.at p t=some x->AT.at q t=some y->∃u,AT.rel p q t=some u
 |
  [],q,.lf k,h1,h2=>by
  cases q with
  |
   nil=>
   rw[AT.at] at h1 h2
   rw[C_ h1] at h2
   exact absurd (C_ h2) hxy
  |cons j q=>simp [AT.at] at h2
 | [],q,.nd w ts,h1,h2=>by simp [AT.at] at h1
 |i::p,q,.lf k,h1,h2=>by simp [AT.at] at h1
 |i::p,[],.nd w ts,h1,h2=>by simp [AT.at] at h2
 |
  i::p,j::q,.nd w ts,h1,h2=>by
  rw[AT.rel]
  split
  ·rename_i e
   subst e
   rw[AT.at] at h1 h2
   split at h1
   ·rename_i t e
    rw[e] at h2
    exact AT.rel_some hxy p q t h1 h2
   ·cases h1
  ·exact⟨_,rfl⟩
def oi{t:AT}(h:t.ok=true):1<=t.lvs.length:=by
 induction t using AT.ind with
 |h1 k=>simp [AT.lvs]
 |
  h2 w ts ih=>
  rw[AT.ok,r_] at h
  cases ts with
  |nil=>exact absurd h.1 (by decide)
  |
   cons t ts=>
   have:=ih t (n_ ..) (AT.okL_mem.mp h.2 t (n_ ..))
   rw[AT.lvs,AT.lvsL,p_]
   omega
theorem kS{α β:Type}{f:α->List β}:∀{l:List α},(∀a∈l,1<=(f a).length)->l.length<=((l.map f).flatten).length
 | [],_=>m_ _
 |
  a::l,h=>by
  have h1:=h a (n_ ..)
  have h2:=kS (l:=l) λb hb=>h b (l_ _ hb)
  rw[o_,QA,p_,v_]
  omega
def lfV:Val->Bool
 |.int _=>true
 |.str _=>true
 |_=>false
def ntV(q:List Nat):Val:=.lst (q.map λi:Nat=>.int i)
def Eu(t:AT):∀q,t.pth x=some q->q.length<t.dep:=by
 induction t using AT.ind with
 |
  h1 k=>
  intro q h
  rw[AT.pth] at h
  split at h
  ·cases h;simp [AT.dep]
  ·cases h
 |
  h2 w ts ih=>
  intro q h
  rw[AT.pth] at h
  obtain⟨k,u,r,h1,h2,h3,_⟩:=AT.pthL_some h
  have hu:=OO h1
  have:=ih u hu r h2
  have:=AT.depL_le.mp (m_ (AT.depL ts)) u hu
  rw[AT.dep,h3,v_]
  omega
def EqA(f:Nat->Val)(fx:Val)(x:Nat)(l:List Nat):Prop:=∀k∈l,lfV (f k)=true/\bz (f k) fx=some (decide (k=x))
theorem og:∀{vs:List Val},(∀v∈vs,wfV k v=true)->eD k vs=true
 | [],_=>rfl
 |
  v::vs,h=>by
  show (wfV k v&&eD k vs)=true
  rw[h v (n_ ..),og λu hu=>h u (l_ _ hu)]
  rfl
theorem u6:∀{vs:List Val},(∀v∈vs,iw v=true)->fQ vs=true
 | [],_=>rfl
 |
  v::vs,h=>by
  show (iw v&&fQ vs)=true
  rw[h v (n_ ..),u6 λu hu=>h u (l_ _ hu)]
  rfl
def Oz(h:p≠q):bz (ntV p) (ntV q)=some false:=by
 have w:∀p:List Nat,wfV 60 (ntV p)=true:=λp=>og (k:=59) λv hv=>by obtain⟨i,_,rfl⟩:=K_.mp hv;rfl
 have b:∀p:List Nat,iw (ntV p)=true:=λp=>u6 λv hv=>by obtain⟨i,_,rfl⟩:=K_.mp hv;rfl
 rw[v5 (w p) (w q)]
 congr 1
 cases hq:vq (ntV p) (ntV q) with
 |false=>rfl
 |
  true=>
  have:=(rV _ _ (b p) (b q)).mp hq
  unfold ntV at this
  injection this with this
  exact absurd (List.map_inj_right (λa b z=>by injection z with z;exact Int.ofNat.inj z) |>.mp this) h
def sV(i j:Nat):(((i:Nat):Int)==(j:Nat))=decide (i=j):=by
 rw[P5,OQ,PF]
 omega
def m7(i j:Nat):decide (((i:Nat):Int)<(j:Nat))=decide (i<j):=by
 rw[P5,PF,PF]
 omega
def cK(v:Val)(l:List Val):atI (v::l) 0=some v:=dM (by decide) rfl
def Dg(v:Val)(l:List Val):fX (v::l) (some 1) none=l:=r9 _ 1
noncomputable def inB(x:Nat)(t:AT):Bool:=decide (x∈t.lvs)
def itV(l:List Nat):Val:=.lst (l.map λk:Nat=>.int k)
structure TOk(t:AT)(l:List Nat):Prop where
 ok:t.ok=true
 mem:∀k,k∈t.lvs ↔ k∈l
 dep:t.dep<=l.length
 len:t.lvs.length=l.length
def Au(xss:List (List Nat)):List Val:=xss.map itV
theorem BM(I1 I2:PIt)(j t:Nat)(q:PEx)(hjt:j≠t)(e:E3):(vQ I1 I2 j t q hjt).G e=(I1.G e).toS λp e1=>match p.2,e1[j]? with
 |
  none,some s=>if s.pl=true/\p.1.length<16777216 then (I2.G (e1.set j .no)).toS λp2 e2=>match p2.2,e2[j]? with
   |none,some .no=>eT j t q.G p2.1 (p.1.map λv=>[v]) e2
   |_,_=>.stuck
  else .stuck
 |_,_=>.stuck:=rfl
structure Lots(yss xss:List (List Nat))(vs:List Nat):Prop where
 len:yss.length=xss.length
 ne:∀l∈yss,l≠[]
 mem:∀k,(∃l∈yss,k∈l) ↔ (∃l∈xss,k∈l)\/k∈vs
 tot:yss.flatten.length=xss.flatten.length+vs.length
def A5(h:xss[i]?=some xs)(ne:∀l∈xss,l≠[]):Lots (xss.set i (xs++[u])) xss [u]:=by
 have hi:=(k_.mp h).1
 refine⟨B_ ..,λl hl=>?_,λk=>?_,?_⟩
 ·rcases Pm hl with hl |rfl
  ·exact ne l hl
  ·simp
 ·constructor
  ·rintro⟨l,hl,hk⟩
   rcases Pm hl with hl |rfl
   ·exact .inl ⟨l,hl,hk⟩
   ·rcases OU.mp hk with hk |hk
    ·exact .inl ⟨xs,OO h,hk⟩
    ·exact .inr hk
  ·rintro (⟨l,hl,hk⟩ |hk)
   ·obtain⟨j,hj⟩:=Qe hl
    by_cases im:i=j
    ·subst im
     rw[h] at hj
     cases hj
     exact⟨_,List.mem_set (by omega) _,PU _ hk⟩
    ·exact⟨l,OO (i:=j) (by rw[PR im];exact hj),hk⟩
   ·exact⟨_,List.mem_set (by omega) _,OD _ hk⟩
 ·have aux:∀(xss:List (List Nat)) (i:Nat),xss[i]?=some xs->(xss.set i (xs++[u])).flatten.length=xss.flatten.length+1:=by
   intro xss
   induction xss with
   |nil=>intro i h;rw[O4] at h;cases h
   |
    cons y ys ih=>
    intro i h
    cases i with
    |zero=>cases h;simp [List.set];omega
    |succ i=>simp only[List.set,QA,p_];rw[ih i h];omega
  exact aux xss i h
def nL{xss:List (List Nat)}(ne:∀l∈xss,l≠[]):xss.length<=xss.flatten.length:=by
 have:=kS (f:=id) (l:=xss) λl hl=>QT.mpr (ne l hl)
 rw[List.map_id] at this
 exact this
theorem qH:∀{yss:List (List Nat)},(∀l∈yss,l≠[])->∀l∈yss,l.length+yss.length<=yss.flatten.length+1
 | [],_,l,hl=>nomatch hl
 |
  y::ys,ne,l,hl=>by
  have h0:=nL (xss:=ys) λl hl=>ne l (l_ _ hl)
  have h1:=QT.mpr (ne y (n_ ..))
  rw[QA,p_,v_]
  rcases D_.mp hl with rfl |hl
  ·omega
  ·have:=qH (yss:=ys) (λl hl=>ne l (l_ _ hl)) l hl
   omega
def atV(t:AT):Val:=t.val λk=>.int (k:Nat)
def Ep{w:Bool}{ps:List (AT×List Nat)}(h:∀p∈ps,TOk p.1 p.2)(hne:ps≠[])(hne2:∀p∈ps,p.2≠[])(h2:2<=ps.length):TOk (.nd w (ps.map (·.1))) (ps.map (·.2)).flatten:=by
 have hlot:=qH (yss:=ps.map (·.2)) (λl hl=>by obtain⟨p,hp,rfl⟩:=K_.mp hl;exact hne2 p hp)
 refine⟨?_,λk=>?_,?_,?_⟩
 ·rw[AT.ok,r_]
  refine⟨G_ (by rw[j_];exact h2),AT.okL_mem.mpr λt ht=>?_⟩
  obtain⟨p,hp,rfl⟩:=K_.mp ht
  exact (h p hp).ok
 ·rw[AT.lvs,AT.lvsL_mem,List.mem_flatten]
  constructor
  ·rintro⟨t,ht,hk⟩
   obtain⟨p,hp,rfl⟩:=K_.mp ht
   exact⟨p.2,O5 hp,((h p hp).mem k).mp hk⟩
  ·rintro⟨l,hl,hk⟩
   obtain⟨p,hp,rfl⟩:=K_.mp hl
   exact⟨p.1,O5 hp,((h p hp).mem k).mpr hk⟩
 ·rw[AT.dep]
  have:AT.depL (ps.map (·.1))<=(ps.map (·.2)).flatten.length-1:=AT.depL_le.mpr λt ht=>by
   obtain⟨p,hp,rfl⟩:=K_.mp ht
   have:=(h p hp).dep
   have:=hlot p.2 (O5 hp)
   rw[j_] at this
   omega
  obtain⟨p,hp⟩:=List.exists_mem_of_ne_nil ps hne
  have:=hlot p.2 (O5 hp)
  rw[j_] at this
  omega
 ·rw[AT.lvs]
  clear hlot h2 hne hne2
  induction ps with
  |nil=>rfl
  |
   cons p ps ih=>
   rw[o_,o_,AT.lvsL,p_,QA,p_,ih λp hp=>h p (l_ _ hp),(h p (n_ ..)).len]
def trQ(v f:Val)(r:SR3):Prop:=lJ [true,false] r=.ok (.val v) [f]
structure Nms(m:Nat)(ns:List Val)(f:Nat->Val):Prop where
 at_:∀i,i<m->ns[i]?=some (f i)
 lf:∀i,i<m->lfV (f i)=true
 eq:∀i j,i<m->j<m->bz (f i) (f j)=some (decide (i=j))
def j0(w b:Bool):PyData.strOk (wd w b)=true:=by cases w <;> cases b <;> decide +kernel
mutual
def AT.cnt:AT->Nat
 |.lf _=>1
 |.nd _ ts=>AT.cntL ts+1
def AT.cntL:List AT->Nat
 | []=>0
 |t::ts=>AT.cnt t+AT.cntL ts
end
theorem AT.cntL_app:∀(a b:List AT),AT.cntL (a++b)=AT.cntL a+AT.cntL b
 | [],b=>by simp [AT.cntL]
 |t::a,b=>by rw[List.cons_append,AT.cntL,AT.cntL,AT.cntL_app a b];omega
theorem AT.lvsL_app:∀(a b:List AT),AT.lvsL (a++b)=AT.lvsL a++AT.lvsL b
 | [],b=>by simp [AT.lvsL]
 |t::a,b=>by rw[List.cons_append,AT.lvsL,AT.lvsL,AT.lvsL_app a b,O3]
def l6(xs:List Val)(x:Val):qb.G (.lst (xs++[x])) []=some (.lst xs,x):=by
 show tM (.lst (xs++[x])) []=_
 unfold tM
 dsimp only
 rw[p_,List.length_singleton,Nat.add_sub_cancel,I_ (m_ _),PC,List.dropLast_concat]
 rfl
theorem AT.cnt_le:∀{ts:List AT}{t:AT},t∈ts->t.cnt<=AT.cntL ts
 | [],t,h=>nomatch h
 |
  u::ts,t,h=>by
  rw[AT.cntL]
  rcases D_.mp h with rfl |h
  ·omega
  ·have:=AT.cnt_le h;omega
def AT.lvs_le(h:t∈ts):t.lvs.length<=(AT.lvsL ts).length:=by
 rw[AT.lvsL_flat]
 exact List.Sublist.length_le (List.sublist_flatten_of_mem (O5 (f:=AT.lvs) h))
def wtA(ws:List Int)(l:List Nat):Int:=(l.map λk=>ws.getD k 0).sum
def wtT(ws:List Int)(t:AT):Int:=wtA ws t.lvs
mutual
def AT.bx(ws:List Int):AT->Bx->List (Nat×Bx)
 |.lf k,b=>[(k,b)]
 |.nd w ts,b=>AT.bxL ws ts (aW b (wy w) (ts.map (wtT ws)))
def AT.bxL(ws:List Int):List AT->List Bx->List (Nat×Bx)
 |t::ts,b::bs=>AT.bx ws t b++AT.bxL ws ts bs
 |_,_=>[]
end
mutual
def AT.lay(ws:List Int)(n m:Nat):AT->Bx->Prop
 |.lf _,_=>True
 |.nd w ts,b=>b.Ok/\b.Sz n/\ts≠[]/\ts.length<=40/\(∀t∈ts,1<=wtT ws t)/\Sm m (ts.map (wtT ws)).sum/\AT.layL ws n m ts (aW b (wy w) (ts.map (wtT ws)))
def AT.layL(ws:List Int)(n m:Nat):List AT->List Bx->Prop
 |t::ts,b::bs=>AT.lay ws n m t b/\AT.layL ws n m ts bs
 |_,_=>True
end
def cF(kvs:List (Key×Val))(l:List (Nat×Bx)):List (Key×Val):=l.foldl (λkvs p=>cN kvs (.inl (p.1:Nat)) (bV p.2)) kvs
def Aj(kvs:List (Key×Val))(a b:List (Nat×Bx)):cF kvs (a++b)=cF (cF kvs a) b:=by unfold cF;rw[List.foldl_append]
def sG(h:a.Perm b):wtA ws a=wtA ws b:=by
 unfold wtA
 induction h with
 |nil=>rfl
 |cons x _ ih=>rw[o_,o_,N_,N_,ih]
 |swap x y l=>simp only[o_,N_];omega
 |trans _ _ h1 h2=>rw[h1,h2]
theorem jD(ws:List Int):∀ts:List AT,wtA ws (AT.lvsL ts)=(ts.map (wtT ws)).sum
 | []=>rfl
 |
  t::ts=>by
  rw[AT.lvsL,o_,N_,<- jD ws ts]
  unfold wtT wtA
  rw[OI,List.sum_append]
def Ai(kvs:List (Key×Val))(k:Key)(v:Val):(cN kvs k v).length<=kvs.length+1:=by
 unfold cN
 split
 ·rw[j_];omega
 ·rw[p_];exact m_ _
theorem rN:∀(l:List (Nat×Bx)) (kvs:List (Key×Val)),(cF kvs l).length<=kvs.length+l.length
 | [],kvs=>m_ _
 |
  p::l,kvs=>by
  have h1:=Ai kvs (.inl (p.1:Nat)) (bV p.2)
  have h2:=rN l (cN kvs (.inl (p.1:Nat)) (bV p.2))
  unfold cF at h2 ⊢
  rw[List.foldl_cons,v_]
  omega
def AT.bx_fst(ws:List Int)(t:AT):∀b,(AT.bx ws t b).length<=t.lvs.length/\∀p∈AT.bx ws t b,p.1∈t.lvs:=by
 induction t using AT.ind with
 |h1 k=>intro b;simp [AT.bx,AT.lvs]
 |
  h2 w ts ih=>
  intro b
  rw[AT.bx,AT.lvs]
  generalize aW b (wy w) (ts.map (wtT ws))=bs
  induction ts generalizing bs with
  |nil=>simp [AT.bxL]
  |
   cons t ts ih2=>
   cases bs with
   |nil=>simp [AT.bxL]
   |
    cons b bs=>
    obtain⟨h1,h2⟩:=ih t (n_ ..) b
    obtain⟨h3,h4⟩:=ih2 (λu hu=>ih u (l_ _ hu)) bs
    rw[AT.bxL,AT.lvsL,p_,p_]
    refine⟨by omega,λp hp=>?_⟩
    rcases OU.mp hp with hp |hp
    ·exact PU _ (h2 p hp)
    ·exact OD _ (h4 p hp)
def xD(kvs:List (Key×Val))(k k':Key)(v:Val):lkD (cN kvs k v) k'=if k=k' then some v else lkD kvs k':=by
 unfold cN
 induction kvs with
 |
  nil=>
  rw[if_neg (by simp)]
  unfold lkD
  by_cases h:k=k'
  ·simp [h]
  ·simp [h]
 |
  cons p kvs ih=>
  obtain⟨pk,pv⟩:=p
  by_cases hp:pk=k
  ·subst
    hp
   rw[if_pos (by simp)]
   by_cases h:pk=k'
   ·subst h
    simp [lkD]
   ·rw[if_neg h]
    rw[if_neg h] at ih
    simp only[o_,Pd]
    unfold lkD
    simp only[OM,u_ h]
    by_cases ha:(kvs.any λkv=>decide (kv.1=pk))=true
    ·rw[if_pos ha] at ih
     unfold lkD at ih
     exact ih
    ·have:(kvs.map λkv=>if kv.1=pk then (kv.1,v) else kv)=kvs:=by
      conv=>rhs;rw[<- List.map_id kvs]
      refine List.map_congr_left λq hq=>?_
      rw[if_neg]
      ·rfl
      ·intro z
       exact ha (List.any_eq_true.mpr ⟨q,hq,G_ z⟩)
     rw[this]
  ·by_cases ha:(kvs.any λkv=>decide (kv.1=k))=true
   ·rw[if_pos ha] at ih
    rw[if_pos (by rw[OZ,ha,Bool.or_true])]
    simp only[o_,if_neg hp]
    by_cases h:pk=k'
    ·subst h
     rw[if_neg (λz=>hp z.symm)]
     simp [lkD]
    ·unfold lkD at ih ⊢
     simp only[OM,u_ h]
     exact ih
   ·rw[if_neg ha] at ih
    rw[if_neg (by rw[OZ,u_ hp,Bool.false_or];exact ha)]
    rw[List.cons_append]
    by_cases h:pk=k'
    ·subst h
     rw[if_neg (λz=>hp z.symm)]
     simp [lkD]
    ·unfold lkD at ih ⊢
     simp only[OM,u_ h]
     exact ih
def bxO(l:List (Nat×Bx))(k:Nat):Bx:=((l.find? λp=>p.1==k).map (·.2)).getD ⟨0,0,0,0⟩
theorem uZ:∀(l:List (Nat×Bx)) (kvs:List (Key×Val)),(l.map (·.1)).Nodup->(k∈l.map (·.1)->lkD (cF kvs l) (.inl (k:Nat))=some (bV (bxO l k)))/\(k∉l.map (·.1)->lkD (cF kvs l) (.inl (k:Nat))=lkD kvs (.inl (k:Nat)))
 | [],kvs,_=>⟨(λh=>nomatch h),λ_=>rfl⟩
 |
  p::l,kvs,nd=>by
  rw[o_,P6] at nd
  obtain⟨h1,h2⟩:=uZ (k:=k) l (cN kvs (.inl (p.1:Nat)) (bV p.2)) nd.2
  have e:cF kvs (p::l)=cF (cN kvs (.inl (p.1:Nat)) (bV p.2)) l:=rfl
  rw[e]
  by_cases hp:p.1=k
  ·have hk:k∉l.map (·.1):=hp ▸ nd.1
   rw[h2 hk,xD,if_pos (by rw[hp])]
   refine⟨λ_=>?_,λz=>absurd (by rw[o_,hp];exact n_ ..) z⟩
   unfold bxO
   rw[OM]
   simp [hp]
  ·have hk:k∈(p::l).map (·.1) ↔ k∈l.map (·.1):=by rw[o_,D_];exact⟨λz=>z.resolve_left (λy=>hp y.symm),.inr⟩
   have hb:bxO (p::l) k=bxO l k:=by
    unfold bxO
    rw[List.find?_cons_of_neg (by simpa using hp)]
   rw[hk,hb]
   refine⟨h1,λz=>?_⟩
   rw[h2 z,xD,if_neg]
   intro y
   injection y with y
   exact hp (Int.ofNat.inj y)
def yB(b:Bx)(way:Str)(ws:List Int):(aW b way ws).length=ws.length:=by
 unfold aW
 split <;> rw[j_,iM]
def AT.bx_keys(ws:List Int)(t:AT):∀b,(AT.bx ws t b).map (·.1)=t.lvs:=by
 induction t using AT.ind with
 |h1 k=>intro b;rw[AT.bx,AT.lvs];rfl
 |
  h2 w ts ih=>
  intro b
  rw[AT.bx,AT.lvs]
  have hl:(aW b (wy w) (ts.map (wtT ws))).length=ts.length:=by rw[yB,j_]
  generalize aW b (wy w) (ts.map (wtT ws))=bs at *
  induction ts generalizing bs with
  |nil=>cases bs <;> rfl
  |
   cons t ts ih2=>
   cases bs with
   |nil=>exact nomatch hl
   |
    cons b bs=>
    rw[AT.bxL,AT.lvsL,OI,ih t (n_ ..) b,ih2 (λu hu=>ih u (l_ _ hu)) bs (by simpa using hl)]
def AT.cnt_lvs(t:AT)(h:t.ok=true):t.cnt+1<=2*t.lvs.length:=by
 induction t using AT.ind with
 |h1 k=>simp [AT.cnt,AT.lvs]
 |
  h2 w ts ih=>
  rw[AT.ok,r_] at h
  have hk:=AT.okL_mem.mp h.2
  have h2:2<=ts.length:=Pr h.1
  rw[AT.cnt,AT.lvs]
  have:∀ts:List AT,(∀t∈ts,t.cnt+1<=2*t.lvs.length)->AT.cntL ts+ts.length<=2*(AT.lvsL ts).length:=by
   intro ts
   induction ts with
   |nil=>intro _;simp [AT.cntL,AT.lvsL]
   |
    cons t ts ih=>
    intro h
    have h1:=h t (n_ ..)
    have h2:=ih λu hu=>h u (l_ _ hu)
    rw[AT.cntL,AT.lvsL,p_,v_]
    omega
  have:=this ts λt ht=>ih t ht (hk t ht)
  omega
structure Rp(D A B:Nat)(b:Bx):Prop where
 pos:0<D
 l:∃z:Int,b.l=(z:Rat)/((D:Int):Rat)/\z.natAbs<=A*D
 t:∃z:Int,b.t=(z:Rat)/((D:Int):Rat)/\z.natAbs<=A*D
 w:∃z:Int,b.w=(z:Rat)/((D:Int):Rat)/\0<z/\z<=B*D
 h:∃z:Int,b.h=(z:Rat)/((D:Int):Rat)/\0<z/\z<=B*D
def Mx(x y a D W:Rat)(h1:D≠0)(h2:W≠0):x/D+(y/D)*(a/W)=(x*W+y*a)/(D*W):=by grind
def Ng(y a D W:Rat)(h1:D≠0)(h2:W≠0):(y/D)*(a/W)=(y*a)/(D*W):=by grind
def LP(y D W:Rat)(h1:D≠0)(h2:W≠0):y/D=(y*W)/(D*W):=by grind
def g9{z:Int}(h:z≠0):(z:Rat)≠0:=λe=>h (Rat.intCast_inj.mp e)
def C6{x y a W:Int}{D A B:Nat}(hD:0<D)(hx:x.natAbs<=A*D)(hy:0<y/\y<=B*D)(ha:0<=a/\a<=W)(hW:0<W):∃z:Int,(x:Rat)/((D:Int):Rat)+((y:Rat)/((D:Int):Rat))*((a:Rat)/(W:Rat))=(z:Rat)/(((D*W.toNat:Nat):Int):Rat)/\z.natAbs<=(A+B)*(D*W.toNat):=by
 obtain⟨V,rfl⟩:∃V:Nat,W=V:=⟨W.toNat,by omega⟩
 refine⟨x*V+y*a,?_,?_⟩
 ·rw[Mx _ _ _ _ _ (g9 (by omega)) (g9 (by omega))]
  congr 1
  ·rw[QQ,Pa,Pa]
  ·rw[ON,PJ,Pa]
 ·rw[ON]
  have h1:(x*(V:Int)).natAbs<=A*D*V:=by rw[O2];exact OR hx (m_ _)
  have h2:(y*a).natAbs<=B*D*V:=by
   rw[O2]
   refine OR ?_ (by omega)
   have:=hy.2
   omega
  have h3:=Int.natAbs_add_le (x*V) (y*a)
  rw[Nat.add_mul,<- QF,<- QF]
  omega
def CS{y a W:Int}{D B:Nat}(hD:0<D)(hy:0<y/\y<=B*D)(ha:1<=a/\a<=W):∃z:Int,((y:Rat)/((D:Int):Rat))*((a:Rat)/(W:Rat))=(z:Rat)/(((D*W.toNat:Nat):Int):Rat)/\0<z/\z<=((B:Nat):Int)*((D*W.toNat:Nat):Int):=by
 obtain⟨V,rfl⟩:∃V:Nat,W=V:=⟨W.toNat,by omega⟩
 refine⟨y*a,?_,Int.mul_pos hy.1 (by omega),?_⟩
 ·rw[Ng _ _ _ _ (g9 (by omega)) (g9 (by omega))]
  congr 1
  ·rw[Pa]
  ·rw[ON,PJ,Pa]
 ·rw[ON,PJ,<- O9]
  exact Int.mul_le_mul hy.2 ha.2 (by omega) (Int.le_trans (Int.le_of_lt hy.1) hy.2)
def lV{y W:Int}{D:Nat}(hD:0<D)(hW:0<W):(y:Rat)/((D:Int):Rat)=((y*W:Int):Rat)/(((D*W.toNat:Nat):Int):Rat):=by
 obtain⟨V,rfl⟩:∃V:Nat,W=V:=⟨W.toNat,by omega⟩
 rw[LP _ _ _ (g9 (show ((D:Nat):Int)≠0 by omega)) (g9 (show ((V:Nat):Int)≠0 by omega)),Pa,ON,PJ,Pa]
def yP{z W:Int}{D A B:Nat}(hz:z.natAbs<=A*D)(hW:0<W):(z*W).natAbs<=(A+B)*(D*W.toNat):=by
 rw[O2,<- QF]
 refine OR ?_ (by omega)
 rw[Nat.add_mul]
 omega
def zQ{z W:Int}{D B:Nat}(hz:0<z/\z<=B*D)(hW:0<W):0<z*W/\z*W<=((B:Nat):Int)*((D*W.toNat:Nat):Int):=by
 refine⟨Int.mul_pos hz.1 hW,?_⟩
 rw[PJ,<- O9,Qn (by omega)]
 exact Int.mul_le_mul_of_nonneg_right hz.2 (by omega)
def Rp.parts{D A B:Nat}{b b':Bx}{way:Str}{ws:List Int}(r:Rp D A B b)(hw:∀w∈ws,1<=w)(h:b'∈aW b way ws):Rp (D*ws.sum.toNat) (A+B) B b':=by
 obtain⟨pos,⟨zl,el,bl⟩,⟨zt,et,bt⟩,⟨zw,ew,bw⟩,⟨zh,eh,bh⟩⟩:=r
 have key:∀p:Rat×Rat,∀s l:Rat,p∈shL s l ws.sum 0 ws->0<ws.sum/\∃a' w:Int,0<=a'/\a'<=ws.sum/\1<=w/\w<=ws.sum/\p=(s+l*((a':Rat)/(ws.sum:Rat)),l*((w:Rat)/(ws.sum:Rat))):=λp s l hp=>by
  obtain⟨a',w,h1,h2,h3,h4,h5⟩:=uq ws 0 (by omega) hw (by omega) hp
  exact⟨by omega,a',w,h1,h2,h3,h4,h5⟩
 unfold aW at h
 split at h
 ·obtain⟨p,hp,rfl⟩:=K_.mp h
  obtain⟨hS,a',w,h1,h2,h3,h4,rfl⟩:=key p _ _ hp
  have hV:0<D*ws.sum.toNat:=Pn pos (by omega)
  refine⟨hV,?_,⟨zt*ws.sum,by show b.t=_;rw[et];exact lV pos hS,yP bt hS⟩,?_,⟨zh*ws.sum,by show b.h=_;rw[eh];exact lV pos hS,zQ bh hS⟩⟩
  ·show ∃z:Int,b.l+b.w*_=_/\_
   rw[el,ew]
   exact C6 pos bl bw ⟨h1,h2⟩ hS
  ·show ∃z:Int,b.w*_=_/\_
   rw[ew]
   exact CS pos bw ⟨h3,h4⟩
 ·obtain⟨p,hp,rfl⟩:=K_.mp h
  obtain⟨hS,a',w,h1,h2,h3,h4,rfl⟩:=key p _ _ hp
  have hV:0<D*ws.sum.toNat:=Pn pos (by omega)
  refine⟨hV,⟨zl*ws.sum,by show b.l=_;rw[el];exact lV pos hS,yP bl hS⟩,?_,⟨zw*ws.sum,by show b.w=_;rw[ew];exact lV pos hS,zQ bw hS⟩,?_⟩
  ·show ∃z:Int,b.t+b.h*_=_/\_
   rw[et,eh]
   exact C6 pos bt bh ⟨h1,h2⟩ hS
  ·show ∃z:Int,b.h*_=_/\_
   rw[eh]
   exact CS pos bh ⟨h3,h4⟩
def Rp.ok{D A B:Nat}{b:Bx}(r:Rp D A B b):b.Ok:=by
 obtain⟨pos,_,_,⟨zw,ew,bw⟩,⟨zh,eh,bh⟩⟩:=r
 exact⟨by rw[ew];exact fA bw.1 (by omega),by rw[eh];exact fA bh.1 (by omega)⟩
def Rp.sz{D A B n:Nat}{b:Bx}(r:Rp D A B b)(hA:A*D<2^n)(hB:B*D<2^n)(hD:D<2^n):b.Sz n:=by
 obtain⟨pos,⟨zl,el,bl⟩,⟨zt,et,bt⟩,⟨zw,ew,bw⟩,⟨zh,eh,bh⟩⟩:=r
 have sD:Sm n ((D:Nat):Int):=by show ((D:Nat):Int).natAbs<2^n;omega
 have k:∀z:Int,z.natAbs<2^n->Sz n ((z:Rat)/((D:Int):Rat)):=λz hz=>Sz.div (by omega) hz sD n (m_ _) (m_ _)
 have hb:∀z:Int,0<z/\z<=B*D->z.natAbs<2^n:=λz hz=>by
  have h1:z<=((B*D:Nat):Int):=by rw[PJ];exact hz.2
  omega
 exact⟨by rw[el];exact k zl (by omega),by rw[et];exact k zt (by omega),by rw[ew];exact k zw (hb zw bw),by rw[eh];exact k zh (hb zh bh)⟩
theorem ka{ws:List Int}:∀{l:List Nat},(∀k∈l,1<=ws.getD k 0)->(l.length:Int)<=wtA ws l
 | [],_=>by simp [wtA]
 |
  k::l,h=>by
  have h1:=h k (n_ ..)
  have h2:=ka (l:=l) λj hj=>h j (l_ _ hj)
  unfold wtA at h2 ⊢
  rw[o_,N_,v_]
  omega
theorem vk{ws:List Int}{n m:Nat}:∀{ts:List AT}{bs:List Bx},(∀t∈ts,∀b∈bs,AT.lay ws n m t b)->AT.layL ws n m ts bs
 | [],_,_=>by rw[AT.layL];trivial;intro t ts b bs z;cases z
 |t::ts,[],_=>by rw[AT.layL];trivial;intro t ts b bs _ z;cases z
 |
  t::ts,b::bs,h=>by
  rw[AT.layL]
  exact⟨h t (n_ ..) b (n_ ..),vk λu hu c hc=>h u (l_ _ hu) c (l_ _ hc)⟩
def Gk{ws:List Int}{n m B:Nat}(t:AT):∀(b:Bx) (D A:Nat),Rp D A B b->B<=A->1<=A->(A+t.dep*B)*(D*2^(m*t.dep))<2^n->t.ok=true->(∀k∈t.lvs,1<=ws.getD k 0)->wtT ws t<2^m->t.lvs.length<=40->AT.lay ws n m t b:=by
 induction t using AT.ind with
 |h1 k=>intros;rw[AT.lay];trivial
 |
  h2 w ts ih=>
  intro b D A r hBA hA hn ho hw hm hl
  have ho':=ho
  rw[AT.ok,r_] at ho'
  have h2:2<=ts.length:=Pr ho'.1
  have hk:=AT.okL_mem.mp ho'.2
  rw[AT.lvs] at hw hl
  have hws:∀t∈ts,∀k∈t.lvs,1<=ws.getD k 0:=λt ht k hk'=>hw k (AT.lvsL_mem.mpr ⟨t,ht,hk'⟩)
  have hone:∀t∈ts,1<=wtT ws t:=λt ht=>by
   have h1:=oi (hk t ht)
   have h2:=ka (hws t ht)
   unfold wtT
   omega
  have hsum:wtT ws (.nd w ts)=(ts.map (wtT ws)).sum:=by
   unfold wtT
   rw[AT.lvs]
   exact jD ws ts
  rw[hsum] at hm
  have hpos:0<=(ts.map (wtT ws)).sum:=by
   rw[<- jD]
   have:=ka hw
   omega
  rw[AT.dep] at hn
  generalize hq:AT.depL ts=q at *
  have hD1:1<=2^(m*(q+1)):=Nat.one_le_two_pow
  have hAle:A*D<=(A+(q+1)*B)*(D*2^(m*(q+1))):=OR (by omega) (Nat.le_mul_of_pos_right _ hD1)
  have hDle:D<=A*D:=QD _ hA
  have hBle:B*D<=A*D:=PV _ hBA
  have tl:ts.length<=40:=by
   rw[AT.lvsL_flat] at hl
   have:ts.length<=((ts.map AT.lvs).flatten).length:=kS λt ht=>oi (hk t ht)
   omega
  rw[AT.lay]
  refine⟨r.ok,r.sz (by omega) (by omega) (by omega),λz=>by rw[z] at h2;simp at h2,tl,hone,by
   show (ts.map (wtT ws)).sum.natAbs<2^m
   have:(((ts.map (wtT ws)).sum.natAbs:Nat):Int)<((2^m:Nat):Int):=by
    rw[Int.natAbs_of_nonneg hpos]
    push_cast
    exact hm
   omega,vk λt ht c hc=>?_⟩
  have rp:=r.parts (λx hx=>by obtain⟨u,hu,rfl⟩:=K_.mp hx;exact hone u hu) hc
  have hdt:t.dep<=q:=by rw[<- hq];exact AT.depL_le.mp (m_ _) t ht
  have hS:(ts.map (wtT ws)).sum.toNat<=2^m:=by
   have:(((ts.map (wtT ws)).sum.toNat:Nat):Int)<((2^m:Nat):Int):=by
    rw[Qn hpos]
    push_cast
    exact hm
   omega
  refine ih t ht c _ (A+B) rp (by omega) (by omega) ?_ (hk t ht) (hws t ht) ?_ (by have:=AT.lvs_le ht;omega)
  ·refine Pz (OR ?_ ?_) hn
   ·have:t.dep*B<=q*B:=PV _ hdt
    rw[Nat.add_mul,Nat.one_mul]
    omega
   ·rw[QF]
    refine Pb _ ?_
    have e:2^(m*(q+1))=2^m*2^(m*q):=by rw[<- P8];congr 1;rw[Nat.mul_add,Nat.mul_one,Nat.add_comm]
    rw[e]
    exact OR hS (Pp (by decide) (Pb _ hdt))
  ·refine Int.lt_of_le_of_lt ?_ hm
   have aux:∀us:List AT,(∀u∈us,0<=wtT ws u)->t∈us->wtT ws t<=(us.map (wtT ws)).sum:=by
    intro us
    induction us with
    |nil=>intro _ h;exact nomatch h
    |
     cons u us ih=>
     intro h0 hm
     have nn:∀us:List AT,(∀u∈us,0<=wtT ws u)->0<=(us.map (wtT ws)).sum:=by
      intro us
      induction us with
      |nil=>intro _;simp
      |cons v us ih=>intro h;rw[o_,N_];have:=h v (n_ ..);have:=ih λu hu=>h u (l_ _ hu);omega
     rw[o_,N_]
     rcases D_.mp hm with rfl |hm
     ·have:=nn us λu hu=>h0 u (l_ _ hu)
      omega
     ·have h1:=ih (λu hu=>h0 u (l_ _ hu)) hm
      have h2:=h0 u (n_ ..)
      omega
   exact aux ts (λu hu=>by have:=hone u hu;omega) ht
noncomputable def fH(b:Bx)(w:Bool)(W a x:Int):Bx:=if w=true then ⟨b.l+b.w*((a:Rat)/(W:Rat)),b.t,b.w*((x:Rat)/(W:Rat)),b.h⟩ else ⟨b.l,b.t+b.h*((a:Rat)/(W:Rat)),b.w,b.h*((x:Rat)/(W:Rat))⟩
noncomputable def frm(b:Bx)(w:Bool)(W:Int):Int->List Int->List Bx
 |_,[]=>[]
 |a,x::xs=>fH b w W a x::frm b w W (a+x) xs
theorem vf(b:Bx)(w:Bool)(W:Int):∀(xs:List Int) (a:Int),(frm b w W a xs).length=xs.length
 | [],_=>rfl
 |x::xs,a=>by rw[frm,v_,v_,vf b w W xs]
def zj(b:Bx)(w:Bool)(xs:List Int):aW b (wy w) xs=frm b w xs.sum 0 xs:=by
 have key:∀(W:Int) (xs:List Int) (a:Int),(if wy w="across" then (shL b.l b.w W a xs).map λp=>(⟨p.1,b.t,p.2,b.h⟩:Bx) else (shL b.t b.h W a xs).map λp=>⟨b.l,p.1,b.w,p.2⟩)=frm b w W a xs:=by
  intro W xs
  induction xs with
  |nil=>intro a;unfold shL frm;split <;> rfl
  |
   cons x xs ih=>
   intro a
   rw[frm,<- ih,shL,shL]
   unfold fH
   cases w with
   |true=>rw[if_pos (show wy true="across" from rfl),if_pos (show wy true="across" from rfl),if_pos rfl];rfl
   |
    false=>
    have hn:¬ (wy false="across"):=by decide
    rw[if_neg hn,if_neg hn,if_neg (by decide)];rfl
 exact key xs.sum xs 0
def Fi(ws:List Int)(bs:List Bx):AT.bxL ws [] bs=[]:=by rw[AT.bxL];intro _ _ _ _ h;cases h
structure Bx.In(c b:Bx):Prop where
 l:b.l<=c.l
 r:c.l+c.w<=b.l+b.w
 t:b.t<=c.t
 u:c.t+c.h<=b.t+b.h
def Bx.In.refl(b:Bx):Bx.In b b:=⟨by grind,by grind,by grind,by grind⟩
def Bx.In.trans{a b c:Bx}(h:Bx.In a b)(k:Bx.In b c):Bx.In a c:=by
 obtain⟨a1,a2,a3,a4⟩:=h
 obtain⟨b1,b2,b3,b4⟩:=k
 exact⟨by grind,by grind,by grind,by grind⟩
def AI{w a W:Rat}(hw:0<w)(hW:0<W)(ha:0<=a):0<=w*(a/W):=by
 rw[Rat.div_def]
 exact Rat.mul_nonneg (Rat.le_of_lt hw) (Rat.mul_nonneg ha (Rat.le_of_lt (Rat.inv_pos.mpr hW)))
def we{w a x c W:Rat}(hw:0<w)(hW:0<W)(h:a+x<=c):w*(a/W)+w*(x/W)<=w*(c/W):=by
 have h1:=AI (a:=c-(a+x)) hw hW (by grind)
 have e:w*((c-(a+x))/W)=w*(c/W)-(w*(a/W)+w*(x/W)):=by grind
 grind
def Dt{w W:Rat}(hW:0<W):w*(W/W)=w:=by grind
def wz{a b:Int}(h:a<=b):(a:Rat)<=(b:Rat):=Rat.intCast_le_intCast.mpr h
def sP{a:Int}(h:0<a):(0:Rat)<(a:Rat):=Rat.intCast_pos.mpr h
def HQ{b:Bx}{w:Bool}{W a x:Int}(hb:b.Ok)(ha:0<=a)(hx:0<x)(hs:a+x<=W):(fH b w W a x).Ok/\Bx.In (fH b w W a x) b:=by
 have hW:0<W:=by omega
 have p:(0:Rat)<(x:Rat)/(W:Rat):=fA hx hW
 have hWr:=sP hW
 have har:(0:Rat)<=(a:Rat):=by have:=wz ha;simpa using this
 have hsr:(a:Rat)+(x:Rat)<=(W:Rat):=by rw[<- QQ];exact wz hs
 have w1:=AI hb.w hWr har
 have w2:=we hb.w hWr hsr
 have h1:=AI hb.h hWr har
 have h2:=we hb.h hWr hsr
 rw[Dt hWr] at w2 h2
 unfold fH
 cases w with
 |
  true=>
  refine⟨⟨Rat.mul_pos hb.w p,hb.h⟩,?_,?_,?_,?_⟩
  ·show b.l<=b.l+_;grind
  ·show b.l+_+_<=b.l+b.w;grind
  ·show b.t<=b.t;grind
  ·show b.t+b.h<=b.t+b.h;grind
 |
  false=>
  refine⟨⟨hb.w,Rat.mul_pos hb.h p⟩,?_,?_,?_,?_⟩
  ·show b.l<=b.l;grind
  ·show b.l+b.w<=b.l+b.w;grind
  ·show b.t<=b.t+_;grind
  ·show b.t+_+_<=b.t+b.h;grind
theorem zP{b:Bx}{w:Bool}{W:Int}:∀{xs:List Int}{i:Nat}{a:Int}{c:Bx},(frm b w W a xs)[i]?=some c->∃x,xs[i]?=some x/\c=fH b w W (a+(xs.take i).sum) x
 | [],i,a,c,h=>by rw[frm,O4] at h;cases h
 |
  x::xs,0,a,c,h=>by
  rw[frm,List.getElem?_cons_zero] at h
  cases h
  exact⟨x,rfl,by rw[List.take_zero,List.sum_nil,Int.add_zero]⟩
 |
  x::xs,i+1,a,c,h=>by
  rw[frm,OX] at h
  obtain⟨y,h1,h2⟩:=zP h
  exact⟨y,by rw[OX];exact h1,by rw[h2,P1,N_,Int.add_assoc]⟩
theorem ng:∀{xs:List Int}{i:Nat}{x:Int},(∀y∈xs,1<=y)->xs[i]?=some x->0<=(xs.take i).sum/\(xs.take i).sum+x<=xs.sum
 | [],i,x,_,h=>by rw[O4] at h;cases h
 |
  y::xs,0,x,hp,h=>by
  cases h
  have:=iJ λz hz=>hp z (l_ _ hz)
  rw[List.take_zero,List.sum_nil,N_]
  omega
 |
  y::xs,i+1,x,hp,h=>by
  rw[OX] at h
  obtain⟨h1,h2⟩:=ng (λz hz=>hp z (l_ _ hz)) h
  have:=hp y (n_ ..)
  rw[P1,N_,N_]
  omega
theorem qS:∀{xs:List Int}{i j:Nat}{x y:Int},(∀y∈xs,1<=y)->xs[i]?=some x->xs[j]?=some y->i<j->(xs.take i).sum+x<=(xs.take j).sum
 | [],i,j,x,y,_,h,_,_=>by rw[O4] at h;cases h
 |z::xs,i,0,x,y,_,_,_,h=>by omega
 |
  z::xs,0,j+1,x,y,hp,h,hj,_=>by
  cases h
  rw[OX] at hj
  have:=(ng (λz hz=>hp z (l_ _ hz)) hj).1
  rw[List.take_zero,List.sum_nil,P1,N_]
  omega
 |
  z::xs,i+1,j+1,x,y,hp,h,hj,im=>by
  rw[OX] at h hj
  have:=qS (λz hz=>hp z (l_ _ hz)) h hj (by omega)
  rw[P1,N_,P1,N_]
  omega
def eU(w s:Bool)(c d:Bx):Prop:=if w=true then (if s=true then c.l+c.w<=d.l else d.l+d.w<=c.l) else (if s=true then c.t+c.h<=d.t else d.t+d.h<=c.t)
def uz{b:Bx}{w:Bool}{W a x e y:Int}(hb:b.Ok)(hW:0<W)(h:a+x<=e):eU w true (fH b w W a x) (fH b w W e y):=by
 have hWr:=sP hW
 have hsr:(a:Rat)+(x:Rat)<=(e:Rat):=by rw[<- QQ];exact wz h
 have w2:=we hb.w hWr hsr
 have h2:=we hb.h hWr hsr
 unfold eU fH
 cases w with
 |true=>show b.l+_+_<=b.l+_;grind
 |false=>show b.t+_+_<=b.t+_;grind
def yO{w s:Bool}{c d c' d':Bx}(h:eU w s c d)(hc:Bx.In c' c)(hd:Bx.In d' d):eU w s c' d':=by
 obtain⟨a1,a2,a3,a4⟩:=hc
 obtain⟨b1,b2,b3,b4⟩:=hd
 unfold eU at h ⊢
 cases w <;> cases s <;> simp only[Pd,P9,O8] at h ⊢ <;> grind
def BH{w s:Bool}{c d:Bx}(h:eU w s c d):eU w (!s) d c:=by
 unfold eU at h ⊢
 cases w <;> cases s <;> exact h
def AT.bxAt(ws:List Int):List Nat->AT->Bx->Option Bx
 | [],.lf _,b=>some b
 |i::p,.nd w ts,b=>match ts[i]?,(frm b w (ts.map (wtT ws)).sum 0 (ts.map (wtT ws)))[i]? with
  |some t,some c=>AT.bxAt ws p t c
  |_,_=>none
 |_,_,_=>none
def mT{ws:List Int}{t:AT}(ho:t.ok=true)(hw:∀k∈t.lvs,1<=ws.getD k 0):1<=wtT ws t:=by
 have h1:=oi ho
 have h2:=ka (ws:=ws) (l:=t.lvs) hw
 unfold wtT
 omega
def j5{ws:List Int}{i:Nat}{p:List Nat}{w:Bool}{ts:List AT}{b d:Bx}(ho:AT.ok (.nd w ts)=true)(hw:∀k∈AT.lvs (.nd w ts),1<=ws.getD k 0)(hb:b.Ok)(h:AT.bxAt ws (i::p) (.nd w ts) b=some d):
 ∃t a,ts[i]?=some t/\t.ok=true/\(∀k∈t.lvs,1<=ws.getD k 0)/\a=((ts.map (wtT ws)).take i).sum/\0<=a/\a+wtT ws t<=wtT ws (.nd w ts)/\1<=wtT ws t/\(ts.map (wtT ws))[i]?=some (wtT ws t)/\(fH b w (wtT ws (.nd w ts)) a (wtT ws t)).Ok/\Bx.In (fH b w (wtT ws (.nd w ts)) a (wtT ws t)) b/\AT.bxAt ws p t (fH b w (wtT ws (.nd w ts)) a (wtT ws t))=some d:=by
 have es:wtT ws (.nd w ts)=(ts.map (wtT ws)).sum:=by unfold wtT;rw[AT.lvs];exact jD ws ts
 rw[AT.ok,r_] at ho
 have hk:=AT.okL_mem.mp ho.2
 rw[AT.lvs] at hw
 have hws:∀t∈ts,∀k∈t.lvs,1<=ws.getD k 0:=λt ht k hk'=>hw k (AT.lvsL_mem.mpr ⟨t,ht,hk'⟩)
 have hone:∀x∈ts.map (wtT ws),1<=x:=λx hx=>by obtain⟨t,ht,rfl⟩:=K_.mp hx;exact mT (hk t ht) (hws t ht)
 unfold AT.bxAt at h
 split at h
 ·rename_i t c e1 e2
  obtain⟨x,h1,h2⟩:=zP e2
  have hm:=OO e1
  have ex:x=wtT ws t:=by rw[z_,e1] at h1;exact (C_ h1).symm
  subst ex
  obtain⟨p1,p2⟩:=ng hone h1
  have p3:=mT (hk t hm) (hws t hm)
  rw[Int.zero_add] at h2
  rw[<- es] at p2 h2
  obtain⟨s1,s2⟩:=HQ (w:=w) hb p1 (by omega:0<wtT ws t) p2
  exact⟨t,_,e1,hk t hm,hws t hm,rfl,p1,p2,p3,h1,s1,s2,by rw[<- h2];exact h⟩
 ·cases h
theorem iI{ws:List Int}:∀{p:List Nat}{t:AT}{b d:Bx},t.ok=true->(∀k∈t.lvs,1<=ws.getD k 0)->b.Ok->AT.bxAt ws p t b=some d->d.Ok/\Bx.In d b
 | [],.lf k,b,d,_,_,hb,h=>by unfold AT.bxAt at h;cases h;exact⟨hb,Bx.In.refl b⟩
 | [],.nd w ts,b,d,_,_,_,h=>by unfold AT.bxAt at h;cases h
 |i::p,.lf k,b,d,_,_,_,h=>by unfold AT.bxAt at h;cases h
 |
  i::p,.nd w ts,b,d,ho,hw,hb,h=>by
  obtain⟨t,a,h1,h2,h3,_,_,_,_,_,h4,h5,h6⟩:=j5 ho hw hb h
  obtain⟨k1,k2⟩:=iI h2 h3 h4 h6
  exact⟨k1,k2.trans h5⟩
theorem ph{ws:List Int}:∀{p:List Nat}{t:AT}{b d:Bx}{k:Nat},t.ok=true->(∀k∈t.lvs,1<=ws.getD k 0)->b.Ok->AT.bxAt ws p t b=some d->AT.at p t=some k->d.w*d.h=b.w*b.h*(((ws.getD k 0:Int):Rat)/((wtT ws t:Int):Rat))
 |
  [],.lf k,b,d,j,_,hw,hb,h,hk=>by
  unfold AT.bxAt at h
  cases h
  unfold AT.at at hk
  cases hk
  have e:wtT ws (.lf k)=ws.getD k 0:=by unfold wtT wtA;rw[AT.lvs];simp
  have:=hw k (by rw[AT.lvs];exact n_ ..)
  rw[e,Dt (sP (by omega))]
 | [],.nd w ts,b,d,_,_,_,_,h,_=>by unfold AT.bxAt at h;cases h
 |i::p,.lf k,b,d,_,_,_,_,h,_=>by unfold AT.bxAt at h;cases h
 |
  i::p,.nd w ts,b,d,k,ho,hw,hb,h,hk=>by
  obtain⟨t,a,h1,h2,h3,_,g1,g2,g3,_,h4,h5,h6⟩:=j5 ho hw hb h
  have hk':AT.at p t=some k:=by unfold AT.at at hk;rw[h1] at hk;exact hk
  rw[ph h2 h3 h4 h6 hk']
  have n1:=g9 (show wtT ws t≠0 by omega)
  have n2:=g9 (show wtT ws (.nd w ts)≠0 by omega)
  generalize ((ws.getD k 0:Int):Rat)=v at *
  unfold fH
  generalize ((wtT ws t:Int):Rat)=x at *
  generalize ((wtT ws (.nd w ts):Int):Rat)=W at *
  cases w with
  |true=>show b.w*(x/W)*b.h*(v/x)=_;grind
  |false=>show b.w*(b.h*(x/W))*(v/x)=_;grind
theorem rD{ws:List Int}{u:Str}:∀{p q:List Nat}{t:AT}{b c d:Bx},t.ok=true->(∀k∈t.lvs,1<=ws.getD k 0)->b.Ok->AT.bxAt ws p t b=some c->AT.bxAt ws q t b=some d->AT.rel p q t=some u->∃w s,u=wd w s/\AT.rel q p t=some (wd w (!s))/\eU w s c d
 | [],q,t,b,c,d,_,_,_,_,_,h=>by rw[AT.rel] at h;cases h;intro _ _ _ _ _ _ z;cases z
 |i::p,[],t,b,c,d,_,_,_,_,_,h=>by rw[AT.rel] at h;cases h;intro _ _ _ _ _ _ _ z;cases z
 |i::p,j::q,.lf k,b,c,d,_,_,_,_,_,h=>by rw[AT.rel] at h;cases h;intro _ _ _ _ _ _ _ _ z;cases z
 |
  i::p,j::q,.nd w ts,b,c,d,ho,hw,hb,hc,hd,h=>by
  obtain⟨t,a,h1,h2,h3,ea,a1,a2,a3,a4,a5,a6,a7⟩:=j5 ho hw hb hc
  obtain⟨t',a',h1',h2',h3',ea',b1,b2,b3,b4,b5,b6,b7⟩:=j5 ho hw hb hd
  have hone:∀x∈ts.map (wtT ws),1<=x:=λx hx=>by
   obtain⟨u,hu,rfl⟩:=K_.mp hx
   rw[AT.ok,r_] at ho
   rw[AT.lvs] at hw
   exact mT (AT.okL_mem.mp ho.2 u hu) λk hk'=>hw k (AT.lvsL_mem.mpr ⟨u,hu,hk'⟩)
  unfold AT.rel at h ⊢
  by_cases e:i=j
  ·subst e
   rw[if_pos rfl,h1] at h
   rw[if_pos rfl,h1]
   rw[h1] at h1'
   cases h1'
   have:a=a':=by rw[ea,ea']
   subst this
   exact rD h2 h3 a5 a7 b7 h
  ·rw[if_neg e] at h
   rw[if_neg (λz=>e z.symm)]
   cases h
   have i1:=(iI h2 h3 a5 a7).2
   have i2:=(iI h2' h3' b5 b7).2
   by_cases im:i<j
   ·have o:=qS hone a4 b4 im
    rw[<- ea,<- ea'] at o
    refine⟨w,true,by rw[G_ im],by rw[u_ (by omega)];rfl,yO (uz hb (by omega) o) i1 i2⟩
   ·have hji:j<i:=by omega
    have o:=qS hone b4 a4 hji
    rw[<- ea,<- ea'] at o
    refine⟨w,false,by rw[u_ im],by rw[G_ hji];rfl,BH (yO (uz hb (by omega) o) i2 i1)⟩
def uH{k:Nat}(a b:List (Nat×Bx)):bxO (a++b) k=if k∈a.map (·.1) then bxO a k else bxO b k:=by
 unfold bxO
 rw[List.find?_append]
 by_cases h:k∈a.map (·.1)
 ·rw[if_pos h]
  obtain⟨p,hp,e⟩:=K_.mp h
  have:(a.find? λp=>p.1==k).isSome=true:=List.find?_isSome.mpr ⟨p,hp,by simpa using e⟩
  obtain⟨q,hq⟩:=OV.mp this
  rw[hq]
  rfl
 ·rw[if_neg h]
  have:a.find? (λp=>p.1==k)=none:=Ph.mpr λp hp z=>h (K_.mpr ⟨p,hp,by simpa using z⟩)
  rw[this]
  rfl
theorem zR{ws:List Int}{x:Nat}{t:AT}{c:Bx}:∀{ts:List AT}{bs:List Bx}{i:Nat},ts[i]?=some t->bs[i]?=some c->(∀(j:Nat) (u:AT),j<i->ts[j]?=some u->x∉u.lvs)->x∈t.lvs->bxO (AT.bxL ws ts bs) x=bxO (AT.bx ws t c) x
 | [],bs,i,h,_,_,_=>by rw[O4] at h;cases h
 |u::ts,[],i,_,h,_,_=>by rw[O4] at h;cases h
 |
  u::ts,b::bs,0,h1,h2,_,hx=>by
  cases h1
  cases h2
  rw[AT.bxL,uH,if_pos (by rw[AT.bx_keys];exact hx)]
 |
  u::ts,b::bs,i+1,h1,h2,hn,hx=>by
  rw[OX] at h1 h2
  rw[AT.bxL,uH,if_neg (by rw[AT.bx_keys];exact hn 0 u (by omega) rfl)]
  exact zR h1 h2 (λj v hj hv=>hn (j+1) v (by omega) (by rw[OX];exact hv)) hx
def EO{ws:List Int}{x:Nat}(t:AT):∀p b,t.pth x=some p->AT.bxAt ws p t b=some (bxO (AT.bx ws t b) x):=by
 induction t using AT.ind with
 |
  h1 k=>
  intro p b h
  unfold AT.pth at h
  split at h
  ·rename_i e
   cases h
   subst e
   unfold AT.bxAt
   rw[AT.bx]
   simp [bxO]
  ·cases h
 |
  h2 w ts ih=>
  intro p b h
  unfold AT.pth at h
  obtain⟨i,t,r,h1,h2,rfl,h4⟩:=AT.pthL_some h
  have hm:=OO h1
  rw[Nat.zero_add]
  have hi:=(k_.mp h1).1
  have hf:i<(frm b w (ts.map (wtT ws)).sum 0 (ts.map (wtT ws))).length:=by rw[vf,j_];exact hi
  have e2:=A_ hf
  unfold AT.bxAt
  rw[h1,e2]
  dsimp only
  rw[ih t hm r _ h2,AT.bx,zj,zR h1 e2 (λj u hj hu=>(AT.pth_mem u).mp (h4 j u hj hu))]
  cases q:decide (x∈t.lvs) with
  |true=>exact Pr q
  |
   false=>
   have:=(AT.pth_mem t).mpr (of_decide_eq_false q)
   rw[h2] at this
   cases this
def LB{ws:List Int}{n m B:Nat}(t:AT):∀(b:Bx) (D A:Nat),Rp D A B b->B<=A->1<=A->(A+t.dep*B)*(D*2^(m*t.dep))<2^n->t.ok=true->(∀k∈t.lvs,1<=ws.getD k 0)->wtT ws t<2^m->∀p∈AT.bx ws t b,p.2.Sz n:=by
 induction t using AT.ind with
 |
  h1 k=>
  intro b D A r hBA hA hn _ _ _ p hp
  rw[AT.bx] at hp
  rw[OK.mp hp]
  rw[AT.dep] at hn
  have hD1:1<=2^(m*1):=Nat.one_le_two_pow
  have h1:A*D<=(A+1*B)*(D*2^(m*1)):=OR (by omega) (Nat.le_mul_of_pos_right _ hD1)
  have h2:D<=A*D:=QD _ hA
  have h3:B*D<=A*D:=PV _ hBA
  exact r.sz (by omega) (by omega) (by omega)
 |
  h2 w ts ih=>
  intro b D A r hBA hA hn ho hw hm p hp
  rw[AT.ok,r_] at ho
  have hk:=AT.okL_mem.mp ho.2
  rw[AT.lvs] at hw
  have hws:∀t∈ts,∀k∈t.lvs,1<=ws.getD k 0:=λt ht k hk'=>hw k (AT.lvsL_mem.mpr ⟨t,ht,hk'⟩)
  have hone:∀t∈ts,1<=wtT ws t:=λt ht=>mT (hk t ht) (hws t ht)
  have hsum:wtT ws (.nd w ts)=(ts.map (wtT ws)).sum:=by unfold wtT;rw[AT.lvs];exact jD ws ts
  rw[hsum] at hm
  have hpos:=iJ (l:=ts.map (wtT ws)) λx hx=>by obtain⟨t,ht,rfl⟩:=K_.mp hx;exact hone t ht
  rw[AT.dep] at hn
  generalize hq:AT.depL ts=q at *
  have hS:(ts.map (wtT ws)).sum.toNat<=2^m:=by
   have:(((ts.map (wtT ws)).sum.toNat:Nat):Int)<((2^m:Nat):Int):=by
    rw[Qn (by omega)]
    push_cast
    exact hm
   omega
  have step:∀t∈ts,∀c∈aW b (wy w) (ts.map (wtT ws)),∀p∈AT.bx ws t c,p.2.Sz n:=λt ht c hc=>by
   have rp:=r.parts (λx hx=>by obtain⟨u,hu,rfl⟩:=K_.mp hx;exact hone u hu) hc
   have hdt:t.dep<=q:=by rw[<- hq];exact AT.depL_le.mp (m_ _) t ht
   refine ih t ht c _ (A+B) rp (by omega) (by omega) ?_ (hk t ht) (hws t ht) ?_
   ·refine Pz (OR ?_ ?_) hn
    ·have:t.dep*B<=q*B:=PV _ hdt
     rw[Nat.add_mul,Nat.one_mul]
     omega
    ·rw[QF]
     refine Pb _ ?_
     have e:2^(m*(q+1))=2^m*2^(m*q):=by rw[<- P8];congr 1;rw[Nat.mul_add,Nat.mul_one,Nat.add_comm]
     rw[e]
     exact OR hS (Pp (by decide) (Pb _ hdt))
   ·refine Int.lt_of_le_of_lt ?_ hm
    obtain⟨i,hi⟩:=Qe ht
    have:=ng (xs:=ts.map (wtT ws)) (i:=i) (x:=wtT ws t) (λx hx=>by obtain⟨u,hu,rfl⟩:=K_.mp hx;exact hone u hu) (by rw[z_,hi];rfl)
    omega
  rw[AT.bx] at hp
  generalize aW b (wy w) (ts.map (wtT ws))=bs at *
  clear hpos hS hsum hm hn hone hws hw hk ho r ih hq
  induction ts generalizing bs with
  |nil=>rw[Fi] at hp;exact nomatch hp
  |
   cons t ts ih2=>
   cases bs with
   |nil=>rw[show AT.bxL ws (t::ts) []=[] from by rw[AT.bxL];intro _ _ _ _ _ h;cases h] at hp;exact nomatch hp
   |
    cons c cs=>
    rw[AT.bxL] at hp
    rcases OU.mp hp with hp |hp
    ·exact step t (n_ ..) c (n_ ..) p hp
    ·exact ih2 cs hp λu hu d hd=>step u (l_ _ hu) d (l_ _ hd)
theorem vz{k:Nat}:∀{l:List (Nat×Bx)},k∈l.map (·.1)->∃p∈l,bxO l k=p.2
 | [],h=>nomatch h
 |
  p::l,h=>by
  unfold bxO
  by_cases hp:p.1=k
  ·exact⟨p,n_ ..,by rw[List.find?_cons_of_pos (by simpa using hp)];rfl⟩
  ·rw[o_,D_] at h
   obtain⟨q,hq,e⟩:=vz (l:=l) (h.resolve_left λz=>hp z.symm)
   refine⟨q,l_ _ hq,?_⟩
   rw[List.find?_cons_of_neg (by simpa using hp)]
   exact e
end L3
set_option maxHeartbeats 4000000
namespace KK
open PySem PySem.Spec PyProof.Rows L2 L3
def top(i:Nat):Stmt:=PySem.Challenge.pw_weightrooms_k13_whole_relations_are_so.main.body.getD i (.Pass ⟨0,0,0,0⟩)
noncomputable def ba:jl:=[((.o "NoFraction"),(.o "NoBox"),false),((.o "NoBox"),(.o "NoBox"),true),((.o "NoWay"),(.o "NoBox"),false),((.o "NoWeights"),(.o "NoBox"),false),((.o "TooMany"),(.o "NoBox"),false),((.o "NoTree"),(.o "NoBox"),false),((.o "Unknown"),(.o "NoBox"),false),((.o "NoFraction"),(.o "NoTree"),false),((.o "NoBox"),(.o "NoTree"),false),((.o "NoWay"),(.o "NoTree"),false),((.o "NoWeights"),(.o "NoTree"),false),((.o "TooMany"),(.o "NoTree"),false),((.o "NoTree"),(.o "NoTree"),true),((.o "Unknown"),(.o "NoTree"),false),((.o "NoFraction"),(.o "NoWay"),false),((.o "NoBox"),(.o "NoWay"),false),((.o "NoWay"),(.o "NoWay"),true),((.o "NoWeights"),(.o "NoWay"),false),((.o "TooMany"),(.o "NoWay"),false),((.o "NoTree"),(.o "NoWay"),false),((.o "Unknown"),(.o "NoWay"),false),((.o "NoFraction"),(.o "NoWeights"),false),((.o "NoBox"),(.o "NoWeights"),false),((.o "NoWay"),(.o "NoWeights"),false),((.o "NoWeights"),(.o "NoWeights"),true),((.o "TooMany"),(.o "NoWeights"),false),((.o "NoTree"),(.o "NoWeights"),false),((.o "Unknown"),(.o "NoWeights"),false),((.o "NoFraction"),(.o "TooMany"),false),((.o "NoBox"),(.o "TooMany"),false),((.o "NoWay"),(.o "TooMany"),false),((.o "NoWeights"),(.o "TooMany"),false),((.o "TooMany"),(.o "TooMany"),true),((.o "NoTree"),(.o "TooMany"),false),((.o "Unknown"),(.o "TooMany"),false),((.o "NoFraction"),(.o "Unknown"),false),((.o "NoBox"),(.o "Unknown"),false),((.o "NoWay"),(.o "Unknown"),false),((.o "NoWeights"),(.o "Unknown"),false),((.o "TooMany"),(.o "Unknown"),false),((.o "NoTree"),(.o "Unknown"),false),((.o "Unknown"),(.o "Unknown"),true),((.b "NoneType"),(.b "bool"),false),((.b "bool"),(.b "bool"),true),((.b "int"),(.b "bool"),false),((.b "str"),(.b "bool"),false),((.b "tuple"),(.b "bool"),false),((.b "list"),(.b "bool"),false),((.b "dict"),(.b "bool"),false),((.b "NoneType"),(.b "int"),false),((.b "bool"),(.b "int"),true),((.b "int"),(.b "int"),true),((.b "str"),(.b "int"),false),((.b "tuple"),(.b "int"),false),((.b "list"),(.b "int"),false),((.b "dict"),(.b "int"),false),((.b "NoneType"),(.b "list"),false),((.b "bool"),(.b "list"),false),((.b "int"),(.b "list"),false),((.b "str"),(.b "list"),false),((.b "tuple"),(.b "list"),false),((.b "list"),(.b "list"),true),((.b "dict"),(.b "list"),false),((.b "NoneType"),(.b "str"),false),((.b "bool"),(.b "str"),false),((.b "int"),(.b "str"),false),((.b "str"),(.b "str"),true),((.b "tuple"),(.b "str"),false),((.b "list"),(.b "str"),false),((.b "dict"),(.b "str"),false),((.b "NoneType"),(.b "tuple"),false),((.b "bool"),(.b "tuple"),false),((.b "int"),(.b "tuple"),false),((.b "str"),(.b "tuple"),false),((.b "tuple"),(.b "tuple"),true),((.b "list"),(.b "tuple"),false),((.b "dict"),(.b "tuple"),false)]
noncomputable def fY:List Str:=["NoFraction", "NoBox", "NoWay", "NoWeights", "TooMany", "NoTree", "Unknown"]
def iB:D:=(.int 40)
noncomputable def yY:D:=(.tup [(.str "across"),(.str "down")])
abbrev tb:Tb:=⟨["RoomError", "NoFraction", "NoBox", "NoWay", "NoWeights", "TooMany", "NoTree", "Unknown"],["NoFraction", "NoBox", "NoWay", "NoWeights", "TooMany", "NoTree", "Unknown"],[("RoomError",fY)],ba,[("MOST_WEIGHTS",iB),("WAYS",yY)]⟩
abbrev TT(K:W.Frag)(mg:Ra):Prop:=Ty tb top [10,11,12,13,14,15,16,20,21,22,23,24,25,26,27,28,30,31,32,33,34,35,36,37,38,40,41,42,43,44,46,47,48,49,50,51,52,54,55,56,57,58,59,60] K mg
section
variable{P:Program}{w:World}{K:W.Frag}{mg:Ra}{base:Heap}
def ie:PEx:=sA iB (.int 40) (λ_ _=>.int _)
def mI(e:E3):ie.G e=.ok (.val (.int 40)) e:=rfl
noncomputable def uB:PEx:=sA yY (.tup [(.str "across"),(.str "down")]) (λ_ _=>.tup (.cons (.str _) (.cons (.str _) .nil)))
def Ft(e:E3):uB.G e=.ok (.val (.tup [(.str "across"),(.str "down")])) e:=rfl
def dI(s:String):Lean.TSyntax `term:=⟨Lean.mkIdent (s.replace "%" "").toName⟩
def dA(f:String)(a:Lean.TSyntax `term):Lean.TSyntax `term:=Lean.Syntax.mkApp (dI f) #[a]
def dF:List (Lean.TSyntax `tactic)->Lean.MacroM (Lean.TSyntax `tactic)
 | []=>`(tactic|fail)
 |a::l=>do `(tactic|first | $a:tactic | $(<- dF l):tactic)
def dL(f:String->Lean.MacroM (Lean.TSyntax `tactic)):List String->Lean.MacroM (List (Lean.TSyntax `tactic))
 | []=>pure []
 |s::l=>do return (<- f s)::(<- dL f l)
set_option hygiene false in
def dQ(ap:String->Lean.TSyntax `term)(s:String):Lean.MacroM (Lean.TSyntax `tactic):=match (s.splitOn ";").map ap with
 | [d,c,a,b]=>`(tactic|((case d=>with_reducible exact $d);(case c=>exact $c);(case a=>exact $a);(case b=>exact $b)))
 |d::c::_=>`(tactic|((case d=>with_reducible exact $d);(case c=>exact $c)))
 |_=>`(tactic|fail)
set_option hygiene false in
def dR(ap:String->Lean.TSyntax `term)(g:String):Lean.MacroM (Lean.TSyntax `tactic):=match g.splitOn ":" with
 | [r]=>`(tactic|refine $(ap r))
 |r::l=>do `(tactic|(refine' $(ap r);$(<- dF (<- dL (dQ ap) l)):tactic))
 | []=>`(tactic|fail)
set_option hygiene false in
local macro_rules | `('d')=>do
 let h <- `(?_)
 let u <- `(_)
 let R:=dI "rfl"
 let qA <- `(?a)
 let qB <- `(?b)
 let qC <- `(?c)
 let qD <- `(?d)
 let qp <- `((λ_ _=>rfl))
 let ap:=λ(s:String)=>let w:=s.splitOn " ";Lean.Syntax.mkApp (dI (w.getD 0 "")) (((w.getD 1 "").toList.map λc=>([('8',dI "hr.u180"),('A',qA),('B',qB),('C',qC),('D',qD),('K',dI "T.k"),('_',u),('b',dA "%boT" R),('e',dA "T.e" R),('f',dA "%boF" R),('g',dA "T.g" R),('k',dA "T.n" R),('m',dA "T.m" R),('n',dI "nd"),('o',dI "%own1"),('p',qp),('r',R),('t',dI "T"),('u',dA "%OB" (dI "hr")),('v',dA "%yx" u),('x',dA "T.x" R),('z',dI "%rz1")].lookup c).getD h).toArray)
 let rd:=λ(s:String)=>dL (dR ap) (s.splitOn "|")
 let e0 <- `(tactic|refine zcF (by $(<- dF (<- rd "%ih|jJ t_|qL t|mG t|rK t|sS t|ub t|pA t|qZ t|mB t|pG t|jA t_|pB t|rL t|jX t|l8 t|vG t|pO t|pD t|kz t|xb t|pK t|tU t|nS t|pH t|se t|xN t|x6 t|xh t|mh t|pP t|sC t|me t_|rT t|Cp t|xJ t|ue t|mq t|gm t|nD t|xY t|jF t|tQ t|pC t")):tactic) hr ?_)
 `(by repeat' $(<- dF ((<- rd "%yx _|Ib|La|c9 ??|aD ??|gz ?|zsS _n?|qa ???|iE ?|yu ?|rC ?|jE|OC|Fy|Ks ?")++[e0]++(<- rd "%MH CD??:C5;ixK r|HG CD??:Dn;eqDK r8:GZ;FP:NB;HP:Ds;C0:C1;Dw:CZ;C3:Lm;neDK r8:Kn;Ao:EC;Gf u|i6 CDrkf?:KP;M8 r:Jb;BA:EG;yC r:Es;x5 r:Fz;tS:zL;o3 rr:G1 K;MD r|Md CD??:K5;IT r:JF;DP:KL;KR:IU;B4:GB;Ji:IL;JY:Hd;Kp|JE CD??:CZ;C3:Ds;C0:Dn;eqDK r8:C1;Dw:ML;inK r:N5;Lz|GJ rABCDv?:yg;oG;PySem.F.slot_list_append;PySem.F.type_list_append:zJ;zD;PySem.F.slot_list_insert;PySem.F.type_list_insert:xx;wo r;PySem.F.slot_list_extend;PySem.F.type_list_extend|El rABCDv:K2;GK;PySem.F.slot_list_pop;PySem.F.type_list_pop|Oh CD?:Jp;Hm|K8 n?CD:Kh;GX|DN ?v?CD:D9;CB:Bd;AO u|ZG.weak ?|zt_w ?|Kw rv?|Hf ??|Mu|D8 u??p|AJ u??p|Ln rg|JC re|N7 ???|Ie|JO ?|Hu ?|Fo rkb|B6 r???|NJ rkb|zgN _n|IC rr?|Av ??|FN|Ey rrk?|yQ rk?|JB r?|Hv rrk?|FQ|Dz ?|E7 ??|FG ?|IP or???|Ic n?|AU rzrmx?|D5|Ci o??|qG ?|Bl r?|GG ??|EY ?|L9 ??|Hk ?"))):tactic)
noncomputable def dJ(s:PFx [false,false]):PSt:=
 (ao (az false 4 (ak s.fn (aa (af 3) (aa (af 1) ag))))
  (xIf (qOf (pOp oh (af 4) ir)) (aw (pOp aT (cH (aa (af 2) ag)) (af 4))) xNx))
def eO(s:PFx [false,false]):PSt:=
 (ao (xIf (qNo (qOf (pFn (aQ ba) (aa (af 0) (aa (pTy "tuple") ag))))) (aw (pIf (qAn (qOf (pOp bEq (af 0) (af 1))) (qNo (qOf (pFn (aQ ba) (aa (af 1) (aa (pTy "bool") ag)))))) (cH ag) ir)) xNx)
  (ao (dC (iZ (aa (pOp bIx (af 0) (ah 1)) ag)) (gtX (gtT 2 (ax (gtN 2) (ax (gtN 3) bu)))) (dJ s))
  (aw ir)))
def bC:Nat->PFx [false,false]
 |0=>PFx.none [false,false]
 |n+1=>PFx.of [false,false] 5 (eO (bC n))
theorem jJ(T:TT K mg):∀n,Callee P w K mg base "path_to" (2+n) ["tree", "thing"] (spD K mg 2 (bC n).F)
 |0=>ok0 (T.d.get 37 rfl) (aA (N:=["tree", "thing", "at", "part", "path"]) (by decide)) (λ_ _ _ _ _ _=>ar2 λ_ _=>rfl)
 |
  n+1=>by
  have ih:=jJ T n
  show Callee _ _ _ _ _ _ _ _ (spD _ _ _ (PFx.of [false,false] 5 (eO (bC n))).F)
  exact Bi (k:=2+n) (T.d.get 37 rfl) (aA (N:=["tree", "thing", "at", "part", "path"]) (by decide)) (λ_ _ _ _ _ _=>ar2 λ_ _=>rfl) λnd _ _ _ _ _ _ _ hr=>'d'
noncomputable def eg:PSt:=
 (ao (az false 0 (pOp bIx (pOp bIx (af 0) (ah 1)) (pOp bIx (af 3) (ah 0))))
  (eR 3 4 (aa (pSl (af 3) (oS (ah 1)) oN) (aa (pSl (af 4) (oS (ah 1)) oN) ag))))
def i7:PSt:=
 (ao (eR 3 4 (aa (ak (bC 42).fn (aa (af 0) (aa (af 1) ag))) (aa (ak (bC 42).fn (aa (af 0) (aa (af 2) ag))) ag)))
  (ao (xIf (qO (qOf (pOp bIs (af 3) ir)) (qO (qOf (pOp bIs (af 4) ir)) (qOf (pOp bEq (af 3) (af 4))))) (er "Unknown" (aa (aG "these are no two things of the tree") ag)) xNx)
  (ao (xWh (qOf (pOp bEq (pOp bIx (af 3) (ah 0)) (pOp bIx (af 4) (ah 0)))) (eg))
  (ao (az false 5 (pOp bLt (pOp bIx (af 3) (ah 0)) (pOp bIx (af 4) (ah 0))))
  (ao (xIf (qOf (pOp bEq (pOp bIx (af 0) (ah 0)) (aG "across"))) (aw (pIf (qTr (af 5)) (aG "left") (aG "right"))) xNx)
  (aw (pIf (qTr (af 5)) (aG "above") (aG "below"))))))))
def bK:PFn:=fnP [false,false,false] 6 i7
def tX:bK.ms=[false,false,false]:=rfl
def qL(T:TT K mg):Callee P w K mg base "relation" 45 ["tree", "one", "other"] (spD K mg 3 bK.F):=aN (T.d.get 38 rfl) (aA (N:=["tree", "one", "other", "path", "beyond", "ahead"]) (by decide)) (λ_ _ _ _ _ _=>ar3 λ_ _ _=>rfl) λnd _ _ _ _ _ _ _ hr=>'d'
def jy:PSt:=
 (ao (az false 3 ir)
  (ao (AX fY 4 (bH (ak bK (aa (af 0) (aa (af 1) (aa (af 2) ag))))) (az false 3 (af 4)))
  (aw (fi (pFn (aQ ba) (aa (af 3) (aa (jY "Unknown") ag))) (nj (pFn (aQ ba) (aa (af 3) (aa (a0 (aa (jY "NoBox") (aa (jY "NoTree") (aa (jY "NoWay") (aa (jY "NoWeights") (aa (jY "TooMany") ag)))))) ag))))))))
def aC:PFn:=fnP [false,false,false] 5 jy
def n9:aC.ms=[false,false,false]:=rfl
def mG(T:TT K mg):Callee P w K mg base "_law_refused" 46 ["_law_tree_here", "_law_one", "_law_two"] (spD K mg 3 aC.F):=aN (T.d.get 59 rfl) (aA (N:=["_law_tree_here", "_law_one", "_law_two", "_law_caught", "e"]) (by decide)) (λ_ _ _ _ _ _=>ar3 λ_ _ _=>rfl) λnd _ _ _ _ _ _ _ hr=>(aD 'd' (aD (Im (i:=4) vN nd rfl rfl rfl (T.m rfl) (T.h (.head _)).1 (T.h (.head _)).2 (λ_ _ _ hx=>'d') (λ_=>'d')) 'd'))
def mF:PSt:=
 (ao (xIf (qOf (pOp bEq (pFn bM (aa (af 0) ag)) (ah 0))) (aw (cH (aa (ah 0) (aa (ah 0) (aa (af 1) ag))))) xNx)
  (aw (cH (aa (pOp bIx (af 0) (pOp b9 (af 1) (pFn bM (aa (af 0) ag)))) (aa (ah 0) (aa (af 1) ag))))))
def cS:PFn:=fnP [false,false] 2 mF
def tT:cS.ms=[false,false]:=rfl
def rK(T:TT K mg):Callee P w K mg base "_law_feed" 1 ["_law_script", "_law_k"] (spD K mg 2 cS.F):=aN (T.d.get 46 rfl) (aA (N:=["_law_script", "_law_k"]) (by decide)) (λ_ _ _ _ _ _=>ar2 λ_ _=>rfl) λnd _ _ _ _ _ _ _ hr=>'d'
def mj:PSt:=
 (ao (rO 0 seL (ah 1) (pOp aT (pOp bIx (af 0) (ah 1)) (ah 1)))
  (ao (xIf (qOf (pOp bGe (pOp bIx (af 0) (ah 0)) (pOp gf (ah 10) (ah 18)))) (ao (az false 2 (pOp b9 (pOp bIx (af 0) (ah 0)) (af 1)))
  (ao (rO 0 seL (ah 0) (pOp jk (pOp bIx (af 0) (ah 0)) (af 1)))
  (aw (af 2)))) xNx)
  (ao (az false 3 (pOp aT (pOp aT (pOp b9 (pOp bIx (af 0) (ah 0)) (ah 1000003)) (pOp bU (ah 7919) (pOp bIx (af 0) (ah 2)))) (pOp bU (ah 104729) (pOp bIx (af 0) (ah 1)))))
  (ao (az false 3 (pOp b9 (pOp bU (af 3) (ah 48271)) (ah 2147483647)))
  (aw (pOp b9 (pOp b9 (pOp bU (af 3) (pOp aT (pOp b9 (af 3) (ah 65521)) (pOp bIx (af 0) (ah 1)))) (ah 2147483629)) (af 1)))))))
def aq:PFn:=fnP [true,false] 4 mj
def ug:aq.ms=[true,false]:=rfl
def sS(T:TT K mg):Callee P w K mg base "_law_next" 1 ["_law_feed_here", "_law_many"] (spD K mg 2 aq.F):=aN (T.d.get 47 rfl) (aA (N:=["_law_feed_here", "_law_many", "_law_digit", "_law_mixed"]) (by decide)) (λ_ _ _ _ _ _=>ar2 λ_ _=>rfl) λnd _ _ _ _ _ _ _ hr=>'d'
def gq:PSt:=
 (eR 2 3 (aa (af 3) (aa (pOp b9 (af 2) (af 3)) ag)))
def pw:PSt:=
 (ao (eR 2 3 (aa (pFn fL (aa (af 0) ag)) (aa (pFn fL (aa (af 1) ag)) ag)))
  (ao (xWh (qOf (pOp bGt (af 3) (ah 0))) (gq))
  (ao (xIf (qOf (pOp bLt (af 1) (ah 0))) (az false 2 (pOp eW (ah 0) (af 2))) xNx)
  (aw (a0 (aa (pOp jk (af 0) (af 2)) (aa (pOp jk (af 1) (af 2)) ag)))))))
def bP:PFn:=fnP [false,false] 4 pw
def xm:bP.ms=[false,false]:=rfl
def ub(T:TT K mg):Callee P w K mg base "_law_low" 1 ["_law_top", "_law_bottom"] (spD K mg 2 bP.F):=aN (T.d.get 49 rfl) (aA (N:=["_law_top", "_law_bottom", "_law_one", "_law_two"]) (by decide)) (λ_ _ _ _ _ _=>ar2 λ_ _=>rfl) λnd _ _ _ _ _ _ _ hr=>'d'
def jI:PSt:=
 (az false 2 (pOp aT (pOp bU (af 2) (pOp gf (ah 10) (ah 6))) (ak aq (aa (af 0) (aa (pOp gf (ah 10) (ah 6)) ag)))))
def kK:PSt:=
 (ao (az false 2 (ah 0))
  (ao (dC (gn (aa (ah 6) ag)) (gtN 3) (jI))
  (aw (pOp eW (pOp b9 (af 2) (pOp aT (pOp bU (ah 2) (af 1)) (ah 1))) (af 1)))))
def bq:PFn:=fnP [true,false] 4 kK
def qQ:bq.ms=[true,false]:=rfl
def pA(T:TT K mg):Callee P w K mg base "_law_great" 2 ["_law_feed_here", "_law_far"] (spD K mg 2 bq.F):=aN (T.d.get 48 rfl) (aA (N:=["_law_feed_here", "_law_far", "_law_number", "_law_k"]) (by decide)) (λ_ _ _ _ _ _=>ar2 λ_ _=>rfl) λnd _ _ _ _ _ _ _ hr=>'d'
def js:PSt:=
 (ao (az false 1 (ak aq (aa (af 0) (aa (ah 6) ag))))
  (ao (eR 2 3 (aa (a0 (aa (pOp eW (ak aq (aa (af 0) (aa (ah 19) ag))) (ah 9)) (aa (ah 1) ag))) (aa (a0 (aa (pOp eW (ak aq (aa (af 0) (aa (ah 19) ag))) (ah 9)) (aa (ah 1) ag))) ag)))
  (ao (eR 4 5 (aa (a0 (aa (pOp aT (ah 1) (ak aq (aa (af 0) (aa (ah 12) ag)))) (aa (ah 1) ag))) (aa (a0 (aa (pOp aT (ah 1) (ak aq (aa (af 0) (aa (ah 12) ag)))) (aa (ah 1) ag))) ag)))
  (ao (xIf (qOf (pOp bEq (af 1) (ah 1))) (az false 5 (af 4)) xNx)
  (ao (xIf (qOf (pOp bEq (af 1) (ah 2))) (az false 4 (a0 (aa (pOp aT (ah 1) (ak aq (aa (af 0) (aa (ah 99) ag)))) (aa (ah 1) ag)))) xNx)
  (ao (xIf (qOf (pOp bEq (af 1) (ah 3))) (az false 5 (a0 (aa (pOp aT (ah 1) (ak aq (aa (af 0) (aa (ah 99) ag)))) (aa (ah 1) ag)))) xNx)
  (ao (xIf (qOf (pOp bEq (af 1) (ah 4))) (ao (eR 2 3 (aa (ak bP (aa (pOp eW (ak aq (aa (af 0) (aa (ah 199) ag))) (ah 99)) (aa (pOp aT (ah 1) (ak aq (aa (af 0) (aa (ah 30) ag)))) ag))) (aa (ak bP (aa (ak aq (aa (af 0) (aa (ah 9) ag))) (aa (ah 7) ag))) ag)))
  (eR 4 5 (aa (ak bP (aa (pOp aT (ah 1) (ak aq (aa (af 0) (aa (ah 99) ag)))) (aa (pOp aT (ah 1) (ak aq (aa (af 0) (aa (ah 30) ag)))) ag))) (aa (ak bP (aa (pOp aT (ah 1) (ak aq (aa (af 0) (aa (ah 99) ag)))) (aa (ah 11) ag))) ag)))) xNx)
  (ao (xIf (qOf (pOp bEq (af 1) (ah 5))) (ao (az false 6 (pOp eW (pOp gf (ah 10) (ah 30)) (ah 1)))
  (ao (eR 2 3 (aa (ak bP (aa (ak bq (aa (af 0) (aa (af 6) ag))) (aa (pOp aT (ah 1) (pFn fL (aa (ak bq (aa (af 0) (aa (pOp eW (af 6) (ah 1)) ag))) ag))) ag))) (aa (a0 (aa (ak bq (aa (af 0) (aa (af 6) ag))) (aa (ah 1) ag))) ag)))
  (eR 4 5 (aa (a0 (aa (pOp aT (ah 1) (pFn fL (aa (ak bq (aa (af 0) (aa (pOp eW (af 6) (ah 1)) ag))) ag))) (aa (ah 1) ag))) (aa (ak bP (aa (pOp aT (ah 1) (pFn fL (aa (ak bq (aa (af 0) (aa (pOp eW (af 6) (ah 1)) ag))) ag))) (aa (af 6) ag))) ag))))) xNx)
  (aw (a0 (aa (af 2) (aa (af 3) (aa (af 4) (aa (af 5) ag))))))))))))))
def eS:PFn:=fnP [true] 7 js
def ua:eS.ms=[true]:=rfl
def qZ(T:TT K mg):Callee P w K mg base "_law_room" 3 ["_law_feed_here"] (spD K mg 1 eS.F):=aN (T.d.get 50 rfl) (aA (N:=["_law_feed_here", "_law_way", "_law_left", "_law_top", "_law_wide", "_law_high", "_law_far"]) (by decide)) (λ_ _ _ _ _ _=>ar1 λ_=>rfl) λnd _ _ _ _ _ _ _ hr=>'d'
def dN:PSt:=
 (ao (az true 3 (ak cS (aa (af 0) (aa (pOp aT (pOp aT (af 1) (ah 1)) (af 8)) ag))))
  (ao (az false 9 (pOp bIx (cH (aa (ah 1) (aa (pOp aT (ah 1) (ak aq (aa (af 3) (aa (ah 9) ag)))) (aa (pOp qT (ah 1) (pOp b9 (af 8) (ah 24))) (aa (pOp aT (ah 1) (ak aq (aa (af 3) (aa (ah 9) ag)))) (aa (ah 1) (aa (pOp aT (ah 1) (ak aq (aa (af 3) (aa (ah 3) ag)))) ag))))))) (af 6)))
  (ao (xIf (qAn (qOf (pOp bEq (af 6) (ah 3))) (qOf (pOp bEq (ak aq (aa (af 3) (aa (ah 4) ag))) (ah 0)))) (az false 9 (pOp aT (pOp gf (ah 10) (ah 29)) (ak aq (aa (af 3) (aa (ah 100) ag))))) xNx)
  (ao (xIf (qOf (pOp bEq (af 6) (ah 4))) (az false 9 (pOp aT (ah 1) (pFn fL (aa (ak bq (aa (af 3) (aa (pOp eW (pOp gf (ah 10) (ah 30)) (ah 2)) ag))) ag)))) xNx)
  (bH (jO 7 gP (aa (af 9) ag)))))))
def gj:PSt:=
 (ao (az true 3 (ak cS (aa (af 0) (aa (af 1) ag))))
  (ao (az false 4 (pOp aT (ah 1) (ak aq (aa (af 3) (aa (pFn lU (aa (af 2) (aa (ah 7) ag))) ag)))))
  (ao (az false 5 (ak aq (aa (af 3) (aa (ah 6) ag))))
  (ao (xIf (qOf (pOp bLt (af 5) (ah 2))) (az false 4 (pOp bIx (cH (aa (af 2) (aa (pFn sI (aa (ah 1) (aa (pOp jk (pOp bU (af 4) (af 2)) (ah 8)) ag))) ag))) (af 5))) xNx)
  (ao (az false 6 (ak aq (aa (af 3) (aa (ah 6) ag))))
  (ao (xIf (qOf (pOp bGt (af 4) (ah 9))) (az false 6 (pOp b9 (af 6) (ah 3))) xNx)
  (ao (az true 7 (cH ag))
  (ao (dC (gn (aa (af 4) ag)) (gtN 8) (dN))
  (aw (af 7))))))))))
def cW:PFn:=fnP [false,false,false] 10 gj
def ou:cW.ms=[false,false,false]:=rfl
def mB(T:TT K mg):Callee P w K mg base "_law_weights" 3 ["_law_script", "_law_at", "_law_most"] (spD K mg 3 cW.F):=aN (T.d.get 51 rfl) (aA (N:=["_law_script", "_law_at", "_law_most", "_law_feed_here", "_law_many", "_law_more", "_law_style", "_law_some", "_law_k", "_law_weight"]) (by decide)) (λ_ _ _ _ _ _=>ar3 λ_ _ _=>rfl) λnd _ _ _ _ _ _ _ hr=>'d'
def gL:PSt:=
 (bH (jO 2 lj (aa (ak aq (aa (af 0) (aa (pOp aT (pFn bM (aa (af 2) ag)) (ah 1)) ag))) (aa (af 3) ag))))
def kA:PSt:=
 (ao (az true 2 (cH ag))
  (ao (dC (gn (aa (af 1) ag)) (gtN 3) (gL))
  (aw (af 2))))
def d6:PFn:=fnP [true,false] 4 kA
def qM:d6.ms=[true,false]:=rfl
def pG(T:TT K mg):Callee P w K mg base "_law_order" 2 ["_law_feed_here", "_law_many"] (spD K mg 2 d6.F):=aN (T.d.get 54 rfl) (aA (N:=["_law_feed_here", "_law_many", "_law_order_here", "_law_k"]) (by decide)) (λ_ _ _ _ _ _=>ar2 λ_ _=>rfl) λnd _ _ _ _ _ _ _ hr=>'d'
def dS(s:PFx [true,false]):PSt:=
 (ao (xIf (qOf (pOp bEq (pFn bM (aa (af 1) ag)) (ah 1))) (aw (pOp bIx (af 1) (ah 0))) xNx)
  (ao (az false 2 (pOp aT (ah 2) (ak aq (aa (af 0) (aa (pFn lU (aa (ah 3) (aa (pOp eW (pFn bM (aa (af 1) ag)) (ah 1)) ag))) ag)))))
  (ao (vQ (bY (pSl (af 1) oN (oS (af 2)))) (bY (pSl (af 1) (oS (af 2)) oN)) 3 4 (ak aq (aa (af 0) (aa (af 2) ag))) (by decide))
  (aw (a0 (aa (pOp bIx (cH (aa (aG "across") (aa (aG "down") ag))) (ak aq (aa (af 0) (aa (ah 2) ag)))) (aa (pFn nO (aa (pLC (bY (af 3)) [none,some 0] (by decide) (gtN 0) qY (ak s.fn (aa (af 1) (aa (af 0) ag)))) ag)) ag)))))))
def bJ:Nat->PFx [true,false]
 |0=>PFx.none [true,false]
 |n+1=>PFx.of [true,false] 5 (dS (bJ n))
theorem jA(T:TT K mg):∀n,Callee P w K mg base "_law_tree" (3+n) ["_law_feed_here", "_law_numbers"] (spD K mg 2 (bJ n).F)
 |0=>ok0 (T.d.get 55 rfl) (aA (N:=["_law_feed_here", "_law_numbers", "_law_many", "_law_some", "_law_number"]) (by decide)) (λ_ _ _ _ _ _=>ar2 λ_ _=>rfl)
 |
  n+1=>by
  have ih:=jA T n
  show Callee _ _ _ _ _ _ _ _ (spD _ _ _ (PFx.of [true,false] 5 (dS (bJ n))).F)
  exact Bi (k:=3+n) (T.d.get 55 rfl) (aA (N:=["_law_feed_here", "_law_numbers", "_law_many", "_law_some", "_law_number"]) (by decide)) (λ_ _ _ _ _ _=>ar2 λ_ _=>rfl) λnd _ _ _ _ _ _ _ hr=>(aD 'd' (aD 'd' (AQ (ow:=false) (hsb:=by decide) (zSlc nd ["_law_feed_here", "_law_numbers", "_law_many", "_law_some", "_law_number"] (au (top 55)).names ["_law_number"] [none] 'd' (λnd _ _ _ _ _=>'d') (λnd _ _ _ _ _=>'d')) own1 rfl rfl 'd' 'd' 'd' 'd' 'd' (gz (iE (yu (c9 'd' (c9 (ze (Ex (K:=K) rfl) Cz rfl (T.n rfl) (by first |exact boF rfl |exact boT rfl) (c9 (jK ["_law_feed_here", "_law_numbers", "_law_many", "_law_some", "_law_number"] (au (top 55)).names ["_law_part", "_law_feed_here"] [none,some 0] 'd' (λnd _ _ _ _ _=>'d') (λnd _ _ _ _ _=>'d')) 'd')) 'd'))))))))
def dE:PSt:=
 (az false 2 (a0 (aa (pOp bIx (cH (aa (aG "across") (aa (aG "down") ag))) (ak aq (aa (af 0) (aa (ah 2) ag)))) (aa (pOp bIx (cH (aa (a0 (aa (af 3) (aa (af 2) ag))) (aa (a0 (aa (af 2) (aa (af 3) ag))) ag))) (ak aq (aa (af 0) (aa (ah 2) ag)))) ag))))
def kF:PSt:=
 (ao (az false 2 (pOp bIx (af 1) (ah 0)))
  (ao (dC (bY (pSl (af 1) (oS (ah 1)) oN)) (gtN 3) (dE))
  (aw (af 2))))
def ek:PFn:=fnP [true,false] 4 kF
def qV:ek.ms=[true,false]:=rfl
def pB(T:TT K mg):Callee P w K mg base "_law_chain" 2 ["_law_feed_here", "_law_numbers"] (spD K mg 2 ek.F):=aN (T.d.get 56 rfl) (aA (N:=["_law_feed_here", "_law_numbers", "_law_found", "_law_number"]) (by decide)) (λ_ _ _ _ _ _=>ar2 λ_ _=>rfl) λnd _ _ _ _ _ _ _ hr=>'d'
noncomputable def i9:PSt:=
 (aw (fi (pFn (aQ ba) (aa (af 0) (aa (pTy "int") ag))) (nj (pFn (aQ ba) (aa (af 0) (aa (pTy "bool") ag))))))
def bG:PFn:=fnP [false] 1 i9
def ud:bG.ms=[false]:=rfl
def rL(T:TT K mg):Callee P w K mg base "is_whole" 1 ["thing"] (spD K mg 1 bG.F):=aN (T.d.get 10 rfl) (aA (N:=["thing"]) (by decide)) (λ_ _ _ _ _ _=>ar1 λ_=>rfl) λnd _ _ _ _ _ _ _ hr=>'d'
def cJ:PSt:=
 (eR 0 1 (aa (af 1) (aa (pOp b9 (af 0) (af 1)) ag)))
def gD:PSt:=
 (ao (eR 0 1 (aa (pFn fL (aa (af 0) ag)) (aa (pFn fL (aa (af 1) ag)) ag)))
  (ao (xWh (qOf (pOp bNe (af 1) (ah 0))) (cJ))
  (aw (af 0))))
def bE:PFn:=fnP [false,false] 2 gD
def kx:bE.ms=[false,false]:=rfl
def jX(T:TT K mg):Callee P w K mg base "common_divisor" 1 ["one", "other"] (spD K mg 2 bE.F):=aN (T.d.get 11 rfl) (aA (N:=["one", "other"]) (by decide)) (λ_ _ _ _ _ _=>ar2 λ_ _=>rfl) λnd _ _ _ _ _ _ _ hr=>'d'
def jz:PSt:=
 (ao (xIf (qO (qNo (qOf (pFn (aQ ba) (aa (af 0) (aa (pTy "tuple") ag))))) (qOf (pOp bNe (pFn bM (aa (af 0) ag)) (ah 2)))) (aw (pBl false)) xNx)
  (ao (fR (af 0) (gtX (gtT 2 (ax (gtN 1) (ax (gtN 2) bu)))))
  (ao (xIf (qO (qNo (qOf (ak bG (aa (af 1) ag)))) (qNo (qOf (ak bG (aa (af 2) ag))))) (aw (pBl false)) xNx)
  (aw (fi (pOp bGe (af 2) (ah 1)) (pOp bEq (ak bE (aa (af 1) (aa (af 2) ag))) (ah 1)))))))
def cB:PFn:=fnP [false] 3 jz
def ny:cB.ms=[false]:=rfl
def l8(T:TT K mg):Callee P w K mg base "is_fraction" 2 ["thing"] (spD K mg 1 cB.F):=aN (T.d.get 12 rfl) (aA (N:=["thing", "top", "bottom"]) (by decide)) (λ_ _ _ _ _ _=>ar1 λ_=>rfl) λnd _ _ _ _ _ _ _ hr=>'d'
def qN:PSt:=
 (ao (xIf (qO (qNo (qOf (pFn (aQ ba) (aa (af 0) (aa (pTy "tuple") ag))))) (qOf (pOp bNe (pFn bM (aa (af 0) ag)) (ah 4)))) (aw (pBl false)) xNx)
  (ao (xIf (qNo (qOf (pFn qh (aa (pLC (bY (af 0)) [none] (by decide) (gtN 0) qY (ak cB (aa (af 0) ag))) ag)))) (aw (pBl false)) xNx)
  (aw (fi (pOp bGt (pOp bIx (pOp bIx (af 0) (ah 2)) (ah 0)) (ah 0)) (pOp bGt (pOp bIx (pOp bIx (af 0) (ah 3)) (ah 0)) (ah 0))))))
def fK:PFn:=fnP [false] 1 qN
def yS:fK.ms=[false]:=rfl
def vG(T:TT K mg):Callee P w K mg base "is_box" 3 ["thing"] (spD K mg 1 fK.F):=aN (T.d.get 20 rfl) (aA (N:=["thing"]) (by decide)) (λ_ _ _ _ _ _=>ar1 λ_=>rfl) λnd _ _ _ _ _ _ _ hr=>(aD 'd' (aD (qa (qG (rC (i6 (allK (K:=K) rfl rfl) yW rfl (T.n rfl) (by first |exact boF rfl |exact boT rfl) (c9 (jK ["thing"] (au (top 20)).names ["part"] [none] 'd' (λnd _ _ _ _ _=>'d') (λnd _ _ _ _ _=>'d')) 'd')))) 'd' 'd') 'd'))
def kB:PSt:=
 (xIf (qNo (qOf (ak fK (aa (af 0) ag)))) (er "NoBox" (aa (aG "this is no box") ag)) xNx)
def br:PFn:=fnP [false] 1 kB
def sU:br.ms=[false]:=rfl
def pO(T:TT K mg):Callee P w K mg base "check_box" 4 ["thing"] (spD K mg 1 br.F):=aN (T.d.get 21 rfl) (aA (N:=["thing"]) (by decide)) (λ_ _ _ _ _ _=>ar1 λ_=>rfl) λnd _ _ _ _ _ _ _ hr=>'d'
noncomputable def kH:PSt:=
 (aw (fi (ak bG (aa (af 0) ag)) (pOp bGe (af 0) (ah 1))))
def de:PFn:=fnP [false] 1 kH
def sQ:de.ms=[false]:=rfl
def pD(T:TT K mg):Callee P w K mg base "is_weight" 2 ["thing"] (spD K mg 1 de.F):=aN (T.d.get 24 rfl) (aA (N:=["thing"]) (by decide)) (λ_ _ _ _ _ _=>ar1 λ_=>rfl) λnd _ _ _ _ _ _ _ hr=>'d'
def ic:PSt:=
 (ao (xIf (qO (qNo (qOf (pFn (aQ ba) (aa (af 0) (aa (pTy "list") ag))))) (qOf (pOp bEq (pFn bM (aa (af 0) ag)) (ah 0)))) (er "NoWeights" (aa (aG "this is no list of weights") ag)) xNx)
  (ao (xIf (qNo (qOf (pFn qh (aa (pLC (bY (af 0)) [none] (by decide) (gtN 0) qY (ak de (aa (af 0) ag))) ag)))) (er "NoWeights" (aa (aG "a weight is a whole number from 1 on") ag)) xNx)
  (xIf (qOf (pOp bGt (pFn bM (aa (af 0) ag)) ie)) (er "TooMany" (aa (aG "these are more weights than forty") ag)) xNx)))
def a9:PFn:=fnP [false] 1 ic
def lH:a9.ms=[false]:=rfl
def kz(T:TT K mg):Callee P w K mg base "check_weights" 3 ["thing"] (spD K mg 1 a9.F):=aN (T.d.get 25 rfl) (aA (N:=["thing"]) (by decide)) (λ_ _ _ _ _ _=>ar1 λ_=>rfl) λnd _ _ _ _ _ _ _ hr=>(aD 'd' (aD (qa (qG (rC (i6 (allK (K:=K) rfl rfl) yW rfl (T.n rfl) (by first |exact boF rfl |exact boT rfl) (c9 (jK ["thing"] (au (top 25)).names ["weight"] [none] 'd' (λnd _ _ _ _ _=>'d') (λnd _ _ _ _ _=>'d')) 'd')))) 'd' 'd') 'd'))
noncomputable def lq:PSt:=
 (aw (fi (pFn (aQ ba) (aa (af 0) (aa (pTy "str") ag))) (pOp bIn (af 0) uB)))
def dG:PFn:=fnP [false] 1 lq
def yw:dG.ms=[false]:=rfl
def xb(T:TT K mg):Callee P w K mg base "is_way" 1 ["thing"] (spD K mg 1 dG.F):=aN (T.d.get 22 rfl) (aA (N:=["thing"]) (by decide)) (λ_ _ _ _ _ _=>ar1 λ_=>rfl) λnd _ _ _ _ _ _ _ hr=>'d'
noncomputable def iu:PSt:=
 (ao (xIf (qO (qNo (qOf (pFn (aQ ba) (aa (af 0) (aa (pTy "tuple") ag))))) (qOf (pOp bNe (pFn bM (aa (af 0) ag)) (ah 2)))) (aw (pBl false)) xNx)
  (aw (fi (ak dG (aa (pOp bIx (af 0) (ah 0)) ag)) (fi (pFn (aQ ba) (aa (pOp bIx (af 0) (ah 1)) (aa (pTy "tuple") ag))) (pOp bGe (pFn bM (aa (pOp bIx (af 0) (ah 1)) ag)) (ah 2))))))
def cG:PFn:=fnP [false] 1 iu
def rb:cG.ms=[false]:=rfl
def pK(T:TT K mg):Callee P w K mg base "is_branch" 2 ["thing"] (spD K mg 1 cG.F):=aN (T.d.get 30 rfl) (aA (N:=["thing"]) (by decide)) (λ_ _ _ _ _ _=>ar1 λ_=>rfl) λnd _ _ _ _ _ _ _ hr=>'d'
noncomputable def cR:PSt:=
 (ao (az false 4 (pY 3 qb))
  (xIf (qOf (ak cG (aa (af 4) ag))) (bH (jO 3 g0 (aa (pOp bIx (af 4) (ah 1)) ag))) (xIf (qO (qNo (qOf (ak bG (aa (af 4) ag)))) (qO (qOf (pOp bLt (af 4) (ah 0))) (qO (qOf (pOp bGe (af 4) (af 1))) (qOf (pOp Bb (af 4) (af 2)))))) (aw (pBl false)) (bH (CG 2 (aa (af 4) ag))))))
def oR:PSt:=
 (ao (az true 2 xn)
  (ao (az true 3 (cH (aa (af 0) ag)))
  (ao (xWh (qTr (af 3)) (cR))
  (aw (pOp bEq (pFn sk (aa (af 2) ag)) (af 1))))))
def fS:PFn:=fnP [false,false] 5 oR
def vK:fS.ms=[false,false]:=rfl
def tU(T:TT K mg):Callee P w K mg base "is_tree" 3 ["thing", "many"] (spD K mg 2 fS.F):=aN (T.d.get 31 rfl) (aA (N:=["thing", "many", "seen", "waiting", "part"]) (by decide)) (λ_ _ _ _ _ _=>ar2 λ_ _=>rfl) λnd _ _ _ _ _ _ _ hr=>'d'
def jR:PSt:=
 (xIf (qNo (qOf (ak fS (aa (af 0) (aa (af 1) ag))))) (er "NoTree" (aa (aG "this is no tree for the things") ag)) xNx)
def dB:PFn:=fnP [false,false] 2 jR
def pI:dB.ms=[false,false]:=rfl
def nS(T:TT K mg):Callee P w K mg base "check_tree" 4 ["thing", "many"] (spD K mg 2 dB.F):=aN (T.d.get 32 rfl) (aA (N:=["thing", "many"]) (by decide)) (λ_ _ _ _ _ _=>ar2 λ_ _=>rfl) λnd _ _ _ _ _ _ _ hr=>'d'
noncomputable def kD:PSt:=
 (xIf (qNo (qOf (ak dG (aa (af 0) ag)))) (er "NoWay" (aa (aG "this is no way") ag)) xNx)
def dZ:PFn:=fnP [false] 1 kD
def tJ:dZ.ms=[false]:=rfl
def pH(T:TT K mg):Callee P w K mg base "check_way" 2 ["way"] (spD K mg 1 dZ.F):=aN (T.d.get 23 rfl) (aA (N:=["way"]) (by decide)) (λ_ _ _ _ _ _=>ar1 λ_=>rfl) λnd _ _ _ _ _ _ _ hr=>'d'
def mE:PSt:=
 (ao (xIf (qOf (pOp bEq (af 1) (ah 0))) (er "NoFraction" (aa (aG "a fraction has no bottom of 0") ag)) xNx)
  (ao (az false 2 (ak bE (aa (af 0) (aa (af 1) ag))))
  (ao (xIf (qOf (pOp bLt (af 1) (ah 0))) (az false 2 (pUn B0 (af 2))) xNx)
  (aw (a0 (aa (pOp jk (af 0) (af 2)) (aa (pOp jk (af 1) (af 2)) ag)))))))
def bX:PFn:=fnP [false,false] 3 mE
def uc:bX.ms=[false,false]:=rfl
def se(T:TT K mg):Callee P w K mg base "fraction" 2 ["top", "bottom"] (spD K mg 2 bX.F):=aN (T.d.get 13 rfl) (aA (N:=["top", "bottom", "divisor"]) (by decide)) (λ_ _ _ _ _ _=>ar2 λ_ _=>rfl) λnd _ _ _ _ _ _ _ hr=>'d'
def uY:PSt:=
 (aw (ak bX (aa (pOp aT (pOp bU (pOp bIx (af 0) (ah 0)) (pOp bIx (af 1) (ah 1))) (pOp bU (pOp bIx (af 1) (ah 0)) (pOp bIx (af 0) (ah 1)))) (aa (pOp bU (pOp bIx (af 0) (ah 1)) (pOp bIx (af 1) (ah 1))) ag))))
def fF:PFn:=fnP [false,false] 2 uY
def zX:fF.ms=[false,false]:=rfl
def xN(T:TT K mg):Callee P w K mg base "added" 3 ["one", "other"] (spD K mg 2 fF.F):=aN (T.d.get 14 rfl) (aA (N:=["one", "other"]) (by decide)) (λ_ _ _ _ _ _=>ar2 λ_ _=>rfl) λnd _ _ _ _ _ _ _ hr=>'d'
def uS:PSt:=
 (aw (ak bX (aa (pOp bU (pOp bIx (af 0) (ah 0)) (pOp bIx (af 1) (ah 0))) (aa (pOp bU (pOp bIx (af 0) (ah 1)) (pOp bIx (af 1) (ah 1))) ag))))
def eP:PFn:=fnP [false,false] 2 uS
def BI:eP.ms=[false,false]:=rfl
def x6(T:TT K mg):Callee P w K mg base "times" 3 ["one", "other"] (spD K mg 2 eP.F):=aN (T.d.get 15 rfl) (aA (N:=["one", "other"]) (by decide)) (λ_ _ _ _ _ _=>ar2 λ_ _=>rfl) λnd _ _ _ _ _ _ _ hr=>'d'
def gY:PSt:=
 (ao (az false 7 (ak fF (aa (af 0) (aa (ak eP (aa (af 1) (aa (ak bX (aa (af 4) (aa (af 3) ag))) ag))) ag))))
  (ao (bH (jO 5 gP (aa (a0 (aa (af 7) (aa (ak eP (aa (af 1) (aa (ak bX (aa (af 6) (aa (af 3) ag))) ag))) ag))) ag)))
  (Cy 4 AS (af 6))))
def sR:PSt:=
 (ao (az false 3 (pFn kq (aa (af 2) ag)))
  (ao (az false 4 (ah 0))
  (ao (az true 5 (cH ag))
  (ao (dC (bY (af 2)) (gtN 6) (gY))
  (aw (af 5))))))
def fE:PFn:=fnP [false,false,false] 8 sR
def yf:fE.ms=[false,false,false]:=rfl
def xh(T:TT K mg):Callee P w K mg base "shares" 4 ["start", "length", "weights"] (spD K mg 3 fE.F):=aN (T.d.get 27 rfl) (aA (N:=["start", "length", "weights", "whole", "ahead", "found", "weight", "begin"]) (by decide)) (λ_ _ _ _ _ _=>ar3 λ_ _ _=>rfl) λnd _ _ _ _ _ _ _ hr=>'d'
def qJ:PSt:=
 (ao (bH (ak br (aa (af 0) ag)))
  (ao (bH (ak dZ (aa (af 1) ag)))
  (ao (bH (ak a9 (aa (af 2) ag)))
  (ao (fR (af 0) (gtX (gtT 4 (ax (gtN 3) (ax (gtN 4) (ax (gtN 5) (ax (gtN 6) bu)))))))
  (ao (xIf (qOf (pOp bEq (af 1) (aG "across"))) (aw (pLC (bY (ak fE (aa (af 3) (aa (af 5) (aa (af 2) ag))))) [none,none,some 4,some 6] (by decide) (gtT 2 (ax (gtN 0) (ax (gtN 1) bu))) qY (a0 (aa (af 0) (aa (af 2) (aa (af 1) (aa (af 3) ag))))))) xNx)
  (aw (pLC (bY (ak fE (aa (af 4) (aa (af 6) (aa (af 2) ag))))) [none,none,some 3,some 5] (by decide) (gtT 2 (ax (gtN 0) (ax (gtN 1) bu))) qY (a0 (aa (af 2) (aa (af 0) (aa (af 3) (aa (af 1) ag))))))))))))
def fh:PFn:=fnP [false,false,false] 7 qJ
def yD:fh.ms=[false,false,false]:=rfl
def mh(T:TT K mg):Callee P w K mg base "parted" 5 ["box", "way", "weights"] (spD K mg 3 fh.F):=aN (T.d.get 28 rfl) (aA (N:=["box", "way", "weights", "left", "top", "wide", "high"]) (by decide)) (λ_ _ _ _ _ _=>ar3 λ_ _ _=>rfl) λnd _ _ _ _ _ _ _ hr=>(aD 'd' (aD 'd' (aD 'd' (aD 'd' (aD (qa 'd' (gz (iE (jK ["box", "way", "weights", "left", "top", "wide", "high"] (au (top 28)).names ["begin", "length", "top", "high"] [none,none,some 4,some 6] 'd' (λnd _ _ _ _ _=>'d') (λnd _ _ _ _ _=>'d')))) 'd') (gz (iE (jK ["box", "way", "weights", "left", "top", "wide", "high"] (au (top 28)).names ["begin", "length", "left", "wide"] [none,none,some 3,some 5] 'd' (λnd _ _ _ _ _=>'d') (λnd _ _ _ _ _=>'d')))))))))
noncomputable def ck:PSt:=
 (ao (az false 3 (pY 2 qb))
  (xIf (qOf (pFn (aQ ba) (aa (af 3) (aa (pTy "tuple") ag)))) (bH (jO 2 g0 (aa (pOp bIx (af 3) (ah 1)) ag))) (bH (jO 1 gP (aa (af 3) ag)))))
def kJ:PSt:=
 (ao (az true 1 (cH ag))
  (ao (az true 2 (cH (aa (af 0) ag)))
  (ao (xWh (qTr (af 2)) (ck))
  (aw (af 1)))))
def cZ:PFn:=fnP [false] 4 kJ
def qP:cZ.ms=[false]:=rfl
def pP(T:TT K mg):Callee P w K mg base "things_in" 1 ["tree"] (spD K mg 1 cZ.F):=aN (T.d.get 33 rfl) (aA (N:=["tree", "found", "waiting", "part"]) (by decide)) (λ_ _ _ _ _ _=>ar1 λ_=>rfl) λnd _ _ _ _ _ _ _ hr=>'d'
def lT:PSt:=
 (ao (fR (af 2) (gtX (gtT 2 (ax (gtN 3) (ax (gtN 4) bu)))))
  (aw (ak fh (aa (af 0) (aa (af 3) (aa (pLC (bY (af 4)) [none,some 1] (by decide) (gtN 0) qY (pFn kq (aa (pLC (bY (ak cZ (aa (af 0) ag))) [none,some 1] (by decide) (gtN 0) qY (pOp bIx (af 1) (af 0))) ag))) ag))))))
def eZ:PFn:=fnP [false,false,false] 5 lT
def tR:eZ.ms=[false,false,false]:=rfl
def sC(T:TT K mg):Callee P w K mg base "parts_of" 6 ["room", "weights", "tree"] (spD K mg 3 eZ.F):=aN (T.d.get 36 rfl) (aA (N:=["room", "weights", "tree", "way", "trees"]) (by decide)) (λ_ _ _ _ _ _=>ar3 λ_ _ _=>rfl) λnd _ _ _ _ _ _ _ hr=>(aD 'd' (gz (iE (zcF (mh T) hr (c9 'd' (c9 'd' (c9 (jK ["room", "weights", "tree", "way", "trees"] (au (top 36)).names ["part", "weights"] [none,some 1] 'd' (λnd _ _ _ _ _=>'d') (λnd _ _ _ _ _=>(i6 (o3 (K:=K) rfl rfl) zL rfl (T.n rfl) (by first |exact boF rfl |exact boT rfl) (c9 (jK ["part", "weights"] [(PySem.Str.ofString ".0",PySem.NameKind.local),(PySem.Str.ofString "part",PySem.NameKind.local),(PySem.Str.ofString "sum",PySem.NameKind.globalImplicit),(PySem.Str.ofString "things_in",PySem.NameKind.globalImplicit),(PySem.Str.ofString "weights",PySem.NameKind.cell)] ["thing", "weights"] [none,some 1] 'd' (λnd _ _ _ _ _=>'d') (λnd _ _ _ _ _=>'d')) 'd')))) 'd')))))))
noncomputable def iW(s:PFx [false,false,false,true]):PSt:=
 (bH (ak s.fn (aa (af 5) (aa (af 1) (aa (af 4) (aa (af 3) ag))))))
def gw(s:PFx [false,false,false,true]):PSt:=
 (ao (xIf (qNo (qOf (pFn (aQ ba) (aa (af 2) (aa (pTy "tuple") ag))))) (ao (rO 3 seI (af 2) (af 0))
  wc) xNx)
  (dC (wF (aa (pOp bIx (af 2) (ah 1)) (aa (ak eZ (aa (af 0) (aa (af 1) (aa (af 2) ag)))) ag))) (gtX (gtT 2 (ax (gtN 4) (ax (gtN 5) bu)))) (iW s)))
def c8:Nat->PFx [false,false,false,true]
 |0=>PFx.none [false,false,false,true]
 |n+1=>PFx.of [false,false,false,true] 6 (gw (c8 n))
theorem me(T:TT K mg):∀n,Callee P w K mg base "place" (8+n) ["room", "weights", "tree", "placed"] (spD K mg 4 (c8 n).F)
 |0=>ok0 (T.d.get 35 rfl) (aA (N:=["room", "weights", "tree", "placed", "part", "box"]) (by decide)) (λ_ _ _ _ _ _=>ar4 λ_ _ _ _=>rfl)
 |
  n+1=>by
  have ih:=me T n
  show Callee _ _ _ _ _ _ _ _ (spD _ _ _ (PFx.of [false,false,false,true] 6 (gw (c8 n))).F)
  exact Bi (k:=8+n) (T.d.get 35 rfl) (aA (N:=["room", "weights", "tree", "placed", "part", "box"]) (by decide)) (λ_ _ _ _ _ _=>ar4 λ_ _ _ _=>rfl) λnd _ _ _ _ _ _ _ hr=>'d'
def mK:PSt:=
 (ao (bH (ak br (aa (af 0) ag)))
  (ao (bH (ak a9 (aa (af 1) ag)))
  (ao (bH (ak dB (aa (af 2) (aa (pFn bM (aa (af 1) ag)) ag))))
  (ao (az true 3 pD0)
  (ao (bH (ak (c8 42).fn (aa (af 0) (aa (af 1) (aa (af 2) (aa (af 3) ag))))))
  (aw (pLC (gn (aa (pFn bM (aa (af 1) ag)) ag)) [none,some 3] (by decide) (gtN 0) qY (pOp xa (af 1) (af 0)))))))))
def eV:PFn:=fnP [false,false,false] 4 mK
def ui:eV.ms=[false,false,false]:=rfl
def rT(T:TT K mg):Callee P w K mg base "boxes_by" 51 ["room", "weights", "tree"] (spD K mg 3 eV.F):=aN (T.d.get 34 rfl) (aA (N:=["room", "weights", "tree", "placed"]) (by decide)) (λ_ _ _ _ _ _=>ar3 λ_ _ _=>rfl) λnd _ _ _ _ _ _ _ hr=>(aD 'd' (aD 'd' (aD 'd' (aD 'd' (aD 'd' (gz (iE (jK ["room", "weights", "tree", "placed"] (au (top 34)).names ["number", "placed"] [none,some 3] 'd' (λnd _ _ _ _ _=>'d') (λnd _ _ _ _ _=>'d')))))))))
def yi:PSt:=
 (ao (bH (ak br (aa (af 0) ag)))
  (aw (ak eP (aa (pOp bIx (af 0) (ah 2)) (aa (pOp bIx (af 0) (ah 3)) ag)))))
def iD:PFn:=fnP [false] 1 yi
def Ga:iD.ms=[false]:=rfl
def Cp(T:TT K mg):Callee P w K mg base "area" 5 ["box"] (spD K mg 1 iD.F):=aN (T.d.get 26 rfl) (aA (N:=["box"]) (by decide)) (λ_ _ _ _ _ _=>ar1 λ_=>rfl) λnd _ _ _ _ _ _ _ hr=>'d'
def vw:PSt:=
 (ao (fR (af 0) (gtX (gtT 4 (ax (gtN 1) (ax (gtN 2) (ax (gtN 3) (ax (gtN 4) bu)))))))
  (aw (a0 (aa (af 1) (aa (ak fF (aa (af 1) (aa (af 3) ag))) (aa (af 2) (aa (ak fF (aa (af 2) (aa (af 4) ag))) ag)))))))
def eN:PFn:=fnP [false] 5 vw
def Bw:eN.ms=[false]:=rfl
def xJ(T:TT K mg):Callee P w K mg base "walls" 4 ["box"] (spD K mg 1 eN.F):=aN (T.d.get 41 rfl) (aA (N:=["box", "left", "top", "wide", "high"]) (by decide)) (λ_ _ _ _ _ _=>ar1 λ_=>rfl) λnd _ _ _ _ _ _ _ hr=>'d'
def oT:PSt:=
 (aw (pOp bLt (pOp bU (pOp bIx (af 0) (ah 0)) (pOp bIx (af 1) (ah 1))) (pOp bU (pOp bIx (af 1) (ah 0)) (pOp bIx (af 0) (ah 1)))))
def bD:PFn:=fnP [false,false] 2 oT
def wW:bD.ms=[false,false]:=rfl
def ue(T:TT K mg):Callee P w K mg base "is_less" 1 ["one", "other"] (spD K mg 2 bD.F):=aN (T.d.get 16 rfl) (aA (N:=["one", "other"]) (by decide)) (λ_ _ _ _ _ _=>ar2 λ_ _=>rfl) λnd _ _ _ _ _ _ _ hr=>'d'
def jC:PSt:=
 (ao (fR (ak eN (aa (af 1) ag)) (gtX (gtT 4 (ax (gtN 2) (ax (gtN 3) (ax (gtN 4) (ax (gtN 5) bu)))))))
  (ao (fR (ak eN (aa (af 0) ag)) (gtX (gtT 4 (ax (gtN 6) (ax (gtN 7) (ax (gtN 8) (ax (gtN 9) bu)))))))
  (ao (xIf (qO (qOf (ak bD (aa (af 2) (aa (af 6) ag)))) (qOf (ak bD (aa (af 7) (aa (af 3) ag))))) (aw (pBl false)) xNx)
  (aw (fi (nj (ak bD (aa (af 4) (aa (af 8) ag)))) (nj (ak bD (aa (af 9) (aa (af 5) ag)))))))))
def cX:PFn:=fnP [false,false] 10 jC
def nZ:cX.ms=[false,false]:=rfl
def mq(T:TT K mg):Callee P w K mg base "lies_within" 5 ["room", "box"] (spD K mg 2 cX.F):=aN (T.d.get 42 rfl) (aA (N:=["room", "box", "left", "right", "top", "bottom", "begin", "end", "upper", "lower"]) (by decide)) (λ_ _ _ _ _ _=>ar2 λ_ _=>rfl) λnd _ _ _ _ _ _ _ hr=>'d'
def dU:PSt:=
 (ao (fR (af 0) (gtX (gtT 4 (ax (gtN 2) (ax (gtN 3) (ax (gtN 4) (ax (gtN 5) bu)))))))
  (ao (fR (af 1) (gtX (gtT 4 (ax (gtN 6) (ax (gtN 7) (ax (gtN 8) (ax (gtN 9) bu)))))))
  (ao (xIf (qO (qNo (qOf (ak bD (aa (af 2) (aa (af 7) ag))))) (qNo (qOf (ak bD (aa (af 6) (aa (af 3) ag)))))) (aw (pBl false)) xNx)
  (aw (fi (ak bD (aa (af 4) (aa (af 9) ag))) (ak bD (aa (af 8) (aa (af 5) ag))))))))
def aZ:PFn:=fnP [false,false] 10 dU
def gU:aZ.ms=[false,false]:=rfl
def gm(T:TT K mg):Callee P w K mg base "share_more_than_walls" 2 ["one", "other"] (spD K mg 2 aZ.F):=aN (T.d.get 43 rfl) (aA (N:=["one", "other", "left", "right", "top", "bottom", "begin", "end", "upper", "lower"]) (by decide)) (λ_ _ _ _ _ _=>ar2 λ_ _=>rfl) λnd _ _ _ _ _ _ _ hr=>'d'
def eA:PSt:=
 (xIf (qOf (ak aZ (aa (pOp bIx (af 1) (af 4)) (aa (af 3) ag)))) (aw (a0 (aa (aG "over") (aa (af 4) (aa (af 2) ag))))) xNx)
def eu:PSt:=
 (dC (gn (aa (af 2) ag)) (gtN 4) (eA))
def jS:PSt:=
 (ao (az false 1 (pLC (bY (af 0)) [none] (by decide) (gtN 0) qY (ak eN (aa (af 0) ag))))
  (ao (dC (iZ (aa (af 1) ag)) (gtX (gtT 2 (ax (gtN 2) (ax (gtN 3) bu)))) (eu))
  (aw ir)))
def dn:PFn:=fnP [false] 5 jS
def pM:dn.ms=[false]:=rfl
def nD(T:TT K mg):Callee P w K mg base "first_over" 5 ["boxes"] (spD K mg 1 dn.F):=aN (T.d.get 44 rfl) (aA (N:=["boxes", "drawn", "at", "later", "ahead"]) (by decide)) (λ_ _ _ _ _ _=>ar1 λ_=>rfl) λnd _ _ _ _ _ _ _ hr=>(aD (zSlc nd ["boxes", "drawn", "at", "later", "ahead"] (au (top 44)).names ["box"] [none] 'd' (λnd _ _ _ _ _=>'d') (λnd _ _ _ _ _=>'d')) 'd')
def kP:PSt:=
 (xIf (qNo (qOf (ak fK (aa (af 4) ag)))) (aw (a0 (aa (aG "box") (aa (af 3) ag)))) xNx)
def kN:PSt:=
 (xIf (qOf (pOp bNe (ak iD (aa (af 4) ag)) (ak eP (aa (ak iD (aa (af 0) ag)) (aa (ak bX (aa (pOp bIx (af 1) (af 3)) (aa (pFn kq (aa (af 1) ag)) ag))) ag))))) (aw (a0 (aa (aG "area") (aa (af 3) ag)))) xNx)
def kU:PSt:=
 (xIf (qNo (qOf (ak cX (aa (af 0) (aa (af 4) ag))))) (aw (a0 (aa (aG "out") (aa (af 3) ag)))) xNx)
def vm:PSt:=
 (ao (bH (ak br (aa (af 0) ag)))
  (ao (bH (ak a9 (aa (af 1) ag)))
  (ao (xIf (qOf (pOp bNe (pFn bM (aa (af 2) ag)) (pFn bM (aa (af 1) ag)))) (aw (a0 (aa (aG "count") ag))) xNx)
  (ao (dC (iZ (aa (af 2) ag)) (gtX (gtT 2 (ax (gtN 3) (ax (gtN 4) bu)))) (kP))
  (ao (dC (iZ (aa (af 2) ag)) (gtX (gtT 2 (ax (gtN 3) (ax (gtN 4) bu)))) (kN))
  (ao (dC (iZ (aa (af 2) ag)) (gtX (gtT 2 (ax (gtN 3) (ax (gtN 4) bu)))) (kU))
  (aw (ak dn (aa (af 2) ag)))))))))
def iG:PFn:=fnP [false,false,false] 5 vm
def BE:iG.ms=[false,false,false]:=rfl
def xY(T:TT K mg):Callee P w K mg base "fault" 6 ["room", "weights", "boxes"] (spD K mg 3 iG.F):=aN (T.d.get 40 rfl) (aA (N:=["room", "weights", "boxes", "at", "box"]) (by decide)) (λ_ _ _ _ _ _=>ar3 λ_ _ _=>rfl) λnd _ _ _ _ _ _ _ hr=>'d'
def gM:PSt:=
 (aw (pOp bLe (pOp bU (pOp bIx (af 0) (ah 0)) (pOp bIx (af 1) (ah 1))) (pOp bU (pOp bIx (af 1) (ah 0)) (pOp bIx (af 0) (ah 1)))))
def aR:PFn:=fnP [false,false] 2 gM
def ky:aR.ms=[false,false]:=rfl
def jF(T:TT K mg):Callee P w K mg base "_law_not_beyond" 1 ["_law_one", "_law_two"] (spD K mg 2 aR.F):=aN (T.d.get 57 rfl) (aA (N:=["_law_one", "_law_two"]) (by decide)) (λ_ _ _ _ _ _=>ar2 λ_ _=>rfl) λnd _ _ _ _ _ _ _ hr=>'d'
def oY:PSt:=
 (aw (ak bP (aa (pOp aT (pOp bU (pOp bIx (af 0) (ah 0)) (pOp bIx (af 1) (ah 1))) (pOp bU (pOp bIx (af 1) (ah 0)) (pOp bIx (af 0) (ah 1)))) (aa (pOp bU (pOp bIx (af 0) (ah 1)) (pOp bIx (af 1) (ah 1))) ag))))
def cD:PFn:=fnP [false,false] 2 oY
def xj:cD.ms=[false,false]:=rfl
def tQ(T:TT K mg):Callee P w K mg base "_law_add" 2 ["_law_one", "_law_two"] (spD K mg 2 cD.F):=aN (T.d.get 52 rfl) (aA (N:=["_law_one", "_law_two"]) (by decide)) (λ_ _ _ _ _ _=>ar2 λ_ _=>rfl) λnd _ _ _ _ _ _ _ hr=>'d'
def kG:PSt:=
 (ao (xIf (qOf (pOp bEq (af 0) (aG "left"))) (aw (ak aR (aa (ak cD (aa (pOp bIx (af 1) (ah 0)) (aa (pOp bIx (af 1) (ah 2)) ag))) (aa (pOp bIx (af 2) (ah 0)) ag)))) xNx)
  (ao (xIf (qOf (pOp bEq (af 0) (aG "right"))) (aw (ak aR (aa (ak cD (aa (pOp bIx (af 2) (ah 0)) (aa (pOp bIx (af 2) (ah 2)) ag))) (aa (pOp bIx (af 1) (ah 0)) ag)))) xNx)
  (ao (xIf (qOf (pOp bEq (af 0) (aG "above"))) (aw (ak aR (aa (ak cD (aa (pOp bIx (af 1) (ah 1)) (aa (pOp bIx (af 1) (ah 3)) ag))) (aa (pOp bIx (af 2) (ah 1)) ag)))) xNx)
  (aw (fi (pOp bEq (af 0) (aG "below")) (ak aR (aa (ak cD (aa (pOp bIx (af 2) (ah 1)) (aa (pOp bIx (af 2) (ah 3)) ag))) (aa (pOp bIx (af 1) (ah 1)) ag))))))))
def d9:PFn:=fnP [false,false,false] 3 kG
def sj:d9.ms=[false,false,false]:=rfl
def pC(T:TT K mg):Callee P w K mg base "_law_is_so" 3 ["_law_told", "_law_one", "_law_two"] (spD K mg 3 d9.F):=aN (T.d.get 58 rfl) (aA (N:=["_law_told", "_law_one", "_law_two"]) (by decide)) (λ_ _ _ _ _ _=>ar3 λ_ _ _=>rfl) λnd _ _ _ _ _ _ _ hr=>'d'
def lX:PSt:=
 (ao (az false 10 (ak bK (aa (af 6) (aa (af 9) (aa (af 8) ag)))))
  (xIf (qO (qOf (pOp w6 (af 10) (af 5))) (qO (qOf (pOp bNe (ak bK (aa (af 6) (aa (af 8) (aa (af 9) ag)))) (pOp BJ (af 5) (af 10)))) (qNo (qOf (ak d9 (aa (af 10) (aa (pOp bIx (af 7) (af 9)) (aa (pOp bIx (af 7) (af 8)) ag)))))))) (aw (pBl false)) xNx))
def tK:PSt:=
 (dC (gn (aa (af 8) ag)) (gtN 9) (lX))
def l9:PSt:=
 (ao (az false 7 (ak eV (aa (af 2) (aa (af 3) (aa (af 6) ag)))))
  (ao (xIf (qOf (pOp oh (ak iG (aa (af 2) (aa (af 3) (aa (af 7) ag)))) ir)) (aw (pBl false)) xNx)
  (ao (dC (gn (aa (pFn bM (aa (af 3) ag)) ag)) (gtN 8) (tK))
  (ao (az false 11 (ak aq (aa (af 1) (aa (pFn bM (aa (af 3) ag)) ag))))
  (ao (xIf (qO (qNo (qOf (ak aC (aa (af 6) (aa (af 11) (aa (af 11) ag)))))) (qNo (qOf (ak aC (aa (af 6) (aa (af 11) (aa (pFn bM (aa (af 3) ag)) ag))))))) (aw (pBl false)) xNx)
  (xIf (qNo (qOf (ak aC (aa (af 6) (aa (pOp eW (ah 0) (ah 1)) (aa (af 11) ag)))))) (aw (pBl false)) xNx))))))
def vJ:PSt:=
 (ao (xIf (qO (qNo (qOf (ak aC (aa (ah 0) (aa (ah 0) (aa (ah 0) ag)))))) (qO (qNo (qOf (ak aC (aa (ah 0) (aa (ah 0) (aa (ah 1) ag)))))) (qNo (qOf (ak aC (aa (aG "a") (aa (aG "b") (aa (aG "a") ag)))))))) (aw (pBl false)) xNx)
  (ao (xIf (qO (qNo (qOf (ak aC (aa (a0 (aa (aG "down") (aa (a0 (aa (aG "a") (aa (aG "b") ag))) ag))) (aa (aG "a") (aa (aG "c") ag)))))) (qNo (qOf (ak aC (aa (a0 (aa (aG "down") (aa (a0 (aa (aG "a") (aa (aG "b") ag))) ag))) (aa (aG "across") (aa (aG "b") ag))))))) (aw (pBl false)) xNx)
  (ao (az true 1 (ak cS (aa (af 0) (aa (ah 55) ag))))
  (ao (az false 2 (ak eS (aa (af 1) ag)))
  (ao (az false 3 (pOp aT (ak cW (aa (af 0) (aa (ah 0) (aa (ah 9) ag)))) (cH (aa (ah 1) ag))))
  (ao (az false 4 (ak d6 (aa (af 1) (aa (pFn bM (aa (af 3) ag)) ag))))
  (ao (az false 5 (xy ["left", "right", "above", "below"] (aa (aG "right") (aa (aG "left") (aa (aG "below") (aa (aG "above") ag))))))
  (ao (dC (bY (cH (aa (ak (bJ 42).fn (aa (af 1) (aa (af 4) ag))) (aa (ak ek (aa (af 1) (aa (af 4) ag))) ag)))) (gtN 6) (l9))
  (aw (pBl true))))))))))
def p9:PFn:=fnP [false] 12 vJ
def DU(T:TT K mg):Callee P w K mg base "law" 52 ["_law_script"] (spD K mg 1 p9.F):=aN (T.d.get 60 rfl) (aA (N:=["_law_script", "_law_feed_here", "_law_room_here", "_law_weights_here", "_law_order_here", "_law_back", "_law_tree_here", "_law_boxes", "_law_k", "_law_j", "_law_told", "_law_at"]) (by decide)) (λ_ _ _ _ _ _=>ar1 λ_=>rfl) λnd _ _ _ _ _ _ _ hr=>(aD 'd' (aD 'd' (aD 'd' (aD 'd' (aD 'd' (aD 'd' (aD (zsS 5 nd (Gd (jg jE (jg jE (jg jE (jg jE Fb)))))) 'd')))))))
end
def fdV(a b k:Int):Val:=.lst [.int a,.int b,.int k]
def CO:gf.G (.int 10) (.int 18)=.val (.int (10^18)):=qf ⟨by decide,by decide,by decide⟩
def dD{a m:Int}(h:0<m):0<=a.fmod m/\a.fmod m<m:=⟨Int.fmod_nonneg_of_pos a h,Int.fmod_lt_of_pos a h⟩
set_option hygiene false in
local macro_rules | `(tactic|simp![$args,*])=>do
 let l <- ("% iY Nq Hx NQ NU Jl mQ Mr Ax wU HK Kf Kb Ky HR Jy IJ Ka EU BN G9 zi Fs Jr Ni Me v_bl Nw L5 v_ty LO v_un v_op Mq KO v_fn Ow N6 Ol Mh v_if c_of c_tr c_an c_o c_no x_nx Iq Nv EZ FJ EE Jd CJ x_if Nn LS Ll Fg Ae B1 g_n g_sn g_sc g_t g_x HD LY NK M3 Fm MX Mi Mw Ot Mg Lf JK Oq Na IG BV MZ NF LD Ip JH HY JP Nz Ma nB v_lc J7 Ju Gn o_n o_s v_sl v_d0 Nk fx_G Mb Om k_lt k_le k_gt k_ge LW M6 k_ix KU Ja Lp k_eq k_ne qg k_is Ml Lq Ov MB Nl Og NW EW Aa pj List.getElem?_cons_zero List.getElem?_cons_succ List.set_cons_zero List.set_cons_succ List.length_cons List.length_nil Option.bind_some Option.map_some Option.isSome_some if_true if_false Bool.not_true Bool.not_false Bool.and_true Bool.true_and Bool.and_false Bool.false_and Bool.or_true Bool.true_or Bool.or_false Bool.false_or Nat.reduceLeDiff Nat.reduceLT Nat.reduceAdd Nat.reduceSub Nat.zero_add Nat.add_zero Nat.sub_self List.cons_append List.nil_append List.append_nil List.replicate reduceCtorEq decide_true decide_false Bool.false_eq_true List.all_cons List.all_nil List.isEmpty_nil List.map_cons List.map_nil Int.reduceBEq Int.reduceLT Int.reduceAdd Int.reduceSub Int.reduceMul Int.cast_ofNat_Int J3 Ej IE IF D6 Ay Hl zm FZ Jm Ek zK EK Hc Cv Ik D7 IM BP Kk G7 FK Oj NA M9 Lx x9 yE yd mJ kI zG AF zu yG yH ati0 ati1 ati2 ati3 ixn0 ixn1 LH b8 J4 Int.reduceNeg Gh zA JR Nu tX n9 tT ug xm qQ ua ou qM qV ud kx ny yS sU sQ lH yw rb vK pI tJ uc zX BI yf yD qP tR ui Ga Bw wW nZ gU pM BE ky xj sj mI Ft".splitOn " ").tail.mapM λs=>`(Lean.Parser.Tactic.simpLemma| $(Lean.mkIdent s.toName):term)
 `(tactic|simp only[$(l.toArray),*,$args,*])
def aB{a b k m:Int}(h0:0<m)(hm:Sm 8000 m):∃r a' b',aq.G [fdV a b k,.int m]=.ok (.val (.int r)) [fdV a' b' k]/\0<=r/\r<m:=by
 unfold aq
 rw[aJ]
 unfold mj fdV
 have m0:m≠0:=by omega
 have d1:=λi=>eY (i:=i) m0
 have d2:=λi=>kj (i:=i) (CDivB.of m0 hm)
 have ca:∀x:Int,CMulA 7919 x:=λx=>CMulA.left (by decide) (by decide)
 have cb:∀x:Int,CMulA 104729 x:=λx=>CMulA.left (by decide) (by decide)
 have cc:∀x:Int,CMulA x 48271:=λx=>CMulA.right (by decide) (by decide)
 have e1:b9.G (.int a) (.int 1000003)=.val (.int (a.fmod 1000003)):=eY (by decide)
 have e2:bU.G (.int 7919) (.int k)=.val (.int (7919*k)):=bW (ca k)
 have e3:=λx=>bW (cb x)
 have e4:=λx=>bW (cc x)
 have e5:∀x:Int,b9.G (.int x) (.int 2147483647)=.val (.int (x.fmod 2147483647)):=λx=>eY (by decide)
 have e6:∀x:Int,b9.G (.int x) (.int 65521)=.val (.int (x.fmod 65521)):=λx=>eY (by decide)
 have e7:∀x y:Int,bU.G (.int (x.fmod 2147483647)) (.int y)=.val (.int (x.fmod 2147483647*y)):=λx y=>bW (CMulA.left (by have:=(dD (a:=x) (m:=2147483647) (by decide)).1;omega) (by have:=(dD (a:=x) (m:=2147483647) (by decide)).2;omega))
 have e8:∀x:Int,b9.G (.int x) (.int 2147483629)=.val (.int (x.fmod 2147483629)):=λx=>eY (by decide)
 by_cases hc:(10^18:Int)<=a
 ·have hc':decide ((10^18:Int)<=a)=true:=G_ hc
  refine⟨a.fmod m,a.fdiv m,b+1,?_,dD h0⟩
  simp![CO,hc',d1,d2]
  done
 ·have hc':decide ((10^18:Int)<=a)=false:=u_ hc
  refine⟨Int.fmod (Int.fmod (Int.fmod ((Int.fmod a 1000003+7919*k+104729*(b+1))*48271) 2147483647*(Int.fmod (Int.fmod ((Int.fmod a 1000003+7919*k+104729*(b+1))*48271) 2147483647) 65521+(b+1))) 2147483629) m,a,b+1,?_,dD h0⟩
  simp![CO,hc',d1,e1,e2,e3,e4,e5,e6,e7,e8]
def AN{a b k:Int}{m:Nat}(hm:m<=1000):∃(o:List Nat) (a' b':Int),(∀i,i∈o ↔ i<m)/\o.length=m/\d6.G [fdV a b k,.int (m:Nat)]=.ok (.new (itV o)) [fdV a' b' k]:=by
 have rg:fZ [.int (m:Nat)]=some (rgV m):=ox (i:=(m:Nat)) (by omega) (by omega)
 obtain⟨e',⟨a',b',o,s3,h1,h2,_,rfl⟩,lo⟩:=lC (g:=(gtN 3).G) (B:=gL.G) (λi e=>∃(a b:Int) (o:List Nat) (s3:Sl),o.length=i/\(∀j,j∈o ↔ j<i)/\s3.pl=true/\e=[.mu (fdV a b k),.sh (.int (m:Nat)),.ow (itV o),s3]) m (e:=[.mu (fdV a b k),.sh (.int (m:Nat)),.ow (itV []),.no]) ⟨a,b,[],.no,rfl,by simp,rfl,rfl⟩ (by
  rintro i hi _ ⟨a,b,o,s3,h1,h2,h3,rfl⟩
  obtain⟨r,a1,b1,e1,r0,r1⟩:=aB (a:=a) (b:=b) (k:=k) (m:=(o.length:Nat)+1) (by omega) (sm8 (by omega))
  refine⟨[.mu (fdV a b k),.sh (.int (m:Nat)),.ow (itV o),.sh (.int (i:Nat))],[.mu (fdV a1 b1 k),.sh (.int (m:Nat)),.ow (itV (o.take r.toNat++i::o.drop r.toNat)),.sh (.int (i:Nat))],?_,.inl ?_,a1,b1,_,_,?_,?_,rfl,rfl⟩
  ·simp![h3]
  ·have ln:(o.map λk:Nat=>Val.int k).length=o.length:=j_ ..
   have ins:(0<=r/\r<=(o.length:Nat)/\o.length<16777216):=⟨r0,by omega,by omega⟩
   unfold gL itV
   generalize hf:fdV a b k=f0 at *
   generalize hf1:fdV a1 b1 k=f1 at *
   simp![ln,e1,zW,ins,true_and,PY,and_self]
   simp [List.map_take,List.map_drop]
  ·simp only[p_,v_,Pf,Qf]
   omega
  ·intro j
   rw[OU,D_]
   have:j∈o ↔ j∈o.take r.toNat\/j∈o.drop r.toNat:=by rw[<- OU,Qd]
   rw[show (j<i+1 ↔ j<i\/j=i) from by omega,<- h2 j,this]
   constructor
   ·rintro (h |h |h)
    ·exact .inl (.inl h)
    ·exact .inr h
    ·exact .inl (.inr h)
   ·rintro ((h |h) |h)
    ·exact .inl h
    ·exact .inr (.inr h)
    ·exact .inr (.inl h))
 refine⟨o,a',b',h2,h1,?_⟩
 unfold d6
 rw[aJ]
 unfold kA
 unfold itV at lo ⊢
 generalize fdV a b k=f0 at *
 generalize fdV a' b' k=f1 at *
 rw[OJ] at lo
 simp![rg,lo]
def vy{a b k:Int}:∃(w:Bool) (r a' b':Int),aq.G [fdV a b k,.int 2]=.ok (.val (.int r)) [fdV a' b' k]/\atI [Val.str "across",Val.str "down"] r=some (Val.str (wy w)):=by
 obtain⟨r,a1,b1,e1,r0,r1⟩:=aB (a:=a) (b:=b) (k:=k) (m:=2) (by decide) (sm8 (by decide))
 obtain rfl |rfl:r=0\/r=1:=by omega
 ·exact⟨true,0,a1,b1,e1,dM (by decide) rfl⟩
 ·exact⟨false,1,a1,b1,e1,dM (by decide) rfl⟩
theorem mU{k:Int}(nv:Val):∀(cQ:List Nat) (t:AT) (l:List Nat) (a b:Int) (s3:Sl),s3.pl=true->TOk t l->∃(t':AT) (a' b':Int) (s3':Sl),TOk t' (cQ.reverse++l)/\cq (gtN 3).G dE.G (cQ.map λi:Nat=>.int i) [.mu (fdV a b k),.sh nv,.sh (t.val λk=>.int (k:Nat)),s3]=.nx [.mu (fdV a' b' k),.sh nv,.sh (t'.val λk=>.int (k:Nat)),s3']
 | [],t,l,a,b,s3,_,h=>⟨t,a,b,s3,h,rfl⟩
 |
  x::cQ,t,l,a,b,s3,h3,h=>by
  obtain⟨w,r,a1,b1,e1,w1⟩:=vy (a:=a) (b:=b) (k:=k)
  obtain⟨r2,a2,b2,e2,r0,r1⟩:=aB (a:=a1) (b:=b1) (k:=k) (m:=2) (by decide) (sm8 (by decide))
  have key:∃t1,TOk t1 (x::l)/\dE.G [.mu (fdV a b k),.sh nv,.sh (t.val λk=>.int (k:Nat)),.sh (.int (x:Nat))]=.nx [.mu (fdV a2 b2 k),.sh nv,.sh (t1.val λk=>.int (k:Nat)),.sh (.int (x:Nat))]:=by
   have hd:=h.dep
   have hp:=AT.dep_pos t
   obtain rfl |rfl:r2=0\/r2=1:=by omega
   ·refine⟨.nd w [.lf x,t],⟨by simp [AT.ok,AT.okL,h.ok],λk=>by simp [AT.lvs,AT.lvsL,h.mem],by simp [AT.dep,AT.depL] <;> omega,by simp [AT.lvs,AT.lvsL,h.len] <;> omega⟩,?_⟩
    unfold dE
    rw[AT.val,AT.vals,AT.vals,AT.vals,AT.val]
    generalize AT.val (λk=>Val.int (k:Nat)) t=tv at *
    generalize fdV a b k=f0 at *
    generalize fdV a1 b1 k=f1 at *
    generalize fdV a2 b2 k=f2 at *
    simp![e1,w1,e2]
   ·refine⟨.nd w [t,.lf x],⟨by simp [AT.ok,AT.okL,h.ok],λk=>by simp [AT.lvs,AT.lvsL,h.mem,or_comm],by simp [AT.dep,AT.depL] <;> omega,by simp [AT.lvs,AT.lvsL,h.len]⟩,?_⟩
    unfold dE
    rw[AT.val,AT.vals,AT.vals,AT.vals,AT.val]
    generalize AT.val (λk=>Val.int (k:Nat)) t=tv at *
    generalize fdV a b k=f0 at *
    generalize fdV a1 b1 k=f1 at *
    generalize fdV a2 b2 k=f2 at *
    simp![e1,w1,e2]
  obtain⟨t1,h1,bb⟩:=key
  obtain⟨t',a',b',s3',h',q⟩:=mU (k:=k) nv cQ t1 (x::l) a2 b2 (.sh (.int (x:Nat))) rfl h1
  refine⟨t',a',b',s3',by rw[List.reverse_cons,O3];exact h',?_⟩
  rw[o_,cU]
  have g1:(gtN 3).G (.int (x:Nat)) [.mu (fdV a b k),.sh nv,.sh (t.val λk=>.int (k:Nat)),s3]=some [.mu (fdV a b k),.sh nv,.sh (t.val λk=>.int (k:Nat)),.sh (.int (x:Nat))]:=by
   generalize AT.val (λk=>Val.int (k:Nat)) t=tv at *
   simp![h3]
  rw[g1]
  dsimp only
  rw[bb]
  exact q
def BY{a b k:Int}{l:List Nat}(hl:l≠[]):∃(t:AT) (a' b':Int),TOk t l/\ek.G [fdV a b k,itV l]=.ok (.val (t.val λk=>.int (k:Nat))) [fdV a' b' k]:=by
 cases l with
 |nil=>exact absurd rfl hl
 |
  cons x cQ=>
  obtain⟨t,a',b',s3,h,q⟩:=mU (k:=k) (itV (x::cQ)) cQ (.lf x) [x] a b .no rfl ⟨rfl,λk=>by simp [AT.lvs],m_ _,rfl⟩
  refine⟨t,a',b',⟨h.ok,λk=>by rw[h.mem];simp [or_comm],by have:=h.dep;simpa using this,by have:=h.len;simpa using this⟩,?_⟩
  unfold ek
  rw[aJ]
  unfold kF
  rw[AT.val] at q
  unfold itV at q ⊢
  generalize AT.val (λk=>Val.int (k:Nat)) t=tv at *
  generalize fdV a b k=f0 at *
  generalize fdV a' b' k=f1 at *
  rw[o_] at q ⊢
  simp![lR,Dg,cK,q]
theorem vp{k:Int}(nv:Val)(m:Nat)(hm:1<=m/\m<=1000):∀(vs:List Nat) (xss:List (List Nat)) (a b:Int) (s4:Sl),s4.pl=true->xss.length=m->(∀l∈xss,l≠[])->xss.flatten.length+vs.length<=1000->∃(yss:List (List Nat)) (a' b':Int) (s4':Sl),Lots yss xss vs/\eT 3 4 (ak aq (aa (af 0) (aa (af 2) ag))).G (vs.map λi:Nat=>.int i) (xss.map λl=>l.map λi:Nat=>.int i) [.mu (fdV a b k),.sh nv,.sh (.int (m:Nat)),.no,s4]=.nx [.mu (fdV a' b' k),.sh nv,.sh (.int (m:Nat)),.sh (.lst (Au yss)),s4']
 |
  [],xss,a,b,s4,_,_,ne,_=>⟨xss,a,b,s4,⟨rfl,ne,λk=>by simp,rfl⟩,by
  unfold eT
  show SR3.nx _=_
  rw[O0]
  rfl⟩
 |
  v::vs,xss,a,b,s4,h4,hl,ne,ht=>by
  rw[v_] at ht
  obtain⟨r,a1,b1,e1,r0,r1⟩:=aB (a:=a) (b:=b) (k:=k) (m:=(m:Nat)) (by omega) (sm8 (by omega))
  have hi:r.toNat<xss.length:=by omega
  have hx:=A_ hi
  generalize xss[r.toNat]=xs at hx
  have L1:=A5 (u:=v) hx ne
  have hxl:xs.length<=1000:=by
   have:=List.Sublist.length_le (List.sublist_flatten_of_mem (OO hx))
   omega
  obtain⟨yss,a',b',s4',L2,q⟩:=vp (k:=k) nv m hm vs (xss.set r.toNat (xs++[v])) a1 b1 (.sh (.int (v:Nat))) rfl (by rw[B_];exact hl) L1.ne (by have:=L1.tot;simp only[v_,OE] at this;omega)
  refine⟨yss,a',b',s4',⟨L2.len.trans L1.len,L2.ne,λk=>by rw[L2.mem,L1.mem];simp [or_assoc],by have t1:=L2.tot;have t2:=L1.tot;simp only[v_,OE] at t2 ⊢;omega⟩,?_⟩
  have g1:pN 4 (.int (v:Nat)) [.mu (fdV a b k),.sh nv,.sh (.int (m:Nat)),.no,s4]=some [.mu (fdV a b k),.sh nv,.sh (.int (m:Nat)),.no,.sh (.int (v:Nat))]:=by
   unfold pN
   show (if s4.pl=true then _ else _)=_
   rw[if_pos h4]
   rfl
  have q1:(ak aq (aa (af 0) (aa (af 2) ag))).G [.mu (fdV a b k),.sh nv,.sh (.int (m:Nat)),.no,.sh (.int (v:Nat))]=.ok (.val (.int r)) [.mu (fdV a1 b1 k),.sh nv,.sh (.int (m:Nat)),.no,.sh (.int (v:Nat))]:=by
   generalize fdV a b k=f0 at *
   generalize fdV a1 b1 k=f1 at *
   simp![e1]
  have hx':(xss.map λl=>l.map λi:Nat=>Val.int i)[r.toNat]?=some (xs.map λi:Nat=>Val.int i):=by rw[z_,hx];rfl
  have sx:(xss.map λl=>l.map λi:Nat=>Val.int i).set r.toNat ((xs.map λi:Nat=>Val.int i)++[.int (v:Nat)])=(xss.set r.toNat (xs++[v])).map λl=>l.map λi:Nat=>Val.int i:=by rw[List.map_set,OI];rfl
  rw[o_]
  unfold eT
  rw[g1]
  dsimp only
  rw[q1]
  dsimp only [rs]
  show (match (xss.map λl=>l.map λi:Nat=>Val.int i)[r.toNat]? with |some xs=>(if 0<=r/\xs.length<16777216 then eT 3 4 _ _ _ _ else .stuck) |none=>.stuck)=_
  rw[hx']
  dsimp only
  rw[if_pos ⟨r0,by rw[j_];omega⟩,sx]
  exact q
theorem oW{k:Int}{m n:Nat}(ih:∀(l:List Nat) (a b:Int),l≠[]->l.length<=n->∃(t:AT) (a' b':Int),TOk t l/\(bJ m).G [fdV a b k,itV l]=.ok (.val (atV t)) [fdV a' b' k]):
 ∀(ls:List (List Nat)) (acc:List Val) (a b:Int) (s:Sl),s.pl=true->(∀l∈ls,l≠[]/\l.length<=n)->acc.length+ls.length<=16777216->∃(ps:List (AT×List Nat)) (a' b':Int) (s':Sl),ps.map (·.2)=ls/\(∀p∈ps,TOk p.1 p.2)/\lcV (gtN 0).G qY.G (ak (bJ m).fn (aa (af 1) (aa (af 0) ag))).G (ls.map itV) acc [s,.mu (fdV a b k)]=.ok (acc++ps.map λp=>atV p.1) [s',.mu (fdV a' b' k)]
 | [],acc,a,b,s,_,_,_=>⟨[],a,b,s,rfl,(λ_ h=>nomatch h),by simp [lcV]⟩
 |
  l::ls,acc,a,b,s,hs,hl,ha=>by
  rw[v_] at ha
  obtain⟨h1,h2⟩:=hl l (n_ ..)
  obtain⟨t,a1,b1,ht,e1⟩:=ih l a b h1 h2
  obtain⟨ps,a',b',s',q1,q2,q3⟩:=oW ih ls (acc++[atV t]) a1 b1 (.sh (itV l)) rfl (λl hl'=>hl l (l_ _ hl')) (by rw[p_];show acc.length+1+_<=_;omega)
  refine⟨(t,l)::ps,a',b',s',by rw[o_,q1],λp hp=>?_,?_⟩
  ·rcases D_.mp hp with rfl |hp
   ·exact ht
   ·exact q2 p hp
  ·show lcV _ _ _ (itV l::ls.map itV) acc _=.ok (acc++atV t::ps.map λp=>atV p.1) _
   generalize atV t=tv at *
   generalize itV l=lv at *
   have g1:(gtN 0).G lv [s,.mu (fdV a b k)]=some [.sh lv,.mu (fdV a b k)]:=by
    simp![hs]
   have F1:(ak (bJ m).fn (aa (af 1) (aa (af 0) ag))).G [.sh lv,.mu (fdV a b k)]=.ok (.val tv) [.sh lv,.mu (fdV a1 b1 k)]:=by
    generalize fdV a b k=f0 at *
    generalize fdV a1 b1 k=f1 at *
    simp![e1]
   have d1:cz [.sh lv,.mu (fdV a1 b1 k)] (.val tv)=some ([.sh lv,.mu (fdV a1 b1 k)],tv):=rfl
   unfold lcV
   have cy:qY.G=cY:=rfl
   rw[cy] at q3 ⊢
   rw[if_pos (by omega),g1]
   simp only[cY,iY,Pd,F1,d1,q3]
   simp
def t3_a{L:Nat}(h:2<=L):0<(if ((L:Nat):Int)-1<3 then ((L:Nat):Int)-1 else 3)/\Sm 8000 (if ((L:Nat):Int)-1<3 then ((L:Nat):Int)-1 else 3):=by
 split
 ·exact⟨by omega,sm8 (by omega)⟩
 ·exact⟨by decide,sm8 (by decide)⟩
def t3_b{L:Nat}{r:Int}(h:r<if ((L:Nat):Int)-1<3 then ((L:Nat):Int)-1 else 3):r<3/\r<(L:Int)-1:=by split at h <;> omega
def t3_c{L:Nat}(h:0<L)(h1:¬ L=1):2<=L:=by omega
def t3_d{L mn:Nat}{r:Int}(h:(mn:Int)=2+r)(r0:0<=r)(r1:r<3)(r2:r<(L:Int)-1):2<=mn/\mn<=5/\mn<=L:=by omega
theorem uD{k:Int}:∀(n m:Nat) (l:List Nat) (a b:Int),l≠[]->l.length<=n->n<=m->n<=100->∃(t:AT) (a' b':Int),TOk t l/\(bJ m).G [fdV a b k,itV l]=.ok (.val (atV t)) [fdV a' b' k]
 |0,m,l,a,b,hl,hn,_,_=>absurd (P2.mp (Nat.le_zero.mp hn)) hl
 |n+1,0,l,a,b,_,_,hm,_=>absurd hm (Nat.not_succ_le_zero _)
 |
  n+1,m+1,l,a,b,hl,hn,hm,h100=>by
  have ih:=λ(l:List Nat) (a b:Int) (h1:l≠[]) (h2:l.length<=n)=>uD (k:=k) n m l a b h1 h2 (Nat.le_of_succ_le_succ hm) (Nat.le_of_succ_le h100)
  have hpos:=QT.mpr hl
  have ll:(l.map λk:Nat=>Val.int k).length=l.length:=j_ ..
  show ∃t a' b',_/\(PFx.of [true,false] 5 (dS (bJ m))).G [fdV a b k,itV l]=_
  by_cases h1:l.length=1
  ·obtain⟨x,rfl⟩:=List.length_eq_one_iff.mp h1
   refine⟨.lf x,a,b,⟨rfl,λk=>by simp [AT.lvs],m_ _,rfl⟩,?_⟩
   rw[kd]
   unfold dS atV itV
   rw[AT.val]
   generalize fdV a b k=f0 at *
   simp![o_,OJ,cK]
  ·have h2':=t3_c hpos h1
   obtain⟨r,a1,b1,e1,r0,r1⟩:=aB (a:=a) (b:=b) (k:=k) (m:=if ((l.length:Nat):Int)-1<3 then ((l.length:Nat):Int)-1 else 3) (t3_a h2').1 (t3_a h2').2
   have hr:=t3_b r1
   obtain⟨mn,hmn⟩:∃mn:Nat,(mn:Int)=2+r:=⟨(2+r).toNat,Qn (Int.add_nonneg (by decide) r0)⟩
   obtain⟨m2,m5,ml⟩:=t3_d hmn r0 hr.1 hr.2
   have ne1:(((l.length:Nat):Int)==1)=false:=by rw[H_];omega
   obtain⟨yss,a2,b2,s4,L,dl⟩:=vp (k:=k) (itV l) mn (by omega) (l.drop mn) ((l.take mn).map λx=>[x]) a1 b1 .no rfl (by rw[j_,Pf];omega) (λx hx=>by obtain⟨y,_,rfl⟩:=K_.mp hx;simp) (by
    have:((l.take mn).map λx=>[x]).flatten=l.take mn:=by rw[<- List.flatMap_def];exact List.flatMap_singleton' _
    rw[this,<- p_,Qd]
    omega)
   have hfl:((l.take mn).map λx=>[x]).flatten=l.take mn:=by rw[<- List.flatMap_def];exact List.flatMap_singleton' _
   have hy2:2<=yss.length:=by rw[L.len,j_,Pf];omega
   have htot:yss.flatten.length=l.length:=by rw[L.tot,hfl,<- p_,Qd]
   obtain⟨w,rw',a3,b3,e3,w3⟩:=vy (a:=a2) (b:=b2) (k:=k)
   have hlt:=qH L.ne
   obtain⟨ps,a4,b4,s0,q1,q2,q3⟩:=oW (k:=k) (m:=m) (n:=n) ih yss [] a3 b3 .no rfl (λx hx=>⟨L.ne x hx,by have:=hlt x hx;omega⟩) (by have:=nL L.ne;rw[OE];omega)
   have pl:ps.length=yss.length:=by rw[<- q1,j_]
   have T:=Ep (w:=w) q2 (λz=>by rw[z] at pl;simp at pl;omega) (λp hp=>L.ne p.2 (by rw[<- q1];exact O5 hp)) (by omega)
   rw[q1] at T
   refine⟨.nd w (ps.map (·.1)),a4,b4,⟨T.ok,λk=>?_,by have:=T.dep;omega,by rw[T.len,htot]⟩,?_⟩
   ·rw[T.mem,List.mem_flatten,L.mem]
    constructor
    ·rintro (⟨x,hx,hk⟩ |hk)
     ·obtain⟨y,hy,rfl⟩:=K_.mp hx
      rw[OK] at hk
      subst hk
      exact List.mem_of_mem_take hy
     ·exact List.mem_of_mem_drop hk
    ·intro hk
     rw[<- Qd mn l] at hk
     rcases OU.mp hk with hk |hk
     ·exact .inl ⟨[k],O5 (f:=λx=>[x]) hk,OK.mpr rfl⟩
     ·exact .inr hk
   ·rw[GR rfl]
    show trQ (atV (.nd w (ps.map (·.1)))) (fdV a4 b4 k) ((dS (bJ m)).G [.mu (fdV a b k),.sh (itV l),.no,.no,.no])
    unfold dS
    refine aF (λe=>e=[.mu (fdV a b k),.sh (itV l),.no,.no,.no]) ⟨_,by unfold itV;simp![ll,ne1],rfl⟩ ?_
    rintro _ rfl
    refine aF (λe=>e=[.mu (fdV a1 b1 k),.sh (itV l),.sh (.int (mn:Nat)),.no,.no]) ⟨_,by
     unfold itV
     generalize fdV a b k=f0 at *
     generalize fdV a1 b1 k=f1 at *
     simp![ll,e1,hmn],rfl⟩ ?_
    rintro _ rfl
    refine aF (λe=>e=[.mu (fdV a2 b2 k),.sh (itV l),.sh (.int (mn:Nat)),.sh (.lst (Au yss)),s4]) ⟨_,?_,rfl⟩ ?_
    ·rw[BM]
     have i1:(bY (pSl (af 1) oN (oS (af 2)))).G [.mu (fdV a1 b1 k),.sh (itV l),.sh (.int (mn:Nat)),.no,.no]=.ok ((l.take mn).map λi:Nat=>.int i,none) [.mu (fdV a1 b1 k),.sh (itV l),.sh (.int (mn:Nat)),.no,.no]:=by
      unfold itV
      simp![lR,JD,List.map_take]
     have i2:(bY (pSl (af 1) (oS (af 2)) oN)).G [.mu (fdV a1 b1 k),.sh (itV l),.sh (.int (mn:Nat)),.no,.no]=.ok ((l.drop mn).map λi:Nat=>.int i,none) [.mu (fdV a1 b1 k),.sh (itV l),.sh (.int (mn:Nat)),.no,.no]:=by
      unfold itV
      simp![lR,r9,List.map_drop]
     rw[i1]
     show (if Sl.pl .no=true/\((l.take mn).map λi:Nat=>Val.int i).length<16777216 then _ else _)=_
     rw[if_pos ⟨rfl,by rw[j_,Pf];omega⟩]
     show ((bY (pSl (af 1) (oS (af 2)) oN)).G [.mu (fdV a1 b1 k),.sh (itV l),.sh (.int (mn:Nat)),.no,.no]).toS _=_
     rw[i2]
     show eT 3 4 _ ((l.drop mn).map λi:Nat=>.int i) (((l.take mn).map λi:Nat=>Val.int i).map λv=>[v]) [.mu (fdV a1 b1 k),.sh (itV l),.sh (.int (mn:Nat)),.no,.no]=_
     have sx:(((l.take mn).map λi:Nat=>Val.int i).map λv=>[v])=((l.take mn).map λx=>[x]).map λl=>l.map λi:Nat=>Val.int i:=by rw[O0,O0];rfl
     rw[sx]
     exact dl
    ·rintro _ rfl
     have lp:(ps.map λp=>atV p.1).length<=16777216:=by have:=nL L.ne;rw[j_];omega
     rw[OP] at q3
     unfold trQ
     unfold atV at q3 lp ⊢
     rw[AT.val,AT.vals_map,O0]
     unfold Au
     have cm:(List.map (AT.val (λk=>Val.int (k:Nat)) ∘ λx=>x.fst) ps)=ps.map λp=>AT.val (λk=>Val.int (k:Nat)) p.1:=rfl
     rw[cm]
     generalize (ps.map λp=>AT.val (λk=>Val.int (k:Nat)) p.1)=PS at *
     generalize itV l=lv at *
     generalize fdV a2 b2 k=f2 at *
     generalize fdV a3 b3 k=f3 at *
     generalize fdV a4 b4 k=f4 at *
     generalize yss.map itV=YS at *
     simp![e3,w3,b8,inS,q3,lp,xi]
def ur(xs:List Val):(aQ ba).G [.tup xs,.ty "tuple"]=.val (.bl true):=rfl
def GF{a:Val}(h:lfV a=true):(aQ ba).G [a,.ty "tuple"]=.val (.bl false):=by cases a <;> first |rfl |(cases h;done)
def Jv{a:Val}(h:lfV a=true):(aQ ba).G [a,.ty "bool"]=.val (.bl false):=by cases a <;> first |rfl |(cases h;done)
def yJ(w:Bool):dG.G [.str (wy w)]=.ok (.val (.bl true)) []:=by
 have i1:∀x:Str,(aQ ba).G [.str x,.ty "str"]=.val (.bl true):=λ_=>rfl
 have i2:bIn.G (.str (wy w)) (.tup [.str "across",.str "down"])=.val (.bl true):=by cases w <;> rfl
 unfold dG
 rw[aJ]
 unfold lq
 simp![i1,i2]
def zk{w:Bool}{ts:List Val}(h:2<=ts.length):cG.G [.tup [.str (wy w),.tup ts]]=.ok (.val (.bl true)) []:=by
 have e:=yJ w
 have i1:∀xs:List Val,(aQ ba).G [.tup xs,.ty "tuple"]=.val (.bl true):=λ_=>rfl
 have g:decide ((2:Int)<=(ts.length:Nat))=true:=G_ (by omega)
 unfold cG
 rw[aJ]
 unfold iu
 simp![i1,e,cK,g]
def yk{a:Val}(h:lfV a=true):cG.G [a]=.ok (.val (.bl false)) []:=by
 have i1:(aQ ba).G [a,.ty "tuple"]=.val (.bl false):=by cases a <;> first |rfl |(cases h;done)
 unfold cG
 rw[aJ]
 unfold iu
 simp![i1]
def yy(k:Nat):bG.G [.int (k:Nat)]=.ok (.val (.bl true)) []:=by
 have i1:(aQ ba).G [.int (k:Nat),.ty "int"]=.val (.bl true):=rfl
 have i2:(aQ ba).G [.int (k:Nat),.ty "bool"]=.val (.bl false):=rfl
 unfold bG
 rw[aJ]
 unfold i9
 simp![i1,i2]
theorem jH{n:Nat}(v:Val):∀(N:Nat) (st:List AT) (xs:List Int) (s4:Sl),AT.cntL st<=N->s4.pl=true->(∀t∈st,t.ok=true)->(∀k∈AT.lvsL st,k<n)->(AT.lvsL st).Nodup->(∀k∈AT.lvsL st,((k:Nat):Int)∉xs)->xs.length+(AT.lvsL st).length<=3000->AT.cntL st<=100000->
 ∃(ys:List Int) (s4':Sl),ys.length=xs.length+(AT.lvsL st).length/\(xWh (qTr (af 3)) cR).G [.sh v,.sh (.int (n:Nat)),.ow (.set xs),.ow (.lst (st.map atV)),s4]=.nx [.sh v,.sh (.int (n:Nat)),.ow (.set ys),.ow (.lst []),s4']
 |
  N,[],xs,s4,_,_,_,_,_,_,_,_=>⟨xs,s4,by simp [AT.lvsL],by
  rw[jd]
  simp![OJ,jU,List.isEmpty_nil]⟩
 |
  0,t::ts,xs,s4,h,_,_,_,_,_,_,_=>by
  rw[AT.cntL] at h
  cases t <;> (rw[AT.cnt] at h;omega)
 |
  N+1,t0::ts0,xs,s4,hN,h4,ho,hn,nd,hx,hl,hc=>by
  obtain⟨st,t,hst⟩:∃st t,t0::ts0=st++[t]:=⟨(t0::ts0).dropLast,(t0::ts0).getLast (by simp),(List.dropLast_concat_getLast (by simp)).symm⟩
  rw[hst] at hN ho hn nd hx hl hc ⊢
  rw[AT.lvsL_app] at hn nd hx hl
  rw[AT.lvsL_app]
  rw[AT.cntL_app] at hN hc
  have hn0:((st++[t]).map atV).isEmpty=false:=by cases st <;> rfl
  have c1:(qTr (af 3)).G [.sh v,.sh (.int (n:Nat)),.ow (.set xs),.ow (.lst ((st++[t]).map atV)),s4]=.ok true [.sh v,.sh (.int (n:Nat)),.ow (.set xs),.ow (.lst ((st++[t]).map atV)),s4]:=by
   simp![jU,hn0,Bool.not_false]
  have hto:=ho t (by simp)
  rw[jd,c1]
  show ∃ys s4',_/\((cR.G _).loop _)=_
  rw[OI,o_,OJ]
  cases t with
  |
   lf k=>
   simp only[AT.lvsL,AT.lvs,OS,p_,v_,OE,AT.cntL,AT.cnt] at hn nd hx hl hN hc ⊢
   have hk:=hn k (by simp)
   have hkx:=hx k (by simp)
   have nda:=List.nodup_append.mp nd
   obtain⟨ys,s4',q1,q2⟩:=jH (n:=n) v N st (eF xs (k:Nat)) (.sh (.int (k:Nat))) (by omega) rfl (λt ht=>ho t (by simp [ht])) (λj hj=>hn j (by simp [hj])) nda.1 (λj hj z=>by
    unfold eF at z
    rw[if_neg hkx] at z
    rcases D_.mp z with z |z
    ·exact nda.2.2 j hj k (by simp) (Int.ofNat.inj z)
    ·exact hx j (by simp [hj]) z) (by unfold eF;rw[if_neg hkx,v_];omega) (by omega)
   refine⟨ys,s4',by rw[q1];unfold eF;rw[if_neg hkx,v_];omega,?_⟩
   have b1:=yk (a:=.int (k:Nat)) rfl
   have w1:=yy k
   have l0:decide (((k:Nat):Int)<0)=false:=u_ (by omega)
   have l1:decide (((n:Nat):Int)<=(k:Nat))=false:=u_ (by omega)
   have in1:decide (((k:Nat):Int)∈xs)=false:=u_ hkx
   have av:atV (.lf k)=.int (k:Nat):=rfl
   have xl:xs.length<4000:=by omega
   have bb:cR.G [.sh v,.sh (.int (n:Nat)),.ow (.set xs),.ow (.lst (st.map atV++[atV (.lf k)])),s4]=.nx [.sh v,.sh (.int (n:Nat)),.ow (.set (eF xs (k:Nat))),.ow (.lst (st.map atV)),.sh (.int (k:Nat))]:=by
    unfold cR
    rw[av]
    simp![l6,h4,b1,w1,l0,l1,NV,in1,G5,sN,A0,xl]
   rw[bb]
   exact q2
  |
   nd w ts=>
   have ho':=hto
   rw[AT.ok,r_] at hto
   have h2:2<=ts.length:=Pr hto.1
   have hk:=AT.okL_mem.mp hto.2
   simp only[AT.lvsL,AT.lvs,OS,AT.cntL,AT.cnt] at hn nd hx hl hN hc ⊢
   obtain⟨ys,s4',q1,q2⟩:=jH (n:=n) v N (st++ts) xs (.sh (atV (.nd w ts))) (by rw[AT.cntL_app];omega) rfl (λt ht=>by
    rcases OU.mp ht with ht |ht
    ·exact ho t (by simp [ht])
    ·exact hk t ht) (by rw[AT.lvsL_app];exact hn) (by rw[AT.lvsL_app];exact nd) (by rw[AT.lvsL_app];exact hx) (by rw[AT.lvsL_app];exact hl) (by rw[AT.cntL_app];omega)
   rw[AT.lvsL_app] at q1
   refine⟨ys,s4',q1,?_⟩
   have av:atV (.nd w ts)=.tup [.str (wy w),.tup (ts.map atV)]:=by
    unfold atV
    rw[AT.val,AT.vals_map]
   have b1:=zk (w:=w) (ts:=ts.map atV) (by rw[j_];exact h2)
   have le:∀l:List AT,l.length<=AT.cntL l:=by
    intro l
    induction l with
    |nil=>exact m_ _
    |cons t l ih=>rw[AT.cntL,v_];cases t <;> (rw[AT.cnt];omega)
   have ll:(st.map atV).length+(ts.map atV).length<=16777216:=by
    have:=le st
    have:=le ts
    rw[j_,j_]
    omega
   rw[av] at q2 ⊢
   rw[OI] at q2
   have bb:cR.G [.sh v,.sh (.int (n:Nat)),.ow (.set xs),.ow (.lst (st.map atV++[.tup [.str (wy w),.tup (ts.map atV)]])),s4]=.nx [.sh v,.sh (.int (n:Nat)),.ow (.set xs),.ow (.lst (st.map atV++ts.map atV)),.sh (.tup [.str (wy w),.tup (ts.map atV)])]:=by
    unfold cR
    simp![l6,h4,b1,oZ,ll]
   rw[bb]
   exact q2
def vT{t:AT}{n:Nat}(ho:t.ok=true)(hn:∀k∈t.lvs,k<n)(nd:t.lvs.Nodup)(hl:t.lvs.length=n)(h3:n<=3000)(hc:t.cnt<=100000):fS.G [atV t,.int (n:Nat)]=.ok (.val (.bl true)) []:=by
 have e1:AT.lvsL [t]=t.lvs:=by simp [AT.lvsL]
 have e2:AT.cntL [t]=t.cnt:=by simp [AT.cntL]
 obtain⟨ys,s4',q1,q2⟩:=jH (n:=n) (atV t) (AT.cntL [t]) [t] [] .no (m_ _) rfl (λu hu=>by rw[OK] at hu;rw[hu];exact ho) (by rw[e1];exact hn) (by rw[e1];exact nd) (λk hk z=>nomatch z) (by rw[e1,hl];simp;exact h3) (by rw[e2];exact hc)
 rw[e1,hl,OE,Nat.zero_add] at q1
 rw[o_,OJ] at q2
 unfold fS
 rw[aJ]
 unfold oR
 generalize atV t=tv at *
 simp![HI,q2,KY,q1,Qg]
def pR{t:AT}{n:Nat}(ho:t.ok=true)(hn:∀k∈t.lvs,k<n)(nd:t.lvs.Nodup)(hl:t.lvs.length=n)(h3:n<=3000)(hc:t.cnt<=100000):dB.G [atV t,.int (n:Nat)]=.ok (.val .non) []:=by
 have e:=vT ho hn nd hl h3 hc
 unfold dB
 rw[aJ]
 unfold jR
 generalize atV t=tv at *
 simp![e]
def gB(a:Int):(if a<0 then -a else a)=((a.natAbs:Nat):Int):=by split <;> omega
theorem sv:∀(n one bn:Nat),bn<=n->(xWh (qOf (pOp bNe (af 1) (ah 0))) cJ).G [.sh (.int (one:Nat)),.sh (.int (bn:Nat))]=.nx [.sh (.int (Nat.gcd one bn:Nat)),.sh (.int 0)]
 |
  n,one,0,_=>by
  rw[jd]
  simp![iY]
  rw[Nat.gcd_zero_right]
  try rfl
 |0,one,bn+1,hl=>absurd hl (by omega)
 |
  n+1,one,bn+1,hl=>by
  rw[jd]
  have e:((((bn+1:Nat):Int)==0))=false:=by rw[H_];omega
  have e1:b9.G (.int (one:Nat)) (.int ((bn+1:Nat):Int))=.val (.int (((one:Nat):Int).fmod ((bn+1:Nat):Int))):=eY (by omega)
  have e2:((one:Nat):Int).fmod ((bn+1:Nat):Int)=((one % (bn+1):Nat):Int):=by
   rw[Int.fmod_eq_emod_of_nonneg _ (by omega)];rfl
  have ih:=sv n (bn+1) (one % (bn+1)) (by have:=Nat.mod_lt one (show bn+1>0 by omega);omega)
  rw[Fr.euc] at ih
  rw[e2] at e1
  have bb:cJ.G [.sh (.int (one:Nat)),.sh (.int ((bn+1:Nat):Int))]=.nx [.sh (.int ((bn+1:Nat):Int)),.sh (.int ((one % (bn+1):Nat):Int))]:=by
   unfold cJ
   simp![e1]
  simp![e,bb,ih]
def cI(a b:Int):bE.G [.int a,.int b]=.ok (.val (.int (Int.gcd a b:Nat))) []:=by
 unfold bE
 rw[aJ]
 unfold gD
 have:=sv b.natAbs a.natAbs b.natAbs (m_ _)
 simp![gB,this]
 rfl
def d8{a b:Int}(hb:b≠0)(hs:Sm 8000 b):bX.G [.int a,.int b]=.ok (.val (fV ((a:Rat)/(b:Rat)))) []:=by
 unfold bX
 rw[aJ]
 unfold mE
 have e:(b==0)=false:=by rw[H_];exact hb
 have c:∀x,CDivB x (Fr.dv a b):=λx=>CDivB.of (Fr.dv_ne hb) (hs.of_le (by
  rw[Fr.dv_abs]
  exact Nat.le_of_dvd (by omega) (Nat.gcd_dvd_right a.natAbs b.natAbs)))
 have k1:=kj (c a)
 have k2:=kj (c b)
 have hh:=mP (a:=a) hb
 have gl:Val.tup [.int (a.fdiv (Fr.dv a b)),.int (b.fdiv (Fr.dv a b))]=fV ((a:Rat)/(b:Rat)):=by
  unfold fV
  rw[<- hh.1,<- hh.2]
  rfl
 by_cases hn:b<0
 ·have hd:Fr.dv a b=-((Int.gcd a b:Nat):Int):=by unfold Fr.dv;rw[if_pos hn]
  rw[hd] at k1 k2 gl
  simp![e,cI,G_ hn,k1,k2,gl]
 ·have hd:Fr.dv a b=((Int.gcd a b:Nat):Int):=by unfold Fr.dv;rw[if_neg hn]
  rw[hd] at k1 k2 gl
  simp![e,cI,u_ hn,k1,k2,gl]
def kT{p q:Rat}{n m:Nat}(hp:Sz n p)(hq:Sz m q)(h:n+m<=8000):fF.G [fV p,fV q]=.ok (.val (fV (p+q))) []:=by
 have c1:=bW (CMulA.of hp.top hq.bot (by omega) (by omega))
 have c2:=bW (CMulA.of hq.top hp.bot (by omega) (by omega))
 have c3:=bW (CMulA.of hp.bot hq.bot (by omega) (by omega))
 have fe:=d8 (a:=p.num*q.den+q.num*p.den) (b:=p.den*q.den) (Qp (cV p) (cV q)) ((hp.bot.mul hq.bot).mono h)
 rw[<- nM] at fe
 unfold fF
 rw[aJ]
 unfold uY
 rw[show fV p=.tup [.int p.num,.int p.den] from rfl,show fV q=.tup [.int q.num,.int q.den] from rfl]
 simp![c1,c2,c3,fe]
def jx{p q:Rat}{n m:Nat}(hp:Sz n p)(hq:Sz m q)(h:n+m<=8000):eP.G [fV p,fV q]=.ok (.val (fV (p*q))) []:=by
 have c1:=bW (CMulA.of hp.top hq.top (by omega) (by omega))
 have c2:=bW (CMulA.of hp.bot hq.bot (by omega) (by omega))
 have fe:=d8 (a:=p.num*q.num) (b:=p.den*q.den) (Qp (cV p) (cV q)) ((hp.bot.mul hq.bot).mono h)
 rw[<- uM] at fe
 unfold eP
 rw[aJ]
 unfold uS
 rw[show fV p=.tup [.int p.num,.int p.den] from rfl,show fV q=.tup [.int q.num,.int q.den] from rfl]
 simp![c1,c2,fe]
def cC{p q:Rat}{n m:Nat}(hp:Sz n p)(hq:Sz m q)(h1:n<=100000)(h2:m<=100000):bD.G [fV p,fV q]=.ok (.val (.bl (decide (p<q)))) []:=by
 have c1:=bW (CMulA.of hp.top hq.bot h1 h2)
 have c2:=bW (CMulA.of hq.top hp.bot h2 h1)
 unfold bD
 rw[aJ]
 unfold oT
 rw[show fV p=.tup [.int p.num,.int p.den] from rfl,show fV q=.tup [.int q.num,.int q.den] from rfl]
 simp![c1,c2]
 rw[show decide (p.num*(q.den:Int)<q.num*(p.den:Int))=decide (p<q) from decide_eq_decide.mpr (Iv p q).symm]
def kr{v:Val}(hk:knV v=true):(aQ ba).G [v,.ty "tuple"]=.val (.bl (eX v)):=by
 cases v <;> first |rfl |cases hk
def iq{v:Val}(hk:knV v=true):bG.G [v]=.ok (.val (.bl (je v))) []:=by
 unfold bG
 rw[aJ]
 unfold i9
 cases v <;> first |rfl |cases hk
def sE(v:Val):eX v=false\/∃xs,v=.tup xs:=by
 cases v <;> first |exact .inr ⟨_,rfl⟩ |exact .inl rfl
def lA(v:Val):je v=false\/∃i,v=.int i:=by
 cases v <;> first |exact .inr ⟨_,rfl⟩ |exact .inl rfl
def NZ{v:Val}(h:eX v=false):aP v=false:=by
 cases v <;> first |rfl |cases h
def Ms{v:Val}(h:eX v=false):dO v=false:=by
 cases v <;> first |rfl |cases h
def Kc{a b:Val}(h:je a=false):aP (.tup [a,b])=false:=by
 cases a <;> first |rfl |cases h
def K0{i:Int}{b:Val}(h:je b=false):aP (.tup [.int i,b])=false:=by
 cases b <;> first |rfl |cases h
def Ou{xs:List Val}(hl:xs.length≠2):aP (.tup xs)=false:=by
 unfold aP
 split
 ·rename_i e;injection e with e;subst e;exact absurd rfl hl
 ·rfl
def NH{xs:List Val}(hl:xs.length≠4):dO (.tup xs)=false:=by
 unfold dO
 split
 ·rename_i e;injection e with e;subst e;exact absurd rfl hl
 ·rfl
def Dm{k:Nat}{v:Val}(ha:gO k v=true)(h:eX v=false):knV v=true:=by
 cases v with
 |tup xs=>cases h
 |_=>cases k <;> exact ha
def nN{v:Val}(ha:gO 1 v=true):cB.G [v]=.ok (.val (.bl (aP v))) []:=by
 unfold cB
 rw[aJ]
 unfold jz
 rcases sE v with ht |⟨xs,rfl⟩
 ·have it:=kr (Dm ha ht)
  rw[ht] at it
  simp![it,NZ ht]
 have it:=kr (v:=.tup xs) rfl
 by_cases hl:xs.length=2
 ·match xs,hl,ha with
  |
   [a,b],_,ha=>
   have ha':(knV a&&(knV b&&true))=true:=by simpa [gO] using ha
   simp only[r_] at ha'
   have w1:=iq ha'.1
   have w2:=iq ha'.2.1
   rcases lA a with h1 |⟨i,rfl⟩
   ·rw[h1] at w1
    simp![it,eX,w1,Kc h1]
   rcases lA b with h2 |⟨j,rfl⟩
   ·rw[h2] at w2
    simp![it,eX,w1,je,w2,K0 h2]
   have f:aP (.tup [.int i,.int j])=(decide (1<=j)&&decide (Int.gcd i j=1)):=rfl
   have g:((((Int.gcd i j:Nat):Int)==1):Bool)=decide (Int.gcd i j=1):=by
    rw[P5,OQ,PN];omega
   by_cases hj:1<=j
   ·simp![it,eX,w1,w2,je,cI,G_ hj,f,g]
   ·simp![it,eX,w1,w2,je,cI,u_ hj,f,g]
 ·have e:(((xs.length:Nat):Int)==2)=false:=by rw[H_];omega
  simp![it,eX,e,Ou hl]
def jM{v:Val}(ha:gO 2 v=true):fK.G [v]=.ok (.val (.bl (dO v))) []:=by
 unfold fK
 rw[aJ]
 unfold qN
 rcases sE v with ht |⟨xs,rfl⟩
 ·have it:=kr (Dm ha ht)
  rw[ht] at it
  simp![it,Ms ht]
 have it:=kr (v:=.tup xs) rfl
 by_cases hl:xs.length=4
 ·match
   xs,hl,ha with
  |
   [a,b,c,d],_,ha=>
   have e1:dO (.tup [a,b,c,d])=(aP a&&(aP b&&(aP c&&(aP d&&(i0 c&&i0 d))))):=rfl
   have bl4:∀x y z w:Bool,jP [.bl x,.bl y,.bl z,.bl w]=some [x,y,z,w]:=λ_ _ _ _=>rfl
   obtain⟨e',⟨s',rfl,_⟩,lc⟩:=oE (g:=(gtN 0).G) (F:=(ak cB (aa (af 0) ag)).G) (f:=λv=>.bl (aP v)) (λe=>∃s,e=[s]/\s.pl=true) [a,b,c,d] [] [.no] ⟨.no,rfl,rfl⟩ (by
    rintro v hv e ⟨s,rfl,hs⟩
    have hv':gO 1 v=true:=OF.mp (by simpa [gO] using ha) v hv
    refine⟨[.sh v],.val (.bl (aP v)),[.sh v],?_,?_,rfl,⟨_,rfl,rfl⟩⟩
    ·simp![hs]
    ·simp![nN hv']) (by simp)
   have cy:cY=qY.G:=rfl
   rw[cy,OP] at lc
   simp only[o_,OJ] at lc
   cases hA:(aP a&&(aP b&&(aP c&&aP d))) with
   |
    true=>
    simp only[r_] at hA
    obtain⟨p,rfl⟩:=zH hA.2.2.1
    obtain⟨q,rfl⟩:=zH hA.2.2.2
    rw[hA.1,hA.2.1,hA.2.2.1,hA.2.2.2] at e1 lc
    have e2:dO (.tup [a,b,fV p,fV q])=(decide (0<p.num)&&decide (0<q.num)):=by rw[e1];rfl
    rw[e2]
    have i1:(fV p).items=some [.int p.num,.int p.den]:=rfl
    have i2:(fV q).items=some [.int q.num,.int q.den]:=rfl
    by_cases hp:0<p.num
    ·simp![it,eX,lc,b8,bl4,id,i1,i2,G_ hp]
    ·simp![it,eX,lc,b8,bl4,id,i1,u_ hp]
   |
    false=>
    have e2:dO (.tup [a,b,c,d])=false:=by
     rw[e1]
     revert hA
     generalize aP a=a',aP b=b',aP c=c',aP d=d',(i0 c&&i0 d)=z
     revert a' b' c' d' z
     decide
    rw[e2]
    simp![it,eX,lc,b8,bl4,id,hA]
 ·have e:(((xs.length:Nat):Int)==4)=false:=by rw[H_];omega
  simp![it,eX,e,NH hl]
def tw{v:Val}(ha:gO 2 v=true):br.G [v]=if dO v=true then .ok (.val .non) [] else .exc "NoBox" []:=by
 unfold br
 rw[aJ]
 unfold kB
 cases h:dO v with
 |true=>simp![jM ha,h]
 |false=>simp![jM ha,h]
def ff{b:Bx}(hb:b.Ok):br.G [bV b]=.ok (.val .non) []:=by rw[tw (ym b),tP hb];rfl
def NO{v:Val}(h:je v=false):gX v=false:=by
 cases v <;> first |rfl |cases h
def zZ(v:Val):jt v=false\/∃xs,v=.lst xs:=by
 cases v <;> first |exact .inr ⟨_,rfl⟩ |exact .inl rfl
def rB{v:Val}(hk:knV v=true):de.G [v]=.ok (.val (.bl (gX v))) []:=by
 have w:=iq hk
 unfold de
 rw[aJ]
 unfold kH
 rcases lA v with h |⟨i,rfl⟩
 ·rw[h] at w
  simp![w,NO h]
 ·simp![w,je];rfl
def uP{v:Val}(hk:knV v=true):(aQ ba).G [v,.ty "list"]=.val (.bl (jt v)):=by
 cases v <;> first |rfl |cases hk
noncomputable def vL(v:Val):R3F:=match v with
 |.lst xs=>if xs=[] then .exc "NoWeights" [] else if xs.all gX=true then (if xs.length<=40 then .ok (.val .non) [] else .exc "TooMany" []) else .exc "NoWeights" []
 |_=>.exc "NoWeights" []
def Gy{v:Val}(h:jt v=false):vL v=.exc "NoWeights" []:=by
 cases v <;> first |rfl |cases h
def qX:Val->Bool
 |.lst xs=>decide (xs.length<=1000)&&xs.all knV
 |v=>knV v
def E6{v:Val}(h:qX v=true)(hl:jt v=false):knV v=true:=by cases v <;> first |(cases hl;done) |exact h
theorem jh(f:Val->Bool):∀xs:List Val,jP (xs.map λv=>.bl (f v))=some (xs.map f)
 | []=>rfl
 |x::xs=>by show (jP (xs.map λv=>.bl (f v))).map (f x :: ·)=_;rw[jh f xs];rfl
def jf(f:Val->Bool)(xs:List Val):(xs.map f).all id=xs.all f:=by rw[List.all_map];rfl
def kZ{v:Val}(ha:qX v=true):a9.G [v]=vL v:=by
 unfold a9
 rw[aJ]
 unfold ic
 rcases zZ v with hv |⟨xs,rfl⟩
 ·have il:=uP (E6 ha hv)
  rw[hv] at il
  rw[Gy hv]
  simp![il]
 ·have ha':xs.length<=1000/\xs.all knV=true:=by simpa [qX] using ha
  have il:=uP (v:=.lst xs) rfl
  unfold vL
  dsimp only
  by_cases h0:xs=[]
  ·subst h0
   simp![il]
  ·have e0:(((xs.length:Nat):Int)==0)=false:=by
    rw[H_]
    intro z
    exact h0 (P2.mp (by omega))
   rw[if_neg h0]
   obtain⟨e',p',lc⟩:=oE (g:=(gtN 0).G) (F:=(ak de (aa (af 0) ag)).G) (f:=λv=>.bl (gX v)) (λe=>∃s,e=[s]/\s.pl=true) xs [] [.no] ⟨.no,rfl,rfl⟩ (by
    rintro v hv e ⟨s,rfl,hs⟩
    refine⟨[.sh v],.val (.bl (gX v)),[.sh v],?_,?_,rfl,⟨_,rfl,rfl⟩⟩
    ·simp![hs]
    ·simp![rB (OF.mp ha'.2 v hv)]) (by simp;omega)
   obtain⟨s',rfl,_⟩:=p'
   have cy:cY=qY.G:=rfl
   rw[cy,OP] at lc
   have bd:(xs.map λv=>Val.bl (gX v)).length<=16777216:=by rw[j_];omega
   by_cases hw:xs.all gX=true
   ·rw[if_pos hw]
    by_cases h40:xs.length<=40
    ·have hd:decide ((40:Int)<((xs.length:Nat):Int))=false:=u_ (by omega)
     rw[if_pos h40]
     simp![il,e0,b8,lc,bd,jh,jf,hw,hd]
    ·have hd:decide ((40:Int)<((xs.length:Nat):Int))=true:=G_ (by omega)
     rw[if_neg h40]
     simp![il,e0,b8,lc,bd,jh,jf,hw,hd]
   ·have hw':xs.all gX=false:=Bool.eq_false_iff.mpr hw
    rw[if_neg hw]
    simp![il,e0,b8,lc,bd,jh,jf,hw']
def sJ{ws:List Int}(h0:ws≠[])(h1:∀w∈ws,1<=w)(h2:ws.length<=40):a9.G [.lst (ws.map .int)]=.ok (.val .non) []:=by
 have ha:qX (.lst (ws.map .int))=true:=by
  simp only[qX,r_,PN,j_]
  exact⟨by omega,by rw[OF];intro v hv;obtain⟨w,_,rfl⟩:=K_.mp hv;rfl⟩
 rw[kZ ha]
 unfold vL
 dsimp only
 rw[if_neg (by intro z;exact h0 (List.map_eq_nil_iff.mp z)),if_pos (by
  rw[OF];intro v hv
  obtain⟨w,hw,rfl⟩:=K_.mp hv
  exact G_ (h1 w hw)),if_pos (by rw[j_];exact h2)]
def IX:bz (.str "down") (.str "across")=some false:=by rw[L3.eq_str (by decide) (by decide)];exact Pg some (by decide)
def HA:bz (.str "across") (.str "across")=some true:=by rw[L3.eq_str (by decide) (by decide)];exact Pg some (by decide)
def prV(p:Rat×Rat):Val:=.tup [fV p.1,fV p.2]
theorem u4{s l:Rat}{n m:Nat}{W:Int}{wv:Val}(hs:Sz n s)(hl:Sz n l)(hW:0<W)(mW:Sm m W)(h:n+n+m<=8000):∀(ws:List Int) (a:Int) (acc:List (Rat×Rat)) (s6 s7:Sl),s6.pl=true->s7.pl=true->0<=a->(∀w∈ws,0<=w)->a+ws.sum<=W->acc.length+ws.length<=16777216->∃s6' s7',cq (gtN 6).G gY.G (ws.map .int) [.sh (fV s),.sh (fV l),.sh wv,.sh (.int W),.sh (.int a),.ow (.lst (acc.map prV)),s6,s7]=.nx [.sh (fV s),.sh (fV l),.sh wv,.sh (.int W),.sh (.int (a+ws.sum)),.ow (.lst ((acc++shL s l W a ws).map prV)),s6',s7']
 | [],a,acc,s6,s7,h6,h7,ha,hw,hsum,bd=>⟨s6,s7,by rw[OJ,nB,List.sum_nil,Int.add_zero];unfold shL;rw[OS]⟩
 |
  w::ws,a,acc,s6,s7,h6,h7,ha,hw,hsum,bd=>by
  have hw0:=hw w (n_ ..)
  have hws:0<=ws.sum:=by
   have:∀l:List Int,(∀w∈l,0<=w)->0<=l.sum:=by
    intro l
    induction l with
    |nil=>intro _;simp
    |cons x l ih=>intro hx;rw[N_];have:=hx x (n_ ..);have:=ih λw hw=>hx w (l_ _ hw);omega
   exact this ws λx hx=>hw x (l_ _ hx)
  rw[N_] at hsum
  rw[v_] at bd
  have sa:Sm m a:=mW.of_le (by omega)
  have sw:Sm m w:=mW.of_le (by omega)
  have f1:=d8 (a:=a) (b:=W) (by omega) (mW.mono (by omega))
  have f2:=d8 (a:=w) (b:=W) (by omega) (mW.mono (by omega))
  have z1:Sz m ((a:Rat)/(W:Rat)):=Sz.div (by omega) sa mW m (m_ _) (m_ _)
  have z2:Sz m ((w:Rat)/(W:Rat)):=Sz.div (by omega) sw mW m (m_ _) (m_ _)
  have t1:=jx hl z1 (by omega)
  have t2:=jx hl z2 (by omega)
  have ad:=kT hs (hl.mul z1) (by omega)
  have ll:(acc.map prV).length<16777216:=by rw[j_];omega
  obtain⟨t6,t7,ih⟩:=u4 (wv:=wv) hs hl hW mW h ws (a+w) (acc++[(s+l*((a:Rat)/(W:Rat)),l*((w:Rat)/(W:Rat)))]) (.sh (.int w)) (.sh (fV (s+l*((a:Rat)/(W:Rat))))) rfl rfl (by omega) (λx hx=>hw x (l_ _ hx)) (by omega) (by simp;omega)
  refine⟨t6,t7,?_⟩
  have g1:(gtN 6).G (.int w) [.sh (fV s),.sh (fV l),.sh wv,.sh (.int W),.sh (.int a),.ow (.lst (acc.map prV)),s6,s7]=some [.sh (fV s),.sh (fV l),.sh wv,.sh (.int W),.sh (.int a),.ow (.lst (acc.map prV)),.sh (.int w),s7]:=by
   simp![h6]
  have b1:gY.G [.sh (fV s),.sh (fV l),.sh wv,.sh (.int W),.sh (.int a),.ow (.lst (acc.map prV)),.sh (.int w),s7]=.nx [.sh (fV s),.sh (fV l),.sh wv,.sh (.int W),.sh (.int (a+w)),.ow (.lst ((acc++[(s+l*((a:Rat)/(W:Rat)),l*((w:Rat)/(W:Rat)))]).map prV)),.sh (.int w),.sh (fV (s+l*((a:Rat)/(W:Rat))))]:=by
   unfold gY
   rw[OI]
   simp![h7,f1,f2,t1,t2,ad,ll,prV]
  rw[o_,cU,g1]
  simp only[b1,mQ]
  rw[ih,N_]
  rw[show shL s l W a (w::ws)=(s+l*((a:Rat)/(W:Rat)),l*((w:Rat)/(W:Rat)))::shL s l W (a+w) ws from rfl,O3,show a+w+ws.sum=a+(w+ws.sum) by omega]
  rfl
def oM{s l:Rat}{n m:Nat}{ws:List Int}(hs:Sz n s)(hl:Sz n l)(hw:∀w∈ws,0<=w)(h0:0<ws.sum)(mW:Sm m ws.sum)(h:n+n+m<=8000)(bd:ws.length<=1000):fE.G [fV s,fV l,.lst (ws.map .int)]=.ok (.new (.lst ((shL s l ws.sum 0 ws).map prV))) []:=by
 obtain⟨s6,s7,lo⟩:=u4 (wv:=.lst (ws.map .int)) hs hl h0 mW h ws 0 [] .no .no rfl rfl (by omega) hw (by omega) (by simp;omega)
 rw[OP,OJ] at lo
 unfold fE
 rw[aJ]
 unfold sR
 simp![lo]
def K1{way:Str}(hw:way="across" \/ way="down"):dZ.G [.str way]=.ok (.val .non) []:=by
 have i1:∀x:Str,(aQ ba).G [.str x,.ty "str"]=.val (.bl true):=λ_=>rfl
 have i2:bIn.G (.str way) (.tup [.str "across",.str "down"])=.val (.bl true):=by
  rcases hw with rfl |rfl <;> rfl
 have e1:dG.G [.str way]=.ok (.val (.bl true)) []:=by
  unfold dG
  rw[aJ]
  unfold lq
  simp![i1,i2]
 unfold dZ
 rw[aJ]
 unfold kD
 simp![e1]
def x8{b:Bx}{n m:Nat}{way:Str}{ws:List Int}(hb:b.Ok)(hs:b.Sz n)(hway:way="across" \/ way="down")(h0:ws≠[])(hw:∀w∈ws,1<=w)(mW:Sm m ws.sum)(h:n+n+m<=8000)(bd:ws.length<=40):fh.G [bV b,.str way,.lst (ws.map .int)]=.ok (.new (.lst ((aW b way ws).map bV))) []:=by
 have cw:=sJ h0 hw bd
 have cy:=K1 hway
 have sp:0<ws.sum:=by
  cases ws with
  |nil=>exact absurd rfl h0
  |
   cons x l=>
   rw[N_]
   have:=hw x (n_ ..)
   have:∀l:List Int,(∀w∈l,1<=w)->0<=l.sum:=by
    intro l
    induction l with
    |nil=>intro _;simp
    |cons x l ih=>intro hx;rw[N_];have:=hx x (n_ ..);have:=ih λw hw=>hx w (l_ _ hw);omega
   have:=this l λx hx=>hw x (l_ _ hx)
   omega
 have cb:br.G [.tup [fV b.l,fV b.t,fV b.w,fV b.h]]=.ok (.val .non) []:=ff hb
 have sh1:=oM hs.l hs.w (λw z=>by have:=hw w z;omega) sp mW h (by omega)
 have sh2:=oM hs.t hs.h (λw z=>by have:=hw w z;omega) sp mW h (by omega)
 show fh.G [.tup [fV b.l,fV b.t,fV b.w,fV b.h],.str way,.lst (ws.map .int)]=_
 unfold fh aW
 rw[aJ]
 unfold qJ
 rcases hway with rfl |rfl
 ·rw[if_pos (rfl:("across" : Str)="across")]
  have ln:=iM b.l b.w ws.sum ws 0
  obtain⟨e',⟨s,t,rfl,_,_⟩,lc⟩:=eB (g:=(gtT 2 (ax (gtN 0) (ax (gtN 1) bu))).G) (F:=(a0 (aa (af 0) (aa (af 2) (aa (af 1) (aa (af 3) ag))))).G) prV (λp=>bV ⟨p.1,b.t,p.2,b.h⟩) (λe=>∃s t,e=[s,t,.sh (fV b.t),.sh (fV b.h)]/\s.pl=true/\t.pl=true) (shL b.l b.w ws.sum 0 ws) [] [.no,.no,.sh (fV b.t),.sh (fV b.h)] ⟨.no,.no,rfl,rfl,rfl⟩ (by
   rintro p hp e ⟨s,t,rfl,hs,ht⟩
   refine⟨[.sh (fV p.1),.sh (fV p.2),.sh (fV b.t),.sh (fV b.h)],.val (bV ⟨p.1,b.t,p.2,b.h⟩),[.sh (fV p.1),.sh (fV p.2),.sh (fV b.t),.sh (fV b.h)],?_,?_,rfl,⟨_,_,rfl,rfl,rfl⟩⟩
   ·simp![prV,hs,ht]
   ·simp![bV]) (by rw[ln,OE];omega)
  rw[OP] at lc
  have ll:((shL b.l b.w ws.sum 0 ws).map λp=>bV ⟨p.1,b.t,p.2,b.h⟩).length<=16777216:=by rw[j_,ln];omega
  rw[O0,show (bV ∘ λp:Rat×Rat=>(⟨p.1,b.t,p.2,b.h⟩:Bx))=λp=>bV ⟨p.1,b.t,p.2,b.h⟩ from rfl]
  simp![cb,cy,cw,HA,sh1,lc,ll]
 ·have hne:¬ (("down" : Str)="across"):=by decide
  rw[if_neg hne]
  have ln:=iM b.t b.h ws.sum ws 0
  obtain⟨e',⟨s,t,rfl,_,_⟩,lc⟩:=eB (g:=(gtT 2 (ax (gtN 0) (ax (gtN 1) bu))).G) (F:=(a0 (aa (af 2) (aa (af 0) (aa (af 3) (aa (af 1) ag))))).G) prV (λp=>bV ⟨b.l,p.1,b.w,p.2⟩) (λe=>∃s t,e=[s,t,.sh (fV b.l),.sh (fV b.w)]/\s.pl=true/\t.pl=true) (shL b.t b.h ws.sum 0 ws) [] [.no,.no,.sh (fV b.l),.sh (fV b.w)] ⟨.no,.no,rfl,rfl,rfl⟩ (by
   rintro p hp e ⟨s,t,rfl,hs,ht⟩
   refine⟨[.sh (fV p.1),.sh (fV p.2),.sh (fV b.l),.sh (fV b.w)],.val (bV ⟨b.l,p.1,b.w,p.2⟩),[.sh (fV p.1),.sh (fV p.2),.sh (fV b.l),.sh (fV b.w)],?_,?_,rfl,⟨_,_,rfl,rfl,rfl⟩⟩
   ·simp![prV,hs,ht]
   ·simp![bV]) (by rw[ln,OE];omega)
  rw[OP] at lc
  have ll:((shL b.t b.h ws.sum 0 ws).map λp=>bV ⟨b.l,p.1,b.w,p.2⟩).length<=16777216:=by rw[j_,ln];omega
  rw[O0,show (bV ∘ λp:Rat×Rat=>(⟨b.l,p.1,b.w,p.2⟩:Bx))=λp=>bV ⟨b.l,p.1,b.w,p.2⟩ from rfl]
  simp![cb,cy,cw,IX,sh2,lc,ll]
theorem ip{f:Nat->Val}(v:Val):∀(N:Nat) (st:List AT) (acc:List Nat) (s3:Sl),AT.cntL st<=N->s3.pl=true->(∀k∈AT.lvsL st,lfV (f k)=true)->acc.length+AT.cntL st<=100000->
 ∃(l:List Nat) (s3':Sl),l.Perm (AT.lvsL st)/\(xWh (qTr (af 2)) ck).G [.sh v,.ow (.lst (acc.map f)),.ow (.lst (st.map (AT.val f))),s3]=.nx [.sh v,.ow (.lst ((acc++l).map f)),.ow (.lst []),s3']
 |
  N,[],acc,s3,_,_,_,_=>⟨[],s3,.nil,by
  rw[jd,OS]
  simp![OJ,jU,List.isEmpty_nil]⟩
 |
  0,t::ts,acc,s3,h,_,_,_=>by
  rw[AT.cntL] at h
  cases t <;> (rw[AT.cnt] at h;omega)
 |
  N+1,t0::ts0,acc,s3,hN,h3,hf,hl=>by
  obtain⟨st,t,hst⟩:∃st t,t0::ts0=st++[t]:=⟨(t0::ts0).dropLast,(t0::ts0).getLast (by simp),(List.dropLast_concat_getLast (by simp)).symm⟩
  rw[hst] at hN hf hl ⊢
  rw[AT.lvsL_app] at hf
  rw[AT.lvsL_app]
  rw[AT.cntL_app] at hN hl
  have hn0:((st++[t]).map (AT.val f)).isEmpty=false:=by cases st <;> rfl
  have c1:(qTr (af 2)).G [.sh v,.ow (.lst (acc.map f)),.ow (.lst ((st++[t]).map (AT.val f))),s3]=.ok true [.sh v,.ow (.lst (acc.map f)),.ow (.lst ((st++[t]).map (AT.val f))),s3]:=by
   simp![jU,hn0,Bool.not_false]
  rw[jd,c1]
  show ∃l s3',_/\((ck.G _).loop _)=_
  rw[OI,o_,OJ]
  cases t with
  |
   lf k=>
   simp only[AT.lvsL,AT.lvs,OS,AT.cntL,AT.cnt] at hf hN hl ⊢
   obtain⟨l,s3',q1,q2⟩:=ip (f:=f) v N st (acc++[k]) (.sh (f k)) (by omega) rfl (λj hj=>hf j (by simp [hj])) (by rw[p_];simp only[v_,OE];omega)
   refine⟨k::l,s3',((q1.cons k).trans (List.perm_append_comm (l₁:=[k]) (l₂:=AT.lvsL st))),?_⟩
   have i1:(aQ ba).G [f k,.ty "tuple"]=.val (.bl false):=by
    have:=hf k (by simp)
    generalize f k=a at *
    cases a <;> first |rfl |(cases this;done)
   have al:(acc.map f).length<16777216:=by rw[j_];omega
   have bb:ck.G [.sh v,.ow (.lst (acc.map f)),.ow (.lst (st.map (AT.val f)++[AT.val f (.lf k)])),s3]=.nx [.sh v,.ow (.lst ((acc++[k]).map f)),.ow (.lst (st.map (AT.val f))),.sh (f k)]:=by
    unfold ck
    rw[AT.val,OI,o_,OJ]
    generalize f k=a at *
    simp![l6,h3,i1,al]
   rw[bb,show acc++k::l=acc++[k]++l by simp]
   exact q2
  |
   nd w ts=>
   simp only[AT.lvsL,AT.lvs,OS,AT.cntL,AT.cnt] at hf hN hl ⊢
   obtain⟨l,s3',q1,q2⟩:=ip (f:=f) v N (st++ts) acc (.sh (AT.val f (.nd w ts))) (by rw[AT.cntL_app];omega) rfl (by rw[AT.lvsL_app];exact hf) (by rw[AT.cntL_app];omega)
   rw[AT.lvsL_app] at q1
   refine⟨l,s3',q1,?_⟩
   have i1:∀xs:List Val,(aQ ba).G [.tup xs,.ty "tuple"]=.val (.bl true):=λ_=>rfl
   have le:∀l:List AT,l.length<=AT.cntL l:=by
    intro l
    induction l with
    |nil=>exact m_ _
    |cons t l ih=>rw[AT.cntL,v_];cases t <;> (rw[AT.cnt];omega)
   have ll:(st.map (AT.val f)).length+(ts.map (AT.val f)).length<=16777216:=by
    have:=le st
    have:=le ts
    rw[j_,j_]
    omega
   rw[AT.val,AT.vals_map] at q2 ⊢
   rw[OI] at q2
   have bb:ck.G [.sh v,.ow (.lst (acc.map f)),.ow (.lst (st.map (AT.val f)++[.tup [.str (wy w),.tup (ts.map (AT.val f))]])),s3]=.nx [.sh v,.ow (.lst (acc.map f)),.ow (.lst (st.map (AT.val f)++ts.map (AT.val f))),.sh (.tup [.str (wy w),.tup (ts.map (AT.val f))])]:=by
    unfold ck
    simp![l6,h3,i1,cK,oZ,ll]
   rw[bb]
   exact q2
def yM{f:Nat->Val}{t:AT}(hf:∀k∈t.lvs,lfV (f k)=true)(hc:t.cnt<=100000):∃l:List Nat,l.Perm t.lvs/\cZ.G [t.val f]=.ok (.new (.lst (l.map f))) []:=by
 have e1:AT.lvsL [t]=t.lvs:=by simp [AT.lvsL]
 have e2:AT.cntL [t]=t.cnt:=by simp [AT.cntL]
 obtain⟨l,s3',q1,q2⟩:=ip (f:=f) (t.val f) (AT.cntL [t]) [t] [] .no (m_ _) rfl (by rw[e1];exact hf) (by rw[e2,OE];omega)
 rw[e1] at q1
 refine⟨l,q1,?_⟩
 rw[o_,OJ,OJ,OP] at q2
 unfold cZ
 rw[aJ]
 unfold kJ
 generalize t.val f=tv at *
 simp![q2]
def Iu{ws:List Int}{l:List Nat}(hl:l.length<=1000)(hi:∀k∈l,k<ws.length):∃s,lcV (gtN 0).G qY.G (pOp bIx (af 1) (af 0)).G (l.map λk:Nat=>.int k) [] [.no,.sh (liV ws)]=.ok ((l.map λk=>ws.getD k 0).map .int) [s,.sh (liV ws)]:=by
 obtain⟨e',⟨s,rfl,_⟩,lc⟩:=eB (g:=(gtN 0).G) (F:=(pOp bIx (af 1) (af 0)).G) (λk:Nat=>Val.int k) (λk:Nat=>Val.int (ws.getD k 0)) (λe=>∃s:Sl,e=[s,.sh (liV ws)]/\s.pl=true) l [] [.no,.sh (liV ws)] ⟨.no,rfl,rfl⟩ (by
  rintro k hk _ ⟨s,rfl,hs⟩
  have h1:=hi k hk
  have a1:atI (ws.map Val.int) (k:Nat)=some (.int (ws.getD k 0)):=dM (by omega) (by
   rw[z_]
   show (ws[k]?).map _=_
   rw[OT,A_ h1]
   rfl)
  refine⟨[.sh (.int (k:Nat)),.sh (liV ws)],.val (.int (ws.getD k 0)),[.sh (.int (k:Nat)),.sh (liV ws)],?_,?_,rfl,_,rfl,rfl⟩
  ·simp![hs]
  ·unfold liV
   simp![a1]) (by rw[OE];omega)
 exact⟨s,by rw[O0];exact lc⟩
def tZ{ws:List Int}{b:Bx}{w:Bool}{ts:List AT}{n m:Nat}(h:AT.lay ws n m (.nd w ts) b)(hnm:n+n+m<=8000)(hi:∀k∈AT.lvsL ts,k<ws.length)(hl:(AT.lvsL ts).length<=1000)(hc:AT.cntL ts<=100000):eZ.G [bV b,liV ws,atV (.nd w ts)]=.ok (.new (.lst ((aW b (wy w) (ts.map (wtT ws))).map bV))) []:=by
 rw[AT.lay] at h
 obtain⟨h1,h2,h3,h4,h5,h6,_⟩:=h
 have ew:wy w="across" \/ wy w="down":=by cases w;exact .inr rfl;exact .inl rfl
 have pe:=x8 h1 h2 ew (ws:=ts.map (wtT ws)) (by simpa using h3) (λx hx=>by obtain⟨t,ht,rfl⟩:=K_.mp hx;exact h5 t ht) h6 hnm (by rw[j_];exact h4)
 have cle:∀t∈ts,t.cnt<=AT.cntL ts:=λt ht=>AT.cnt_le ht
 have lle:∀t∈ts,t.lvs.length<=(AT.lvsL ts).length:=λt ht=>AT.lvs_le ht
 obtain⟨e',⟨s,rfl,_⟩,lc⟩:=eB (g:=(gtN 0).G) (F:=(pFn kq (aa (pLC (bY (ak cZ (aa (af 0) ag))) [none,some 1] (by decide) (gtN 0) qY (pOp bIx (af 1) (af 0))) ag)).G) atV (λt=>Val.int (wtT ws t)) (λe=>∃s:Sl,e=[s,.sh (liV ws)]/\s.pl=true) ts [] [.no,.sh (liV ws)] ⟨.no,rfl,rfl⟩ (by
  rintro t ht _ ⟨s,rfl,hs⟩
  obtain⟨l,lp,e1⟩:=yM (f:=λk=>.int (k:Nat)) (t:=t) (λ_ _=>rfl) (by have:=cle t ht;omega)
  rw[show AT.val (λk=>Val.int (k:Nat)) t=atV t from rfl] at e1
  obtain⟨s',lc⟩:=Iu (ws:=ws) (l:=l) (by rw[lp.length_eq];have:=lle t ht;omega) (λk hk=>hi k (AT.lvsL_mem.mpr ⟨t,ht,lp.mem_iff.mp hk⟩))
  have ll:((l.map λk=>ws.getD k 0).map Val.int).length<=16777216:=by rw[j_,j_,lp.length_eq];have:=lle t ht;omega
  have sm:(l.map λk=>ws.getD k 0).sum=wtT ws t:=sG lp
  refine⟨[.sh (atV t),.sh (liV ws)],.val (.int (wtT ws t)),[.sh (atV t),.sh (liV ws)],?_,?_,rfl,_,rfl,rfl⟩
  ·generalize atV t=tv at *
   simp![hs]
  ·rw[<- sm]
   generalize atV t=tv at *
   generalize liV ws=wv at *
   generalize (l.map λk:Nat=>Val.int (k:Nat))=LV at *
   simp![e1,b8,inS,lc,ll]) (by rw[OE];omega)
 have av:atV (.nd w ts)=.tup [.str (wy w),.tup (ts.map atV)]:=by
  unfold atV
  rw[AT.val,AT.vals_map]
 have lm:ts.map (λt=>Val.int (wtT ws t))=(ts.map (wtT ws)).map .int:=by rw[O0];rfl
 have l2:((ts.map (wtT ws)).map Val.int).length<=16777216:=by rw[j_,j_];omega
 rw[OP,lm] at lc
 rw[av]
 generalize (aW b (wy w) (ts.map (wtT ws))).map bV=PB at *
 generalize (ts.map (wtT ws)).map Val.int=SV at *
 generalize ts.map atV=TV at *
 generalize liV ws=wv at *
 generalize bV b=bv at *
 unfold eZ
 rw[aJ]
 unfold lT
 simp![b8,inS,lc,l2,pe]
theorem mY{ws:List Int}{n m k:Nat}(rv tv:Val):∀(ts:List AT) (bs:List Bx) (kvs:List (Key×Val)) (s4 s5:Sl),s4.pl=true->s5.pl=true->ts.length=bs.length->(∀(t:AT) (b:Bx) (kvs:List (Key×Val)),t∈ts->AT.lay ws n m t b->kvs.length+t.lvs.length<=100000->(c8 k).G [bV b,liV ws,atV t,.dct kvs]=.ok (.val .non) [.dct (cF kvs (AT.bx ws t b))])->AT.layL ws n m ts bs->kvs.length+(AT.lvsL ts).length<=100000->
 ∃s4' s5',cq (gtX (gtT 2 (ax (gtN 4) (ax (gtN 5) bu)))).G (iW (c8 k)).G (List.zipWith (λx y=>Val.tup [x,y]) (ts.map atV) (bs.map bV)) [.sh rv,.sh (liV ws),.sh tv,.mu (.dct kvs),s4,s5]=.nx [.sh rv,.sh (liV ws),.sh tv,.mu (.dct (cF kvs (AT.bxL ws ts bs))),s4',s5']
 | [],bs,kvs,s4,s5,_,_,_,_,_,_=>⟨s4,s5,by cases bs <;> rfl⟩
 |t::ts,[],kvs,s4,s5,_,_,h,_,_,_=>nomatch h
 |
  t::ts,b::bs,kvs,s4,s5,h4,h5,hl,hp,hy,hk=>by
  rw[AT.layL] at hy
  rw[AT.lvsL,p_] at hk
  have e1:=hp t b kvs (n_ ..) hy.1 (by omega)
  have bd:=rN (AT.bx ws t b) kvs
  have hfst:=(AT.bx_fst ws t b).1
  obtain⟨s4',s5',q⟩:=mY rv tv ts bs (cF kvs (AT.bx ws t b)) (.sh (atV t)) (.sh (bV b)) rfl rfl (by simpa using hl) (λu c kv hu=>hp u c kv (l_ _ hu)) hy.2 (by omega)
  refine⟨s4',s5',?_⟩
  rw[AT.bxL,Aj,o_,o_,List.zipWith_cons_cons,cU]
  generalize cF kvs (AT.bx ws t b)=kvs1 at *
  generalize atV t=av at *
  generalize bV b=bv at *
  generalize liV ws=wv at *
  have g1:(gtX (gtT 2 (ax (gtN 4) (ax (gtN 5) bu)))).G (.tup [av,bv]) [.sh rv,.sh wv,.sh tv,.mu (.dct kvs),s4,s5]=some [.sh rv,.sh wv,.sh tv,.mu (.dct kvs),.sh av,.sh bv]:=by
   simp![h4,h5]
  have b1:(iW (c8 k)).G [.sh rv,.sh wv,.sh tv,.mu (.dct kvs),.sh av,.sh bv]=.nx [.sh rv,.sh wv,.sh tv,.mu (.dct kvs1),.sh av,.sh bv]:=by
   unfold iW
   simp![e1]
  rw[g1]
  dsimp only
  rw[b1]
  exact q
def xp(b:Bx)(way:Str)(ws:List Int):(aW b way ws).length=ws.length:=by
 unfold aW
 split <;> rw[j_,iM]
def B9{ws:List Int}{n m:Nat}(hnm:n+n+m<=8000)(t:AT):∀(k:Nat) (b:Bx) (kvs:List (Key×Val)),t.dep<=k->AT.lay ws n m t b->(∀i∈t.lvs,i<ws.length)->t.lvs.length<=1000->t.cnt<=100000->kvs.length+t.lvs.length<=100000->(c8 k).G [bV b,liV ws,atV t,.dct kvs]=.ok (.val .non) [.dct (cF kvs (AT.bx ws t b))]:=by
 induction t using AT.ind with
 |
  h1 x=>
  intro k b kvs hd _ _ _ _ hk
  cases k with
  |zero=>simp [AT.dep] at hd
  |
   succ k=>
   have i1:(aQ ba).G [.int (x:Nat),.ty "tuple"]=.val (.bl false):=rfl
   have kl:kvs.length<16777216:=by omega
   have av:atV (.lf x)=.int (x:Nat):=rfl
   have pe:cF kvs (AT.bx ws (.lf x) b)=cN kvs (.inl (x:Nat)) (bV b):=by rw[AT.bx];rfl
   show (PFx.of [false,false,false,true] 6 (gw (c8 k))).G [bV b,liV ws,atV (.lf x),.dct kvs]=_
   rw[kd,av,pe]
   unfold gw
   generalize bV b=bv at *
   generalize liV ws=wv at *
   simp![i1,Ha,kl]
 |
  h2 w ts ih=>
  intro k b kvs hd hy hi hl hc hk
  cases k with
  |zero=>simp [AT.dep] at hd
  |
   succ k=>
   rw[AT.dep] at hd
   rw[AT.lvs] at hi hl hk
   rw[AT.cnt] at hc
   have hd':=AT.depL_le.mp (show AT.depL ts<=k by omega)
   have pe:=tZ hy hnm hi hl (by omega)
   have hy':=hy
   rw[AT.lay] at hy'
   obtain⟨s4,s5,lo⟩:=mY (ws:=ws) (n:=n) (m:=m) (k:=k) (bV b) (atV (.nd w ts)) ts (aW b (wy w) (ts.map (wtT ws))) kvs .no .no rfl rfl (by rw[xp,j_]) (λt c kv ht hy2 hk2=>ih t ht k c kv (hd' t ht) hy2 (λi hi2=>hi i (AT.lvsL_mem.mpr ⟨t,ht,hi2⟩)) (by have:=AT.lvs_le ht;omega) (by have:=AT.cnt_le ht;omega) hk2) hy'.2.2.2.2.2.2 hk
   have av:atV (.nd w ts)=.tup [.str (wy w),.tup (ts.map atV)]:=by
    unfold atV
    rw[AT.val,AT.vals_map]
   have bxe:AT.bx ws (.nd w ts) b=AT.bxL ws ts (aW b (wy w) (ts.map (wtT ws))):=by rw[AT.bx]
   show (PFx.of [false,false,false,true] 6 (gw (c8 k))).G [bV b,liV ws,atV (.nd w ts),.dct kvs]=_
   rw[kd,bxe]
   unfold gw
   rw[av] at pe lo ⊢
   have i1:∀xs:List Val,(aQ ba).G [.tup xs,.ty "tuple"]=.val (.bl true):=λ_=>rfl
   generalize cF kvs (AT.bxL ws ts (aW b (wy w) (ts.map (wtT ws))))=kvs1 at *
   generalize (aW b (wy w) (ts.map (wtT ws))).map bV=PB at *
   generalize ts.map atV=TV at *
   generalize bV b=bv at *
   generalize liV ws=wv at *
   simp![i1,cK,pe,lo]
def BG{ws:List Int}{n m:Nat}{b:Bx}{t:AT}(hnm:n+n+m<=8000)(hb:b.Ok)(h0:ws≠[])(hw:∀w∈ws,1<=w)(h40:ws.length<=40)(ho:t.ok=true)(hi:∀k,k∈t.lvs ↔ k<ws.length)(nd:t.lvs.Nodup)(hl:t.lvs.length=ws.length)(hd:t.dep<=42)(hy:AT.lay ws n m t b):eV.G [bV b,liV ws,atV t]=.ok (.new (.lst ((List.range ws.length).map λk=>bV (bxO (AT.bx ws t b) k)))) []:=by
 have hc:=AT.cnt_lvs t ho
 have cb:=ff hb
 have cw:=sJ h0 hw h40
 have ct:=pR (n:=ws.length) ho (λk hk=>(hi k).mp hk) nd hl (by omega) (by omega)
 have pl:=B9 (ws:=ws) hnm t 42 b [] hd hy (λk hk=>(hi k).mp hk) (by omega) (by omega) (by rw[OE];omega)
 have ll:((ws.map Val.int).length:Nat)=ws.length:=j_ ..
 have rg:fZ [.int (ws.length:Nat)]=some (rgV ws.length):=iR (by omega)
 have keys:=AT.bx_keys ws t b
 obtain⟨e',⟨s,rfl,_⟩,lc⟩:=eB (g:=(gtN 0).G) (F:=(pOp xa (af 1) (af 0)).G) (λk:Nat=>Val.int k) (λk:Nat=>bV (bxO (AT.bx ws t b) k)) (λe=>∃s:Sl,e=[s,.mu (.dct (cF [] (AT.bx ws t b)))]/\s.pl=true) (List.range ws.length) [] [.no,.mu (.dct (cF [] (AT.bx ws t b)))] ⟨.no,rfl,rfl⟩ (by
  rintro k hk _ ⟨s,rfl,hs⟩
  rw[Pk] at hk
  have lk:=L6 ((uZ (k:=k) (AT.bx ws t b) [] (by rw[keys];exact nd)).1 (by rw[keys];exact (hi k).mpr hk))
  generalize cF [] (AT.bx ws t b)=kv at *
  generalize bV (bxO (AT.bx ws t b) k)=bv at *
  refine⟨[.sh (.int (k:Nat)),.mu (.dct kv)],.val bv,[.sh (.int (k:Nat)),.mu (.dct kv)],?_,?_,rfl,_,rfl,rfl⟩
  ·simp![hs]
  ·simp![lk]) (by rw[OE,Pq];omega)
 have l2:((List.range ws.length).map λk=>bV (bxO (AT.bx ws t b) k)).length<=16777216:=by simp;omega
 rw[OP] at lc
 rw[show (List.range ws.length).map (λk:Nat=>Val.int k)=rgV ws.length from rfl] at lc
 generalize (List.range ws.length).map (λk=>bV (bxO (AT.bx ws t b) k))=RB at *
 generalize cF [] (AT.bx ws t b)=kv at *
 unfold liV at pl ⊢
 generalize atV t=tv at *
 generalize bV b=bv at *
 unfold eV
 rw[aJ]
 unfold mK
 simp![cb,cw,ll,ct,pl,rg,b8,inS,lc,l2]
def oz{ns:List Int}{k:Int}(hk:0<=k):∃a,cS.G [.kl (ns.map .int),.int k]=.ok (.new (fdV a 0 k)) []:=by
 unfold cS
 rw[aJ]
 unfold mF fdV
 by_cases h0:ns.length=0
 ·have e:((((ns.map Val.int).length:Nat):Int)==0)=true:=by rw[OQ,j_];omega
  exact⟨0,by simp![e]⟩
 ·have e:((((ns.map Val.int).length:Nat):Int)==0)=false:=by rw[H_,j_];omega
  have e1:b9.G (.int k) (.int ((ns.map Val.int).length:Nat))=.val (.int (k.fmod ((ns.map Val.int).length:Nat))):=eY (by rw[j_];omega)
  have r:=dD (a:=k) (m:=((ns.map Val.int).length:Nat)) (by rw[j_];omega)
  rw[j_] at r e1
  have hi:(k.fmod (ns.length:Nat)).toNat<ns.length:=by omega
  have at1:atI (ns.map Val.int) (k.fmod (ns.length:Nat))=some (.int ns[(k.fmod (ns.length:Nat)).toNat]):=dM r.1 (by rw[z_,A_ hi];rfl)
  rw[j_] at e
  exact⟨ns[(k.fmod (ns.length:Nat)).toNat],by simp![j_,e,e1,at1]⟩
def pow6:gf.G (.int 10) (.int 6)=.val (.int 1000000):=qf ⟨by decide,by decide,by decide⟩
def Nc:fZ [.int 6]=some [.int 0,.int 1,.int 2,.int 3,.int 4,.int 5]:=ox (i:=6) (by decide) (by decide)
def fq{a b k far:Int}(h0:0<=far)(hf:far.natAbs<=2000000000000000000000000000000):∃r a' b',bq.G [fdV a b k,.int far]=.ok (.val (.int r)) [fdV a' b' k]/\-far<=r/\r<=far:=by
 obtain⟨r1,a1,b1,e1,_,_⟩:=aB (a:=a) (b:=b) (k:=k) (m:=1000000) (by decide) (sm8 (by decide))
 obtain⟨r2,a2,b2,e2,_,_⟩:=aB (a:=a1) (b:=b1) (k:=k) (m:=1000000) (by decide) (sm8 (by decide))
 obtain⟨r3,a3,b3,e3,_,_⟩:=aB (a:=a2) (b:=b2) (k:=k) (m:=1000000) (by decide) (sm8 (by decide))
 obtain⟨r4,a4,b4,e4,_,_⟩:=aB (a:=a3) (b:=b3) (k:=k) (m:=1000000) (by decide) (sm8 (by decide))
 obtain⟨r5,a5,b5,e5,_,_⟩:=aB (a:=a4) (b:=b4) (k:=k) (m:=1000000) (by decide) (sm8 (by decide))
 obtain⟨r6,a6,b6,e6,_,_⟩:=aB (a:=a5) (b:=b5) (k:=k) (m:=1000000) (by decide) (sm8 (by decide))
 have c6:∀x:Int,bU.G (.int x) (.int 1000000)=.val (.int (x*1000000)):=λx=>bW (CMulA.right (by decide) (by decide))
 have c2:bU.G (.int 2) (.int far)=.val (.int (2*far)):=bW (CMulA.left (by decide) (by decide))
 have c3:∀x:Int,b9.G (.int x) (.int (2*far+1))=.val (.int (x.fmod (2*far+1))):=λx=>eY (by omega)
 have fr:=dD (a:=(((((0*1000000+r1)*1000000+r2)*1000000+r3)*1000000+r4)*1000000+r5)*1000000+r6) (m:=2*far+1) (by omega)
 refine⟨((((((0*1000000+r1)*1000000+r2)*1000000+r3)*1000000+r4)*1000000+r5)*1000000+r6).fmod (2*far+1)-far,a6,b6,?_,by omega,by omega⟩
 unfold bq
 rw[aJ]
 unfold kK jI
 unfold fdV at *
 simp![Nc,cU,pow6,c6,e1,e2,e3,e4,e5,e6,c2,c3,Int.reduceMul]
theorem tu(x y:Val):∀(n one bn:Nat),bn<=n->(xWh (qOf (pOp bGt (af 3) (ah 0))) gq).G [.sh x,.sh y,.sh (.int (one:Nat)),.sh (.int (bn:Nat))]=.nx [.sh x,.sh y,.sh (.int (Nat.gcd one bn:Nat)),.sh (.int 0)]
 |
  n,one,0,_=>by
  rw[jd]
  simp![Nat.gcd_zero_right,Int.natCast_zero,Int.lt_irrefl]
 |0,one,bn+1,hl=>absurd hl (by omega)
 |
  n+1,one,bn+1,hl=>by
  rw[jd]
  have e:decide ((0:Int)<((bn+1:Nat):Int))=true:=G_ (by omega)
  have e1:b9.G (.int (one:Nat)) (.int ((bn+1:Nat):Int))=.val (.int (((one:Nat):Int).fmod ((bn+1:Nat):Int))):=eY (by omega)
  have e2:((one:Nat):Int).fmod ((bn+1:Nat):Int)=((one % (bn+1):Nat):Int):=by
   rw[Int.fmod_eq_emod_of_nonneg _ (by omega)];rfl
  have ih:=tu x y n (bn+1) (one % (bn+1)) (by have:=Nat.mod_lt one (show bn+1>0 by omega);omega)
  rw[Fr.euc] at ih
  rw[e2] at e1
  have bb:gq.G [.sh x,.sh y,.sh (.int (one:Nat)),.sh (.int ((bn+1:Nat):Int))]=.nx [.sh x,.sh y,.sh (.int ((bn+1:Nat):Int)),.sh (.int ((one % (bn+1):Nat):Int))]:=by
   unfold gq
   simp![e1]
  simp![e,bb,ih]
def gQ{a b:Int}(hb:b≠0)(hs:Sm 8000 b):bP.G [.int a,.int b]=.ok (.val (fV ((a:Rat)/(b:Rat)))) []:=by
 unfold bP
 rw[aJ]
 unfold pw
 have lo:=tu (.int a) (.int b) b.natAbs a.natAbs b.natAbs (m_ _)
 rw[show Nat.gcd a.natAbs b.natAbs=Int.gcd a b from rfl] at lo
 have c:∀x,CDivB x (Fr.dv a b):=λx=>CDivB.of (Fr.dv_ne hb) (hs.of_le (by
  rw[Fr.dv_abs]
  exact Nat.le_of_dvd (by omega) (Nat.gcd_dvd_right a.natAbs b.natAbs)))
 have k1:=kj (c a)
 have k2:=kj (c b)
 have hh:=mP (a:=a) hb
 have gl:Val.tup [.int (a.fdiv (Fr.dv a b)),.int (b.fdiv (Fr.dv a b))]=fV ((a:Rat)/(b:Rat)):=by
  unfold fV
  rw[<- hh.1,<- hh.2]
  rfl
 by_cases hn:b<0
 ·have hd:Fr.dv a b=0-((Int.gcd a b:Nat):Int):=by unfold Fr.dv;rw[if_pos hn];omega
  rw[hd] at k1 k2 gl
  simp![gB,lo,G_ hn,k1,k2,gl]
 ·have hd:Fr.dv a b=((Int.gcd a b:Nat):Int):=by unfold Fr.dv;rw[if_neg hn]
  rw[hd] at k1 k2 gl
  simp![gB,lo,u_ hn,k1,k2,gl]
def p30:gf.G (.int 10) (.int 30)=.val (.int 1000000000000000000000000000000):=qf ⟨by decide,by decide,by decide⟩
def rmQ(k:Int)(r:SR3):Prop:=∃b a c,Good b/\lJ [true] r=.ok (.val (bV b)) [fdV a c k]
def rmI(k way:Int)(e:E3):Prop:=∃b x a c,Good b/\x.pl=true/\e=[.mu (fdV a c k),.sh (.int way),.sh (fV b.l),.sh (fV b.t),.sh (fV b.w),.sh (fV b.h),x]
def jn{r:Int}(h:0<=r):0<1+r:=by omega
def xr{r:Int}(h:0<=r):1+r≠0:=by omega
def iz{r m:Int}(h0:0<=r)(h1:r<m)(hm:m<=1000):(1+r).natAbs<=2000000000000000000000000000000:=by omega
def pV{r m c:Int}(h0:0<=r)(h1:r<m)(hm:m<=1000)(hc:0<=c/\c<=1000):(r-c).natAbs<=2000000000000000000000000000000:=by omega
def oD{r far:Int}(h0:-far<=r)(h1:r<=far)(hf:far<=1000000000000000000000000000000):r.natAbs<=2000000000000000000000000000000/\(1+((r.natAbs:Nat):Int)).natAbs<=2000000000000000000000000000000:=by omega
def pU{r:Int}:0<1+((r.natAbs:Nat):Int):=by omega
def zc{r:Int}(h:0<r):r≠0:=by omega
def Fw(a c k:Int):∃b a' c',Good b/\eS.G [fdV a c k]=.ok (.val (bV b)) [fdV a' c' k]:=by
 unfold eS
 rw[wZ rfl]
 show rmQ k (js.G [.mu (fdV a c k),.no,.no,.no,.no,.no,.no])
 unfold js
 obtain⟨way,a1,c1,e1,hw0,hw1⟩:=aB (a:=a) (b:=c) (k:=k) (m:=6) (by decide) (sm8 (by decide))
 refine aF (λe=>e=[.mu (fdV a1 c1 k),.sh (.int way),.no,.no,.no,.no,.no]) ⟨_,by simp![e1],rfl⟩ ?_
 rintro _ rfl
 obtain⟨l,a2,c2,e2,hl0,hl1⟩:=aB (a:=a1) (b:=c1) (k:=k) (m:=19) (by decide) (sm8 (by decide))
 obtain⟨t,a3,c3,e3,ht0,ht1⟩:=aB (a:=a2) (b:=c2) (k:=k) (m:=19) (by decide) (sm8 (by decide))
 refine aF (λe=>e=[.mu (fdV a3 c3 k),.sh (.int way),.sh (fV ((l-9:Int):Rat)),.sh (fV ((t-9:Int):Rat)),.no,.no,.no]) ⟨_,by simp![e2,e3,iV],rfl⟩ ?_
 rintro _ rfl
 obtain⟨w,a4,c4,e4,hww0,hww1⟩:=aB (a:=a3) (b:=c3) (k:=k) (m:=12) (by decide) (sm8 (by decide))
 obtain⟨hh,a5,c5,e5,hh0,hh1⟩:=aB (a:=a4) (b:=c4) (k:=k) (m:=12) (by decide) (sm8 (by decide))
 refine aF (rmI k way) ⟨[.mu (fdV a5 c5 k),.sh (.int way),.sh (fV ((l-9:Int):Rat)),.sh (fV ((t-9:Int):Rat)),.sh (fV ((1+w:Int):Rat)),.sh (fV ((1+hh:Int):Rat)),.no],by simp![e4,e5,iV],⟨_,_,_,_⟩,.no,a5,c5,⟨⟨fC (jn hww0),fC (jn hh0)⟩,⟨fW (pV hl0 hl1 (by decide) (by decide)),fW (pV ht0 ht1 (by decide) (by decide)),fW (iz hww0 hww1 (by decide)),fW (iz hh0 hh1 (by decide))⟩⟩,rfl,rfl⟩ ?_
 rintro _ ⟨b,x,a,c,gb,hx,rfl⟩
 refine aF (rmI k way) ?_ ?_
 ·by_cases hw:way=1
  ·subst hw
   exact⟨[.mu (fdV a c k),.sh (.int 1),.sh (fV b.l),.sh (fV b.t),.sh (fV b.w),.sh (fV b.w),x],by simp![iY],⟨b.l,b.t,b.w,b.w⟩,x,a,c,⟨⟨gb.ok.w,gb.ok.w⟩,⟨gb.sz.l,gb.sz.t,gb.sz.w,gb.sz.w⟩⟩,hx,rfl⟩
  ·exact⟨_,by simp![H_.mpr hw],b,x,a,c,gb,hx,rfl⟩
 rintro _ ⟨b,x,a,c,gb,hx,rfl⟩
 refine aF (rmI k way) ?_ ?_
 ·by_cases hw:way=2
  ·subst hw
   obtain⟨r,a1,c1,e1,h0,h1⟩:=aB (a:=a) (b:=c) (k:=k) (m:=99) (by decide) (sm8 (by decide))
   exact⟨[.mu (fdV a1 c1 k),.sh (.int 2),.sh (fV b.l),.sh (fV b.t),.sh (fV ((1+r:Int):Rat)),.sh (fV b.h),x],by simp![e1,iV],⟨b.l,b.t,((1+r:Int):Rat),b.h⟩,x,a1,c1,⟨⟨fC (jn h0),gb.ok.h⟩,⟨gb.sz.l,gb.sz.t,fW (iz h0 h1 (by decide)),gb.sz.h⟩⟩,hx,rfl⟩
  ·exact⟨_,by simp![H_.mpr hw],b,x,a,c,gb,hx,rfl⟩
 rintro _ ⟨b,x,a,c,gb,hx,rfl⟩
 refine aF (rmI k way) ?_ ?_
 ·by_cases hw:way=3
  ·subst hw
   obtain⟨r,a1,c1,e1,h0,h1⟩:=aB (a:=a) (b:=c) (k:=k) (m:=99) (by decide) (sm8 (by decide))
   exact⟨[.mu (fdV a1 c1 k),.sh (.int 3),.sh (fV b.l),.sh (fV b.t),.sh (fV b.w),.sh (fV ((1+r:Int):Rat)),x],by simp![e1,iV],⟨b.l,b.t,b.w,((1+r:Int):Rat)⟩,x,a1,c1,⟨⟨gb.ok.w,fC (jn h0)⟩,⟨gb.sz.l,gb.sz.t,gb.sz.w,fW (iz h0 h1 (by decide))⟩⟩,hx,rfl⟩
  ·exact⟨_,by simp![H_.mpr hw],b,x,a,c,gb,hx,rfl⟩
 rintro _ ⟨b,x,a,c,gb,hx,rfl⟩
 refine aF (rmI k way) ?_ ?_
 ·by_cases hw:way=4
  ·subst hw
   obtain⟨r1,a1,c1,e1,h10,h11⟩:=aB (a:=a) (b:=c) (k:=k) (m:=199) (by decide) (sm8 (by decide))
   obtain⟨r2,a2,c2,e2,h20,h21⟩:=aB (a:=a1) (b:=c1) (k:=k) (m:=30) (by decide) (sm8 (by decide))
   obtain⟨r3,a3,c3,e3,h30,h31⟩:=aB (a:=a2) (b:=c2) (k:=k) (m:=9) (by decide) (sm8 (by decide))
   obtain⟨r4,a4,c4,e4,h40,h41⟩:=aB (a:=a3) (b:=c3) (k:=k) (m:=99) (by decide) (sm8 (by decide))
   obtain⟨r5,a5,c5,e5,h50,h51⟩:=aB (a:=a4) (b:=c4) (k:=k) (m:=30) (by decide) (sm8 (by decide))
   obtain⟨r6,a6,c6,e6,h60,h61⟩:=aB (a:=a5) (b:=c5) (k:=k) (m:=99) (by decide) (sm8 (by decide))
   have l1:=gQ (a:=r1-99) (b:=1+r2) (xr h20) (kg (iz h20 h21 (by decide)))
   have l2:=gQ (a:=r3) (b:=7) (by decide) (kg (by decide))
   have l3:=gQ (a:=1+r4) (b:=1+r5) (xr h50) (kg (iz h50 h51 (by decide)))
   have l4:=gQ (a:=1+r6) (b:=11) (by decide) (kg (by decide))
   exact⟨[.mu (fdV a6 c6 k),.sh (.int 4),.sh (fV (((r1-99:Int):Rat)/((1+r2:Int):Rat))),.sh (fV (((r3:Int):Rat)/((7:Int):Rat))),.sh (fV (((1+r4:Int):Rat)/((1+r5:Int):Rat))),.sh (fV (((1+r6:Int):Rat)/((11:Int):Rat))),x],by simp![e1,e2,e3,e4,e5,e6,l1,l2,l3,l4],⟨_,_,_,_⟩,x,a6,c6,⟨⟨fA (jn h40) (jn h50),fA (jn h60) (by decide)⟩,⟨gx (xr h20) (pV h10 h11 (by decide) (by decide)) (iz h20 h21 (by decide)),gx (by decide) (by have:=pV (c:=0) h30 h31 (by decide) (by decide);rw[Int.sub_zero] at this;exact this) (by decide),gx (xr h50) (iz h40 h41 (by decide)) (iz h50 h51 (by decide)),gx (by decide) (iz h60 h61 (by decide)) (by decide)⟩⟩,hx,rfl⟩
  ·exact⟨_,by simp![H_.mpr hw],b,x,a,c,gb,hx,rfl⟩
 rintro _ ⟨b,x,a,c,gb,hx,rfl⟩
 refine aF (rmI k way) ?_ ?_
 ·by_cases hw:way=5
  ·subst hw
   obtain⟨r1,a1,c1,e1,h10,h11⟩:=fq (a:=a) (b:=c) (k:=k) (far:=999999999999999999999999999999) (by decide) (by decide)
   obtain⟨r2,a2,c2,e2,h20,h21⟩:=fq (a:=a1) (b:=c1) (k:=k) (far:=999999999999999999999999999998) (by decide) (by decide)
   obtain⟨r3,a3,c3,e3,h30,h31⟩:=fq (a:=a2) (b:=c2) (k:=k) (far:=999999999999999999999999999999) (by decide) (by decide)
   obtain⟨r4,a4,c4,e4,h40,h41⟩:=fq (a:=a3) (b:=c3) (k:=k) (far:=999999999999999999999999999998) (by decide) (by decide)
   obtain⟨r5,a5,c5,e5,h50,h51⟩:=fq (a:=a4) (b:=c4) (k:=k) (far:=999999999999999999999999999998) (by decide) (by decide)
   have n2:=gB r2
   have n4:=gB r4
   have n5:=gB r5
   have l1:=gQ (a:=r1) (b:=1+((r2.natAbs:Nat):Int)) (zc pU) (kg (oD h20 h21 (by decide)).2)
   have l4:=gQ (a:=1+((r5.natAbs:Nat):Int)) (b:=999999999999999999999999999999) (by decide) (kg (by decide))
   exact⟨[.mu (fdV a5 c5 k),.sh (.int 5),.sh (fV (((r1:Int):Rat)/((1+((r2.natAbs:Nat):Int):Int):Rat))),.sh (fV ((r3:Int):Rat)),.sh (fV ((1+((r4.natAbs:Nat):Int):Int):Rat)),.sh (fV (((1+((r5.natAbs:Nat):Int):Int):Rat)/((999999999999999999999999999999:Int):Rat))),.sh (.int 999999999999999999999999999999)],by simp![hx,p30,e1,e2,e3,e4,e5,n2,n4,n5,l1,l4,iV],⟨_,_,_,_⟩,_,a5,c5,⟨⟨fC pU,fA pU (by decide)⟩,⟨gx (zc pU) (oD h10 h11 (by decide)).1 (oD h20 h21 (by decide)).2,fW (oD h30 h31 (by decide)).1,fW (oD h40 h41 (by decide)).2,gx (by decide) (oD h50 h51 (by decide)).2 (by decide)⟩⟩,rfl,rfl⟩
  ·exact⟨_,by simp![H_.mpr hw],b,x,a,c,gb,hx,rfl⟩
 rintro _ ⟨b,x,a,c,gb,hx,rfl⟩
 refine⟨b,a,c,gb,?_⟩
 simp![xi,bV]
def p29:gf.G (.int 10) (.int 29)=.val (.int 100000000000000000000000000000):=qf ⟨by decide,by decide,by decide⟩
def K9{r:Int}(h0:0<=r)(h1:r<24):∃z,1<=z/\z<=8388608/\qT.G (.int 1) (.int r)=.val (.int z):=by
 have c1:(1:Nat)<=2^r.toNat:=Nat.one_le_two_pow
 have c2:2^r.toNat<=2^23:=Pp (by decide) (by omega)
 have e:(2:Int)^r.toNat=((2^r.toNat:Nat):Int):=by rw[Int.natCast_pow];rfl
 refine⟨1*2^r.toNat,?_,?_,Mc ⟨h0,by omega,by decide⟩⟩
 ·rw[Int.one_mul,e];exact Int.ofNat_le.mpr c1
 ·rw[Int.one_mul,e];exact Int.ofNat_le.mpr c2
def D1{ns:List Int}{at_ most many more sty k:Int}{acc:List Int}{s9:Sl}(h9:s9.pl=true)(hk:0<=k/\k<=40)(hs:0<=sty/\sty<6)(a c q:Int):
 ∃w a' c',1<=w/\w<=8388608/\(az false 9 (pOp bIx (cH (aa (ah 1) (aa (pOp aT (ah 1) (ak aq (aa (af 3) (aa (ah 9) ag)))) (aa (pOp qT (ah 1) (pOp b9 (af 8) (ah 24))) (aa (pOp aT (ah 1) (ak aq (aa (af 3) (aa (ah 9) ag)))) (aa (ah 1) (aa (pOp aT (ah 1) (ak aq (aa (af 3) (aa (ah 3) ag)))) ag))))))) (af 6))).G [.sh (.kl (ns.map .int)),.sh (.int at_),.sh (.int most),.ow (fdV a c q),.sh (.int many),.sh (.int more),.sh (.int sty),.ow (.lst (acc.map .int)),.sh (.int k),s9]=.nx [.sh (.kl (ns.map .int)),.sh (.int at_),.sh (.int most),.ow (fdV a' c' q),.sh (.int many),.sh (.int more),.sh (.int sty),.ow (.lst (acc.map .int)),.sh (.int k),.sh (.int w)]:=by
 obtain⟨r1,a1,c1,e1,l1,u1⟩:=aB (a:=a) (b:=c) (k:=q) (m:=9) (by decide) (sm8 (by decide))
 obtain⟨r2,a2,c2,e2,l2,u2⟩:=aB (a:=a1) (b:=c1) (k:=q) (m:=9) (by decide) (sm8 (by decide))
 obtain⟨r3,a3,c3,e3,l3,u3⟩:=aB (a:=a2) (b:=c2) (k:=q) (m:=3) (by decide) (sm8 (by decide))
 have fm:=dD (a:=k) (m:=24) (by decide)
 have km:=eY (i:=k) (j:=24) (by decide)
 have sh:=K9 fm.1 fm.2
 obtain⟨z,z1,z2,z3⟩:=sh
 have hc:sty=0\/sty=1\/sty=2\/sty=3\/sty=4\/sty=5:=by omega
 have at6:∃w,1<=w/\w<=8388608/\atI [Val.int 1,.int (1+r1),.int z,.int (1+r2),.int 1,.int (1+r3)] sty=some (.int w):=by
  rcases hc with rfl |rfl |rfl |rfl |rfl |rfl
  ·exact⟨1,by decide,by decide,rfl⟩
  ·exact⟨1+r1,by omega,by omega,rfl⟩
  ·exact⟨z,z1,z2,rfl⟩
  ·exact⟨1+r2,by omega,by omega,rfl⟩
  ·exact⟨1,by decide,by decide,rfl⟩
  ·exact⟨1+r3,by omega,by omega,rfl⟩
 obtain⟨w,w1,w2,w3⟩:=at6
 refine⟨w,a3,c3,w1,w2,?_⟩
 simp![e1,e2,e3,km,z3,w3,h9]
def wtI(ns:List Int)(at_ most many more sty k:Int)(acc:List Int)(e:E3):Prop:=∃w a c q,1<=w/\w<=1000000000000000000000000000000/\(sty<3->w<=8388608)/\e=[.sh (.kl (ns.map .int)),.sh (.int at_),.sh (.int most),.ow (fdV a c q),.sh (.int many),.sh (.int more),.sh (.int sty),.ow (.lst (acc.map .int)),.sh (.int k),.sh (.int w)]
def wtQ(ns:List Int)(at_ most many more sty k:Int)(acc:List Int)(r:SR3):Prop:=∃w s3,1<=w/\w<=1000000000000000000000000000000/\(sty<3->w<=8388608)/\s3.pl=true/\r=.nx [.sh (.kl (ns.map .int)),.sh (.int at_),.sh (.int most),s3,.sh (.int many),.sh (.int more),.sh (.int sty),.ow (.lst ((acc++[w]).map .int)),.sh (.int k),.sh (.int w)]
def E2{ns:List Int}{at_ most many more sty k:Int}{acc:List Int}{s3 s9:Sl}(h3:s3.pl=true)(h9:s9.pl=true)(ha:0<=at_)(hk:0<=k/\k<=40)(hs:0<=sty/\sty<6)(hl:acc.length<=1000):
 wtQ ns at_ most many more sty k acc (dN.G [.sh (.kl (ns.map .int)),.sh (.int at_),.sh (.int most),s3,.sh (.int many),.sh (.int more),.sh (.int sty),.ow (.lst (acc.map .int)),.sh (.int k),s9]):=by
 unfold dN
 obtain⟨f,ef⟩:=oz (ns:=ns) (k:=at_+1+k) (by omega)
 refine aF (λe=>e=[.sh (.kl (ns.map .int)),.sh (.int at_),.sh (.int most),.ow (fdV f 0 (at_+1+k)),.sh (.int many),.sh (.int more),.sh (.int sty),.ow (.lst (acc.map .int)),.sh (.int k),s9]) ⟨_,by simp![ef,h3],rfl⟩ ?_
 rintro _ rfl
 refine aF (wtI ns at_ most many more sty k acc) ?_ ?_
 ·obtain⟨w,a,c,w1,w2,e⟩:=D1 (ns:=ns) (at_:=at_) (most:=most) (many:=many) (more:=more) (acc:=acc) h9 hk hs f 0 (at_+1+k)
  exact⟨_,e,w,a,c,_,w1,by omega,λ_=>w2,rfl⟩
 rintro _ ⟨w,a,c,q,w1,w2,w3,rfl⟩
 refine aF (wtI ns at_ most many more sty k acc) ?_ ?_
 ·by_cases h:sty=3
  ·subst h
   obtain⟨r1,a1,c1,e1,l1,u1⟩:=aB (a:=a) (b:=c) (k:=q) (m:=4) (by decide) (sm8 (by decide))
   obtain⟨r2,a2,c2,e2,l2,u2⟩:=aB (a:=a1) (b:=c1) (k:=q) (m:=100) (by decide) (sm8 (by decide))
   by_cases hr:r1=0
   ·subst hr
    exact⟨[.sh (.kl (ns.map .int)),.sh (.int at_),.sh (.int most),.ow (fdV a2 c2 q),.sh (.int many),.sh (.int more),.sh (.int 3),.ow (.lst (acc.map .int)),.sh (.int k),.sh (.int (100000000000000000000000000000+r2))],by simp![e1,e2,p29],_,_,_,_,by omega,by omega,λz=>absurd z (by decide),rfl⟩
   ·exact⟨[.sh (.kl (ns.map .int)),.sh (.int at_),.sh (.int most),.ow (fdV a1 c1 q),.sh (.int many),.sh (.int more),.sh (.int 3),.ow (.lst (acc.map .int)),.sh (.int k),.sh (.int w)],by simp![e1,H_.mpr hr],_,_,_,_,w1,w2,w3,rfl⟩
  ·exact⟨_,by simp![H_.mpr h],w,a,c,q,w1,w2,w3,rfl⟩
 rintro _ ⟨w,a,c,q,w1,w2,w3,rfl⟩
 refine aF (wtI ns at_ most many more sty k acc) ?_ ?_
 ·by_cases h:sty=4
  ·subst h
   obtain⟨r1,a1,c1,e1,l1,u1⟩:=fq (a:=a) (b:=c) (k:=q) (far:=999999999999999999999999999998) (by decide) (by decide)
   exact⟨[.sh (.kl (ns.map .int)),.sh (.int at_),.sh (.int most),.ow (fdV a1 c1 q),.sh (.int many),.sh (.int more),.sh (.int 4),.ow (.lst (acc.map .int)),.sh (.int k),.sh (.int (1+if r1<0 then -r1 else r1))],by simp![e1,p30],_,_,_,_,by split <;> omega,by split <;> omega,λz=>absurd z (by decide),rfl⟩
  ·exact⟨_,by simp![H_.mpr h],w,a,c,q,w1,w2,w3,rfl⟩
 rintro _ ⟨w,a,c,q,w1,w2,w3,rfl⟩
 have ll:(acc.map Val.int).length<16777216:=by rw[j_];omega
 refine⟨w,.ow (fdV a c q),w1,w2,w3,rfl,?_⟩
 rw[OI,o_,OJ]
 simp![ll]
theorem vd{ns:List Int}{at_ most many more sty:Int}(ha:0<=at_)(hs:0<=sty/\sty<6):∀(ks:List Nat) (acc:List Int) (s3 s8 s9:Sl),s3.pl=true->s8.pl=true->s9.pl=true->(∀k∈ks,k<=40)->acc.length+ks.length<=1000->
 ∃(ws:List Int) (s3' s8' s9':Sl),ws.length=ks.length/\(∀w∈ws,1<=w/\w<=1000000000000000000000000000000/\(sty<3->w<=8388608))/\cq (gtN 8).G dN.G (ks.map λk:Nat=>Val.int (k:Nat)) [.sh (.kl (ns.map .int)),.sh (.int at_),.sh (.int most),s3,.sh (.int many),.sh (.int more),.sh (.int sty),.ow (.lst (acc.map .int)),s8,s9]=.nx [.sh (.kl (ns.map .int)),.sh (.int at_),.sh (.int most),s3',.sh (.int many),.sh (.int more),.sh (.int sty),.ow (.lst ((acc++ws).map .int)),s8',s9']
 | [],acc,s3,s8,s9,_,_,_,_,_=>⟨[],s3,s8,s9,rfl,(λ_ h=>nomatch h),by rw[OJ,nB,OS]⟩
 |
  k::ks,acc,s3,s8,s9,h3,h8,h9,hk,hl=>by
  rw[v_] at hl
  obtain⟨w,t3,w1,w2,w3,p3,e⟩:=E2 (ns:=ns) (at_:=at_) (most:=most) (many:=many) (more:=more) (sty:=sty) (k:=(k:Nat)) (acc:=acc) h3 h9 ha ⟨by omega,by have:=hk k (n_ ..);omega⟩ hs (by omega)
  obtain⟨ws,s3',s8',s9',q1,q2,q3⟩:=vd (ns:=ns) (most:=most) (many:=many) (more:=more) ha hs ks (acc++[w]) t3 (.sh (.int (k:Nat))) (.sh (.int w)) p3 rfl rfl (λj hj=>hk j (l_ _ hj)) (by rw[p_];show acc.length+1+_<=_;omega)
  refine⟨w::ws,s3',s8',s9',by rw[v_,v_,q1],λx hx=>?_,?_⟩
  ·rcases D_.mp hx with rfl |hx
   ·exact⟨w1,w2,w3⟩
   ·exact q2 x hx
  ·have g1:(gtN 8).G (.int (k:Nat)) [.sh (.kl (ns.map .int)),.sh (.int at_),.sh (.int most),s3,.sh (.int many),.sh (.int more),.sh (.int sty),.ow (.lst (acc.map .int)),s8,s9]=some [.sh (.kl (ns.map .int)),.sh (.int at_),.sh (.int most),s3,.sh (.int many),.sh (.int more),.sh (.int sty),.ow (.lst (acc.map .int)),.sh (.int (k:Nat)),s9]:=by
    simp![h8]
   rw[o_,cU,g1]
   dsimp only
   rw[e]
   show cq _ _ _ _=_
   rw[q3,O3]
   rfl
def div8{x:Int}:jk.G (.int x) (.int 8)=.val (.int (x.fdiv 8)):=kj (CDivB.of (by decide) (sm8 (by decide)))
def wsQ(M:Int)(r:SR3):Prop:=∃ws:List Int,1<=ws.length/\(ws.length:Int)<=M/\(∀w∈ws,1<=w/\w<=1000000000000000000000000000000)/\(9<ws.length->∀w∈ws,w<=8388608)/\lJ [false,false,false] r=.ok (.new (liV ws)) []
def ws_a{x most M:Int}(h:x<=most)(h1:most<=M)(h7:7<=M):1<=(if x>1 then x else 1)/\(if x>1 then x else 1)<=M:=by split <;> omega
def ws_b{most:Int}(h1:1<=most)(h2:most<=40):0<(if (7:Int)<most then 7 else most)/\Sm 8000 (if (7:Int)<most then 7 else most):=by
 split
 ·exact⟨by decide,sm8 (by decide)⟩
 ·exact⟨by omega,sm8 (by omega)⟩
def ws_c{r most:Int}(h:r<if (7:Int)<most then 7 else most):1+r<=7:=by split at h <;> omega
def wN{ns:List Int}{at_ most:Int}(ha:0<=at_)(hm:1<=most/\most<=40):∃ws:List Int,1<=ws.length/\(ws.length:Int)<=max most 7/\(∀w∈ws,1<=w/\w<=1000000000000000000000000000000)/\(9<ws.length->∀w∈ws,w<=8388608)/\cW.G [.kl (ns.map .int),.int at_,.int most]=.ok (.new (liV ws)) []:=by
 have x1:most<=max most 7:=Int.le_max_left ..
 have x7:(7:Int)<=max most 7:=Int.le_max_right ..
 have x4:max most 7<=40:=Int.max_le.mpr ⟨hm.2,by decide⟩
 generalize max most 7=M at *
 unfold cW
 rw[wZ rfl]
 show wsQ M (gj.G [.sh (.kl (ns.map .int)),.sh (.int at_),.sh (.int most),.no,.no,.no,.no,.no,.no,.no])
 unfold gj
 obtain⟨f,ef⟩:=oz (ns:=ns) (k:=at_) ha
 refine aF (λe=>e=[.sh (.kl (ns.map .int)),.sh (.int at_),.sh (.int most),.ow (fdV f 0 at_),.no,.no,.no,.no,.no,.no]) ⟨_,by simp![ef],rfl⟩ ?_
 rintro _ rfl
 obtain⟨r1,a1,c1,e1,l1,u1⟩:=aB (a:=f) (b:=0) (k:=at_) (m:=if (7:Int)<most then 7 else most) (ws_b hm.1 hm.2).1 (ws_b hm.1 hm.2).2
 refine aF (λe=>e=[.sh (.kl (ns.map .int)),.sh (.int at_),.sh (.int most),.ow (fdV a1 c1 at_),.sh (.int (1+r1)),.no,.no,.no,.no,.no]) ⟨_,by simp![e1],rfl⟩ ?_
 rintro _ rfl
 have b1:1+r1<=7:=ws_c u1
 obtain⟨r2,a2,c2,e2,l2,u2⟩:=aB (a:=a1) (b:=c1) (k:=at_) (m:=6) (by decide) (sm8 (by decide))
 refine aF (λe=>e=[.sh (.kl (ns.map .int)),.sh (.int at_),.sh (.int most),.ow (fdV a2 c2 at_),.sh (.int (1+r1)),.sh (.int r2),.no,.no,.no,.no]) ⟨_,by simp![e2],rfl⟩ ?_
 rintro _ rfl
 refine aF (λe=>∃many:Int,1<=many/\many<=M/\e=[.sh (.kl (ns.map .int)),.sh (.int at_),.sh (.int most),.ow (fdV a2 c2 at_),.sh (.int many),.sh (.int r2),.no,.no,.no,.no]) ?_ ?_
 ·have mm:=bW (i:=1+r1) (j:=most) (CMulA.of (sm8 (m:=1+r1) (by omega)) (sm8 (m:=most) (by omega)) (by decide) (by decide))
  by_cases h:r2<2
  ·have dl:((1+r1)*most).fdiv 8<=most:=by
    rw[Int.fdiv_eq_ediv_of_nonneg _ (by decide)]
    have:(1+r1)*most<=7*most:=Int.mul_le_mul_of_nonneg_right b1 (by omega)
    omega
   have hc:r2=0\/r2=1:=by omega
   rcases hc with rfl |rfl
   ·exact⟨_,by simp![mm,div8],most,hm.1,x1,rfl⟩
   ·exact⟨_,by simp![mm,div8],(if ((1+r1)*most).fdiv 8>1 then ((1+r1)*most).fdiv 8 else 1),(ws_a dl x1 x7).1,(ws_a dl x1 x7).2,rfl⟩
  ·exact⟨_,by simp![u_ h],1+r1,Int.le_add_of_nonneg_right l1,Int.le_trans b1 x7,rfl⟩
 rintro _ ⟨many,m1,m2,rfl⟩
 obtain⟨r3,a3,c3,e3,l3,u3⟩:=aB (a:=a2) (b:=c2) (k:=at_) (m:=6) (by decide) (sm8 (by decide))
 refine aF (λe=>e=[.sh (.kl (ns.map .int)),.sh (.int at_),.sh (.int most),.ow (fdV a3 c3 at_),.sh (.int many),.sh (.int r2),.sh (.int r3),.no,.no,.no]) ⟨_,by simp![e3],rfl⟩ ?_
 rintro _ rfl
 refine aF (λe=>∃sty:Int,0<=sty/\sty<6/\(9<many->sty<3)/\e=[.sh (.kl (ns.map .int)),.sh (.int at_),.sh (.int most),.ow (fdV a3 c3 at_),.sh (.int many),.sh (.int r2),.sh (.int sty),.no,.no,.no]) ?_ ?_
 ·have km:=eY (i:=r3) (j:=3) (by decide)
  have fm:=dD (a:=r3) (m:=3) (by decide)
  by_cases h:9<many
  ·exact⟨_,by simp![G_ h,km],r3.fmod 3,fm.1,Int.lt_trans fm.2 (by decide),λ_=>fm.2,rfl⟩
  ·exact⟨_,by simp![u_ h],r3,l3,u3,λz=>absurd z h,rfl⟩
 rintro _ ⟨sty,t0,t1,t2,rfl⟩
 refine aF (λe=>e=[.sh (.kl (ns.map .int)),.sh (.int at_),.sh (.int most),.ow (fdV a3 c3 at_),.sh (.int many),.sh (.int r2),.sh (.int sty),.ow (.lst []),.no,.no]) ⟨_,by simp![OE],rfl⟩ ?_
 rintro _ rfl
 have rg:=ox (i:=many) (by omega) (by omega)
 obtain⟨ws,s3,s8,s9,q1,q2,q3⟩:=vd (ns:=ns) (at_:=at_) (most:=most) (many:=many) (more:=r2) (sty:=sty) ha ⟨t0,t1⟩ (List.range many.toNat) [] (.ow (fdV a3 c3 at_)) .no .no rfl rfl rfl (λk hk=>by have:=Pk.mp hk;omega) (by rw[OE,Pq];omega)
 rw[Pq] at q1
 rw[OP,OJ] at q3
 unfold rgV at rg
 refine⟨ws,by omega,by omega,λw hw=>⟨(q2 w hw).1,(q2 w hw).2.1⟩,λh w hw=>(q2 w hw).2.2 (t2 (by omega)),?_⟩
 unfold liV
 simp![rg,q3]
 rfl
theorem kQ:∀(n:Nat) (l:List Nat),l.length=n->(∀i,i<n->i∈l)->l.Perm (List.range n)
 |0,l,h,_=>by rw[P2.mp h];exact List.Perm.refl _
 |
  n+1,l,h,hm=>by
  have h1:=hm n (by omega)
  have p:=List.perm_cons_erase h1
  have q:=kQ n (l.erase n) (by rw[List.length_erase_of_mem h1];omega) λi hi=>(List.mem_erase_of_ne (by omega)).mpr (hm i (by omega))
  rw[List.range_succ]
  exact p.trans ((q.cons n).trans (List.perm_append_singleton n _).symm)
def Hi{t:AT}{o:List Nat}{n:Nat}(T:TOk t o)(ho:∀i,i∈o ↔ i<n)(hl:o.length=n):t.lvs.Nodup:=
 (kQ n t.lvs (by rw[T.len,hl]) λi hi=>(T.mem i).mpr ((ho i).mpr hi)).nodup_iff.mpr List.nodup_range
def mH{q:Rat}{k D:Nat}(hs:Sz 101 q)(hD:D=q.den*k)(hk:0<k):∃z:Int,q=(z:Rat)/((D:Int):Rat)/\z.natAbs<=2^101*D/\(0<q->0<z/\z<=((2^101:Nat):Int)*(D:Int)):=by
 have dp:=q.den_pos
 have hn:q.num.natAbs<2^101:=hs.1
 have hz:(q.num*(k:Int)).natAbs<=2^101*D:=by
  rw[O2,Int.natAbs_natCast,hD]
  exact OR (by omega) (QD _ dp)
 refine⟨q.num*(k:Int),?_,hz,λh=>⟨Int.mul_pos (uU.mpr h) (by omega),?_⟩⟩
 ·have:=lV (y:=q.num) (W:=(k:Int)) dp (by omega)
  rw[ON,<- hD] at this
  rw[<- this]
  exact fj q
 ·rw[<- PJ]
  generalize q.num*(k:Int)=z at *
  generalize 2^101*D=y at *
  omega
def LR{b:Bx}(g:Good b):∃D,D<2^404/\Rp D (2^101) (2^101) b:=by
 have dl:=b.l.den_pos
 have dt:=b.t.den_pos
 have dw:=b.w.den_pos
 have dh:=b.h.den_pos
 have sz:∀q:Rat,Sz 101 q->q.den<=2^101:=λq h=>by have:(q.den:Int).natAbs<2^101:=h.2;omega
 have k1:=Pn (Pn dt dw) dh
 have k2:=Pn (Pn dl dw) dh
 have k3:=Pn (Pn dl dt) dh
 have k4:=Pn (Pn dl dt) dw
 refine⟨b.l.den*(b.t.den*b.w.den*b.h.den),?_,Pn dl k1,?_,?_,?_,?_⟩
 ·have a1:b.l.den<2^101:=by have:(b.l.den:Int).natAbs<2^101:=g.sz.l.2;omega
  have a2:=OR (OR (sz _ g.sz.t) (sz _ g.sz.w)) (sz _ g.sz.h)
  calc b.l.den*(b.t.den*b.w.den*b.h.den)<=b.l.den*(2^101*2^101*2^101):=Pb _ a2
   _<2^101*(2^101*2^101*2^101):=Nat.mul_lt_mul_of_pos_right a1 (by decide)
   _=2^404:=by rw[<- P8,<- P8,<- P8]
 ·obtain⟨z,h1,h2,_⟩:=mH (D:=b.l.den*(b.t.den*b.w.den*b.h.den)) g.sz.l rfl k1
  exact⟨z,h1,h2⟩
 ·obtain⟨z,h1,h2,_⟩:=mH (D:=b.l.den*(b.t.den*b.w.den*b.h.den)) (k:=b.l.den*b.w.den*b.h.den) g.sz.t (by ac_rfl) k2
  exact⟨z,h1,h2⟩
 ·obtain⟨z,h1,_,h2⟩:=mH (D:=b.l.den*(b.t.den*b.w.den*b.h.den)) (k:=b.l.den*b.t.den*b.h.den) g.sz.w (by ac_rfl) k3
  exact⟨z,h1,h2 g.ok.w⟩
 ·obtain⟨z,h1,_,h2⟩:=mH (D:=b.l.den*(b.t.den*b.w.den*b.h.den)) (k:=b.l.den*b.t.den*b.w.den) g.sz.h (by ac_rfl) k4
  exact⟨z,h1,h2 g.ok.h⟩
structure WOk(ws:List Int):Prop where
 pos:1<=ws.length
 len:ws.length<=40
 wt:∀w∈ws,1<=w/\w<=1000000000000000000000000000000
 few:10<ws.length->∀w∈ws,w<=8388608
theorem rh{ws:List Int}{M:Int}:∀{l:List Nat},(∀k∈l,ws.getD k 0<=M)->wtA ws l<=(l.length:Int)*M
 | [],_=>by simp [wtA]
 |
  k::l,h=>by
  have h1:=h k (n_ ..)
  have h2:=rh (l:=l) λj hj=>h j (l_ _ hj)
  unfold wtA at h2 ⊢
  rw[o_,N_,v_,Int.natCast_add,Int.add_mul]
  omega
def C2{ws:List Int}{t:AT}{o:List Nat}{b:Bx}(g:Good b)(W:WOk ws)(T:TOk t o)(ho:∀i,i∈o ↔ i<ws.length)(hl:o.length=ws.length):(∀k∈t.lvs,1<=ws.getD k 0)/\∃D m,m<=104/\Rp D (2^101) (2^101) b/\(2^101+t.dep*2^101)*(D*2^(m*t.dep))<2^2000/\wtT ws t<2^m:=by
 obtain⟨D,hD,R⟩:=LR g
 have hlt:∀k∈t.lvs,k<ws.length:=λk hk=>(ho k).mp ((T.mem k).mp hk)
 have hin:∀k∈t.lvs,ws.getD k 0∈ws:=λk hk=>by
  rw[OT,A_ (hlt k hk)]
  exact QG _
 have hd:=T.dep
 have len:=T.len
 have wl:=W.len
 refine⟨λk hk=>(W.wt _ (hin k hk)).1,D,?_⟩
 have key:∀m,m*t.dep<=1218->m<=104->wtT ws t<2^m->∃m,m<=104/\Rp D (2^101) (2^101) b/\(2^101+t.dep*2^101)*(D*2^(m*t.dep))<2^2000/\wtT ws t<2^m:=λm h1 h2 h3=>by
  refine⟨m,h2,R,?_,h3⟩
  have a1:2^101+t.dep*2^101<=2^107:=by
   have h1:=PV (2^101) (show t.dep<=40 by omega)
   have h2:2^107=64*2^101:=by decide
   rw[h2]
   generalize 2^101=X at *
   omega
  have a2:2^(m*t.dep)<=2^1218:=Pp (by decide) h1
  have a3:=OR a1 (OR (QN hD) a2)
  refine Pz a3 ?_
  rw[<- P8,<- P8]
  exact Nat.pow_lt_pow_right (by decide) (by decide)
 by_cases h9:10<ws.length
 ·refine key 29 (by omega) (by decide) ?_
  have:=rh (M:=8388608) λk hk=>W.few h9 _ (hin k hk)
  unfold wtT
  have:(2:Int)^29=536870912:=by decide
  omega
 ·refine key 104 (by omega) (by decide) ?_
  have:=rh (M:=1000000000000000000000000000000) λk hk=>(W.wt _ (hin k hk)).2
  unfold wtT
  have:(2:Int)^104=20282409603651670423947251286016:=by decide
  omega
def MV{ws:List Int}{t:AT}{o:List Nat}{b:Bx}(g:Good b)(W:WOk ws)(T:TOk t o)(ho:∀i,i∈o ↔ i<ws.length)(hl:o.length=ws.length):∃m,m<=104/\AT.lay ws 2000 m t b:=by
 obtain⟨hw,D,m,h1,R,h2,h3⟩:=C2 g W T ho hl
 have len:=T.len
 have wl:=W.len
 exact⟨m,h1,Gk t b D (2^101) R (m_ _) (by decide) h2 T.ok hw h3 (by omega)⟩
def J8(f:Nat->Val)(w:Bool)(ts:List AT):AT.val f (.nd w ts)=.tup [.str (wy w),.tup (ts.map (AT.val f))]:=by rw[AT.val,AT.vals_map]
theorem oO{f:Nat->Val}{x m:Nat}(v fx:Val):∀(ts:List AT) (i:Nat) (s2 s3 s4:Sl),s2.pl=true->s3.pl=true->s4.pl=true->(∀t∈ts,(bC m).G [t.val f,fx]=.ok (match t.pth x with |some q=>.new (ntV q) |none=>.val .non) []/\∀q,t.pth x=some q->q.length<1000)->
 ∃s2' s3' s4',cq (gtX (gtT 2 (ax (gtN 2) (ax (gtN 3) bu)))).G (dJ (bC m)).G (fg i (ts.map (AT.val f))) [.sh v,.sh (fx),s2,s3,s4]=match AT.pthL x i ts with |some q=>.rt (.new (ntV q)) [.sh v,.sh (fx),s2',s3',s4'] |none=>.nx [.sh v,.sh (fx),s2',s3',s4']
 | [],i,s2,s3,s4,h2,h3,h4,_=>⟨s2,s3,s4,rfl⟩
 |
  t::ts,i,s2,s3,s4,h2,h3,h4,ht=>by
  obtain⟨e1,e2⟩:=ht t (n_ ..)
  rw[o_,fg,cU]
  have g1:(gtX (gtT 2 (ax (gtN 2) (ax (gtN 3) bu)))).G (.tup [.int (i:Nat),t.val f]) [.sh v,.sh (fx),s2,s3,s4]=some [.sh v,.sh (fx),.sh (.int (i:Nat)),.sh (t.val f),s4]:=by
   simp![h2,h3]
  rw[g1,AT.pthL]
  dsimp only
  generalize t.val f=tv at *
  cases hp:t.pth x with
  |
   some q=>
   rw[hp] at e1
   dsimp only at e1
   have hl:=e2 q hp
   have ap:aT.G (.lst [.int (i:Nat)]) (ntV q)=.new (ntV (i::q)):=by
    unfold ntV
    rw[zA,if_pos (by rw[j_];simp only[v_,OE];omega)]
    rfl
   have b1:(dJ (bC m)).G [.sh v,.sh fx,.sh (.int (i:Nat)),.sh tv,s4]=.rt (.new (ntV (i::q))) [.sh v,.sh fx,.sh (.int (i:Nat)),.sh tv,.sh (ntV q)]:=by
    unfold dJ
    have isn:oh.G (ntV q) .non=.val (.bl true):=rfl
    generalize hq:ntV q=qv at *
    simp![e1,h4,isn,ap]
   rw[b1]
   exact⟨_,_,_,rfl⟩
  |
   none=>
   rw[hp] at e1
   dsimp only at e1
   have isn:oh.G .non .non=.val (.bl false):=rfl
   have b1:(dJ (bC m)).G [.sh v,.sh fx,.sh (.int (i:Nat)),.sh tv,s4]=.nx [.sh v,.sh fx,.sh (.int (i:Nat)),.sh tv,.sh .non]:=by
    unfold dJ
    simp![e1,h4,isn]
   rw[b1]
   exact oO v fx ts (i+1) (.sh (.int (i:Nat))) (.sh tv) (.sh .non) rfl rfl rfl λu hu=>ht u (l_ _ hu)
def j3{f:Nat->Val}{fx:Val}{x:Nat}(hx:lfV fx=true)(t:AT):∀m,t.dep<=m->m<=1000->EqA f fx x t.lvs->(bC m).G [t.val f,fx]=.ok (match t.pth x with |some q=>.new (ntV q) |none=>.val .non) []:=by
 induction t using AT.ind with
 |
  h1 k=>
  intro m hm _ hE
  obtain⟨h1,h2⟩:=hE k (by rw[AT.lvs];exact n_ ..)
  cases m with
  |zero=>simp [AT.dep] at hm
  |
   succ m=>
   have i1:=GF h1
   have i2:=Jv hx
   show (PFx.of [false,false] 5 (eO (bC m))).G [AT.val f (.lf k),fx]=_
   rw[kd]
   unfold eO
   rw[AT.val,AT.pth]
   generalize f k=fk at *
   by_cases hk:k=x
   ·rw[G_ hk] at h2
    rw[if_pos hk]
    unfold ntV
    simp![i1,i2,h2,OJ]
   ·rw[u_ hk] at h2
    rw[if_neg hk]
    simp![i1,i2,h2]
 |
  h2 w ts ih=>
  intro m hm h1000 hE
  cases m with
  |zero=>simp [AT.dep] at hm
  |
   succ m=>
   rw[AT.dep] at hm
   have hd:=AT.depL_le.mp (show AT.depL ts<=m by omega)
   rw[AT.lvs] at hE
   obtain⟨s2,s3,s4,lo⟩:=oO (f:=f) (x:=x) (m:=m) (.tup [.str (wy w),.tup (ts.map (AT.val f))]) fx ts 0 .no .no .no rfl rfl rfl λt ht=>⟨ih t ht m (hd t ht) (by omega) λk hk=>hE k (AT.lvsL_mem.mpr ⟨t,ht,hk⟩),λq hq=>by have:=Eu t q hq;have:=hd t ht;omega⟩
   show (PFx.of [false,false] 5 (eO (bC m))).G [AT.val f (.nd w ts),fx]=_
   rw[kd]
   unfold eO
   rw[AT.val,AT.pth,AT.vals_map]
   cases hp:AT.pthL x 0 ts with
   |
    some q=>
    rw[hp] at lo
    dsimp only at lo ⊢
    generalize ntV q=nq at *
    simp![ur,lo]
   |
    none=>
    rw[hp] at lo
    dsimp only at lo
    simp![ur,lo]
theorem tI{f:Nat->Val}(fx fy:Val)(u:Str):∀(p q:List Nat) (t:AT),AT.rel p q t=some u->∃w ts i j p' q',i≠j/\u=wd w (decide (i<j))/\(xWh (qOf (pOp bEq (pOp bIx (af 3) (ah 0)) (pOp bIx (af 4) (ah 0)))) eg).G [.sh (t.val f),.sh fx,.sh fy,.sh (ntV p),.sh (ntV q),.no]=.nx [.sh (AT.val f (.nd w ts)),.sh fx,.sh fy,.sh (ntV (i::p')),.sh (ntV (j::q')),.no]
 | [],q,t,h=>by rw[AT.rel] at h;cases h;rintro i p j q w ts z;cases z
 |i::p,[],t,h=>by rw[AT.rel] at h;cases h;rintro i p j q w ts _ z;cases z
 |i::p,j::q,.lf k,h=>by rw[AT.rel] at h;cases h;rintro i p j q w ts _ _ z;cases z
 |
  i::p,j::q,.nd w ts,h=>by
  rw[AT.rel] at h
  rw[jd]
  by_cases im:i=j
  ·subst im
   rw[if_pos rfl] at h
   cases ht:ts[i]? with
   |none=>rw[ht] at h;cases h
   |
    some t=>
    rw[ht] at h
    obtain⟨w',ts',i',j',p',q',h1,h2,h3⟩:=tI fx fy u p q t h
    refine⟨w',ts',i',j',p',q',h1,h2,?_⟩
    have c1:(qOf (pOp bEq (pOp bIx (af 3) (ah 0)) (pOp bIx (af 4) (ah 0)))).G [.sh (AT.val f (.nd w ts)),.sh fx,.sh fy,.sh (ntV (i::p)),.sh (ntV (i::q)),.no]=.ok true [.sh (AT.val f (.nd w ts)),.sh fx,.sh fy,.sh (ntV (i::p)),.sh (ntV (i::q)),.no]:=by
     unfold ntV
     simp![o_,cK,Qg]
    have at1:atI (ts.map (AT.val f)) (i:Nat)=some (t.val f):=dM (by omega) (by rw[z_];show (ts[i]?).map _=_;rw[ht];rfl)
    have b1:eg.G [.sh (AT.val f (.nd w ts)),.sh fx,.sh fy,.sh (ntV (i::p)),.sh (ntV (i::q)),.no]=.nx [.sh (t.val f),.sh fx,.sh fy,.sh (ntV p),.sh (ntV q),.no]:=by
     unfold eg ntV
     rw[AT.val,AT.vals_map]
     generalize t.val f=tv at *
     simp![o_,cK,at1,lR,Dg]
    rw[c1]
    show ((eg.G _).loop _)=_
    rw[b1]
    exact h3
  ·rw[if_neg im] at h
   refine⟨w,ts,i,j,p,q,im,(C_ h).symm,?_⟩
   have c1:(qOf (pOp bEq (pOp bIx (af 3) (ah 0)) (pOp bIx (af 4) (ah 0)))).G [.sh (AT.val f (.nd w ts)),.sh fx,.sh fy,.sh (ntV (i::p)),.sh (ntV (j::q)),.no]=.ok false [.sh (AT.val f (.nd w ts)),.sh fx,.sh fy,.sh (ntV (i::p)),.sh (ntV (j::q)),.no]:=by
    unfold ntV
    simp![o_,cK,sV,u_ im]
   rw[c1]
   rfl
def kC{f:Nat->Val}{fx fy:Val}{x y:Nat}{t:AT}{p q:List Nat}{u:Str}(hx:lfV fx=true)(hy:lfV fy=true)(hd:t.dep<=42)(ex:EqA f fx x t.lvs)(ey:EqA f fy y t.lvs)(hp:t.pth x=some p)(hq:t.pth y=some q)(hpq:p≠q)(hr:AT.rel p q t=some u):bK.G [t.val f,fx,fy]=.ok (.val (.str u)) []:=by
 have e1:=j3 hx t 42 hd (by omega) ex
 have e2:=j3 hy t 42 hd (by omega) ey
 rw[hp] at e1
 rw[hq] at e2
 dsimp only at e1 e2
 have ne:=Oz hpq
 obtain⟨w,ts,i,j,p',q',im,hu,lo⟩:=tI (f:=f) fx fy u p q t hr
 have is1:bIs.G (ntV p) .non=.val (.bl false):=rfl
 have is2:bIs.G (ntV q) .non=.val (.bl false):=rfl
 have n1:ntV (i::p')=.lst ((i::p').map λi:Nat=>.int i):=rfl
 have n2:ntV (j::q')=.lst ((j::q').map λi:Nat=>.int i):=rfl
 have tr:∀b,jU (.bl b)=some b:=λ_=>rfl
 have es:bz (.str (wy w)) (.str "across")=some w:=by
  cases w
  ·exact eq_str (x:="down") (y:="across") (by decide) (by decide) |>.trans (by decide)
  ·exact eq_str (x:="across") (y:="across") (by decide) (by decide) |>.trans (by decide)
 rw[AT.val] at lo
 rw[n1,n2] at lo
 generalize AT.vals f ts=tvs at *
 generalize ntV p=np at *
 generalize ntV q=nq at *
 generalize t.val f=tv at *
 unfold bK
 rw[aJ]
 unfold i7
 cases w with
 |
  true=>
  cases hb:decide (i<j) with
  |
   true=>
   rw[hb] at hu
   subst hu
   simp![e1,e2,is1,is2,ne,lo,o_,cK,m7,hb,es,tr,wd]
  |
   false=>
   rw[hb] at hu
   subst hu
   simp![e1,e2,is1,is2,ne,lo,o_,cK,m7,hb,es,tr,wd]
 |
  false=>
  cases hb:decide (i<j) with
  |
   true=>
   rw[hb] at hu
   subst hu
   simp![e1,e2,is1,is2,ne,lo,o_,cK,m7,hb,es,tr,wd]
  |
   false=>
   rw[hb] at hu
   subst hu
   simp![e1,e2,is1,is2,ne,lo,o_,cK,m7,hb,es,tr,wd]
def NI(p:List Nat):bz (ntV p) (ntV p)=some true:=by
 have:wfV 60 (ntV p)=true:=by
  show eD 59 (p.map λi:Nat=>Val.int i)=true
  exact og λv hv=>by obtain⟨w,_,rfl⟩:=K_.mp hv;rfl
 rw[v5 this this,uI 60 _ this]
def bN{f:Nat->Val}{fx fy:Val}{x y:Nat}{t:AT}(hx:lfV fx=true)(hy:lfV fy=true)(hd:t.dep<=42)(ex:EqA f fx x t.lvs)(ey:EqA f fy y t.lvs)(h:t.pth x=none\/t.pth y=none\/t.pth x=t.pth y):bK.G [t.val f,fx,fy]=.exc "Unknown" []:=by
 have e1:=j3 hx t 42 hd (by omega) ex
 have e2:=j3 hy t 42 hd (by omega) ey
 unfold bK
 rw[aJ]
 unfold i7
 cases hp:t.pth x with
 |
  none=>
  rw[hp] at e1
  cases hq:t.pth y with
  |
   none=>
   rw[hq] at e2
   dsimp only at e1 e2
   generalize t.val f=tv at *
   simp![e1,e2]
  |
   some q=>
   rw[hq] at e2
   dsimp only at e1 e2
   generalize t.val f=tv at *
   unfold ntV at e2
   generalize q.map (λi:Nat=>Val.int i)=nq at *
   simp![e1,e2]
 |
  some p=>
  rw[hp] at e1
  cases hq:t.pth y with
  |
   none=>
   rw[hq] at e2
   dsimp only at e1 e2
   generalize t.val f=tv at *
   unfold ntV at e1
   generalize p.map (λi:Nat=>Val.int i)=np at *
   simp![e1,e2]
  |
   some q=>
   have:p=q:=by
    rw[hp,hq] at h
    rcases h with h |h |h
    ·cases h
    ·cases h
    ·exact C_ h
   subst this
   rw[hq] at e2
   dsimp only at e1 e2
   have ee:=NI p
   generalize t.val f=tv at *
   unfold ntV at e1 e2 ee
   generalize p.map (λi:Nat=>Val.int i)=np at *
   simp![e1,e2,ee]
def cE{a b c:Val}(h:bK.G [a,b,c]=.exc "Unknown" []):aC.G [a,b,c]=.ok (.val (.bl true)) []:=by
 have m:("Unknown" : Str)∈fY:=by decide
 have i1:(aQ ba).G [.exc "Unknown",.glb "Unknown"]=.val (.bl true):=rfl
 have i2:(aQ ba).G [.exc "Unknown",.tup [.glb "NoBox",.glb "NoTree",.glb "NoWay",.glb "NoWeights",.glb "TooMany"]]=.val (.bl false):=rfl
 unfold aC
 rw[aJ]
 unfold jy
 simp![tE,h,m,i1,i2]
def vA{b:Bx}{n:Nat}(hb:b.Ok)(hs:b.Sz n)(h:n+n<=8000):iD.G [bV b]=.ok (.val (fV (b.w*b.h))) []:=by
 have c:=ff hb
 have t:=jx hs.w hs.h h
 unfold iD
 rw[aJ]
 unfold yi
 rw[show bV b=.tup [fV b.l,fV b.t,fV b.w,fV b.h] from rfl] at *
 simp![c,t]
structure Wl where
 l:Rat
 r:Rat
 t:Rat
 b:Rat
def wlV(w:Wl):Val:=.tup [fV w.l,fV w.r,fV w.t,fV w.b]
def wlB(b:Bx):Wl:=⟨b.l,b.l+b.w,b.t,b.t+b.h⟩
structure Wl.Sz(n:Nat)(w:Wl):Prop where
 l:L2.Sz n w.l
 r:L2.Sz n w.r
 t:L2.Sz n w.t
 b:L2.Sz n w.b
def rW{b:Bx}{n:Nat}(hs:b.Sz n):(wlB b).Sz (n+n+1):=⟨hs.l.mono (by omega),(hs.l.add hs.w).mono (by omega),hs.t.mono (by omega),(hs.t.add hs.h).mono (by omega)⟩
def kM{b:Bx}{n:Nat}(hs:b.Sz n)(h:n+n<=8000):eN.G [bV b]=.ok (.val (wlV (wlB b))) []:=by
 have a1:=kT hs.l hs.w h
 have a2:=kT hs.t hs.h h
 unfold eN
 rw[aJ]
 unfold vw
 rw[show bV b=.tup [fV b.l,fV b.t,fV b.w,fV b.h] from rfl]
 simp![a1,a2]
 rfl
def inB(a b:Wl):Bool:=!decide (b.l<a.l) && !decide (a.r<b.r)&&(!decide (b.t<a.t) && !decide (a.b<b.b))
def n6{a b:Bx}{n m:Nat}(ha:a.Sz n)(hb:b.Sz m)(h1:n+n<=8000)(h2:m+m<=8000):cX.G [bV a,bV b]=.ok (.val (.bl (inB (wlB a) (wlB b)))) []:=by
 have w1:=kM ha h1
 have w2:=kM hb h2
 have s1:=rW ha
 have s2:=rW hb
 generalize wlB a=A at *
 generalize wlB b=B at *
 have l1:=cC s2.l s1.l (by omega) (by omega)
 have l2:=cC s1.r s2.r (by omega) (by omega)
 have l3:=cC s2.t s1.t (by omega) (by omega)
 have l4:=cC s1.b s2.b (by omega) (by omega)
 unfold cX
 rw[aJ]
 unfold jC inB
 rw[show wlV A=.tup [fV A.l,fV A.r,fV A.t,fV A.b] from rfl] at w1
 rw[show wlV B=.tup [fV B.l,fV B.r,fV B.t,fV B.b] from rfl] at w2
 by_cases c1:B.l<A.l <;> by_cases c2:A.r<B.r <;> by_cases c3:B.t<A.t <;> (simp only[c1,c2,c3,decide_true,decide_false] at l1 l2 l3;simp![w1,w2,l1,l2,l3,l4,c1,c2,c3])
noncomputable def ovB(a b:Wl):Bool:=decide (a.l<b.r)&&decide (b.l<a.r)&&(decide (a.t<b.b)&&decide (b.t<a.b))
def A1{a b:Wl}{n m:Nat}(ha:a.Sz n)(hb:b.Sz m)(h1:n<=100000)(h2:m<=100000):aZ.G [wlV a,wlV b]=.ok (.val (.bl (ovB a b))) []:=by
 have l1:=cC ha.l hb.r h1 h2
 have l2:=cC hb.l ha.r h2 h1
 have l3:=cC ha.t hb.b h1 h2
 have l4:=cC hb.t ha.b h2 h1
 unfold aZ
 rw[aJ]
 unfold dU ovB
 rw[show wlV a=.tup [fV a.l,fV a.r,fV a.t,fV a.b] from rfl,show wlV b=.tup [fV b.l,fV b.r,fV b.t,fV b.b] from rfl]
 by_cases c1:a.l<b.r <;> by_cases c2:b.l<a.r <;> by_cases c3:a.t<b.b <;> (simp only[c1,c2,c3,decide_true,decide_false] at l1 l2 l3;simp![l1,l2,l3,l4,c1,c2,c3])
def ovJ(D:List Wl)(w:Wl)(j:Nat):Bool:=match D[j]? with
 |some u=>ovB u w
 |none=>false
def ovP(D:List Wl)(p:Wl×Nat):Bool:=((List.range p.2).find? (ovJ D p.1)).isSome
noncomputable def ovR(D:List Wl)(p:Wl×Nat):Val:=.tup [.str "over",.int (((List.range p.2).find? (ovJ D p.1)).getD 0:Nat),.int (p.2:Nat)]
def pW(bs:List Bx):Val:=match ((bs.map wlB).zipIdx).find? (ovP (bs.map wlB)) with
 |some p=>ovR (bs.map wlB) p
 |none=>.non
def FF{bs:List Val}{D:List Wl}{w:Wl}{i:Nat}{m:Nat}(hW:∀w∈D,w.Sz m)(hw:w∈D)(hi:i<D.length)(hm:m<=100000){s4:Sl}(h4:s4.pl=true):∃s4':Sl,s4'.pl=true/\cq (gtN 4).G eA.G (rgV i) [.sh (.lst bs),.sh (.lst (D.map wlV)),.sh (.int (i:Nat)),.sh (wlV w),s4]=fdS (λj:Nat=>.val (.tup [.str "over",.int (j:Nat),.int (i:Nat)])) [.sh (.lst bs),.sh (.lst (D.map wlV)),.sh (.int (i:Nat)),.sh (wlV w),s4'] ((List.range i).find? (ovJ D w)):=by
 obtain⟨e2,⟨s4',rfl,h4'⟩,fr⟩:=eK (g:=(gtN 4).G) (B:=eA.G) (λj:Nat=>Val.int (j:Nat)) (ovJ D w) (λj=>.val (.tup [.str "over",.int (j:Nat),.int (i:Nat)])) (λe=>∃s4,e=[.sh (.lst bs),.sh (.lst (D.map wlV)),.sh (.int (i:Nat)),.sh (wlV w),s4]/\s4.pl=true) (List.range i) [.sh (.lst bs),.sh (.lst (D.map wlV)),.sh (.int (i:Nat)),.sh (wlV w),s4] ⟨_,rfl,h4⟩ (by
  rintro j hj e ⟨s4,rfl,h4⟩
  have hj:=Pk.mp hj
  have hjl:j<D.length:=by omega
  have ej:D[j]?=some D[j]:=A_ hjl
  have at1:atI (D.map wlV) ((j:Nat):Int)=some (wlV D[j]):=dM (by omega) (by rw[ON,z_,ej];rfl)
  have sh:=A1 (hW D[j] (QG hjl)) (hW w hw) hm hm
  have oe:ovJ D w j=ovB D[j] w:=by unfold ovJ;rw[ej]
  refine⟨[.sh (.lst bs),.sh (.lst (D.map wlV)),.sh (.int (i:Nat)),.sh (wlV w),.sh (.int (j:Nat))],[.sh (.lst bs),.sh (.lst (D.map wlV)),.sh (.int (i:Nat)),.sh (wlV w),.sh (.int (j:Nat))],?_,⟨_,rfl,rfl⟩,?_⟩
  ·simp![h4]
  ·rw[oe]
   unfold eA
   cases hc:ovB D[j] w with
   |true=>left;simp![at1,sh,hc,PY]
   |false=>right;simp![at1,sh,hc,and_true,or_false,true_or])
 exact⟨s4',h4',fr⟩
def Bc{bs:List Val}{D:List Wl}{m:Nat}(hW:∀w∈D,w.Sz m)(hm:m<=100000)(hl:D.length<=1000):∃s2 s3 s4:Sl,cq (gtX (gtT 2 (ax (gtN 2) (ax (gtN 3) bu)))).G eu.G (fg 0 (D.map wlV)) [.sh (.lst bs),.sh (.lst (D.map wlV)),.no,.no,.no]=fdS (λp=>.val (ovR D p)) [.sh (.lst bs),.sh (.lst (D.map wlV)),s2,s3,s4] (D.zipIdx.find? (ovP D)):=by
 obtain⟨e2,⟨p2,p3,p4,rfl,h2,h3,h4⟩,fr⟩:=eK (g:=(gtX (gtT 2 (ax (gtN 2) (ax (gtN 3) bu)))).G) (B:=eu.G) (λp:Wl×Nat=>.tup [.int (p.2:Nat),wlV p.1]) (ovP D) (λp=>.val (ovR D p)) (λe=>∃s2 s3 s4,e=[.sh (.lst bs),.sh (.lst (D.map wlV)),s2,s3,s4]/\s2.pl=true/\s3.pl=true/\s4.pl=true) D.zipIdx [.sh (.lst bs),.sh (.lst (D.map wlV)),.no,.no,.no] ⟨_,_,_,rfl,rfl,rfl,rfl⟩ (by
  rintro⟨w,i⟩ hwi e ⟨s2,s3,s4,rfl,h2,h3,h4⟩
  have hi:=List.mem_zipIdx hwi
  obtain⟨s4',h4',fr⟩:=FF (bs:=bs) (i:=i) hW (Pe hwi) (by omega) hm h4
  have rg:=iR (k:=i) (by omega)
  refine⟨[.sh (.lst bs),.sh (.lst (D.map wlV)),.sh (.int (i:Nat)),.sh (wlV w),s4],[.sh (.lst bs),.sh (.lst (D.map wlV)),.sh (.int (i:Nat)),.sh (wlV w),s4'],?_,⟨_,_,_,rfl,rfl,rfl,h4'⟩,?_⟩
  ·simp![h2,h3]
  ·have op:ovP D (w,i)=((List.range i).find? (ovJ D w)).isSome:=rfl
   have or:ovR D (w,i)=.tup [.str "over",.int (((List.range i).find? (ovJ D w)).getD 0:Nat),.int (i:Nat)]:=rfl
   unfold eu
   rw[op,or]
   cases hf:(List.range i).find? (ovJ D w) with
   |
    some j=>
    rw[hf,iX] at fr
    left
    simp![rg,fr,Option.getD_some,PY]
   |
    none=>
    rw[hf,gH] at fr
    right
    simp![rg,fr,Option.isSome_none,and_true,or_false,true_or])
 refine⟨p2,p3,p4,?_⟩
 rw[iP wlV D 0,fr]
def pE{bs:List Bx}{n:Nat}(hl:bs.length<=1000)(hs:∀b∈bs,b.Sz n)(h:n+n<=8000):dn.G [.lst (bs.map bV)]=.ok (.val (pW bs)) []:=by
 obtain⟨e',⟨s',rfl,hs'⟩,lc⟩:=eB (g:=(gtN 0).G) (F:=(ak eN (aa (af 0) ag)).G) bV (λb=>wlV (wlB b)) (λe=>∃s,e=[s]/\s.pl=true) bs [] [.no] ⟨.no,rfl,rfl⟩ (by
  rintro b hb e ⟨s,rfl,hp⟩
  refine⟨[.sh (bV b)],.val (wlV (wlB b)),[.sh (bV b)],?_,?_,rfl,⟨_,rfl,rfl⟩⟩
  ·simp![hp]
  ·simp![kM (hs b hb) h]) (by simp;omega)
 rw[OP] at lc
 have hW:∀w∈bs.map wlB,w.Sz (n+n+1):=by
  intro w hw
  obtain⟨b,hb,rfl⟩:=K_.mp hw
  exact rW (hs b hb)
 have hm:bs.map (λb=>wlV (wlB b))=(bs.map wlB).map wlV:=by rw[O0];rfl
 have bd:(bs.map λb=>wlV (wlB b)).length<=16777216:=by rw[j_];omega
 rw[hm] at lc bd
 obtain⟨s2,s3,s4,fr⟩:=Bc (bs:=bs.map bV) hW (by omega) (by rw[j_];exact hl)
 unfold pW
 generalize bs.map wlB=D at *
 unfold dn
 rw[aJ]
 unfold jS
 cases hf:D.zipIdx.find? (ovP D) with
 |
  some p=>
  rw[hf,iX] at fr
  simp![b8,lc,bd,fr]
 |
  none=>
  rw[hf,gH] at fr
  simp![b8,lc,bd,fr]
theorem ma:∀{ws:List Int},(∀w∈ws,1<=w)->(ws.length:Int)<=ws.sum
 | [],_=>by simp
 |
  w::ws,h=>by
  have h1:=h w (n_ ..)
  have h2:=ma (ws:=ws) λu hu=>h u (l_ _ hu)
  rw[N_,v_]
  omega
def wx{ws:List Int}(h:∀w∈ws,1<=w)(h0:ws≠[]):1<=ws.sum:=by
 have:=ma h
 have:ws.length≠0:=λz=>h0 (P2.mp z)
 omega
def ftE(r w b:Val)(e:E3):Prop:=∃s t:Sl,e=[.sh r,.sh w,.sh b,s,t]/\s.pl=true/\t.pl=true
def KS{r w:Val}{bs:List Val}(ha:∀b∈bs,gO 2 b=true){e:E3}(he:ftE r w (.lst bs) e):∃e',ftE r w (.lst bs) e'/\cq (gtX (gtT 2 (ax (gtN 3) (ax (gtN 4) bu)))).G kP.G (fg 0 bs) e=fdS (λp=>.val (.tup [.str "box",.int (p.2:Nat)])) e' (bs.zipIdx.find? (λp=>!dO p.1)):=by
 rw[FL]
 refine eK (λp:Val×Nat=>.tup [.int (p.2:Nat),p.1]) _ (λp=>.val (.tup [.str "box",.int (p.2:Nat)])) (ftE r w (.lst bs)) bs.zipIdx e he ?_
 rintro⟨v,i⟩ hvi e ⟨s,t,rfl,hs,ht⟩
 have ib:=jM (ha v (Pe hvi))
 refine⟨[.sh r,.sh w,.sh (.lst bs),.sh (.int (i:Nat)),.sh v],[.sh r,.sh w,.sh (.lst bs),.sh (.int (i:Nat)),.sh v],?_,⟨_,_,rfl,rfl,rfl⟩,?_⟩
 ·simp![hs,ht]
 ·unfold kP
  dsimp only
  cases hc:dO v with
  |true=>right;simp![ib,hc,PY,QI,true_or]
  |false=>left;simp![ib,hc,PY]
noncomputable def arP(rm:Bx)(ws:List Int)(p:Bx×Nat):Bool:=match ws[p.2]? with
 |some w=>!decide (p.1.w*p.1.h=rm.w*rm.h*((w:Rat)/(ws.sum:Rat)))
 |none=>false
def Ea{rm:Bx}{ws:List Int}{bs:List Bx}{n m:Nat}(hr:rm.Ok)(hrs:rm.Sz n)(hb:∀b∈bs,b.Ok)(hbs:∀b∈bs,b.Sz n)(hw:∀w∈ws,1<=w)(hws:∀w∈ws,Sm m w)(hS:Sm m ws.sum)(hl:bs.length=ws.length)(h:n+n+m<=8000){e:E3}(he:ftE (bV rm) (.lst (ws.map .int)) (.lst (bs.map bV)) e):∃e',ftE (bV rm) (.lst (ws.map .int)) (.lst (bs.map bV)) e'/\cq (gtX (gtT 2 (ax (gtN 3) (ax (gtN 4) bu)))).G kN.G (fg 0 (bs.map bV)) e=fdS (λp=>.val (.tup [.str "area",.int (p.2:Nat)])) e' (bs.zipIdx.find? (arP rm ws)):=by
 rw[iP]
 refine eK (λp:Bx×Nat=>.tup [.int (p.2:Nat),bV p.1]) _ (λp=>.val (.tup [.str "area",.int (p.2:Nat)])) (ftE (bV rm) (.lst (ws.map .int)) (.lst (bs.map bV))) bs.zipIdx e he ?_
 rintro⟨b,i⟩ hvi e ⟨s,t,rfl,hs,ht⟩
 have hm:=Pe hvi
 have hi:i<ws.length:=by have:=List.mem_zipIdx hvi;omega
 have ar:=vA (hb b hm) (hbs b hm) (by omega)
 have rr:=vA hr hrs (by omega)
 have ei:ws[i]?=some ws[i]:=A_ hi
 have at1:atI (ws.map Val.int) ((i:Nat):Int)=some (.int ws[i]):=dM (by omega) (by rw[ON,z_,ei];rfl)
 have s0:ws.sum≠0:=by
  have:=wx hw (by intro z;rw[z] at hi;simp at hi)
  omega
 have fr:=d8 (a:=ws[i]) s0 (hS.mono (by omega))
 have sz:=Sz.div s0 (hws ws[i] (QG hi)) hS m (m_ _) (m_ _)
 have tm:=jx (hrs.w.mul hrs.h) sz (by omega)
 have eq:=MP (b.w*b.h) (rm.w*rm.h*((ws[i]:Rat)/(ws.sum:Rat)))
 have pe:arP rm ws (b,i)=!decide (b.w*b.h=rm.w*rm.h*((ws[i]:Rat)/(ws.sum:Rat))):=by unfold arP;dsimp only;rw[ei]
 refine⟨[.sh (bV rm),.sh (.lst (ws.map .int)),.sh (.lst (bs.map bV)),.sh (.int (i:Nat)),.sh (bV b)],[.sh (bV rm),.sh (.lst (ws.map .int)),.sh (.lst (bs.map bV)),.sh (.int (i:Nat)),.sh (bV b)],?_,⟨_,_,rfl,rfl,rfl⟩,?_⟩
 ·simp![hs,ht]
 ·rw[pe]
  unfold kN
  by_cases hc:b.w*b.h=rm.w*rm.h*((ws[i]:Rat)/(ws.sum:Rat))
  ·rw[G_ hc] at eq ⊢
   right;simp![ar,rr,at1,fr,tm,eq,PY,QI,true_or]
  ·rw[u_ hc] at eq ⊢
   left;simp![ar,rr,at1,fr,tm,eq,PY]
def nE(rm:Bx)(p:Bx×Nat):Bool:=!inB (wlB rm) (wlB p.1)
def JN{rm:Bx}{w:Val}{bs:List Bx}{n:Nat}(hrs:rm.Sz n)(hbs:∀b∈bs,b.Sz n)(h:n+n<=8000){e:E3}(he:ftE (bV rm) w (.lst (bs.map bV)) e):∃e',ftE (bV rm) w (.lst (bs.map bV)) e'/\cq (gtX (gtT 2 (ax (gtN 3) (ax (gtN 4) bu)))).G kU.G (fg 0 (bs.map bV)) e=fdS (λp=>.val (.tup [.str "out",.int (p.2:Nat)])) e' (bs.zipIdx.find? (nE rm)):=by
 rw[iP]
 refine eK (λp:Bx×Nat=>.tup [.int (p.2:Nat),bV p.1]) _ (λp=>.val (.tup [.str "out",.int (p.2:Nat)])) (ftE (bV rm) w (.lst (bs.map bV))) bs.zipIdx e he ?_
 rintro⟨b,i⟩ hvi e ⟨s,t,rfl,hs,ht⟩
 have lw:=n6 hrs (hbs b (Pe hvi)) h h
 refine⟨[.sh (bV rm),.sh w,.sh (.lst (bs.map bV)),.sh (.int (i:Nat)),.sh (bV b)],[.sh (bV rm),.sh w,.sh (.lst (bs.map bV)),.sh (.int (i:Nat)),.sh (bV b)],?_,⟨_,_,rfl,rfl,rfl⟩,?_⟩
 ·simp![hs,ht]
 ·have pe:nE rm (b,i)=!inB (wlB rm) (wlB b):=rfl
  rw[pe]
  unfold kU
  cases hc:inB (wlB rm) (wlB b) with
  |true=>right;simp![lw,hc,PY,QI,true_or]
  |false=>left;simp![lw,hc,PY]
noncomputable def md(rm:Bx)(ws:List Int)(bs:List Bx):Val:=match bs.zipIdx.find? (arP rm ws) with
 |some p=>.tup [.str "area",.int (p.2:Nat)]
 |none=>match bs.zipIdx.find? (nE rm) with
  |some p=>.tup [.str "out",.int (p.2:Nat)]
  |none=>pW bs
structure Wts(m:Nat)(ws:List Int):Prop where
 ne:ws≠[]
 pos:∀w∈ws,1<=w
 le:ws.length<=40
 sz:∀w∈ws,Sm m w
 sum:Sm m ws.sum
def Am{rm:Bx}{ws:List Int}{n m:Nat}{bs:List Bx}(hr:rm.Ok)(hrs:rm.Sz n)(hw:Wts m ws)(hl:bs.length=ws.length)(hb:∀b∈bs,b.Ok)(hbs:∀b∈bs,b.Sz n)(h:n+n+m<=8000):iG.G [bV rm,.lst (ws.map .int),.lst (bs.map bV)]=.ok (.val (md rm ws bs)) []:=by
 have c:=ff hr
 have k:=sJ hw.ne hw.pos hw.le
 have e:((((bs.map bV).length:Nat):Int)==((ws.map Val.int).length:Nat))=true:=by rw[OQ,j_,j_];omega
 obtain⟨e1,he1,f1⟩:=KS (r:=bV rm) (w:=.lst (ws.map .int)) (bs:=bs.map bV) (by
  intro v hv
  obtain⟨b,_,rfl⟩:=K_.mp hv
  exact ym b) ⟨.no,.no,rfl,rfl,rfl⟩
 rw[show (bs.map bV).zipIdx.find? (λp=>!dO p.1)=none from by
  rw[Ph]
  rintro⟨v,i⟩ hvi
  obtain⟨b,hb',rfl⟩:=K_.mp (Pe hvi)
  dsimp only
  rw[tP (hb b hb')]
  decide] at f1
 rw[gH] at f1
 obtain⟨e2,he2,f2⟩:=Ea hr hrs hb hbs hw.pos hw.sz hw.sum hl h he1
 obtain⟨s1,t1,rfl,hs1,ht1⟩:=he1
 have fo:=pE (by have:=hw.le;omega) hbs (by omega)
 unfold md
 unfold iG
 rw[aJ]
 unfold vm
 cases q2:bs.zipIdx.find? (arP rm ws) with
 |
  some p=>
  rw[q2,iX] at f2
  obtain⟨s2,t2,rfl,_,_⟩:=he2
  simp![c,k,e,f1,f2]
 |
  none=>
  rw[q2,gH] at f2
  obtain⟨e3,he3,f3⟩:=JN hrs hbs (by omega) he2
  obtain⟨s2,t2,rfl,_,_⟩:=he2
  obtain⟨s3,t3,rfl,_,_⟩:=he3
  cases q3:bs.zipIdx.find? (nE rm) with
  |
   some p=>
   rw[q3,iX] at f3
   simp![c,k,e,f1,f2,f3]
  |
   none=>
   rw[q3,gH] at f3
   simp![c,k,e,f1,f2,f3,fo]
def wI{p q:Rat}{n m:Nat}(hp:Sz n p)(hq:Sz m q)(h:n+m<=8000):cD.G [fV p,fV q]=.ok (.val (fV (p+q))) []:=by
 have c1:=bW (CMulA.of hp.top hq.bot (by omega) (by omega))
 have c2:=bW (CMulA.of hq.top hp.bot (by omega) (by omega))
 have c3:=bW (CMulA.of hp.bot hq.bot (by omega) (by omega))
 have dp:=p.den_pos
 have dq:=q.den_pos
 have lo:=gQ (a:=p.num*q.den+q.num*p.den) (b:=p.den*q.den) (Int.ne_of_gt (Int.mul_pos (by omega) (by omega))) ((hp.bot.mul hq.bot).mono h)
 rw[<- nM] at lo
 unfold cD
 rw[aJ]
 unfold oY
 rw[show fV p=.tup [.int p.num,.int p.den] from rfl,show fV q=.tup [.int q.num,.int q.den] from rfl]
 simp![c1,c2,c3,lo]
def KJ(p q:Rat):p<=q ↔ p.num*q.den<=q.num*p.den:=Rat.le_iff p q
def yN{p q:Rat}{n m:Nat}(hp:Sz n p)(hq:Sz m q)(h1:n<=100000)(h2:m<=100000):aR.G [fV p,fV q]=.ok (.val (.bl (decide (p<=q)))) []:=by
 have c1:=bW (CMulA.of hp.top hq.bot h1 h2)
 have c2:=bW (CMulA.of hq.top hp.bot h2 h1)
 unfold aR
 rw[aJ]
 unfold gM
 rw[show fV p=.tup [.int p.num,.int p.den] from rfl,show fV q=.tup [.int q.num,.int q.den] from rfl]
 simp![c1,c2]
 rw[show decide (p.num*(q.den:Int)<=q.num*(p.den:Int))=decide (p<=q) from decide_eq_decide.mpr (KJ p q).symm]
def Bg{c d:Bx}{w s:Bool}{n:Nat}(hc:c.Sz n)(hd:d.Sz n)(hn:n+n<=8000)(h:eU w s c d):d9.G [.str (wd w s),bV c,bV d]=.ok (.val (.bl true)) []:=by
 have ad:∀{p q:Rat},Sz n p->Sz n q->cD.G [fV p,fV q]=.ok (.val (fV (p+q))) []:=λhp hq=>wI hp hq hn
 have be:∀{p q r:Rat},Sz n p->Sz n q->Sz n r->p+q<=r->aR.G [fV (p+q),fV r]=.ok (.val (.bl true)) []:=λhp hq hr hl=>by
  rw[yN ((hp.add hq).mono (show _<=100000 by omega)) hr (m_ _) (by omega),G_ hl]
 have e1:bz (.str (wd w s)) (.str "left")=some (w&&s):=by
  rw[L3.eq_str (j0 w s) (by decide)]
  cases w <;> cases s <;> decide +kernel
 have e2:bz (.str (wd w s)) (.str "right")=some (w && !s):=by
  rw[L3.eq_str (j0 w s) (by decide)]
  cases w <;> cases s <;> decide +kernel
 have e3:bz (.str (wd w s)) (.str "above")=some (!w&&s):=by
  rw[L3.eq_str (j0 w s) (by decide)]
  cases w <;> cases s <;> decide +kernel
 have e4:bz (.str (wd w s)) (.str "below")=some (!w && !s):=by
  rw[L3.eq_str (j0 w s) (by decide)]
  cases w <;> cases s <;> decide +kernel
 unfold eU at h
 have a1:=ad hc.l hc.w
 have a2:=ad hd.l hd.w
 have a3:=ad hc.t hc.h
 have a4:=ad hd.t hd.h
 have ec:bV c=.tup [fV c.l,fV c.t,fV c.w,fV c.h]:=rfl
 have ed:bV d=.tup [fV d.l,fV d.t,fV d.w,fV d.h]:=rfl
 unfold d9
 rw[aJ,ec,ed]
 unfold kG
 generalize wd w s=u at *
 cases w <;> cases s <;> simp only[Pd,P9,O8] at h
 ·have b1:=be hd.t hd.h hc.t h
  generalize fV (d.t+d.h)=z at *
  generalize fV c.l=cl at *
  generalize fV c.t=ct at *
  generalize fV c.w=cw at *
  generalize fV c.h=ch at *
  generalize fV d.l=dl at *
  generalize fV d.t=dt at *
  generalize fV d.w=dw at *
  generalize fV d.h=dh at *
  simp![e1,e2,e3,e4,a4,b1,cK]
 ·have b1:=be hc.t hc.h hd.t h
  generalize fV (c.t+c.h)=z at *
  generalize fV c.l=cl at *
  generalize fV c.t=ct at *
  generalize fV c.w=cw at *
  generalize fV c.h=ch at *
  generalize fV d.l=dl at *
  generalize fV d.t=dt at *
  generalize fV d.w=dw at *
  generalize fV d.h=dh at *
  simp![e1,e2,e3,e4,a3,b1,cK]
 ·have b1:=be hd.l hd.w hc.l h
  generalize fV (d.l+d.w)=z at *
  generalize fV c.l=cl at *
  generalize fV c.t=ct at *
  generalize fV c.w=cw at *
  generalize fV c.h=ch at *
  generalize fV d.l=dl at *
  generalize fV d.t=dt at *
  generalize fV d.w=dw at *
  generalize fV d.h=dh at *
  simp![e1,e2,e3,e4,a2,b1,cK]
 ·have b1:=be hc.l hc.w hd.l h
  generalize fV (c.l+c.w)=z at *
  generalize fV c.l=cl at *
  generalize fV c.t=ct at *
  generalize fV c.w=cw at *
  generalize fV c.h=ch at *
  generalize fV d.l=dl at *
  generalize fV d.t=dt at *
  generalize fV d.w=dw at *
  generalize fV d.h=dh at *
  simp![e1,e2,e3,e4,a1,b1,cK]
def EH{ws:List Int}{l:List Nat}(h:l.Perm (List.range ws.length)):wtA ws l=ws.sum:=by
 rw[sG h]
 unfold wtA
 congr 1
 refine List.ext_getElem? λi=>?_
 rw[z_]
 by_cases hi:i<ws.length
 ·rw[PZ hi,A_ hi]
  show some (ws.getD i 0)=_
  rw[OT,A_ hi]
  rfl
 ·rw[Pj (by rw[Pq];omega),Pj (by omega)]
  rfl
structure TBx(ws:List Int)(t:AT)(b:Bx):Prop where
 ok:t.ok=true
 wt:∀k∈t.lvs,1<=ws.getD k 0
 bok:b.Ok
 mem:∀k,k∈t.lvs ↔ k<ws.length
 sum:wtT ws t=ws.sum
 sz:∀p∈AT.bx ws t b,p.2.Sz 2000
def TBx.pth{ws:List Int}{t:AT}{b:Bx}(T:TBx ws t b){k:Nat}(h:k<ws.length):∃p,t.pth k=some p/\AT.bxAt ws p t b=some (bxO (AT.bx ws t b) k)/\AT.at p t=some k:=by
 cases q:t.pth k with
 |some p=>exact⟨p,rfl,EO t p b q,AT.pth_at t p q⟩
 |none=>exact absurd ((T.mem k).mpr h) ((AT.pth_mem t).mp q)
def TBx.szO{ws:List Int}{t:AT}{b:Bx}(T:TBx ws t b){k:Nat}(h:k<ws.length):(bxO (AT.bx ws t b) k).Sz 2000:=by
 obtain⟨p,hp,e⟩:=vz (l:=AT.bx ws t b) (k:=k) (by rw[AT.bx_keys];exact (T.mem k).mpr h)
 rw[e]
 exact T.sz p hp
def TBx.sep{ws:List Int}{t:AT}{b:Bx}(T:TBx ws t b){i j:Nat}(hi:i<ws.length)(hj:j<ws.length)(im:i≠j):∃p q w s,t.pth i=some p/\t.pth j=some q/\p≠q/\AT.rel p q t=some (wd w s)/\AT.rel q p t=some (wd w (!s))/\eU w s (bxO (AT.bx ws t b) i) (bxO (AT.bx ws t b) j):=by
 obtain⟨p,p1,p2,p3⟩:=T.pth hi
 obtain⟨q,q1,q2,q3⟩:=T.pth hj
 obtain⟨u,hu⟩:=AT.rel_some im p q t p3 q3
 obtain⟨w,s,rfl,r2,sp⟩:=rD T.ok T.wt T.bok p2 q2 hu
 refine⟨p,q,w,s,p1,q1,λz=>?_,hu,r2,sp⟩
 rw[z,q3] at p3
 exact im (C_ p3).symm
def FH{c d:Bx}{w s:Bool}(h:eU w s c d):ovB (wlB c) (wlB d)=false:=by
 unfold eU at h
 unfold ovB wlB
 dsimp only
 rw[QJ,QJ,QJ]
 cases w <;> cases s <;> simp only[Pd,P9,O8] at h
 ·exact .inr (.inl (u_ λz=>by grind))
 ·exact .inr (.inr (u_ λz=>by grind))
 ·exact .inl (.inl (u_ λz=>by grind))
 ·exact .inl (.inr (u_ λz=>by grind))
def Lr{c b:Bx}(h:Bx.In c b):inB (wlB b) (wlB c)=true:=by
 obtain⟨h1,h2,h3,h4⟩:=h
 unfold inB wlB
 dsimp only
 rw[u_ (by grind),u_ (by grind),u_ (by grind),u_ (by grind)]
 rfl
def TBx.ft{ws:List Int}{t:AT}{b:Bx}(T:TBx ws t b):md b ws ((List.range ws.length).map λk=>bxO (AT.bx ws t b) k)=.non:=by
 have at_:∀{c:Bx}{i:Nat},(c,i)∈((List.range ws.length).map λk=>bxO (AT.bx ws t b) k).zipIdx->i<ws.length/\c=bxO (AT.bx ws t b) i:=λ{c i} h=>by
  have:=List.mem_zipIdx_iff_getElem?.mp h
  dsimp only at this
  rw[z_] at this
  by_cases hi:i<ws.length
  ·rw[PZ hi] at this
   exact⟨hi,(C_ this).symm⟩
  ·rw[Pj (by rw[Pq];omega)] at this
   cases this
 have f1:((List.range ws.length).map λk=>bxO (AT.bx ws t b) k).zipIdx.find? (arP b ws)=none:=by
  rw[Ph]
  rintro⟨c,i⟩ h
  obtain⟨hi,rfl⟩:=at_ h
  obtain⟨p,p1,p2,p3⟩:=T.pth hi
  have ar:=ph T.ok T.wt T.bok p2 p3
  rw[T.sum] at ar
  unfold arP
  dsimp only
  rw[A_ hi]
  dsimp only
  rw[ar,OT,A_ hi,Option.getD_some,G_ rfl]
  decide
 have f2:((List.range ws.length).map λk=>bxO (AT.bx ws t b) k).zipIdx.find? (nE b)=none:=by
  rw[Ph]
  rintro⟨c,i⟩ h
  obtain⟨hi,rfl⟩:=at_ h
  obtain⟨p,p1,p2,p3⟩:=T.pth hi
  unfold nE
  rw[Lr (iI T.ok T.wt T.bok p2).2]
  decide
 unfold md
 rw[f1,f2]
 dsimp only
 unfold pW
 have f3:(((List.range ws.length).map λk=>bxO (AT.bx ws t b) k).map wlB).zipIdx.find? (ovP (((List.range ws.length).map λk=>bxO (AT.bx ws t b) k).map wlB))=none:=by
  rw[Ph]
  rintro⟨c,i⟩ h
  have q:=List.mem_zipIdx_iff_getElem?.mp h
  dsimp only at q
  rw[O0,z_] at q
  have hi:i<ws.length:=by
   by_cases hi:i<ws.length
   ·exact hi
   ·rw[Pj (by rw[Pq];omega)] at q
    cases q
  rw[PZ hi] at q
  have q:=(C_ q).symm
  unfold ovP
  dsimp only
  rw[Bool.not_eq_true,Option.isSome_eq_false_iff,Option.isNone_iff_eq_none,Ph]
  intro j hj
  rw[Pk] at hj
  obtain⟨p,q',w,s,_,_,_,_,_,sp⟩:=T.sep (i:=j) (j:=i) (by omega) hi (by omega)
  unfold ovJ
  rw[O0,z_,PZ (by omega)]
  dsimp only [Option.map_some]
  rw[q]
  show ¬ ovB (wlB _) (wlB _)=true
  rw[FH sp]
  decide
 rw[f3]
def G4{ws:List Int}{t:AT}{o:List Nat}{b:Bx}(g:Good b)(W:WOk ws)(T:TOk t o)(ho:∀i,i∈o ↔ i<ws.length)(hl:o.length=ws.length):TBx ws t b:=by
 obtain⟨hw,D,m,h1,R,h2,h3⟩:=C2 g W T ho hl
 have hp:=kQ ws.length t.lvs (by rw[T.len,hl]) λi hi=>(T.mem i).mpr ((ho i).mpr hi)
 exact⟨T.ok,hw,g.ok,λk=>(T.mem k).trans (ho k),EH hp,LB t b D (2^101) R (m_ _) (by decide) h2 T.ok hw h3⟩
noncomputable def bkL:List (Key×Val):=[(.inr "left",.str "right"),(.inr "right",.str "left"),(.inr "above",.str "below"),(.inr "below",.str "above")]
def FY(w s:Bool):lkD bkL (.inr (wd w s))=some (.str (wd w (!s))):=by cases w <;> cases s <;> rfl
def Hj(w s:Bool):oC (bkL.map (·.1)) (wd w s)=true:=by cases w <;> cases s <;> decide +kernel
def FR{ws:List Int}{t:AT}{b:Bx}{x0 x1 x2 x3 x4 x11 s10:Sl}(T:TBx ws t b)(hd:t.dep<=42)(h40:ws.length<=40){i j:Nat}(hi:i<ws.length)(hj:j<ws.length)(im:j≠i)(h10:s10.pl=true):
 ∃s,s.pl=true/\lX.G [x0,x1,x2,x3,x4,.sh (.dct bkL),.sh (atV t),.sh (.lst ((List.range ws.length).map λk=>bV (bxO (AT.bx ws t b) k))),.sh (.int (i:Nat)),.sh (.int (j:Nat)),s10,x11]=.nx [x0,x1,x2,x3,x4,.sh (.dct bkL),.sh (atV t),.sh (.lst ((List.range ws.length).map λk=>bV (bxO (AT.bx ws t b) k))),.sh (.int (i:Nat)),.sh (.int (j:Nat)),s,x11]:=by
 obtain⟨p,q,w,s,p1,q1,pq,r1,r2,sp⟩:=T.sep hj hi im
 have EA:∀(x:Nat),EqA (λk=>.int (k:Nat)) (.int (x:Nat)) x t.lvs:=λx k hk=>⟨rfl,by rw[qg,sV]⟩
 have f1:=kC (f:=λk=>.int (k:Nat)) (fx:=.int (j:Nat)) (fy:=.int (i:Nat)) rfl rfl hd (EA j) (EA i) p1 q1 pq r1
 have f2:=kC (f:=λk=>.int (k:Nat)) (fx:=.int (i:Nat)) (fy:=.int (j:Nat)) rfl rfl hd (EA i) (EA j) q1 p1 (Ne.symm pq) r2
 rw[show AT.val (λk=>Val.int (k:Nat)) t=atV t from rfl] at f1 f2
 have so:=Bg (T.szO hj) (T.szO hi) (by decide) sp
 have lk:=FY w s
 have hh:=Hj w s
 have es:bz (.str (wd w (!s))) (.str (wd w (!s)))=some true:=by rw[eq_str (j0 _ _) (j0 _ _),Qg]
 have a1:∀k:Nat,k<ws.length->atI ((List.range ws.length).map λk=>bV (bxO (AT.bx ws t b) k)) (k:Nat)=some (bV (bxO (AT.bx ws t b) k)):=λk hk=>dM (by omega) (by rw[ON,z_,PZ hk];rfl)
 have ai:=a1 i hi
 have aj:=a1 j hj
 refine⟨.sh (.str (wd w s)),rfl,?_⟩
 unfold lX
 generalize (List.range ws.length).map (λk=>bV (bxO (AT.bx ws t b) k))=RB at *
 generalize bV (bxO (AT.bx ws t b) i)=bi at *
 generalize bV (bxO (AT.bx ws t b) j)=bj at *
 generalize atV t=tv at *
 generalize bkL=bk at *
 generalize wd w (!s)=u1 at *
 generalize wd w s=u0 at *
 simp![f1,f2,lk,Iw,hh,es,ai,aj,so,h10]
def bdQ(sc:Val)(b:Bx)(ws:List Int)(o:List Nat)(t:AT)(r:SR3):Prop:=∃(a c:Int) (s7 s8 s9 s10 s11:Sl),(s7.pl=true/\s8.pl=true/\s9.pl=true/\s10.pl=true/\s11.pl=true)/\r=.nx [.sh sc,.ow (fdV a c 55),.sh (bV b),.sh (liV ws),.sh (itV o),.sh (.dct bkL),.sh (atV t),s7,s8,s9,s10,s11]
def E5{sc:Val}{a c:Int}{s7 s8 s9 s10 s11:Sl}{b:Bx}{ws:List Int}{t:AT}{o:List Nat}(g:Good b)(W:WOk ws)(hS:Sm 104 ws.sum)(T:TOk t o)(om:∀i,i∈o ↔ i<ws.length)(ol:o.length=ws.length)(h7:s7.pl=true)(h8:s8.pl=true)(h9:s9.pl=true)(h10:s10.pl=true)(h11:s11.pl=true):
 bdQ sc b ws o t (l9.G [.sh sc,.ow (fdV a c 55),.sh (bV b),.sh (liV ws),.sh (itV o),.sh (.dct bkL),.sh (atV t),s7,s8,s9,s10,s11]):=by
 have wl:=W.len
 have wp:=W.pos
 have hd:=T.dep
 have len:=T.len
 have ll:((ws.map Val.int).length:Nat)=ws.length:=j_ ..
 have TB:=G4 g W T om ol
 obtain⟨n1,hn1,hy1⟩:=MV g W T om ol
 have wne:ws≠[]:=λz=>by rw[z] at wp;exact absurd wp (by decide)
 have hi:∀k,k∈t.lvs ↔ k<ws.length:=TB.mem
 have q1:=BG (ws:=ws) (n:=2000) (m:=n1) (by omega) g.ok wne (λw hw=>(W.wt w hw).1) W.len T.ok hi (Hi T om ol) (T.len.trans ol) (by omega) hy1
 have fb:=m9 (λk=>bV (bxO (AT.bx ws t b) k)) (λk=>NP _) (List.range ws.length)
 have fe:=Am (rm:=b) (ws:=ws) (n:=2000) (m:=104) (bs:=(List.range ws.length).map λk=>bxO (AT.bx ws t b) k) g.ok (g.sz.mono (by decide)) ⟨wne,λw hw=>(W.wt w hw).1,wl,λw hw=>by
  have:=W.wt w hw
  show w.natAbs<2^104
  have:(2:Nat)^104=20282409603651670423947251286016:=by decide
  omega,hS⟩ (by rw[j_,Pq]) (λc hc=>by
  obtain⟨k,hk,rfl⟩:=K_.mp hc
  obtain⟨p,p1,p2,p3⟩:=TB.pth (Pk.mp hk)
  exact (iI TB.ok TB.wt TB.bok p2).1) (λc hc=>by
  obtain⟨k,hk,rfl⟩:=K_.mp hc
  exact TB.szO (Pk.mp hk)) (by decide)
 rw[TB.ft,O0] at fe
 rw[show (bV ∘ λk=>bxO (AT.bx ws t b) k)=λk=>bV (bxO (AT.bx ws t b) k) from rfl] at fe
 unfold l9
 refine aF (λe=>e=[.sh sc,.ow (fdV a c 55),.sh (bV b),.sh (liV ws),.sh (itV o),.sh (.dct bkL),.sh (atV t),.sh (.lst ((List.range ws.length).map λk=>bV (bxO (AT.bx ws t b) k))),s8,s9,s10,s11]) ⟨_,by
  generalize (List.range ws.length).map (λk=>bV (bxO (AT.bx ws t b) k))=RB at *
  generalize fdV a c 55=f0 at *
  generalize itV o=ov at *
  generalize atV t=tv at *
  generalize bkL=bk at *
  generalize bV b=bv at *
  generalize liV ws=wv at *
  simp![q1,fb,h7],rfl⟩ ?_
 rintro _ rfl
 refine aF (λe=>e=[.sh sc,.ow (fdV a c 55),.sh (bV b),.sh (liV ws),.sh (itV o),.sh (.dct bkL),.sh (atV t),.sh (.lst ((List.range ws.length).map λk=>bV (bxO (AT.bx ws t b) k))),s8,s9,s10,s11]) ⟨_,by
  unfold liV
  generalize (List.range ws.length).map (λk=>bV (bxO (AT.bx ws t b) k))=RB at *
  generalize fdV a c 55=f0 at *
  generalize itV o=ov at *
  generalize atV t=tv at *
  generalize bkL=bk at *
  generalize bV b=bv at *
  generalize ws.map Val.int=wv at *
  simp![fe],rfl⟩ ?_
 rintro _ rfl
 have rg:fZ [.int (ws.length:Nat)]=some (rgV ws.length):=iR (by omega)
 refine aF (λe=>∃s8 s9 s10:Sl,s8.pl=true/\s9.pl=true/\s10.pl=true/\e=[.sh sc,.ow (fdV a c 55),.sh (bV b),.sh (liV ws),.sh (itV o),.sh (.dct bkL),.sh (atV t),.sh (.lst ((List.range ws.length).map λk=>bV (bxO (AT.bx ws t b) k))),s8,s9,s10,s11]) ?_ ?_
 ·obtain⟨e',p',lo⟩:=lC (g:=(gtN 8).G) (B:=tK.G) (λi e=>∃s8 s9 s10:Sl,s8.pl=true/\s9.pl=true/\s10.pl=true/\e=[.sh sc,.ow (fdV a c 55),.sh (bV b),.sh (liV ws),.sh (itV o),.sh (.dct bkL),.sh (atV t),.sh (.lst ((List.range ws.length).map λk=>bV (bxO (AT.bx ws t b) k))),s8,s9,s10,s11]) ws.length (e:=[.sh sc,.ow (fdV a c 55),.sh (bV b),.sh (liV ws),.sh (itV o),.sh (.dct bkL),.sh (atV t),.sh (.lst ((List.range ws.length).map λk=>bV (bxO (AT.bx ws t b) k))),s8,s9,s10,s11]) ⟨s8,s9,s10,h8,h9,h10,rfl⟩ (by
   rintro i hi' _ ⟨s8,s9,s10,h8,h9,h10,rfl⟩
   obtain⟨e',⟨t9,t10,q9,q10,rfl⟩,lo⟩:=lC (g:=(gtN 9).G) (B:=lX.G) (λj e=>∃s9 s10:Sl,s9.pl=true/\s10.pl=true/\e=[.sh sc,.ow (fdV a c 55),.sh (bV b),.sh (liV ws),.sh (itV o),.sh (.dct bkL),.sh (atV t),.sh (.lst ((List.range ws.length).map λk=>bV (bxO (AT.bx ws t b) k))),.sh (.int (i:Nat)),s9,s10,s11]) i (e:=[.sh sc,.ow (fdV a c 55),.sh (bV b),.sh (liV ws),.sh (itV o),.sh (.dct bkL),.sh (atV t),.sh (.lst ((List.range ws.length).map λk=>bV (bxO (AT.bx ws t b) k))),.sh (.int (i:Nat)),s9,s10,s11]) ⟨s9,s10,h9,h10,rfl⟩ (by
    rintro j hj _ ⟨s9,s10,h9,h10,rfl⟩
    obtain⟨s,hs,pe⟩:=FR (x0:=.sh sc) (x1:=.ow (fdV a c 55)) (x2:=.sh (bV b)) (x3:=.sh (liV ws)) (x4:=.sh (itV o)) (x11:=s11) TB (by omega) wl hi' (show j<ws.length by omega) (by omega) h10
    refine⟨_,_,?_,.inl pe,.sh (.int (j:Nat)),s,rfl,hs,rfl⟩
    generalize (List.range ws.length).map (λk=>bV (bxO (AT.bx ws t b) k))=RB at *
    generalize fdV a c 55=f0 at *
    generalize itV o=ov at *
    generalize atV t=tv at *
    generalize bkL=bk at *
    generalize bV b=bv at *
    generalize liV ws=wv at *
    simp![h9])
   have rgi:fZ [.int (i:Nat)]=some (rgV i):=iR (by omega)
   refine⟨[.sh sc,.ow (fdV a c 55),.sh (bV b),.sh (liV ws),.sh (itV o),.sh (.dct bkL),.sh (atV t),.sh (.lst ((List.range ws.length).map λk=>bV (bxO (AT.bx ws t b) k))),.sh (.int (i:Nat)),s9,s10,s11],_,?_,.inl ?_,.sh (.int (i:Nat)),t9,t10,rfl,q9,q10,rfl⟩
   ·generalize (List.range ws.length).map (λk=>bV (bxO (AT.bx ws t b) k))=RB at *
    generalize fdV a c 55=f0 at *
    generalize itV o=ov at *
    generalize atV t=tv at *
    generalize bkL=bk at *
    generalize bV b=bv at *
    generalize liV ws=wv at *
    simp![h8]
   ·unfold tK
    generalize (List.range ws.length).map (λk=>bV (bxO (AT.bx ws t b) k))=RB at *
    generalize fdV a c 55=f0 at *
    generalize itV o=ov at *
    generalize atV t=tv at *
    generalize bkL=bk at *
    generalize bV b=bv at *
    generalize liV ws=wv at *
    simp![rgi,lo])
  exact⟨e',by
   clear p'
   unfold liV at lo ⊢
   generalize (List.range ws.length).map (λk=>bV (bxO (AT.bx ws t b) k))=RB at *
   generalize fdV a c 55=f0 at *
   generalize itV o=ov at *
   generalize atV t=tv at *
   generalize bkL=bk at *
   generalize bV b=bv at *
   simp![ll,rg,lo],p'⟩
 rintro _ ⟨s8,s9,s10,h8,h9,h10,rfl⟩
 obtain⟨r,a1,c1,e1,r0,r1⟩:=aB (a:=a) (b:=c) (k:=55) (m:=((ws.length:Nat):Int)) (by omega) (sm8 (by omega))
 obtain⟨r,rfl⟩:∃n:Nat,r=n:=⟨r.toNat,by omega⟩
 refine aF (λe=>e=[.sh sc,.ow (fdV a1 c1 55),.sh (bV b),.sh (liV ws),.sh (itV o),.sh (.dct bkL),.sh (atV t),.sh (.lst ((List.range ws.length).map λk=>bV (bxO (AT.bx ws t b) k))),s8,s9,s10,.sh (.int (r:Nat))]) ⟨_,by
  unfold liV
  generalize (List.range ws.length).map (λk=>bV (bxO (AT.bx ws t b) k))=RB at *
  generalize fdV a c 55=f0 at *
  generalize fdV a1 c1 55=f1 at *
  generalize itV o=ov at *
  generalize atV t=tv at *
  generalize bkL=bk at *
  generalize bV b=bv at *
  simp![ll,e1,h11],rfl⟩ ?_
 rintro _ rfl
 have EA:∀(x:Nat),EqA (λk=>.int (k:Nat)) (.int (x:Nat)) x t.lvs:=λx k hk=>⟨rfl,by rw[qg,sV]⟩
 have EM:EqA (λk=>.int (k:Nat)) (.int (-1)) ws.length t.lvs:=λk hk=>⟨rfl,by
  have:=(hi k).mp hk
  rw[qg,H_.mpr (show ((k:Nat):Int) ≠ -1 by omega),u_ (show ¬ k=ws.length by omega)]⟩
 have no:t.pth ws.length=none:=(AT.pth_mem t).mpr λz=>by have:=(hi _).mp z;omega
 have u1:=cE (bN (f:=λk=>.int (k:Nat)) (t:=t) (fx:=.int (r:Nat)) (fy:=.int (r:Nat)) rfl rfl (by omega) (EA r) (EA r) (.inr (.inr rfl)))
 have u2:=cE (bN (f:=λk=>.int (k:Nat)) (t:=t) (fx:=.int (r:Nat)) (fy:=.int (ws.length:Nat)) rfl rfl (by omega) (EA r) (EA ws.length) (.inr (.inl no)))
 have u3:=cE (bN (f:=λk=>.int (k:Nat)) (t:=t) (fx:=.int (-1)) (fy:=.int (r:Nat)) rfl rfl (by omega) EM (EA r) (.inl no))
 rw[show AT.val (λk=>Val.int (k:Nat)) t=atV t from rfl] at u1 u2 u3
 refine⟨a1,c1,.sh (.lst ((List.range ws.length).map λk=>bV (bxO (AT.bx ws t b) k))),s8,s9,s10,.sh (.int (r:Nat)),⟨rfl,h8,h9,h10,rfl⟩,?_⟩
 unfold liV
 generalize (List.range ws.length).map (λk=>bV (bxO (AT.bx ws t b) k))=RB at *
 generalize fdV a1 c1 55=f1 at *
 generalize itV o=ov at *
 generalize atV t=tv at *
 generalize bkL=bk at *
 generalize bV b=bv at *
 simp![ll,u1,u2,u3]
def abV(f:Nat->Val):AT.val f (.nd false [.lf 0,.lf 1])=.tup [.str "down",.tup [f 0,f 1]]:=by rw[J8];rfl
def rf1:aC.G [.int 0,.int 0,.int 0]=.ok (.val (.bl true)) []:=cE (bN (f:=λ_=>.int 0) (t:=.lf 0) (x:=0) (y:=0) rfl rfl (by decide) (λk hk=>⟨rfl,by rw[AT.lvs] at hk;rw[OK.mp hk];rfl⟩) (λk hk=>⟨rfl,by rw[AT.lvs] at hk;rw[OK.mp hk];rfl⟩) (.inr (.inr rfl)))
def rf2:aC.G [.int 0,.int 0,.int 1]=.ok (.val (.bl true)) []:=cE (bN (f:=λ_=>.int 0) (t:=.lf 0) (x:=0) (y:=1) rfl rfl (by decide) (λk hk=>⟨rfl,by rw[AT.lvs] at hk;rw[OK.mp hk];rfl⟩) (λk hk=>⟨rfl,by rw[AT.lvs] at hk;rw[OK.mp hk];rfl⟩) (.inr (.inl rfl)))
def sEq(x y:Str)(hx:PyData.strOk x=true)(hy:PyData.strOk y=true)(c:Bool)(h:(x==y)=c):bz (.str x) (.str y)=some c:=by rw[L3.eq_str hx hy,h]
def rf3:aC.G [.str "a",.str "b",.str "a"]=.ok (.val (.bl true)) []:=cE (bN (f:=λ_=>.str "a") (t:=.lf 0) (x:=1) (y:=0) rfl rfl (by decide) (λk hk=>⟨rfl,by rw[AT.lvs] at hk;rw[OK.mp hk];exact sEq _ _ (by decide) (by decide) _ (by decide)⟩) (λk hk=>⟨rfl,by rw[AT.lvs] at hk;rw[OK.mp hk];exact sEq _ _ (by decide) (by decide) _ (by decide)⟩) (.inl rfl))
noncomputable def abF(k:Nat):Val:=.str (if k=0 then "a" else "b")
def mL{z:Str}{x:Nat}(h0:bz (.str "a") (.str z)=some (decide (0=x)))(h1:bz (.str "b") (.str z)=some (decide (1=x))):EqA abF (.str z) x (AT.lvs (.nd false [.lf 0,.lf 1])):=λk hk=>by
 have:AT.lvs (.nd false [.lf 0,.lf 1])=[0,1]:=by simp [AT.lvs,AT.lvsL]
 rw[this] at hk
 rcases D_.mp hk with rfl |hk
 ·exact⟨rfl,h0⟩
 ·rw[OK.mp hk]
  exact⟨rfl,h1⟩
def xS:AT.pth 2 (.nd false [.lf 0,.lf 1])=none:=by
 refine (AT.pth_mem _).mpr λh=>?_
 have:AT.lvs (.nd false [.lf 0,.lf 1])=[0,1]:=by simp [AT.lvs,AT.lvsL]
 rw[this] at h
 exact absurd h (by decide)
def rf4:aC.G [.tup [.str "down",.tup [.str "a",.str "b"]],.str "a",.str "c"]=.ok (.val (.bl true)) []:=by
 have r:=bN (f:=abF) (t:=.nd false [.lf 0,.lf 1]) (fx:=.str "a") (fy:=.str "c") (x:=0) (y:=2) rfl rfl (by simp [AT.dep,AT.depL]) (mL (sEq _ _ (by decide) (by decide) _ (by decide)) (sEq _ _ (by decide) (by decide) _ (by decide))) (mL (sEq _ _ (by decide) (by decide) _ (by decide)) (sEq _ _ (by decide) (by decide) _ (by decide))) (.inr (.inl xS))
 rw[abV] at r
 exact cE r
def rf5:aC.G [.tup [.str "down",.tup [.str "a",.str "b"]],.str "across",.str "b"]=.ok (.val (.bl true)) []:=by
 have r:=bN (f:=abF) (t:=.nd false [.lf 0,.lf 1]) (fx:=.str "across") (fy:=.str "b") (x:=2) (y:=1) rfl rfl (by simp [AT.dep,AT.depL]) (mL (sEq _ _ (by decide) (by decide) _ (by decide)) (sEq _ _ (by decide) (by decide) _ (by decide))) (mL (sEq _ _ (by decide) (by decide) _ (by decide)) (sEq _ _ (by decide) (by decide) _ (by decide))) (.inl xS)
 rw[abV] at r
 exact cE r
theorem xR{M:Int}:∀{ws:List Int},(∀w∈ws,1<=w/\w<=M)->0<=ws.sum/\ws.sum<=(ws.length:Int)*M
 | [],_=>by simp
 |
  w::ws,h=>by
  have h1:=h w (n_ ..)
  have h2:=xR (ws:=ws) λx hx=>h x (l_ _ hx)
  rw[N_,v_,Int.natCast_add,Int.add_mul]
  omega
def lawQ(r:SR3):Prop:=lJ [false] r=.ok (.val (.bl true)) []
def Ku(ns:List Int)(hl:ns.length<=63):p9.G [.kl (ns.map .int)]=.ok (.val (.bl true)) []:=by
 unfold p9
 rw[wZ rfl]
 show lawQ (vJ.G [.sh (.kl (ns.map .int)),.no,.no,.no,.no,.no,.no,.no,.no,.no,.no,.no])
 unfold vJ
 refine aF (λe=>e=[.sh (.kl (ns.map .int)),.no,.no,.no,.no,.no,.no,.no,.no,.no,.no,.no]) ⟨_,by simp![rf1,rf2,rf3],rfl⟩ ?_
 rintro _ rfl
 refine aF (λe=>e=[.sh (.kl (ns.map .int)),.no,.no,.no,.no,.no,.no,.no,.no,.no,.no,.no]) ⟨_,by simp![rf4,rf5],rfl⟩ ?_
 rintro _ rfl
 obtain⟨a,e0⟩:=oz (ns:=ns) (k:=55) (by omega)
 refine aF (λe=>e=[.sh (.kl (ns.map .int)),.ow (fdV a 0 55),.no,.no,.no,.no,.no,.no,.no,.no,.no,.no]) ⟨_,by simp![e0],rfl⟩ ?_
 rintro _ rfl
 obtain⟨b,a1,c1,g,e1⟩:=Fw a 0 55
 refine aF (λe=>e=[.sh (.kl (ns.map .int)),.ow (fdV a1 c1 55),.sh (bV b),.no,.no,.no,.no,.no,.no,.no,.no,.no]) ⟨_,by simp![e1],rfl⟩ ?_
 rintro _ rfl
 obtain⟨vs,p1,p2,p3,p4,p5⟩:=wN (ns:=ns) (at_:=0) (most:=9) (by decide) (by decide)
 have p6:∀w∈vs++[1],1<=w/\w<=1000000000000000000000000000000:=λw hw=>by
  rcases OU.mp hw with hw |hw
  ·exact p3 w hw
  ·rw[OK.mp hw];decide
 have vl:(vs++[1]).length=vs.length+1:=by rw[p_];rfl
 have W:WOk (vs++[1]):=⟨by omega,by omega,p6,λh=>by omega⟩
 have hS:Sm 104 (vs++[1]).sum:=by
  have:=xR p6
  show (vs++[1]).sum.natAbs<2^104
  have:(2:Nat)^104=20282409603651670423947251286016:=by decide
  omega
 have lv:(vs.map Val.int).length+1<=16777216:=by rw[j_];omega
 refine aF (λe=>e=[.sh (.kl (ns.map .int)),.ow (fdV a1 c1 55),.sh (bV b),.sh (liV (vs++[1])),.no,.no,.no,.no,.no,.no,.no,.no]) ⟨_,by
  unfold liV at p5 ⊢
  rw[OI]
  generalize vs.map Val.int=vv at *
  simp![p5,lv],rfl⟩ ?_
 rintro _ rfl
 generalize vs++[1]=ws at *
 have wl:=W.len
 have wp:=W.pos
 have ll:((ws.map Val.int).length:Nat)=ws.length:=j_ ..
 obtain⟨o,a3,c3,om,ol,e3⟩:=AN (a:=a1) (b:=c1) (k:=55) (m:=ws.length) (by omega)
 refine aF (λe=>e=[.sh (.kl (ns.map .int)),.ow (fdV a3 c3 55),.sh (bV b),.sh (liV ws),.sh (itV o),.no,.no,.no,.no,.no,.no,.no]) ⟨_,by
  unfold liV
  generalize bV b=bv at *
  generalize itV o=ov at *
  simp![ll,e3],rfl⟩ ?_
 rintro _ rfl
 refine aF (λe=>e=[.sh (.kl (ns.map .int)),.ow (fdV a3 c3 55),.sh (bV b),.sh (liV ws),.sh (itV o),.sh (.dct bkL),.no,.no,.no,.no,.no,.no]) ⟨_,by
  unfold bkL
  generalize bV b=bv at *
  generalize itV o=ov at *
  generalize liV ws=wv at *
  simp![List.zip_cons_cons,List.zip_nil_right],rfl⟩ ?_
 rintro _ rfl
 have one:o≠[]:=λz=>by rw[z] at ol;simp at ol;omega
 obtain⟨t,a4,c4,T,e4⟩:=uD (k:=55) o.length 42 o a3 c3 one (m_ _) (by omega) (by omega)
 obtain⟨u,a5,c5,U,e5⟩:=BY (a:=a4) (b:=c4) (k:=55) one
 rw[show AT.val (λk=>Val.int (k:Nat)) u=atV u from rfl] at e5
 refine aF (λe=>∃e1,e=.sh (.kl (ns.map .int))::e1) ?_ ?_
 ·obtain⟨e',p',lo⟩:=qK (g:=(gtN 6).G) (B:=l9.G) (λe=>∃(a c:Int) (s6 s7 s8 s9 s10 s11:Sl),(s6.pl=true/\s7.pl=true/\s8.pl=true/\s9.pl=true/\s10.pl=true/\s11.pl=true)/\e=[.sh (.kl (ns.map .int)),.ow (fdV a c 55),.sh (bV b),.sh (liV ws),.sh (itV o),.sh (.dct bkL),s6,s7,s8,s9,s10,s11]) [atV t,atV u] [.sh (.kl (ns.map .int)),.ow (fdV a5 c5 55),.sh (bV b),.sh (liV ws),.sh (itV o),.sh (.dct bkL),.no,.no,.no,.no,.no,.no] ⟨a5,c5,.no,.no,.no,.no,.no,.no,⟨rfl,rfl,rfl,rfl,rfl,rfl⟩,rfl⟩ (by
   rintro v hv _ ⟨a6,c6,s6,s7,s8,s9,s10,s11,⟨h6,h7,h8,h9,h10,h11⟩,rfl⟩
   obtain⟨x,X,rfl⟩:∃x,TOk x o/\v=atV x:=by
    rcases D_.mp hv with rfl |hv
    ·exact⟨t,T,rfl⟩
    ·rcases D_.mp hv with rfl |hv
     ·exact⟨u,U,rfl⟩
     ·exact nomatch hv
   obtain⟨a7,c7,t7,t8,t9,t10,t11,hp,he⟩:=E5 (sc:=.kl (ns.map .int)) (a:=a6) (c:=c6) g W hS X om ol h7 h8 h9 h10 h11
   refine⟨[.sh (.kl (ns.map .int)),.ow (fdV a6 c6 55),.sh (bV b),.sh (liV ws),.sh (itV o),.sh (.dct bkL),.sh (atV x),s7,s8,s9,s10,s11],_,?_,.inl he,a7,c7,.sh (atV x),t7,t8,t9,t10,t11,⟨rfl,hp⟩,rfl⟩
   generalize liV ws=wv at *
   generalize bV b=bv at *
   generalize atV x=tv at *
   generalize itV o=ov at *
   generalize bkL=bk at *
   simp![h6])
  exact⟨e',by
   clear p'
   generalize fdV a3 c3 55=f3 at *
   generalize fdV a4 c4 55=f4 at *
   generalize fdV a5 c5 55=f5 at *
   generalize liV ws=wv at *
   generalize bV b=bv at *
   generalize atV t=tv at *
   generalize atV u=uv at *
   generalize itV o=ov at *
   generalize bkL=bk at *
   simp![e4,e5,lo],by obtain⟨_,_,_,_,_,_,_,_,_,rfl⟩:=p';exact⟨_,rfl⟩⟩
 rintro _ ⟨e1,rfl⟩
 unfold lawQ
 simp![xi]
end KK
namespace PySem.W.Fast
def tw10023200829926025597:=trivial
def tw10038496200092528023:=trivial
def tw10059268955135618026:=trivial
def tw10198376626255253964:=trivial
def tw10261708069532216680:=trivial
def tw10276492284634524782:=trivial
def tw10291069569369732152:=trivial
def tw10328977332586309919:=trivial
def tw10419192975578364089:=trivial
def tw10436756536012353046:=trivial
def tw10481109576135073530:=trivial
def tw10494662997486392362:=trivial
def tw10575366447954445000:=trivial
def tw10583078004942638269:=trivial
def tw10630872102389016806:=trivial
def tw10636919801955598923:=trivial
def tw10678146375499544352:=trivial
def tw10751641988852962086:=trivial
def tw10804998163260117022:=trivial
def tw10920217249938272416:=trivial
def tw10964030446341265372:=trivial
def tw10985619476597092175:=trivial
def tw1098673212654325702:=trivial
def tw11017829946245798530:=trivial
def tw11033546631972677493:=trivial
def tw11037809291218559981:=trivial
def tw11163297904635235690:=trivial
def tw11163818374088948435:=trivial
def tw11184239564545799907:=trivial
def tw11243783979986306345:=trivial
def tw11332437769627516795:=trivial
def tw11365677308785563456:=trivial
def tw11408859365847563896:=trivial
def tw11410922863781098530:=trivial
def tw11427655730104385886:=trivial
def tw11427749733847502094:=trivial
def tw11473800822416872583:=trivial
def tw11490654404524388181:=trivial
def tw11503523680537383728:=trivial
def tw11512208257486353451:=trivial
def tw11557086688575826244:=trivial
def tw11564758508849831978:=trivial
def tw11565905536460010554:=trivial
def tw11609176056551930945:=trivial
def tw1162958378196193570:=trivial
def tw11669743244884824915:=trivial
def tw11715079077928938313:=trivial
def tw11799023896882709478:=trivial
def tw11910591896417829457:=trivial
def tw11951253278008724950:=trivial
def tw11994475986153524065:=trivial
def tw12036952763234174148:=trivial
def tw12047150588255647882:=trivial
def tw12069869383347663895:=trivial
def tw12080537530907765630:=trivial
def tw12119844240277102846:=trivial
def tw12132740734470454183:=trivial
def tw12158348727133445932:=trivial
def tw12197790203588112814:=trivial
def tw12219422426320467475:=trivial
def tw12221792558203518796:=trivial
def tw12289977047681280655:=trivial
def tw12426289497398176418:=trivial
def tw12518057080661798755:=trivial
def tw12608635165198140366:=trivial
def tw12610250110465661397:=trivial
def tw12644347466140932710:=trivial
def tw12662483861446098891:=trivial
def tw12725527447550757938:=trivial
def tw12740826290344584367:=trivial
def tw12778862577453045101:=trivial
def tw1283782397301764024:=trivial
def tw1284254062471504363:=trivial
def tw12845170698421459677:=trivial
def tw1289108844142105898:=trivial
def tw12948441193525430902:=trivial
def tw13023183994862112343:=trivial
def tw13081280710242175400:=trivial
def tw13112933918336376177:=trivial
def tw13156982493396425087:=trivial
def tw13232749198695668902:=trivial
def tw13441258670113520456:=trivial
def tw13598353477798220913:=trivial
def tw13854052198610371742:=trivial
def tw13878577256368422353:=trivial
def tw13922351285323931795:=trivial
def tw13954251369800234017:=trivial
def tw13956263325649591984:=trivial
def tw13999727108694837213:=trivial
def tw14013600985003004662:=trivial
def tw14024709694265497302:=trivial
def tw14038675843465103105:=trivial
def tw14042922821881012896:=trivial
def tw14043703757818620458:=trivial
def tw14145668500726267904:=trivial
def tw14156178089350085217:=trivial
def tw14213583047351920361:=trivial
def tw14217295198601786927:=trivial
def tw14235975578517896230:=trivial
def tw14296240195095065290:=trivial
def tw14313878184896297134:=trivial
def tw14325405951962415536:=trivial
def tw14391515746234562476:=trivial
def tw14459826214763559634:=trivial
def tw14502814836948013723:=trivial
def tw14528846317833777455:=trivial
def tw14556939826557201452:=trivial
def tw14570125140220650119:=trivial
def tw14609828465752998922:=trivial
def tw14649688969528357006:=trivial
def tw14731187767119764360:=trivial
def tw14788112647005843065:=trivial
def tw14902987358629479507:=trivial
def tw14982228835284824309:=trivial
def tw15036207819145342132:=trivial
def tw15078459028645175965:=trivial
def tw15101323164574734396:=trivial
def tw15107757270954110855:=trivial
def tw15191222472117751072:=trivial
def tw15202694622665518615:=trivial
def tw15219841445854133349:=trivial
def tw15259540603335052289:=trivial
def tw15367416101282989602:=trivial
def tw15544069989867976863:=trivial
def tw15594651394546834647:=trivial
def tw15604742179850988399:=trivial
def tw15686960049495244556:=trivial
def tw15694233514606419721:=trivial
def tw15703895114312084683:=trivial
def tw15704175303002856938:=trivial
def tw15718415285957502374:=trivial
def tw15722744721102283781:=trivial
def tw15724114919537481291:=trivial
def tw15728407838716903673:=trivial
def tw15789643165967690137:=trivial
def tw15810941405040298622:=trivial
def tw1584791936273888136:=trivial
def tw15891384522010740089:=trivial
def tw15901062307203940544:=trivial
def tw15911700810847288592:=trivial
def tw15911707936742657264:=trivial
def tw15926446552906028130:=trivial
def tw15962538379785416529:=trivial
def tw15988785822837918705:=trivial
def tw16026428378943460287:=trivial
def tw16059178660229229826:=trivial
def tw16154371694943127777:=trivial
def tw16160062403492832827:=trivial
def tw16194889933970451741:=trivial
def tw1625196822055961803:=trivial
def tw16304821766528124177:=trivial
def tw16316258502690413509:=trivial
def tw16335464280645985142:=trivial
def tw16336002625662149966:=trivial
def tw16356174358818132192:=trivial
def tw16514475882270400086:=trivial
def tw16528988753529203732:=trivial
def tw16534168933354734239:=trivial
def tw16541451540625313895:=trivial
def tw16559699126857263013:=trivial
def tw1658187968430752114:=trivial
def tw16613446979410193054:=trivial
def tw16628892297617139748:=trivial
def tw16676077189654086034:=trivial
def tw16678370135214523746:=trivial
def tw16759729077642497822:=trivial
def tw16837951442723168428:=trivial
def tw16885256248072422040:=trivial
def tw16951922535568076146:=trivial
def tw16984562595146633237:=trivial
def tw17004422046704091281:=trivial
def tw17007806567459537567:=trivial
def tw17120086575790432197:=trivial
def tw17130952923797018081:=trivial
def tw17176267185748032882:=trivial
def tw17260773297458984975:=trivial
def tw17295594038778444550:=trivial
def tw17323713771424182527:=trivial
def tw17351096760039351368:=trivial
def tw1749145769854085623:=trivial
def tw17492801395876180254:=trivial
def tw17528597862182990494:=trivial
def tw17574132622557115199:=trivial
def tw17591248464166663170:=trivial
def tw1769309412886749007:=trivial
def tw17698846873054956492:=trivial
def tw17735645271182076556:=trivial
def tw17773245674182840759:=trivial
def tw17827560868369414147:=trivial
def tw17883155118686306833:=trivial
def tw17906400216915347383:=trivial
def tw17929452977092589101:=trivial
def tw17959295556860035639:=trivial
def tw17996604692390643223:=trivial
def tw18000978700922724769:=trivial
def tw18061271970202073376:=trivial
def tw180794989952850332:=trivial
def tw18126061498545008314:=trivial
def tw18143178355446346502:=trivial
def tw18193122159832213730:=trivial
def tw18249435749015558539:=trivial
def tw1827194604837794903:=trivial
def tw18289437263534899226:=trivial
def tw18323771469725653215:=trivial
def tw18344125004472786903:=trivial
def tw18347358404187931185:=trivial
def tw18408232311670704633:=trivial
def tw18431063861097380404:=trivial
def tw196268621462916959:=trivial
def tw19840675309996910:=trivial
def tw1995776833169893299:=trivial
def tw19995010340738482:=trivial
def tw200122983487861335:=trivial
def tw2003787930984972610:=trivial
def tw2004126339967759983:=trivial
def tw205625609027669962:=trivial
def tw2068718668627713110:=trivial
def tw2086585041975638358:=trivial
def tw2098912169408278843:=trivial
def tw2101967776271547568:=trivial
def tw2111026823255454992:=trivial
def tw2126161501801038396:=trivial
def tw2142278953516155575:=trivial
def tw2164191301224780520:=trivial
def tw2249503270553135944:=trivial
def tw233826666742544026:=trivial
def tw2365311196655932321:=trivial
def tw2498672728902999154:=trivial
def tw2501766752367066679:=trivial
def tw2785846730522384172:=trivial
def tw2803113935477974455:=trivial
def tw2862954665972325406:=trivial
def tw2885418513922054074:=trivial
def tw2931602749727310051:=trivial
def tw2931802735847555804:=trivial
def tw2943072833605556939:=trivial
def tw2979999184080742249:=trivial
def tw3030548388981443069:=trivial
def tw3045635358697576043:=trivial
def tw3082025547632742215:=trivial
def tw3136498561791725841:=trivial
def tw3150811541252858304:=trivial
def tw3208876689884442771:=trivial
def tw3233722186524578140:=trivial
def tw3243313206965068113:=trivial
def tw3255140909609740644:=trivial
def tw3314447982028673241:=trivial
def tw3339327763239333685:=trivial
def tw3393008458405370517:=trivial
def tw3483748674144213373:=trivial
def tw3490184860873746321:=trivial
def tw3517621345690725272:=trivial
def tw353500892220820087:=trivial
def tw3546684187841048233:=trivial
def tw3559900152866440425:=trivial
def tw3579346352797696821:=trivial
def tw3633920095577197381:=trivial
def tw3695740526554124727:=trivial
def tw3720879899725974697:=trivial
def tw3755288875061686993:=trivial
def tw3907368150664768747:=trivial
def tw3911718237123257008:=trivial
def tw3927058411884494017:=trivial
def tw399311584396401873:=trivial
def tw4025115511342264404:=trivial
def tw4052918100399576605:=trivial
def tw4074824476583361599:=trivial
def tw4115016019570125355:=trivial
def tw4320932818512135984:=trivial
def tw4396839734533308804:=trivial
def tw4452738542355867174:=trivial
def tw4480463403175012775:=trivial
def tw4483867002972433769:=trivial
def tw4599510328425675213:=trivial
def tw4800766200416686864:=trivial
def tw4869554901475724512:=trivial
def tw4903511872162064959:=trivial
def tw4941006704076187214:=trivial
def tw4948353937190860239:=trivial
def tw5023037024904926874:=trivial
def tw5029427956780097266:=trivial
def tw5052206220650306271:=trivial
def tw5074381550893163184:=trivial
def tw5087221884585506359:=trivial
def tw5186710415775602701:=trivial
def tw5243487415808139568:=trivial
def tw525673096386841319:=trivial
def tw531301078988720881:=trivial
def tw5323876230303833037:=trivial
def tw532987718132614934:=trivial
def tw5400827301643592356:=trivial
def tw5428405763647467798:=trivial
def tw5454408312587458727:=trivial
def tw546202728566221032:=trivial
def tw5552308682236726869:=trivial
def tw5564654185696681515:=trivial
def tw5577517623334474065:=trivial
def tw5785855263363480888:=trivial
def tw5794773608144985991:=trivial
def tw584117400526913297:=trivial
def tw5842398013755769298:=trivial
def tw5850039164992528340:=trivial
def tw5934863049172549040:=trivial
def tw5937659702158617410:=trivial
def tw5953763885663275715:=trivial
def tw6005201242841844898:=trivial
def tw6054423426424556023:=trivial
def tw6076328956155227038:=trivial
def tw6078170477867043721:=trivial
def tw6112194538985928797:=trivial
def tw6117619012628511467:=trivial
def tw6186580065741746828:=trivial
def tw6199292471400771316:=trivial
def tw6216759300411038314:=trivial
def tw6228096843713855469:=trivial
def tw6403814505138090443:=trivial
def tw6440678990829993441:=trivial
def tw6490544055431881531:=trivial
def tw6524198101557845639:=trivial
def tw6545489746342574795:=trivial
def tw6593674838575597837:=trivial
def tw666622875018097770:=trivial
def tw6827342346300334780:=trivial
def tw6885281362244247916:=trivial
def tw6887415130427469235:=trivial
def tw6904878489362972900:=trivial
def tw6940974919018247643:=trivial
def tw7072237853444456027:=trivial
def tw7094481554011190754:=trivial
def tw7137690367112514184:=trivial
def tw7267284871857584446:=trivial
def tw7293861375193993805:=trivial
def tw7377517198871443301:=trivial
def tw7395733097244485074:=trivial
def tw7455834767368007715:=trivial
def tw7501701983475949047:=trivial
def tw7518460008210972812:=trivial
def tw7527434340894961188:=trivial
def tw7531664547530600026:=trivial
def tw7541575206698107884:=trivial
def tw7544686118812918529:=trivial
def tw7611379601220611768:=trivial
def tw7672206761807117265:=trivial
def tw7690797505312303999:=trivial
def tw7791780259917879534:=trivial
def tw7791979983333328624:=trivial
def tw7865494851437803723:=trivial
def tw7904830060226802917:=trivial
def tw7931320019159072597:=trivial
def tw8028302512380738363:=trivial
def tw8059777835488271290:=trivial
def tw8183757577016348366:=trivial
def tw8185206690474577991:=trivial
def tw8193100562599777646:=trivial
def tw8259301048516230214:=trivial
def tw8420606634417183377:=trivial
def tw8461479832633393845:=trivial
def tw8498027990950310863:=trivial
def tw852401646902607632:=trivial
def tw8535531175298126219:=trivial
def tw8572408546486691552:=trivial
def tw8707924518674897252:=trivial
def tw8806559796924461439:=trivial
def tw889651491315493145:=trivial
def tw8908812752593279740:=trivial
def tw893961421084075536:=trivial
def tw8943492053689570100:=trivial
def tw8966508507633691455:=trivial
def tw9140806063201400386:=trivial
def tw9143224757929612742:=trivial
def tw9157751909237967190:=trivial
def tw9206833134229748597:=trivial
def tw9278107213811783826:=trivial
def tw9302296004122668404:=trivial
def tw9346366857927384185:=trivial
def tw9347736021617408286:=trivial
def tw9368345395217009565:=trivial
def tw9378344172961360769:=trivial
def tw9419640028053016084:=trivial
def tw9458846971656137379:=trivial
def tw9504495580357132851:=trivial
def tw9513485818629126545:=trivial
def tw9529266519651857545:=trivial
def tw9543069686647117864:=trivial
def tw95514472054951714:=trivial
def tw9619645978078504260:=trivial
def tw9659756343766235730:=trivial
def tw9716521363522087128:=trivial
def tw9732507818488814711:=trivial
def tw9750552139370161794:=trivial
def tw9759191664681700034:=trivial
def tw979014746810697510:=trivial
def tw9792695336010535694:=trivial
def tw9846665765150151959:=trivial
def tw9859545279312062:=trivial
def tw9868203850787029722:=trivial
def tw98948830917322243:=trivial
def tw9932463931134563343:=trivial
def tw9942535573740090194:=trivial
def tw9978923014268408602:=trivial
end PySem.W.Fast
open PySem PySem.W PyProof.Rows L2 L3 KK
set_option maxRecDepth 100000 in
set_option maxHeartbeats 0 in
theorem PySem.Challenge.cw_weightrooms_k13_whole_relations_are_so_holds : PySem.Challenge.rw_weightrooms_k13_whole_relations_are_so.Holds := by
 w_on;o_law;k_head;(case hw=>w_witness2)
 k_fill
 refine L2.walk_lawD (l:=PySem.Challenge.rw_weightrooms_k13_whole_relations_are_so) (x:="_law_script") (k:=52) rfl rfl ⟨rfl,by decide,by decide⟩ (λw h Y=>W.kIn_of Y) ?F ?D
 case F=>
  intro w mg h KX G base kb nb
  refine zY (DU ⟨LQ KX G (by kernel_rfl),?_⟩) (law3 p9 rfl Ku)
  repeat first
   |exact trivial
   |refine⟨by refine' yr KX G ?a ?l ?c ?k;(case a=>k_is);(case l=>k_is);(case c=>k_is);(case k=>k_is),?_⟩
 case D=>
  intro w mg h KX G
  refine⟨top 60,?_,(λ_ _ _ _ _ _=>ar1 λ_=>rfl)⟩
  refine' yr KX G ?a ?l ?c ?k;case a|l|c|k=>k_is
