import PyProof.Rows.All
import Wide.All
import OpenK.AllK
import Wide.FinOn
import Lean
import PyProof.EqAt
import PyProof.EqKinds
import PyProof.TupleCall
import PyProof.Rows.SumAny
import PyProof.EnumMake
import PyProof.Draws
import PyProof.ZipIter
import KE.KUnpack
import KE.KxIndex
import PyProof.SetRoads
import PyProof.SetNew
import PyProof.AutoSeq1
import KE.KRevSl
import PyProof.SeqI3
import PyProof.Rows.SortWalk
import PySem.Challenge.RW_weightrooms_k11_what_is_a_tree
local macro_rules|`(tactic|trivial)=>`(tactic|first|exact Or.inl rfl|exact Or.inr rfl)
local macro_rules|`(tactic|decide)=>`(tactic|decide +kernel)
set_option genSizeOf false
set_option genInjectivity false
set_option bootstrap.genMatcherCode false
noncomputable section
set_option Elab.async false
set_option linter.all false
def i_:=@PySem.wpAny_bind
def j_:=@List.length_map
def k_:=@List.getElem?_eq_some_iff
def l_:=@List.length_append
def m_:=@List.mem_cons_of_mem
def n_:=@Bool.and_eq_true
def o_:=@List.mem_cons_self
def p_:=@Nat.le_refl
def r_:=@Bool.false_ne_true
def s_:=@List.map_cons
def t_:=@List.size_toArray
def u_:=@PySem.wpAny_pure
def v_:=@PySem.Heap.get?_push_of_some
def w_:=@PySem.Heap.lt_size
def x_:=@List.length_cons
def y_:=@Nat.le_trans
def z_:=@List.getElem?_eq_getElem
def A_:=@decide_eq_false
def B_:=@Nat.lt_of_lt_of_le
def C_:=@List.length_set
def D_:=@Option.map_eq_some_iff
def Em:=@PySem.Heap.get?_push_size
def E_:=@List.getElem?_map
def F_:=@decide_eq_true
def G_:=@Option.some.inj
def H_:=@List.mem_cons
def I_:=@List.getElem?_append_right
def J_:=@List.getElem?_append_left
def K_:=@List.mem_append_right
def L_:=@Nat.ne_of_lt
def M_:=@beq_eq_false_iff_ne
def N_:=@List.all_eq_true
def Oh:=@List.length_replicate
def Oi:=@List.mem_map
def Oj:=@Option.bind_eq_some_iff
def Ol:=@List.length_nil
def Om:=@of_decide_eq_true
def Oo:=@List.map_append
def Oq:=@Nat.zero_le
def Ot:=@List.flatten_cons
def Ou:=@List.nil_append
def Ov:=@List.sum_cons
def Ow:=@beq_iff_eq
def Ox:=@PySem.wpAny_mono
def Oy:=@Int.toNat_natCast
def Oz:=@List.replicate_succ
def OA:=@PySem.Heap.get?_update_other
def OB:=@List.append_nil
def OC:=@List.mem_append
def OD:=@List.append_assoc
def OE:=@List.find?_cons
def OF:=@List.map_nil
def OG:=@Option.isSome_none
def OH:=@Option.isSome_iff_exists
def OI:=@congrArg
def OJ:=@PySem.wpAny_field
def OK:=@List.getElem?_replicate
def OL:=@List.length_eq_zero_iff
def OM:=@List.length_take
def ON:=@List.mem_of_getElem?
def OO:=@Int.natAbs_mul
def OP:=@Nat.mul_le_mul
def OQ:=@PySem.wpAny_newObj_type
def OR:=@List.mem_map_of_mem
def OS:=@List.contains_iff_mem
def OT:=@Bool.false_eq_true
def OU:=@Int.mul_assoc
def OV:=@List.any_cons
def OW:=@Nat.lt_irrefl
def OX:=@List.mem_append_left
def OY:=@PySem.wpAny_seqItems
def OZ:=@Rat.intCast_mul
def O0:=@PySem.mem_of_lookup
def O1:=@List.map_map
def O2:=@List.getD_eq_getElem?_getD
def O3:=@List.take_append_drop
def O4:=@if_true
def O5:=@List.getElem?_eq_none_iff
def O6:=@List.mem_or_eq_of_mem_set
def O7:=@Nat.mul_pos
def O8:=@List.nodup_cons
def O9:=@decide_eq_true_eq
def O_:=@PySem.wpAny_callSpecial?_slot
def Pa:=@List.filterMap_cons
def Pb:=@PySem.Heap.size_push
def Pc:=@List.dropLast_concat_getLast
def Pd:=@List.lookup_cons
def Pe:=@List.mem_range
def Pf:=@List.take_of_length_le
def Pg:=@List.mem_singleton
def Ph:=@Nat.ne_of_gt
def Pj:=@decide_eq_true_iff
def Pk:=@PySem.wpAny_setField_rec
def Pl:=@Bool.eq_iff_iff
def Pm:=@Int.natCast_mul
def Pn:=@List.getElem?_zipWith
def Pp:=@Nat.not_lt_zero
def Pq:=@PySem.wpAny_passesOwn
def Pr:=@PySem.F.slot_tuple_iterator_next
def Pt:=@PySem.wpAny_truthy_bool
def Pu:=@List.getElem?_set_ne
def Pw:=@List.cons_append
def Px:=@List.length_drop
def Py:=@Nat.sub_self
def Pz:=@List.length_zipWith
def PC:=@Nat.mul_le_mul_left
def PD:=@List.take_nil
def PF:=@PySem.wpAny_holding
def PH:=@List.forIn_cons
def PJ:=@Nat.lt_of_le_of_lt
def PK:=@PySem.call_meets
def PL:=@PySem.F.plain_sum_loop
def PM:=@if_false
def PN:=@Int.mul_left_comm
def PQ:=@List.Pairwise.imp
def PR:=@List.getElem?_nil
def PU:=@List.getElem?_set
def PV:=@List.length_range
def PX:=@List.pairwise_map
def PY:=@PySem.Heap.get?_update_self
def PZ:=@List.dropLast_eq_take
def P0:=@List.mapM_cons
def P1:=@List.sublist_flatten_of_mem
def P2:=@PyProof.Rows.callWith_type1
def P4:=@Nat.pow_le_pow_right
def P5:=@beq_self_eq_true
def P6:=@PySem.wpAny_call_entry
def P7:=@PySem.Calls.Name_function_global
def P8:=@Int.eq_of_mul_eq_mul_right
def P9:=@List.all_cons
def P_:=@List.drop_nil
def Qa:=@Nat.pow_add
def Qb:=@Classical.byContradiction
def Qc:=@PySem.wpAny_execs_nil
def Qd:=@Int.mul_comm
def Qe:=@Int.mul_right_comm
def Qf:=@List.length_erase_of_mem
def Qg:=@Nat.le_of_lt
def Qh:=@PySem.F.args_tuple_add_2
def Qi:=@PySem.wpAny_Call_Name_kw
def Qj:=@List.forIn_nil
def Qk:=@PySem.F.entry_tuple_add
def Ql:=@PySem.wpAny_pyIter_list
def Qm:=@List.Sublist.length_le
def Qn:=@List.getElem?_set_self
def Qo:=@PySem.F.slot_tuple_add
def Qp:=@PySem.wpAny_attempt
def Qq:=@List.getElem_mem
def Qr:=@Nat.le_add_right
def Qs:=@PySem.wpAny_isInstance
def Qt:=@Bool.or_eq_true
def Qu:=@PySem.F.slot_zip_next
def Qv:=@PySem.Heap.get?_none_of_le
def Qw:=@Int.mul_ne_zero
def Qx:=@List.getElem?_append
def Qy:=@List.getElem?_of_mem
def Qz:=@List.mem_of_mem_take
def QA:=@Nat.lt_trans
def QB:=@Nat.min_eq_left
def QC:=@Nat.mul_le_mul_right
def QD:=@PySem.wpAny_updateSeq_pair
def QE:=@Array.length_toList
def QF:=@Int.toNat_of_nonneg
def QG:=@List.length_pos_iff
def QH:=@List.map_eq_nil_iff
def QI:=@Nat.mul_assoc
def QJ:=@PySem.Paired.length
def QK:=@PySem.wpAny_onRaise
def QL:=@PySem.wpAny_standAt
set_option maxRecDepth 100000
namespace L2
open PySem PySem.Spec PyProof.Rows
abbrev _root_.Ra:=Str->Option Value
abbrev _root_.Rb:=List (Addr×Obj)
abbrev _root_.Rg:=Value->Shared->Prop
abbrev _root_.Rh:=List (Option Nat)
abbrev Key:=Sum Int Str
noncomputable def kC:Key->Value->Bool
 |.inl k,v=>Value.isInt k v
 |.inr x,v=>Value.isStrOf x v
noncomputable def keyH(w:World):Key->Int
 |.inl k=>hashInt k
 |.inr x=>hashStr w x
theorem bL:∀{k:Key}{v:Value},kC k v=true->(∃i t,k=Sum.inl i/\v=Value.int i t)\/(∃x t,k=Sum.inr x/\v=Value.str x t)
 |
  .inl i,v,h=>by
  obtain⟨t,e⟩:=Value.isInt_shape (k:=i) (v:=v) h
  exact .inl ⟨i,t,rfl,e⟩
 |
  .inr x,v,h=>by
  obtain⟨t,e⟩:=Value.isStrOf_shape (x:=x) (v:=v) h
  exact .inr ⟨x,t,rfl,e⟩
def wY(i:Int)(t:Tok):kC (.inl i) (.int i t)=true:=by simp [kC,Value.isInt]
def xh(x:Str)(t:Tok):kC (.inr x) (.str x t)=true:=by simp [kC,Value.isStrOf]
def F9(a b:Int):decide ((Sum.inl a:Key)=Sum.inl b)=(a==b):=by
 by_cases e:a=b
 ·subst e;simp
 ·have h:¬ (Sum.inl a:Key)=Sum.inl b:=λq=>e (Sum.inl.inj q)
  rw[A_ h]
  exact (M_.mpr e).symm
def Hd(a b:Str):decide ((Sum.inr a:Key)=Sum.inr b)=decide (a=b):=by
 by_cases e:a=b
 ·subst e;simp
 ·have h:¬ (Sum.inr a:Key)=Sum.inr b:=λq=>e (Sum.inr.inj q)
  rw[A_ h,A_ e]
def Gp(a:Int)(b:Str):decide ((Sum.inl a:Key)=Sum.inr b)=false:=A_ (λq=>nomatch q)
def HV(a:Str)(b:Int):decide ((Sum.inr a:Key)=Sum.inl b)=false:=A_ (λq=>nomatch q)
noncomputable def bT(prog:Program)(w:World):PySem.KeyKind prog w Key where
 is:=kC
 hash:=keyH w
 inj
  := λv a b ha hb=>by
  rcases bL ha with ⟨i,t,rfl,rfl⟩ |⟨x,t,rfl,rfl⟩
  ·rcases bL hb with ⟨j,u,rfl,e⟩ |⟨y,u,rfl,e⟩
   ·injection e with e1 _;rw[e1]
   ·exact nomatch e
  ·rcases bL hb with ⟨j,u,rfl,e⟩ |⟨y,u,rfl,e⟩
   ·exact nomatch e
   ·injection e with e1 _;rw[e1]
 byValue:=λk v h=>by
  rcases bL h with ⟨i,t,rfl,rfl⟩ |⟨x,t,rfl,rfl⟩ <;> rfl
 pyHash:=λhv h=>by
  rcases bL hv with ⟨i,t,rfl,rfl⟩ |⟨x,t,rfl,rfl⟩
  ·exact wpAny_pyHash_int h
  ·exact wpAny_pyHash_str h
 eqBool:=λhu hv h=>by
  rcases bL hu with ⟨i,t,rfl,rfl⟩ |⟨x,t,rfl,rfl⟩
  ·rcases bL hv with ⟨j,u,rfl,rfl⟩ |⟨y,u,rfl,rfl⟩
   ·rw[F9] at h;exact wpAny_eqBool_int h
   ·rw[Gp] at h;exact SeqAt.EqAt.int_str i t y u _ _ _ _ h
  ·rcases bL hv with ⟨j,u,rfl,rfl⟩ |⟨y,u,rfl,rfl⟩
   ·rw[HV] at h;exact SeqAt.EqAt.str_int x t j u _ _ _ _ h
   ·rw[Hd] at h;exact wpAny_eqBool_str h
 «strs»:=λk x t v h=>by
  rcases bL h with ⟨i,u,rfl,e⟩ |⟨y,u,rfl,e⟩
  ·exact nomatch e
  ·injection e with e1 _
   subst e1
   cases v <;> rfl
def sZ(prog:Program)(w:World)(i:Int)(t:Tok):(bT prog w).is (.inl i) (.int i t)=true:=wY i t
def tf(prog:Program)(w:World)(x:Str)(t:Tok):(bT prog w).is (.inr x) (.str x t)=true:=xh x t
inductive V where
 |non |bl (b:Bool) |int (i:Int) |str (x:Str) |byt (b:Array UInt8) |flt (b:UInt64) |ref (a:Addr) |ty (n:String)
 deriving DecidableEq
noncomputable def RelV:V->Value->Prop
 |.non,u=>u=Value.none
 |.bl b,u=>u=Value.bool b
 |.int i,u=>∃t,u=Value.int i t
 |.str x,u=>∃t,u=Value.str x t
 |.byt b,u=>∃t,u=Value.bytes b t
 |.flt b,u=>∃t,u=Value.float b t
 |.ref a,u=>u=Value.ref a
 |.ty n,u=>u=Value.type n
abbrev Vals:List V->List Value->Prop:=Paired RelV
noncomputable def Vals.length(r:Vals xs us):xs.length=us.length:=QJ r
def Vals.get{xs:List V}{us:List Value}{i:Nat}{x:V}(r:Vals xs us)(e:xs[i]?=some x):∃u,us[i]?=some u/\RelV x u:=by
 induction r generalizing i with
 |nil=>rw[PR] at e;cases e
 |
  cons r t ih=>
  cases i with
  |zero=>cases e;exact⟨_,rfl,r⟩
  |succ i=>exact ih (i:=i) e
def Vals.set(r:RelV x u)(i:Nat)(q:Vals xs us):Vals (xs.set i x) (us.set i u):=by
 induction q generalizing i with
 |nil=>exact .nil
 |
  cons q t ih=>
  cases i with
  |zero=>exact .cons r t
  |succ i=>exact .cons q (ih i)
noncomputable def Vals.append(r:Vals xs us)(s:Vals ys ws):Vals (xs++ys) (us++ws):=by
 induction r with
 |nil=>exact s
 |cons r t ih=>exact .cons r ih
noncomputable def Vals.take(n:Nat)(r:Vals xs us):Vals (xs.take n) (us.take n):=by
 induction r generalizing n with
 |nil=>rw[PD,PD];exact .nil
 |
  cons r t ih=>
  cases n with
  |zero=>exact .nil
  |succ n=>exact .cons r (ih n)
noncomputable def Vals.drop(n:Nat)(r:Vals xs us):Vals (xs.drop n) (us.drop n):=by
 induction r generalizing n with
 |nil=>rw[P_,P_];exact .nil
 |
  cons r t ih=>
  cases n with
  |zero=>exact .cons r t
  |succ n=>exact ih n
def RelO:Option V->Option Value->Prop
 |some v,some u=>RelV v u
 |none,none=>True
 |_,_=>False
def KV{κ:Type}:List (κ×V)->List (κ×Value)->Prop:=Paired λ(p:κ×V) (q:κ×Value)=>p.1=q.1/\RelV p.2 q.2
noncomputable def kV:Key->V
 |.inl i=>.int i
 |.inr x=>.str x
inductive HO where
 |lst (xs:List V)
 |tup (xs:List V)
 |dK (kvs:List (Key×V)) |dT (kvs:List (List Key×V))
 |set (S:Int->Bool) (n:Nat)
 |ins (C dx:Addr) (fs:List (Str×V))
 |own (x:Addr)
 |xd (fs:List (Str×V))
 |met (f x:Addr)
 |rng (lo hi:Int)
 |frz (o:Obj) (u:HO)
 |tbl (ps:Array Value)
 |ext (φ:Heap->Prop)
abbrev Hp:=Addr->Option HO
noncomputable def upd(H:Hp)(a:Addr)(o:HO):Hp:=λb=>if b=a then some o else H b
def bB:upd H a o a=some o:=by unfold upd;rw[if_pos rfl]
def aF(h:b≠a):upd H a o b=H b:=by unfold upd;rw[if_neg h]
def LS{H:Hp}{a b:Addr}{o u:HO}(h:H a=some o)(h':H b=some u)(d:o≠u):a≠b:=by
 intro e;subst e;rw[h] at h';exact d (G_ h')
def bM{H:Hp}{a b:Addr}{o:HO}(h:H a=some o)(h':H b=none):a≠b:=by
 intro e;subst e;rw[h] at h';cases h'
section
variable(P:Program)(w:World)
def ObjOk(H:Hp)(h:Heap)(a:Addr):HO->Prop
 |.lst xs=>xs.length<=sizeLine/\∃(its:List Value) (n:Nat),Vals xs its/\h.get? a=some { cls:=.type "list",data:=.seq its.toArray n }
 |.tup xs=>xs.length<=sizeLine/\∃its:List Value,Vals xs its/\IsTup h a its.toArray
 |.dK kvs=>kvs.length<=sizeLine/\(a==sysModules)=false/\∃vs,KV kvs vs/\h.DictOf (bT P w) a vs
 |.dT kvs=>kvs.length<=sizeLine/\(a==sysModules)=false/\∃xs:List (List Key×Addr×Value),
  Paired (λ(p:List Key×V) (q:List Key×Addr×Value)=>p.1=q.1/\H q.2.1=some (.tup (p.1.map kV))/\RelV p.2 q.2.2) kvs xs/\
  ∃o es ep,h.get? a=some o/\o.ExactDict/\o.data=.dict es ep/\es.toList=xs.map (entryOfKey (tupleKind (bT P w)))/\(xs.map (·.1)).Nodup
 |.set S n=>h.SetOf (intKind P w) a S n
 |.ins C dx fs=>H dx=some (.own a)/\fs.length<=1000/\dx≠a/\h.get? a=some (W.instObj C dx)/\
  ∃mA,h.Ns1 dx mA/\(∀f,RelO (fs.lookup f) (mA f))/\PySem.Within mA (fs.map (·.1))
 |.own _=>∃o,h.get? a=some o
 |.xd fs=>∃mA,h.Ns1 a mA/\∀f,RelO (fs.lookup f) (mA f)
 |.rng lo hi=>∃t u v,h.get? a=some { cls:=.type "range",data:=.fields #[.int lo t,.int hi u,.int 1 v] }
 |.frz o u=>h.get? a=some o/\ObjOk H h a u
 |.tbl ps=>h.get? a=some { cls:=.none,data:=.fields ps }
 |.met f x=>h.get? a=some (W.methodObj (.ref f) (.ref x))
 |.ext φ=>φ h/\(∃o,h.get? a=some o)/\∀h1 h2:Heap,φ h1->(∀o,h1.get? a=some o->h2.get? a=some o)->φ h2
def HOk(H:Hp)(h:Heap):Prop:=∀a o,H a=some o->ObjOk P w H h a o
end
section
variable{P:Program}{w:World}{H H':Hp}{h h':Heap}{a:Addr}{o:HO}
def ObjOk.lt(x:ObjOk P w H h a o):a<h.objs.size:=by
 cases o with
 |lst xs=>obtain⟨_,_,_,_,e⟩:=x;exact w_ e
 |tup xs=>obtain⟨_,_,_,p⟩:=x;exact p.lt
 |dK kvs=>obtain⟨_,_,_,_,o,_,_,e,_⟩:=x;exact w_ e
 |dT kvs=>obtain⟨_,_,_,_,o,_,_,e,_⟩:=x;exact w_ e
 |set S n=>obtain⟨o,_,_,_,e,_⟩:=x;exact w_ e
 |ins C dx fs=>obtain⟨_,_,_,e,_⟩:=x;exact w_ e
 |own y=>obtain⟨_,e⟩:=x;exact w_ e
 |xd fs=>obtain⟨_,⟨_,_,_,e,_⟩,_⟩:=x;exact w_ e
 |rng lo hi=>obtain⟨_,_,_,e⟩:=x;exact w_ e
 |frz ob u=>obtain⟨e,_⟩:=x;exact w_ e
 |tbl ps=>exact w_ (show h.get? a=some _ from x)
 |met f y=>exact w_ (show h.get? a=some _ from x)
 |ext φ=>obtain⟨_,⟨_,e⟩,_⟩:=x;exact w_ e
def Paired.mapP(r:Paired F l₁ l₂)(f:∀a b,F a b->G a b):Paired G l₁ l₂:=by
 induction r with
 |nil=>exact .nil
 |cons r t ih=>exact .cons (f _ _ r) ih
def ObjOk.stay(x:ObjOk P w H h a o)(k:∀b u,(b=a\/H b=some (.own a))->h.get? b=some u->h'.get? b=some u)
 (ho:∀b,H b=some (.own a)->H' b=some (.own a)) (ht:∀b xs,H b=some (.tup xs)->H' b=some (.tup xs)):ObjOk P w H' h' a o:=by
 induction o with
 |lst xs=>obtain⟨z,its,n,r,e⟩:=x;exact⟨z,its,n,r,k _ _ (.inl rfl) e⟩
 |tup xs=>obtain⟨z,its,r,ob,e,c⟩:=x;exact⟨z,its,r,ob,k _ _ (.inl rfl) e,c⟩
 |dK kvs=>obtain⟨z,y,vs,r,ob,es,ep,e,c⟩:=x;exact⟨z,y,vs,r,ob,es,ep,k _ _ (.inl rfl) e,c⟩
 |
  dT kvs=>
  obtain⟨z,y,xs,r,ob,es,ep,e,c⟩:=x
  exact⟨z,y,xs,Paired.mapP r λp q z=>⟨z.1,ht _ _ z.2.1,z.2.2⟩,ob,es,ep,k _ _ (.inl rfl) e,c⟩
 |set S n=>obtain⟨ob,es,ep,t,e,c⟩:=x;exact⟨ob,es,ep,t,k _ _ (.inl rfl) e,c⟩
 |
  ins C dx fs=>
  obtain⟨d,z,ne,e,mA,⟨od,es,ep,e2,c⟩,r⟩:=x
  exact⟨ho _ d,z,ne,k _ _ (.inl rfl) e,mA,⟨od,es,ep,k _ _ (.inr d) e2,c⟩,r⟩
 |own y=>obtain⟨ob,e⟩:=x;exact⟨ob,k _ _ (.inl rfl) e⟩
 |xd fs=>obtain⟨mA,⟨od,es,ep,e,c⟩,r⟩:=x;exact⟨mA,⟨od,es,ep,k _ _ (.inl rfl) e,c⟩,r⟩
 |rng lo hi=>obtain⟨t,u,v,e⟩:=x;exact⟨t,u,v,k _ _ (.inl rfl) e⟩
 |frz ob u ih=>obtain⟨e,q⟩:=x;exact⟨k _ _ (.inl rfl) e,ih q⟩
 |
  tbl ps=>
  have e:h.get? a=some { cls:=.none,data:=.fields ps }:=x
  show h'.get? a=some { cls:=.none,data:=.fields ps }
  exact k a _ (.inl rfl) e
 |
  met f y=>
  have e:h.get? a=some (W.methodObj (.ref f) (.ref y)):=x
  show h'.get? a=some (W.methodObj (.ref f) (.ref y))
  exact k a _ (.inl rfl) e
 |ext φ=>obtain⟨p,⟨o,e⟩,st⟩:=x;exact⟨st _ _ p λo q=>k _ _ (.inl rfl) q,⟨o,k _ _ (.inl rfl) e⟩,st⟩
def HOk.lt(x:HOk P w H h)(e:H a=some o):a<h.objs.size:=(x a o e).lt
def HOk.fresh(x:HOk P w H h)(e:h.objs.size<=a):H a=none:=by
 cases q:H a with
 |none=>rfl
 |some u=>exact absurd (B_ (x.lt q) e) (OW _)
def HOk.kept(x:HOk P w H h)(k:∀b u,h.get? b=some u->h'.get? b=some u):HOk P w H h':=λa o e=>
 (x a o e).stay (λb u _ q=>k b u q) (λ_ q=>q) λ_ _ q=>q
def HOk.laid(x:HOk P w H h)(k:∀b u,h.get? b=some u->h'.get? b=some u)(hp:h.objs.size<=a)(new:ObjOk P w (upd H a o) h' a o):HOk P w (upd H a o) h':=λb u e=>by
 have hn:=x.fresh hp
 by_cases hb:b=a
 ·subst hb;rw[bB] at e;cases e;exact new
 ·rw[aF hb] at e
  exact (x b u e).stay (λc v _ q=>k c v q) (λc q=>by rw[aF (bM q hn)];exact q) λc xs q=>by rw[aF (bM q hn)];exact q
end
def Rd(H:Hp)(a:Addr)(u:HO):Prop:=H a=some u\/∃o,H a=some (.frz o u)
def Rd.ok(r:Rd H a u)(x:HOk P w H h):ObjOk P w H h a u:=by
 rcases r with r |⟨o,r⟩
 ·exact x a u r
 ·obtain⟨_,q⟩:=x a _ r
  exact q
def Mut:Option HO->Prop
 |some (.lst _)=>True
 |some (.dK _)=>True
 |some (.dT _)=>True
 |some (.set _ _)=>True
 |some (.ins _ _ _)=>True
 |some (.ext _)=>True
 |_=>False
section
variable{P:Program}{w:World}{H:Hp}{h h':Heap}{x e:Addr}{o':HO}
def HOk.write(ok:HOk P w H h)(mu:Mut (H x))(he:e=x\/H e=some (.own x))(k:∀b u,b≠e->h.get? b=some u->h'.get? b=some u)(heo:∃u,h'.get? e=some u)
 (new:ObjOk P w (upd H x o') h' x o'):HOk P w (upd H x o') h':=λb u q=>by
 have nown:∀c y,H c=some (.own y)->c≠x:=λc y r z=>by subst z;rw[r] at mu;exact mu
 have ntup:∀c xs,H c=some (.tup xs)->c≠x:=λc xs r z=>by subst z;rw[r] at mu;exact mu
 by_cases hb:b=x
 ·subst hb;rw[bB] at q;cases q;exact new
 ·rw[aF hb] at q
  by_cases hbe:b=e
  ·have q':H b=some (.own x):=by
    rcases he with z |z
    ·exact absurd (hbe.trans z) hb
    ·rw[hbe];exact z
   rw[q] at q';cases q'
   obtain⟨v,hv⟩:=heo
   exact⟨v,by rw[hbe];exact hv⟩
  ·refine (ok b u q).stay (λc v hc r=>k c v ?_ r) (λc r=>by rw[aF (nown c b r)];exact r) λc xs r=>by rw[aF (ntup c xs r)];exact r
   rcases hc with rfl |hc
   ·exact hbe
   ·rintro rfl
    rcases he with z |z
    ·exact nown c b hc z
    ·rw[hc] at z;cases z;exact hb rfl
end
structure Un(fs ex:List Addr)(H H':Hp)(h h':Heap):Prop where
 keep:∀b o,h.get? b=some o->H b=none->b∉fs->b∉ex->h'.get? b=some o
 slot:∀b o,h.get? b=some o->H b=none->b∈fs->b∉ex->∃sl,h'.get? b=some { o with slots:=sl }
 free:∀b o,h.get? b=some o->H b=none->b∉ex->H' b=none
 there:∀b o,h.get? b=some o->b∉ex->∃o',h'.get? b=some o'
 tups:∀b xs,H b=some (.tup xs)->H' b=some (.tup xs)
 frzs:∀b o u,H b=some (.frz o u)->H' b=some (.frz o u)
 tbls:∀b ps,H b=some (.tbl ps)->∃more,H' b=some (.tbl (ps++more))
section
variable{fs fs' ex ex':List Addr}{H H1 H2:Hp}{h h1 h2 h':Heap}{a x e:Addr}{o:HO}
def Un.any(u:Un fs ex H H1 h h1)(q:h.get? b=some ob)(n:H b=none)(hx:b∉ex):∃sl,h1.get? b=some { ob with slots:=sl }:=by
 by_cases hb:b∈fs
 ·exact u.slot b ob q n hb hx
 ·exact⟨ob.slots,u.keep b ob q n hb hx⟩
noncomputable def Un.kept(k:∀b u,h.get? b=some u->h'.get? b=some u):Un fs ex H H h h':=
 ⟨λb ob q _ _ _=>k b ob q,λb ob q _ _ _=>⟨ob.slots,k b ob q⟩,λ_ _ _ n _=>n,λb ob q _=>⟨ob,k b ob q⟩,λ_ _ q=>q,λ_ _ _ q=>q,λ_ ps q=>⟨#[],by rw[q];simp⟩⟩
def Un.refl:Un fs ex H H h h:=Un.kept λ_ _ q=>q
def Un.laid(k:∀b u,h.get? b=some u->h'.get? b=some u)(hp:h.objs.size<=a)(hn:H a=none):Un fs ex H (upd H a o) h h' where
 keep:=λb u q _ _ _=>k b u q
 slot:=λb u q _ _ _=>⟨u.slots,k b u q⟩
 free:=λb u q n _=>by rw[aF (L_ (B_ (w_ q) hp))];exact n
 there:=λb u q _=>⟨u,k b u q⟩
 tups:=λb xs q=>by rw[aF (bM q hn)];exact q
 frzs:=λb u xs q=>by rw[aF (bM q hn)];exact q
 tbls:=λb ps q=>⟨#[],by rw[aF (bM q hn),q];simp⟩
def Un.write(mu:Mut (H x))(he:e=x\/H e=some (.own x))(k:∀b u,b≠e->h.get? b=some u->h'.get? b=some u)(heo:∃u,h'.get? e=some u):Un fs ex H (upd H x o) h h':=by
 have hx:∀b,H b=none->b≠x:=λb n z=>by subst z;rw[n] at mu;exact mu
 have hb:∀b,H b=none->b≠e:=λb n z=>by
  subst z
  rcases he with r |r
  ·exact hx b n r
  ·rw[n] at r;cases r
 have hm:∀b u,H b=some u->¬ Mut (some u)->b≠x:=λb u q nm z=>by subst z;rw[q] at mu;exact nm mu
 refine⟨λb u q n _ _=>k b u (hb b n) q,λb u q n _ _=>⟨u.slots,k b u (hb b n) q⟩,λb u q n _=>by rw[aF (hx b n)];exact n,λb u q _=>?_,
  λb xs q=>by rw[aF (hm b _ q λz=>z)];exact q,λb u xs q=>by rw[aF (hm b _ q λz=>z)];exact q,λb ps q=>⟨#[],by rw[aF (hm b _ q λz=>z),q];simp⟩⟩
 by_cases hbe:b=e
 ·subst hbe;exact heo
 ·exact⟨u,k b u hbe q⟩
end
noncomputable def trk(h:Heap)(H:Hp):List Addr:=(List.range h.objs.size).filter λa=>(H a).isSome
noncomputable def jw(h:Heap)(H:Hp):Heap:=W.hideAll h (trk h H)
def xg(h:Heap)(H:Hp):(jw h H).objs.size=h.objs.size:=W.hideAll_size _ _
def BA(e:h.get? b=some o)(n:H b=none):(jw h H).get? b=some o:=
 W.hideAll_get _ e λhm=>by
  have q:(H b).isSome=true:=(List.mem_filter.mp hm).2
  rw[n] at q;simp at q
def Dq(e:(jw h H).get? b=some o):h.get? b=some o/\H b=none:=by
 have e':h.get? b=some o:=W.of_hideAll (trk h H) e
 refine⟨e',?_⟩
 cases q:H b with
 |none=>rfl
 |
  some x=>
  have hm:b∈trk h H:=List.mem_filter.mpr ⟨Pe.mpr (w_ e'),by simp [q]⟩
  have z:(jw h H).get? b=none:=W.hideAll_none (trk h H) hm
  rw[z] at e;cases e
noncomputable def Fc(g h:Heap)(L:Addr):List (Addr×Obj):=(List.range h.objs.size).filterMap λa=>if a=L\/(g.get? a).isSome=true then none else (h.get? a).map λo=>(a,o)
def bp(g h:Heap)(L d:Addr):List (Addr×Obj):=(Fc g h L).filter λp=>decide (p.1≠d)
structure Mod(K:W.Frag)(mg:Ra)(base:Heap):Prop where
 kin:K.In base
 glob:base.Ns mainGlobals mg
 blt:∃mb,base.Ns builtinsNs mb/\∀x:Str,x ≠ "__name__"->mb x=bootBuiltins x
 nolimit:base.NoLimit
structure Cx where
 prog:Program
 w:World
 K:W.Frag
 mg:Str->Option Value
 base:Heap
 A:Around
 N:List Str
 s₀:Shared
 H₀:Hp
 env:Env
 outer:List Env
 stack:List Env
 ex:List Addr
 fn:Str->Bool
 calm:Bool
 pn:List (Addr×Obj)
 xe:Value->Shared->Prop
noncomputable def frs(l:List Env):List Addr:=l.filterMap (·.frame)
abbrev Cx.fs(X:Cx):List Addr:=frs X.outer
def Vis(sc:Scope)(x:Str):Prop:=sc.names.lookup x=some .local\/sc.names.lookup x=some .cell\/sc.names.lookup x=some .free
def Loc(sc:Scope)(x:Str):Prop:=sc.names.lookup x=some .local\/sc.names.lookup x=some .cell
def BL(env:Env)(h:Heap)(m:Ra)(x:Str)(u:Value):Prop:=
 (env.kindOf x=some .local/\m x=some u)\/((env.kindOf x=some .cell\/env.kindOf x=some .free)/\∃c,env.cells.lookup x=some c/\h.IsCell c (some u))
structure Cx.Ok(X:Cx):Prop where
 mod:Mod X.K X.mg X.base
 kind:X.env.scope.kind=.function
 glob:X.env.globals=mainGlobals
 blt:X.env.builtins=builtinsNs
 above:X.s₀.heap.objs.size<=X.env.locals
 inj:∀x y c,X.env.cells.lookup x=some c->X.env.cells.lookup y=some c->x=y
 has:∀x,(X.env.kindOf x=some .cell\/X.env.kindOf x=some .free)->∃c,X.env.cells.lookup x=some c
 cab:∀x c,X.fn x=true->X.env.cells.lookup x=some c->X.s₀.heap.objs.size<=c
 hd:X.calm=true->X.A.handled=none
 frames:X.A.frames=some X.stack
 stk:X.stack=X.outer\/(X.stack=X.env::X.outer/\X.env.frame=some X.env.locals)
 exf:∀b∈X.ex,b≠X.env.locals/\∀x c,X.env.cells.lookup x=some c->c≠b
 bs:∀b o,X.base.get? b=some o->X.s₀.heap.get? b=some o/\X.H₀ b=none
 bsz:X.base.objs.size<=X.s₀.heap.objs.size
 noex:∀b o,X.base.get? b=some o->b∉X.ex
 exfs:∀b∈X.ex,b∉X.fs
 funs:X.s₀.heap.FunFrames X.base X.outer
 frf:∀b∈X.fs,X.H₀ b=none
structure Inv(X:Cx)(pins:Rb)(σ:List (Option V))(H:Hp)(s:Shared):Prop where
 ok:X.Ok
 os:s.os=X.s₀.os
 bare:AllBare s.gens
 base:Un X.fs X.ex X.H₀ H X.s₀.heap s.heap
 loc:∃m,s.heap.Ns X.env.locals m/\∀(i:Nat) (x:Str) (v:V),X.N[i]?=some x->σ[i]?=some (some v)->Vis X.env.scope x->∃u,RelV v u/\BL X.env s.heap m x u
 cell:∀x c,X.env.cells.lookup x=some c->∃v,s.heap.IsCell c v
 free:H X.env.locals=none
 freeC:∀x c,X.env.cells.lookup x=some c->H c=none
 pin:∀p∈X.pn++pins,s.heap.get? p.1=some p.2/\H p.1=none/\p.1≠X.env.locals/\p.1∉X.fs/\∀v,p.2.data ≠ .cell v
 hok:HOk X.prog X.w H s.heap
 len:σ.length=X.N.length
section
variable{X:Cx}{pins:Rb}{σ:List (Option V)}{H H':Hp}{s:Shared}{h':Heap}
def Cx.Ok.nofr(ok:X.Ok)(e:X.base.get? b=some o):b∉X.fs:=λhb=>by
 have:=(ok.funs.mem hb).1
 rw[e] at this;cases this
def Inv.bs(I:Inv X pins σ H s):∀b o,X.base.get? b=some o->s.heap.get? b=some o/\H b=none:=λb o e=>
 ⟨I.base.keep b o (I.ok.bs b o e).1 (I.ok.bs b o e).2 (I.ok.nofr e) (I.ok.noex b o e),I.base.free b o (I.ok.bs b o e).1 (I.ok.bs b o e).2 (I.ok.noex b o e)⟩
def Inv.bk(I:Inv X pins σ H s):∀b o,X.base.get? b=some o->s.heap.get? b=some o:=λb o e=>(I.bs b o e).1
def Inv.mod(I:Inv X pins σ H s):Mod X.K X.mg X.base:=I.ok.mod
def Inv.kIn(I:Inv X pins σ H s):X.K.In s.heap:=I.ok.mod.kin.keeps I.bk
def Inv.lt(I:Inv X pins σ H s):X.env.locals<s.heap.objs.size:=let ⟨_,hn,_⟩:=I.loc;hn.lt
def Inv.sz(I:Inv X pins σ H s):X.s₀.heap.objs.size<=s.heap.objs.size:=y_ I.ok.above (Qg I.lt)
def Inv.nofs(I:Inv X pins σ H s)(h:s.heap.objs.size<=a):a∉X.fs:=λhb=>by
 obtain⟨_,o,ho,_⟩:=I.ok.funs.mem hb
 exact absurd (B_ (w_ ho) (y_ I.sz h)) (OW _)
def Inv.cne(I:Inv X pins σ H s):∀x c,X.env.cells.lookup x=some c->c≠X.env.locals:=λx c e z=>by
 obtain⟨v,o,ho,hd⟩:=I.cell x c e
 obtain⟨m,⟨o',es,ep,ho',hd',_⟩,_⟩:=I.loc
 rw[z,ho'] at ho;cases ho;rw[hd'] at hd;cases hd
def Inv.funs(I:Inv X pins σ H s):s.heap.FunFrames X.base X.outer:=by
 have all:∀(l:List Env),(∀b∈frs l,b∈X.fs)->X.s₀.heap.FunFrames X.base l->s.heap.FunFrames X.base l:=by
  intro l
  induction l with
  |nil=>intro _ _;trivial
  |
   cons env r ih=>
   intro hs hl
   obtain⟨hk,⟨L,o,hf,hn,ho,hd⟩,hr⟩:=hl
   have hL:L∈X.fs:=hs L (by unfold frs;rw[Pa,hf];exact o_)
   obtain⟨sl,e⟩:=I.base.slot L o ho (I.ok.frf L hL) hL λz=>I.ok.exfs L z hL
   exact⟨hk,⟨L,_,hf,hn,e,hd⟩,ih (λb hb=>hs b (by unfold frs;rw[Pa,hf];exact m_ _ hb)) hr⟩
 exact all X.outer (λ_ hb=>hb) I.ok.funs
def Inv.stack(I:Inv X pins σ H s):s.heap.FunFrames X.base X.stack:=by
 rcases I.ok.stk with e |⟨e,hf⟩
 ·rw[e];exact I.funs
 ·rw[e]
  obtain⟨m,hn,_⟩:=I.loc
  refine .cons (by rw[I.ok.kind];decide) hf hn ?_ I.funs
  exact Qv (y_ I.ok.bsz I.ok.above)
def Inv.stkSub(I:Inv X pins σ H s):∀b∈frs X.stack,b∈X.env.locals::X.fs:=λb hb=>by
 rcases I.ok.stk with e |⟨e,hf⟩
 ·rw[e] at hb;exact m_ _ hb
 ·rw[e] at hb
  unfold frs at hb
  rw[Pa,hf] at hb
  exact hb
def Inv.stkFree(I:Inv X pins σ H s):∀b∈frs X.stack,H b=none:=λb hb=>by
 rcases H_.mp (I.stkSub b hb) with e |hb
 ·rw[e];exact I.free
 ·obtain⟨_,o,ho,_⟩:=I.ok.funs.mem hb
  exact I.base.free b o ho (I.ok.frf b hb) λz=>I.ok.exfs b z hb
def Inv.step{g':Array GenState}{t':Nat}{d':Drawn}{ch:List Addr}(I:Inv X pins σ H s)
 (hch:∀b∈ch,(b∈X.ex\/X.s₀.heap.objs.size<=b)/\b≠X.env.locals/\(∀x c,X.env.cells.lookup x=some c->c≠b)/\∀p∈X.pn++pins,p.1≠b)
 (keep:∀b o,b≠X.env.locals->b∉X.fs->b∉ch->s.heap.get? b=some o->H b=none->h'.get? b=some o)
 (slot:∀b o,b≠X.env.locals->b∈X.fs->b∉ch->s.heap.get? b=some o->H b=none->∃sl,h'.get? b=some { o with slots:=sl }) (free:∀b o,b∉ch->s.heap.get? b=some o->H b=none->H' b=none)
 (there:∀b o,b∉ch->s.heap.get? b=some o->∃o',h'.get? b=some o')
 (tups:∀b xs,H b=some (.tup xs)->H' b=some (.tup xs)) (frzs:∀b o u,H b=some (.frz o u)->H' b=some (.frz o u)) (tbls:∀b ps,H b=some (.tbl ps)->∃more,H' b=some (.tbl (ps++more)))
 (ns:∀m,s.heap.Ns X.env.locals m->h'.Ns X.env.locals m) (hok:HOk X.prog X.w H' h') (hg:AllBare g'):
 Inv X pins σ H' { s with heap:=h',gens:=g',drawn:=d',toks:=t' }:=by
 have neL:∀b o,X.s₀.heap.get? b=some o->b≠X.env.locals:=λb o e=>L_ (B_ (w_ e) I.ok.above)
 have neC:∀b o,X.s₀.heap.get? b=some o->b∉X.ex->b∉ch:=λb o e hx hb=>by
  rcases (hch b hb).1 with z |z
  ·exact hx z
  ·exact absurd (B_ (w_ e) z) (OW _)
 have cellK:∀x c,X.env.cells.lookup x=some c->∀v,s.heap.IsCell c v->h'.IsCell c v:=λx c e v ⟨o,ho,hd⟩=>by
  have nch:c∉ch:=λz=>(hch c z).2.2.1 x c e rfl
  by_cases hc:c∈X.fs
  ·obtain⟨sl,q⟩:=slot c o (I.cne x c e) hc nch ho (I.freeC x c e)
   exact⟨_,q,hd⟩
  ·exact⟨o,keep c o (I.cne x c e) hc nch ho (I.freeC x c e),hd⟩
 refine⟨I.ok,I.os,hg,⟨λb o e n hb hx=>?_,λb o e n hb hx=>?_,λb o e n hx=>?_,λb o e hx=>?_,λb xs e=>tups b xs (I.base.tups b xs e),λb o xs e=>frzs b o xs (I.base.frzs b o xs e),λb ps e=>?_⟩,?_,λx c e=>?_,?_,λx c e=>?_,λp hp=>?_,hok,I.len⟩
 ·exact keep b o (neL b o e) hb (neC b o e hx) (I.base.keep b o e n hb hx) (I.base.free b o e n hx)
 ·obtain⟨sl,e1⟩:=I.base.slot b o e n hb hx
  obtain⟨sl',e2⟩:=slot b _ (neL b o e) hb (neC b o e hx) e1 (I.base.free b o e n hx)
  exact⟨sl',e2⟩
 ·obtain⟨o',e1⟩:=I.base.there b o e hx
  exact free b o' (neC b o e hx) e1 (I.base.free b o e n hx)
 ·obtain⟨o',e1⟩:=I.base.there b o e hx
  exact there b o' (neC b o e hx) e1
 ·obtain⟨m1,e1⟩:=I.base.tbls b ps e
  obtain⟨m2,e2⟩:=tbls b _ e1
  exact⟨m1++m2,by rw[e2,Array.append_assoc]⟩
 ·obtain⟨m,hn,hl⟩:=I.loc
  refine⟨m,ns m hn,λi x v e1 e2 e3=>?_⟩
  obtain⟨u,r,l⟩:=hl i x v e1 e2 e3
  refine⟨u,r,?_⟩
  rcases l with l |⟨k,c,e,z⟩
  ·exact .inl l
  ·exact .inr ⟨k,c,e,cellK x c e _ z⟩
 ·obtain⟨v,z⟩:=I.cell x c e
  exact⟨v,cellK x c e v z⟩
 ·obtain⟨m,⟨o,_,_,ho,_⟩,_⟩:=I.loc
  exact free _ o (λz=>(hch _ z).2.1 rfl) ho I.free
 ·obtain⟨v,o,ho,hd⟩:=I.cell x c e
  exact free c o (λz=>(hch c z).2.2.1 x c e rfl) ho (I.freeC x c e)
 ·obtain⟨e,n,ne,nf,d⟩:=I.pin p hp
  have nch:p.1∉ch:=λz=>(hch p.1 z).2.2.2 p hp rfl
  exact⟨keep p.1 p.2 ne nf nch e n,free p.1 p.2 nch e n,ne,nf,d⟩
def Inv.un{t':Nat}(I:Inv X pins σ H s)(u:Un X.fs [] H H' s.heap h')(hok:HOk X.prog X.w H' h'):Inv X pins σ H' { s with heap:=h',toks:=t' }:=by
 obtain⟨m,⟨o,es,ep,ho,r⟩,_⟩:=id I.loc
 obtain⟨sl,hL⟩:=u.any ho I.free (by simp)
 exact I.step (g':=s.gens) (d':=s.drawn) (ch:=[]) (λ_ z=>nomatch z) (λb o _ hb _ e n=>u.keep b o e n hb (by simp)) (λb o _ hb _ e n=>u.slot b o e n hb (by simp)) (λb o _ e n=>u.free b o e n (by simp)) (λb o _ e=>u.there b o e (by simp)) u.tups u.frzs u.tbls (λm' hm=>by
  obtain⟨o',es',ep',ho',r'⟩:=hm
  rw[ho] at ho';cases ho'
  exact⟨_,es',ep',hL,r'⟩) hok I.bare
def Inv.call{g':Array GenState}{t':Nat}{d':Drawn}{ch:List Addr}(I:Inv X pins σ H s)(u:Un (frs X.stack) ch H H' s.heap h')(hok:HOk X.prog X.w H' h')(hg:AllBare g')
 (hch:∀b∈ch,(b∈X.ex\/X.s₀.heap.objs.size<=b)/\b≠X.env.locals/\(∀x c,X.env.cells.lookup x=some c->c≠b)/\∀p∈X.pn++pins,p.1≠b):
 Inv X pins σ H' { s with heap:=h',gens:=g',drawn:=d',toks:=t' }:=by
 obtain⟨m,⟨o,es,ep,ho,r⟩,_⟩:=id I.loc
 obtain⟨sl,hL⟩:=u.any ho I.free λz=>(hch _ z).2.1 rfl
 exact I.step (ch:=ch) hch (λb o hL hb hc e n=>u.keep b o e n (λz=>(H_.mp (I.stkSub b z)).elim hL hb) hc) (λb o _ _ hc e n=>u.any e n hc) (λb o hc e n=>u.free b o e n hc) (λb o hc e=>u.there b o e hc) u.tups u.frzs u.tbls (λm' hm=>by
  obtain⟨o',es',ep',ho',r'⟩:=hm
  rw[ho] at ho';cases ho'
  exact⟨_,es',ep',hL,r'⟩) hok hg
def Inv.turned{t':Nat}{it:Addr}(I:Inv X pins σ H s)(k:∀b o,b≠it->s.heap.get? b=some o->h'.get? b=some o)(hn:H it=none)(hL:it≠X.env.locals)
 (h1:it∈X.ex\/X.s₀.heap.objs.size<=it) (h2:∀x c,X.env.cells.lookup x=some c->c≠it) (h3:∀p∈X.pn++pins,p.1≠it):Inv X pins σ H { s with heap:=h',toks:=t' }:=by
 have nit:∀b u,H b=some u->b≠it:=λb u e z=>by rw[z,hn] at e;cases e
 refine I.step (g':=s.gens) (d':=s.drawn) (ch:=[it]) (λb hb=>?_) (λb o _ _ hc e _=>k b o (λz=>hc (by simp [z])) e) (λb o _ _ hc e _=>⟨o.slots,k b o (λz=>hc (by simp [z])) e⟩) (λ_ _ _ _ n=>n)
  (λb o hc e=>⟨o,k b o (λz=>hc (by simp [z])) e⟩) (λ_ _ e=>e) (λ_ _ _ e=>e) (λb ps e=>⟨#[],by rw[e];simp⟩) (λm hm=>?_) (λb u e=>?_) I.bare
 ·have e:b=it:=by simpa using hb
  subst e
  exact⟨h1,hL,h2,h3⟩
 ·obtain⟨o,es,ep,ho,r⟩:=hm
  exact⟨o,es,ep,k _ o (Ne.symm hL) ho,r⟩
 ·refine (I.hok b u e).stay (λc v hc q=>k c v ?_ q) (λ_ q=>q) λ_ _ q=>q
  rcases hc with z |z
  ·rw[z];exact nit b u e
  ·exact nit c _ z
def Inv.tok(I:Inv X pins σ H s)(t:Nat):Inv X pins σ H { s with toks:=t }:=I.un (h':=s.heap) (t':=t) Un.refl I.hok
def Inv.kept(I:Inv X pins σ H s)(k:∀b u,s.heap.get? b=some u->h'.get? b=some u):Inv X pins σ H { s with heap:=h',toks:=t' }:=I.un (Un.kept k) (I.hok.kept k)
def Inv.laid(I:Inv X pins σ H s)(k:∀b u,s.heap.get? b=some u->h'.get? b=some u)(hp:s.heap.objs.size<=a)(new:ObjOk X.prog X.w (upd H a o) h' a o):
 Inv X pins σ (upd H a o) { s with heap:=h',toks:=t' }:=I.un (Un.laid k hp (I.hok.fresh hp)) (I.hok.laid k hp new)
def Inv.write(I:Inv X pins σ H s)(mu:Mut (H x))(he:e=x\/H e=some (.own x))(k:∀b u,b≠e->s.heap.get? b=some u->h'.get? b=some u)(heo:∃u,h'.get? e=some u)
 (new:ObjOk X.prog X.w (upd H x o) h' x o):Inv X pins σ (upd H x o) { s with heap:=h',toks:=t' }:=I.un (Un.write mu he k heo) (I.hok.write mu he k heo new)
def Inv.pins_of(I:Inv X pins σ H s)(h:∀p∈pins',s.heap.get? p.1=some p.2/\H p.1=none/\p.1≠X.env.locals/\p.1∉X.fs/\∀v,p.2.data ≠ .cell v):Inv X pins' σ H s:=
 ⟨I.ok,I.os,I.bare,I.base,I.loc,I.cell,I.free,I.freeC,λp hp=>(OC.mp hp).elim (λz=>I.pin p (OX _ z)) (h p),I.hok,I.len⟩
def lM{N:List Str}(hN:N.Nodup){i j:Nat}{x:Str}(a:N[i]?=some x)(b:N[j]?=some x):i=j:=by
 obtain⟨h1,e1⟩:=k_.mp a
 obtain⟨h2,e2⟩:=k_.mp b
 exact (List.getElem_inj hN).mp (e1.trans e2.symm)
def oI(I:Inv X pins σ H s)(hN:X.N.Nodup)(hi:X.N[i]?=some x)(hx:Loc X.env.scope x)(r:RelV v u)
 (h:∀s',Inv X pins (σ.set i (some v)) H s'->(∃a,Heap.SameBut a s.heap s'.heap/\(a=X.env.locals\/X.env.cells.lookup x=some a))->Q () s') (hf:X.fn x=true\/X.env.scope.names.lookup x=some .local):wpAny M A (storeName X.env x u) Q E s:=by
 obtain⟨m,hn,hl⟩:=id I.loc
 have hcls:(X.env.scope.kind == .class || (X.env.scope.kind == .module&&X.env.locals != X.env.globals))=false:=by rw[I.ok.kind];rfl
 have hiσ:i<σ.length:=by rw[I.len];exact (k_.mp hi).1
 have cne:=I.cne
 have tracked:∀{a:Addr}{h':Heap},(∃o,s.heap.get? a=some o/\H a=none)->Heap.SameBut a s.heap h'->HOk X.prog X.w H h':=λ{a h'} ha hs b ob e=>by
  obtain⟨_,_,hfree⟩:=ha
  refine (I.hok b ob e).stay (λc w' hc q=>(hs.2 c ?_).trans q) (λ_ q=>q) λ_ _ q=>q
  rintro rfl
  rcases hc with rfl |hc
  ·rw[hfree] at e;cases e
  ·rw[hfree] at hc;cases hc
 rcases hx with hk |hk
 ·refine wpAny_storeName_local hk hn (λh' hn' hs=>?_) hcls
  obtain⟨oL,_,_,hoL,_⟩:=id hn
  refine h _ ⟨I.ok,I.os,I.bare,⟨λb o e n hb hx=>?_,λb o e n hb hx=>?_,I.base.free,λb o e hx=>?_,I.base.tups,I.base.frzs,I.base.tbls⟩,⟨_,hn',λj y v' e1 e2 e3=>?_⟩,λy c e=>?_,I.free,I.freeC,λp hp=>?_,tracked ⟨oL,hoL,I.free⟩ hs,by simpa using I.len⟩ ⟨_,hs,.inl rfl⟩
  ·exact (hs.2 b (L_ (B_ (w_ e) I.ok.above))).trans (I.base.keep b o e n hb hx)
  ·obtain⟨sl,e1⟩:=I.base.slot b o e n hb hx
   exact⟨sl,(hs.2 b (L_ (B_ (w_ e) I.ok.above))).trans e1⟩
  ·obtain⟨o',e1⟩:=I.base.there b o e hx
   exact⟨o',(hs.2 b (L_ (B_ (w_ e) I.ok.above))).trans e1⟩
  ·by_cases hj:j=i
   ·subst hj
    rw[hi] at e1;cases e1
    rw[Qn hiσ] at e2
    cases e2
    exact⟨u,r,.inl ⟨hk,by simp⟩⟩
   ·rw[Pu (Ne.symm hj)] at e2
    obtain⟨u',r',q⟩:=hl j y v' e1 e2 e3
    refine⟨u',r',?_⟩
    rcases q with ⟨k,e⟩ |⟨k,c,e,z⟩
    ·refine .inl ⟨k,?_⟩
     have:y≠x:=λe=>hj (lM hN e1 (e ▸ hi))
     simp [this,e]
    ·exact .inr ⟨k,c,e,z.sameBut hs (cne y c e)⟩
  ·obtain⟨w',z⟩:=I.cell y c e
   exact⟨w',z.sameBut hs (cne y c e)⟩
  ·obtain⟨e,n,ne,nf,d⟩:=I.pin p hp
   exact⟨(hs.2 p.1 ne).trans e,n,ne,nf,d⟩
 ·have hfn:X.fn x=true:=by
   rcases hf with z |z
   ·exact z
   ·rw[z] at hk;cases hk
  obtain⟨c,hc⟩:=I.ok.has x (.inl hk)
  obtain⟨w',z⟩:=I.cell x c hc
  refine wpAny_storeName_cell I.ok.kind hk hc z (λh' hc' hs=>?_)
  obtain⟨oc,hoc,hocd⟩:=id z
  refine h { s with heap:=h' } ⟨I.ok,I.os,I.bare,⟨λb o e n hb hx=>?_,λb o e n hb hx=>?_,I.base.free,λb o e hx=>?_,I.base.tups,I.base.frzs,I.base.tbls⟩,⟨m,hn.sameBut hs (Ne.symm (cne x c hc)),λj y v' e1 e2 e3=>?_⟩,λy c' e=>?_,I.free,I.freeC,λp hp=>?_,tracked ⟨oc,hoc,I.freeC x c hc⟩ hs,by simpa using I.len⟩ ⟨c,hs,.inr hc⟩
  ·exact (hs.2 b (L_ (B_ (w_ e) (I.ok.cab x c hfn hc)))).trans (I.base.keep b o e n hb hx)
  ·obtain⟨sl,e1⟩:=I.base.slot b o e n hb hx
   exact⟨sl,(hs.2 b (L_ (B_ (w_ e) (I.ok.cab x c hfn hc)))).trans e1⟩
  ·obtain⟨o',e1⟩:=I.base.there b o e hx
   exact⟨o',(hs.2 b (L_ (B_ (w_ e) (I.ok.cab x c hfn hc)))).trans e1⟩
  ·by_cases hj:j=i
   ·subst hj
    rw[hi] at e1;cases e1
    rw[Qn hiσ] at e2
    cases e2
    exact⟨u,r,.inr ⟨.inl hk,c,hc,hc'⟩⟩
   ·rw[Pu (Ne.symm hj)] at e2
    obtain⟨u',r',q⟩:=hl j y v' e1 e2 e3
    refine⟨u',r',?_⟩
    rcases q with q |⟨k,c',e,z'⟩
    ·exact .inl q
    ·refine .inr ⟨k,c',e,z'.sameBut hs ?_⟩
     rintro rfl
     exact hj (lM hN e1 (I.ok.inj _ _ _ e hc ▸ hi))
  ·by_cases hcc:c'=c
   ·subst hcc;exact⟨_,hc'⟩
   ·obtain⟨w2,z2⟩:=I.cell y c' e
    exact⟨w2,z2.sameBut hs hcc⟩
  ·obtain⟨e,n,ne,nf,d⟩:=I.pin p hp
   refine⟨(hs.2 p.1 ?_).trans e,n,ne,nf,d⟩
   intro q
   rw[q,hoc] at e
   have q':oc=p.2:=G_ e
   exact d w' (by rw[<- q'];exact hocd)
def fH(I:Inv X pins σ H s)(hN:X.N.Nodup)(hi:X.N[i]?=some x)(hx:Loc X.env.scope x)(r:RelV v u)
 (h:∀s',Inv X pins (σ.set i (some v)) H s'->Q () s') (hf:X.fn x=true\/X.env.scope.names.lookup x=some .local):wpAny M A (storeName X.env x u) Q E s:=
 oI I hN hi hx r (λs' I' _=>h s' I') hf
def Inv.call'(I:Inv X pins σ H s)(ho:s'.os=s.os)(u:Un (frs X.stack) ch H H' s.heap s'.heap)(hok:HOk X.prog X.w H' s'.heap)(hg:AllBare s'.gens)
 (hch:∀b∈ch,(b∈X.ex\/X.s₀.heap.objs.size<=b)/\b≠X.env.locals/\(∀x c,X.env.cells.lookup x=some c->c≠b)/\∀p∈X.pn++pins,p.1≠b):Inv X pins σ H' s':=by
 obtain⟨h',g',d',t',o'⟩:=s'
 have e:o'=s.os:=ho
 subst e
 exact I.call (g':=g') (t':=t') (d':=d') u hok hg hch
end
abbrev XK:=Value->Option Addr->Hp->Prop
abbrev St:=List (Option V)
abbrev VK:=V->Hp->Prop
abbrev TE:=St->Hp->VK->Prop
abbrev TT:=St->Hp->(Bool->Hp->Prop)->Prop
abbrev TA:=St->Hp->(List V->Hp->Prop)->Prop
structure Ends where
 nx:St->Hp->Prop
 rt:VK
 bk:St->Hp->Prop:=λ_ _=>False
 ct:St->Hp->Prop:=λ_ _=>False
abbrev TS:=Ends->St->Hp->Prop
def EP(X:Cx)(pins:Rb)(σ:St)(Q:VK)(u:Value)(s':Shared):Prop:=∃v H',Inv X pins σ H' s'/\RelV v u/\Q v H'
def TP(X:Cx)(pins:Rb)(σ:St)(Q:Bool->Hp->Prop)(b:Bool)(s':Shared):Prop:=∃H',Inv X pins σ H' s'/\Q b H'
def AP(X:Cx)(pins:Rb)(σ:St)(Q:List V->Hp->Prop)(us:List Value)(s':Shared):Prop:=∃vs H',Inv X pins σ H' s'/\Vals vs us/\Q vs H'
def SP(X:Cx)(pins:Rb)(D:Ends)(f:Flow)(s':Shared):Prop:=
 match f with
 |.next=>∃σ' H',Inv X pins σ' H' s'/\D.nx σ' H'
 |.brk=>∃σ' H',Inv X pins σ' H' s'/\D.bk σ' H'
 |.cont=>∃σ' H',Inv X pins σ' H' s'/\D.ct σ' H'
 |.ret u=>∃v σ' H',Inv X pins σ' H' s'/\RelV v u/\D.rt v H'
def PE(X:Cx)(e:Expr)(t:TE):Prop:=
 ∀(pins:Rb) (s:Shared) (σ:St) (H:Hp) (Q:VK),Inv X pins σ H s->t σ H Q->wpAny (model X.prog X.w) X.A (eval e X.env) (EP X pins σ Q) X.xe s
def PT(X:Cx)(e:Expr)(t:TT):Prop:=
 ∀(pins:Rb) (s:Shared) (σ:St) (H:Hp) (Q:Bool->Hp->Prop),Inv X pins σ H s->t σ H Q->wpAny (model X.prog X.w) X.A (isTrue e X.env (eval e X.env)) (TP X pins σ Q) X.xe s
def PW(X:Cx)(e:Expr)(t:TT):Prop:=
 ∀(c_:Sem Value) (pins:Rb) (s:Shared) (σ:St) (H:Hp) (Q:Bool->Hp->Prop),Inv X pins σ H s->t σ H Q->wpAny (model X.prog X.w) X.A (isTrue e X.env c_) (TP X pins σ Q) X.xe s
noncomputable def PW.pt(h:PW X e t):PT X e t:=h _
def PA(X:Cx)(es:List Expr)(t:TA):Prop:=
 ∀(pos:Pos) (pins:Rb) (s:Shared) (σ:St) (H:Hp) (Q:List V->Hp->Prop),Inv X pins σ H s->t σ H Q->wpAny (model X.prog X.w) X.A (spliced (backTo pos (starEach es X.env))) (AP X pins σ Q) X.xe s
def PS(X:Cx)(st:Stmt)(t:TS):Prop:=
 ∀(pins:Rb) (s:Shared) (σ:St) (H:Hp) (D:Ends),Inv X pins σ H s->t D σ H->wpAny (model X.prog X.w) X.A (exec st X.env) (SP X pins D) X.xe s
def PSs(X:Cx)(st:List Stmt)(t:TS):Prop:=
 ∀(pins:Rb) (s:Shared) (σ:St) (H:Hp) (D:Ends),Inv X pins σ H s->t D σ H->wpAny (model X.prog X.w) X.A (execs st X.env) (SP X pins D) X.xe s
noncomputable def thn(h:wpAny M A t Q E s)(hQ:∀a s,Q a s->Q' a s):wpAny M A t Q' E s:=Ox h hQ λ_ _ x=>x
section
variable{X:Cx}
def tVar(i:Nat):TE:=λσ H Q=>∃v,σ[i]?=some (some v)/\Q v H
def tC(v:V):TE:=λ_ H Q=>Q v H
def Hj(hN:X.N[i]?=some x)(hv:Vis X.env.scope x)(hd:(x==("__debug__" : Str))=false)(hcd:(x==("__classdict__" : Str))=false):PE X (.Name x pos) (tVar i):=by
 intro pins s σ H Q I h
 obtain⟨v,e,h⟩:=h
 obtain⟨m,hn,hl⟩:=I.loc
 obtain⟨u,r,l⟩:=hl i x v hN e hv
 have g_:EP X pins σ Q u s:=⟨v,H,I,r,h⟩
 rcases l with ⟨hk,hm⟩ |⟨hk,c,hc,hcell⟩
 ·exact wpAny_Name (wpAny_loadName_local I.ok.kind hk hn hm g_) hd
 ·rcases hk with hk |hk
  ·exact wpAny_Name (wpAny_loadName_cell I.ok.kind hk hc hcell g_) hd
  ·exact wpAny_Name (wpAny_loadName_free I.ok.kind hk hc hcell g_ hcd) hd
def Gk{i j pos}:PE X (.Constant (.int i) j pos) (tC (.int i)):=λ_ _ _ H _ I h=>wpAny_Constant_int ⟨.int i,H,I.tok _,⟨_,rfl⟩,h⟩
def NU{b j pos}:PE X (.Constant (.bool b) j pos) (tC (.bl b)):=λ_ _ _ H _ I h=>Constant_bool ⟨.bl b,H,I,rfl,h⟩
def Hy{j pos}:PE X (.Constant .none j pos) (tC .non):=λ_ _ _ H _ I h=>Constant_none ⟨.non,H,I,rfl,h⟩
def KY{x j pos}:PE X (.Constant (.str x) j pos) (tC (.str x)):=λ_ _ _ H _ I h=>Calls.Constant_str ⟨.str x,H,I.tok _,⟨_,rfl⟩,h⟩
def Gl(X:Cx)(x:Str):Prop:=X.env.kindOf x=some .globalImplicit
def nS(I:Inv X pins σ H s)(hg:Gl X x)(hm:X.mg x=some u)(h:Q u s)
 (hd:(x==("__debug__" : Str))=false):wpAny (model X.prog X.w) X.A (eval (.Name x pos) X.env) Q E s:=
 P7 I.ok.kind hg (Calls.loadGlobal_global (by rw[I.ok.glob];exact I.mod.glob.keeps I.bk) hm h) hd
def iJ(I:Inv X pins σ H s)(hg:Gl X x)(hm:X.mg x=none)(hv:bootBuiltins x=some u)(h:Q u s)
 (hn:x ≠ "__name__":=by decide) (hd:(x==("__debug__" : Str))=false:=by decide):wpAny (model X.prog X.w) X.A (eval (.Name x pos) X.env) Q E s:=by
 obtain⟨mb,h1,h2⟩:=I.mod.blt
 exact P7 I.ok.kind hg (Calls.loadGlobal_builtin (by rw[I.ok.glob];exact I.mod.glob.keeps I.bk) hm (by rw[I.ok.blt];exact h1.keeps I.bk) ((h2 x hn).trans hv) h) hd
def uq(hg:Gl X x)(hm:X.mg x=some u)(r:RelV v u)(hd:(x==("__debug__" : Str))=false):PE X (.Name x pos) (tC v):=
 λ_ _ _ H _ I h=>nS I hg hm ⟨v,H,I,r,h⟩ hd
def Fb(hg:Gl X x)(hm:X.mg x=none)(hv:bootBuiltins x=some u)(r:RelV v u)(hn:x ≠ "__name__")(hd:(x==("__debug__" : Str))=false):PE X (.Name x pos) (tC v):=
 λ_ _ _ H _ I h=>iJ I hg hm hv ⟨v,H,I,r,h⟩ hn hd
variable{a b:Expr}{ta tb:TE}{pos:Pos}
def tB(t:TE):TT:=λσ H Q=>t σ H λx H1=>∃c,x=.bl c/\Q c H1
def Hk(h:PE X e t)(he:∀c_,isTrue e X.env c_=(do let v <- c_;standAt e.pos;holding [v] (truthy v))):PT X e (tB t):=by
 intro pins s σ H Q I hw
 refine isTrue_plain (thn (h pins s σ H _ I hw) λv s1 ⟨x,H1,I1,r1,q1⟩=>?_) (he _)
 obtain⟨d,rfl,q⟩:=q1
 cases r1
 exact Pt ⟨H1,I1,q⟩
variable{tA tB':TT}{bp:List Expr}
def tAnd(t u:TT):TT:=λσ H Q=>t σ H λc H1=>if c=true then u σ H1 Q else Q false H1
def tOr(t u:TT):TT:=λσ H Q=>t σ H λc H1=>if c=true then Q true H1 else u σ H1 Q
def tNot(t:TT):TT:=λσ H Q=>t σ H λc H1=>Q (!c) H1
def Es(ha:PT X a tA):PW X (.BoolOp .And [a] pos) tA:=by
 intro wh pins s σ H Q I h
 refine isTrue_and (thn (ha pins s σ H Q I h) λc s1 e=>?_)
 cases c with
 |true=>exact isTrue_and_nil e
 |false=>exact e
def Hv(ha:PT X a tA):PW X (.BoolOp .Or [a] pos) tA:=by
 intro wh pins s σ H Q I h
 refine isTrue_or (thn (ha pins s σ H Q I h) λc s1 e=>?_)
 cases c with
 |false=>exact isTrue_or_nil e
 |true=>exact e
def Ia(ha:PT X a tA)(hb:PW X (.BoolOp .And (b::bp) pos) tB'):PW X (.BoolOp .And (a::b::bp) pos) (tAnd tA tB'):=by
 intro wh pins s σ H Q I h
 refine isTrue_and (thn (ha pins s σ H _ I h) λc s1 ⟨H1,I1,q1⟩=>?_)
 cases c with
 |true=>exact hb wh pins s1 σ H1 Q I1 q1
 |false=>exact⟨H1,I1,q1⟩
def Nn(ha:PT X a tA)(hb:PW X (.BoolOp .Or (b::bp) pos) tB'):PW X (.BoolOp .Or (a::b::bp) pos) (tOr tA tB'):=by
 intro wh pins s σ H Q I h
 refine isTrue_or (thn (ha pins s σ H _ I h) λc s1 ⟨H1,I1,q1⟩=>?_)
 cases c with
 |true=>exact⟨H1,I1,q1⟩
 |false=>exact hb wh pins s1 σ H1 Q I1 q1
def Ju(ha:PT X a tA):PT X (.UnaryOp .Not a pos) (tNot tA):=by
 intro pins s σ H Q I h
 exact isTrue_not (ha pins s σ H (λc H1=>Q (!c) H1) I h)
def Lj(ta tb:TE):TE:=λσ H Q=>ta σ H λx H1=>∃c,x=.bl c/\if c=true then tb σ H1 Q else Q (.bl false) H1
def ML(ta:TE):TE:=λσ H Q=>ta σ H λx H1=>∃c,x=.bl c/\Q (.bl (!c)) H1
noncomputable def JE{op}(h:PE X a t):PE X (.BoolOp op [a] pos) t:=λpins s σ H Q I hw=>BoolOp_one (h pins s σ H Q I hw)
def G0(ha:PE X a ta)(hb:PE X (.BoolOp .And (b::bp) pos) tb):PE X (.BoolOp .And (a::b::bp) pos) (Lj ta tb):=by
 intro pins s σ H Q I h
 refine BoolOp_and (thn (ha pins s σ H _ I h) λv s1 ⟨x,H1,I1,r1,q1⟩=>?_)
 obtain⟨c,rfl,q1⟩:=q1
 cases r1
 refine Pt ?_
 cases c with
 |true=>exact hb pins s1 σ H1 Q I1 q1
 |false=>exact⟨.bl false,H1,I1,rfl,q1⟩
def G8(ha:PE X a ta):PE X (.UnaryOp .Not a pos) (ML ta):=by
 intro pins s σ H Q I h
 refine UnaryOp_ (thn (ha pins s σ H _ I h) λv s1 ⟨x,H1,I1,r1,q1⟩=>?_)
 obtain⟨c,rfl,q1⟩:=q1
 cases r1
 exact not_of (Pt ⟨.bl (!c),H1,I1,rfl,q1⟩)
def tIf(t:TT)(ta tb:TE):TE:=λσ H Q=>t σ H λc H1=>if c=true then ta σ H1 Q else tb σ H1 Q
def Ab(hc:PT X c tA)(ha:PE X a ta)(hb:PE X b tb):PE X (.IfExp c a b pos) (tIf tA ta tb):=by
 intro pins s σ H Q I h
 refine wpAny_IfExp (thn (hc pins s σ H _ I h) λd s1 ⟨H1,I1,q1⟩=>?_)
 cases d with
 |true=>exact ha pins s1 σ H1 Q I1 q1
 |false=>exact hb pins s1 σ H1 Q I1 q1
end
def SqL(K:W.Frag)(H:Hp)(a:Addr)(xs:List V):Prop:=
 Rd H a (.lst xs)\/
  ∃(o:Obj) (its:Array Value) (n:Nat),K.lookup a=some o/\o.cls=.type "list" /\ o.dict=none/\o.data=.seq its n/\its.size<=sizeLine/\Vals xs its.toList
def SqT(K:W.Frag)(H:Hp)(a:Addr)(xs:List V):Prop:=
 Rd H a (.tup xs)\/
  ∃(o:Obj) (its:Array Value) (n:Nat),K.lookup a=some o/\o.cls=.type "tuple" /\ o.data=.seq its n/\its.size<=sizeLine/\Vals xs its.toList
noncomputable def absV:Value->Option V
 |.none=>some .non
 |.bool b=>some (.bl b)
 |.int i _=>some (.int i)
 |.str x _=>some (.str x)
 |.bytes b _=>some (.byt b)
 |.float b _=>some (.flt b)
 |.ref a=>some (.ref a)
 |.type n=>some (.ty n)
 |_=>none
def RelV.abs(r:RelV x u):absV u=some x:=by
 cases x with
 |non=>cases r;rfl
 |bl _=>cases r;rfl
 |int _=>obtain⟨t,rfl⟩:=r;rfl
 |str _=>obtain⟨t,rfl⟩:=r;rfl
 |byt _=>obtain⟨t,rfl⟩:=r;rfl
 |flt _=>obtain⟨t,rfl⟩:=r;rfl
 |ref _=>cases r;rfl
 |ty _=>cases r;rfl
def RelV.inj(r:RelV x u)(q:RelV y u):x=y:=G_ (r.abs.symm.trans q.abs)
def Vals.inj(r:Vals xs us)(q:Vals ys us):xs=ys:=by
 induction r generalizing ys with
 |nil=>cases q;rfl
 |
  cons r t ih=>
  cases q with
  |cons q t'=>rw[r.inj q,ih t']
section
variable{X:Cx}{pins:Rb}{σ:St}{H:Hp}{s:Shared}{a:Addr}{xs ys:List V}
noncomputable def SqL.of{K:W.Frag}(h:H a=some (.lst xs)):SqL K H a xs:=.inl (.inl h)
noncomputable def SqT.of{K:W.Frag}(h:H a=some (.tup xs)):SqT K H a xs:=.inl (.inl h)
def Inv.list(I:Inv X pins σ H s)(h:SqL X.K H a xs):∃its:List Value,Vals xs its/\PlainL s.heap a its.toArray/\xs.length<=sizeLine:=by
 rcases h with h |⟨o,its,n,hk,hc,hd,hs,hz,r⟩
 ·obtain⟨z,its,n,r,e⟩:=h.ok I.hok
  exact⟨its,r,⟨_,n,e,rfl,rfl,rfl⟩,z⟩
 ·refine⟨its.toList,r,⟨o,n,I.kIn a o hk,hc,hd,by simpa using hs⟩,?_⟩
  have e:=r.length
  simp only[QE] at e
  omega
def Inv.tuple(I:Inv X pins σ H s)(h:SqT X.K H a xs):∃its:List Value,Vals xs its/\IsTup s.heap a its.toArray/\xs.length<=sizeLine:=by
 rcases h with h |⟨o,its,n,hk,hc,hs,hz,r⟩
 ·obtain⟨z,its,r,p⟩:=h.ok I.hok
  exact⟨its,r,p,z⟩
 ·refine⟨its.toList,r,⟨o,I.kIn a o hk,hc,n,by simpa using hs⟩,?_⟩
  have e:=r.length
  simp only[QE] at e
  omega
def Inv.list_inj(I:Inv X pins σ H s)(h:SqL X.K H a xs)(h':SqL X.K H a ys):xs=ys:=by
 obtain⟨its,r,⟨o,n,e,_,_,d⟩,_⟩:=I.list h
 obtain⟨its',r',⟨o',n',e',_,_,d'⟩,_⟩:=I.list h'
 rw[e] at e';cases e'
 rw[d] at d'
 injection d' with d1 _
 have:its=its':=by simpa using OI Array.toList d1
 subst this
 exact r.inj r'
def Inv.tuple_inj(I:Inv X pins σ H s)(h:SqT X.K H a xs)(h':SqT X.K H a ys):xs=ys:=by
 obtain⟨its,r,⟨o,e,_,n,d⟩,_⟩:=I.tuple h
 obtain⟨its',r',⟨o',e',_,n',d'⟩,_⟩:=I.tuple h'
 rw[e] at e';cases e'
 rw[d] at d'
 injection d' with d1 _
 have:its=its':=by simpa using OI Array.toList d1
 subst this
 exact r.inj r'
end
section
variable{X:Cx}{pins:Rb}{σ:St}{H:Hp}{s:Shared}{E:Rg}
end
section
variable{X:Cx}{st:Stmt}{bp:List Stmt}{t u:TS}{e:Expr}{te:TE}{pos:Pos}
def Ln:TS:=λD σ H=>D.nx σ H
def tSeq(t u:TS):TS:=λD σ H=>t { D with nx:=u D } σ H
def Ek:PSs X [] Ln:=λ_ _ σ H _ I h=>Qc ⟨σ,H,I,h⟩
def Au(h1:PS X st t)(h2:PSs X bp u):PSs X (st::bp) (tSeq t u):=by
 intro pins s σ H D I h
 refine wpAny_execs_cons (thn (h1 pins s σ H { D with nx:=u D } I h) λf s1 q=>?_)
 cases f with
 |
  next=>
  obtain⟨σ',H',I',q⟩:=q
  exact h2 pins s1 σ' H' D I' q
 |ret v=>exact q
 |brk=>exact q
 |cont=>exact q
def Fj(h1:PS X st t):PSs X [st] t:=by
 intro pins s σ H D I h
 refine wpAny_execs_cons (thn (h1 pins s σ H D I h) λf s1 q=>?_)
 cases f with
 |next=>exact Qc q
 |ret v=>exact q
 |brk=>exact q
 |cont=>exact q
def Inv.quiet(I:Inv X pins σ H s):interactive X.env=false:=by simp [interactive,I.ok.kind]
def Nt(te:TE):TS:=λD σ H=>te σ H λ_ H1=>D.nx σ H1
def Eu(he:PE X e te)(hs:swapsWith e none pos.line X.env=pure false):PS X (.Expr e pos) (Nt te):=by
 intro pins s σ H D I h
 exact wpAny_Expr_any (thn (he pins s σ H _ I h) λv s1 ⟨x,H1,I1,r1,q1⟩=>⟨σ,H1,I1,q1⟩) I.quiet hs
def tRet(te:TE):TS:=λD σ H=>te σ H D.rt
def KI(he:PE X e te):PS X (.Return (some e) pos) (tRet te):=by
 intro pins s σ H D I h
 exact wpAny_Return_some (thn (he pins s σ H _ I h) λv s1 ⟨x,H1,I1,r1,q1⟩=>⟨x,σ,H1,I1,r1,q1⟩)
def LY:TS:=λD _ H=>D.rt .non H
def DB:PS X (.Return none pos) LY:=λ_ _ σ H _ I h=>wpAny_Return_none ⟨.non,σ,H,I,rfl,h⟩
def tIfS(c:TT)(t u:TS):TS:=λD σ H=>c σ H λb H1=>if b=true then t D σ H1 else u D σ H1
def Li(hc:PT X c tc)(ha:PSs X a t)(hb:PSs X b u):PS X (.If c a b pos) (tIfS tc t u):=by
 intro pins s σ H D I h
 refine wpAny_If (thn (hc pins s σ H _ I h) λd s1 ⟨H1,I1,q1⟩=>?_)
 cases d with
 |true=>exact ha pins s1 σ H1 D I1 q1
 |false=>exact hb pins s1 σ H1 D I1 q1
end
abbrev TG:=V->St->Hp->(St->Hp->Prop)->Prop
abbrev TGs:=List V->St->Hp->(St->Hp->Prop)->Prop
def PG(X:Cx)(target:Expr)(t:TG):Prop:=
 ∀
  (pins:Rb) (s:Shared) (σ:St) (H:Hp) (v:V) (u:Value) (Q:St->Hp->Prop),Inv X pins σ H s->RelV v u->t v σ H Q->
  wpAny (model X.prog X.w) X.A (assign target X.env u) (λ_ s'=>∃σ' H',Inv X pins σ' H' s'/\Q σ' H') X.xe s
def PGs(X:Cx)(ts:List Expr)(t:TGs):Prop:=
 ∀
  (pins:Rb) (s:Shared) (σ:St) (H:Hp) (vs:List V) (us:List Value) (Q:St->Hp->Prop),Inv X pins σ H s->Vals vs us->t vs σ H Q->
  wpAny (model X.prog X.w) X.A (assignInOrder ((assignEach ts X.env).map (·.2)) us) (λ_ s'=>∃σ' H',Inv X pins σ' H' s'/\Q σ' H') X.xe s
abbrev uY:=V->V->V->Hp->(Hp->Prop)->Prop
def pS(X:Cx)(t:uY):Prop:=
 ∀
  (pins:Rb) (s:Shared) (σ:St) (H:Hp) (o i v:V) (ov iv u:Value) (Q:Hp->Prop),Inv X pins σ H s->RelV o ov->RelV i iv->RelV v u->t o i v H Q->
  wpAny (model X.prog X.w) X.A (setItem ov iv u) (λ_ s'=>∃H',Inv X pins σ H' s'/\Q H') X.xe s
abbrev TIp:=V->V->Hp->VK->Prop
def PIp(X:Cx)(op:Operator)(t:TIp):Prop:=
 ∀
  (pins:Rb) (s:Shared) (σ:St) (H:Hp) (x y:V) (v u:Value) (Q:VK),Inv X pins σ H s->RelV x v->RelV y u->t x y H Q->
  wpAny (model X.prog X.w) X.A (inplaceOp op v u) (EP X pins σ Q) X.xe s
section
variable{X:Cx}{pos:Pos}
def mD(i:Nat):TG:=λv σ H Q=>Q (σ.set i (some v)) H
def Dw(hN:X.N.Nodup)(hi:X.N[i]?=some x)(hx:Loc X.env.scope x)(hf:X.fn x=true\/X.env.scope.names.lookup x=some .local):PG X (.Name x pos) (mD i):=by
 intro pins s σ H v u Q I r h
 exact wpAny_assign_Name (fH I hN hi hx r (λs' I'=>⟨_,H,I',h⟩) hf)
def gNil:TGs:=λvs σ H Q=>vs=[]/\Q σ H
def Ls(t:TG)(u:TGs):TGs:=λvs σ H Q=>∃v r,vs=v::r/\t v σ H λσ' H'=>u r σ' H' Q
def Dm:PGs X [] gNil:=by
 intro pins s σ H vs us Q I r h
 obtain⟨e,h⟩:=h
 subst e
 cases r
 exact assignInOrder_nil ⟨σ,H,I,h⟩
def BR(h1:PG X e t)(h2:PGs X es u)
 (hs:(assignEach (e::es) X.env).map (·.2)=assign e X.env::(assignEach es X.env).map (·.2)):PGs X (e::es) (Ls t u):=by
 intro pins s σ H vs us Q I r h
 obtain⟨v,vr,e1,h⟩:=h
 subst e1
 cases r with
 |
  cons r rr=>
  rw[hs]
  refine assignInOrder_cons (thn (h1 pins s σ H _ _ _ I r h) λ_ s1 ⟨σ1,H1,I1,q1⟩=>?_)
  exact h2 pins s1 σ1 H1 _ _ Q I1 rr q1
def gTup(K:W.Frag)(n:Nat)(t:TGs):TG:=λv σ H Q=>∃a xs,v=.ref a/\SqT K H a xs/\xs.length=n/\t xs σ H Q
def K2(hc:X.calm=true)(h:PGs X es t)
 (hn:(assignEach es X.env).length=n) (hst:(assignEach es X.env).findIdx? (·.1)=none):PG X (.Tuple es k pos) (gTup X.K n t):=by
 intro pins s σ H v u Q I r hw
 obtain⟨a,xs,e1,hq,hl,hw⟩:=hw
 subst e1
 cases r
 obtain⟨its,rv,ht,hz⟩:=I.tuple hq
 refine assign_Tuple_tuple (I.ok.hd hc) ht (by simp [hn,<- hl,rv.length]) hst λh' hx=>?_
 have I1:Inv X pins σ H { s with heap:=h' }:=I.kept (t':=s.toks) λb o e=>hx b o (L_ (w_ e)) e
 exact h pins _ σ H xs _ Q I1 (by simpa using rv) hw
def gSub(to ti:TE)(t:uY):TG:=λv σ H Q=>to σ H λo H1=>ti σ H1 λi H2=>t o i v H2 λH3=>Q σ H3
def Jh(ho:PE X o to)(hi:PE X i ti)(hs:pS X t)
 (ha:∀v,assign (.Subscript o i pos) X.env v=(do
  let ov <- holding [v] (eval o X.env)
  let iv <- holding [v,ov] (eval i X.env)
  standAt pos
  holding [v,ov,iv] (setItem ov iv v)
  release [v,ov,iv] [])):PG X (.Subscript o i pos) (gSub to ti t):=by
 intro pins s σ H v u Q I r h
 rw[ha]
 refine i_ (PF (thn (ho pins s σ H _ I h) λov s1 ⟨x,H1,I1,r1,q1⟩=>?_))
 refine i_ (PF (thn (hi pins s1 σ H1 _ I1 q1) λiv s2 ⟨y,H2,I2,r2,q2⟩=>?_))
 refine i_ (QL (i_ (PF (thn (hs pins s2 σ H2 x y v ov iv u _ I2 r1 r2 r q2) λ_ s3 ⟨H3,I3,q3⟩=>?_))))
 exact wpAny_release ⟨σ,H3,I3,q3⟩
def pQ(te:TE)(g:TG):TS:=λD σ H=>te σ H λx H1=>g x σ H1 D.nx
def JD(he:PE X e te)(hg:PG X tg g)(hs:swapsWithSole [tg] e pos.line X.env=pure false)(hw:swappedStores [tg] e X.env=pure none)
 (h1:(assignEach [tg] X.env).map (·.2)=[assign tg X.env]):PS X (.Assign [tg] e pos) (pQ te g):=by
 intro pins s σ H D I h
 refine wpAny_Assign_stores (thn (he pins s σ H _ I h) λv s1 ⟨x,H1,I1,r1,q1⟩=>?_) hs hw
 rw[h1]
 exact thn (hg pins s1 σ H1 x v _ I1 r1 q1) λ_ s2 q=>q
def Hb(hN:X.N.Nodup)(hi:X.N[i]?=some x)(hx:Loc X.env.scope x)(he:PE X e te)(hs:swapsWith e (some (.Name x h_)) pos.line X.env=pure false)(hf:X.fn x=true\/X.env.scope.names.lookup x=some .local):
 PS X (.Assign [.Name x h_] e pos) (pQ te (mD i)):=by
 intro pins s σ H D I h
 refine wpAny_Assign_Name (thn (he pins s σ H _ I h) λv s1 ⟨y,H1,I1,r1,q1⟩=>?_) hs
 exact fH I1 hN hi hx r1 (λs2 I2=>⟨_,H1,I2,q1⟩) hf
def tPar(i j:Nat)(ta:TA):TS:=λD σ H=>ta σ H λvs H1=>∃v w,vs=[v,w]/\D.nx ((σ.set i (some v)).set j (some w)) H1
def Hc{kt k2 pt2}(hc:X.calm=true)(hN:X.N.Nodup)(hi:X.N[i]?=some x)(hj:X.N[j]?=some y)(hij:i≠j)
 (hx:X.env.scope.names.lookup x=some .local) (hy:X.env.scope.names.lookup y=some .local) (ha:PA X [a,b] ta)
 (hw:swappedStores [.Tuple [.Name x px,.Name y py] kt pt] (.Tuple [a,b] k2 pt2) X.env=pure (some [x,y]))
 (hs:swapsWithSole [.Tuple [.Name x px,.Name y py] kt pt] (.Tuple [a,b] k2 pt2) pos.line X.env=pure false):
 PS X (.Assign [.Tuple [.Name x px,.Name y py] kt pt] (.Tuple [a,b] k2 pt2) pos) (tPar i j ta):=by
 intro pins s σ H D I h
 rw[exec_Assign_arm]
 refine i_ (QL ?_)
 rw[hs]
 refine i_ (u_ ?_)
 rw[if_neg (by decide)]
 refine i_ (Tuple_ (thn (ha _ pins s σ H _ I h) λus s1 ⟨vs,H1,I1,r1,q1⟩=>?_))
 obtain⟨v,w,e1,q1⟩:=q1
 subst e1
 obtain⟨u1,u2,rfl,rv,rw'⟩:∃u1 u2,us=[u1,u2]/\RelV v u1/\RelV w u2:=by
  cases r1 with
  |
   cons p q=>
   cases q with
   |
    cons p' q'=>
    cases q'
    exact⟨_,_,rfl,p,p'⟩
 refine OQ ?_ (by show 2<=sizeLine;decide)
 have I2:Inv X pins σ H1 { s1 with heap:=s1.heap.push { cls:=.type "tuple",data:=.seq [u1,u2].toArray } }:=I1.kept (t':=s1.toks) λb o e=>v_ _ e
 rw[hw]
 refine i_ (u_ ?_)
 show wpAny (model X.prog X.w) X.A (do rule "assign.swapped-stores";let items <- unpackItems (.ref s1.heap.objs.size) 2 none;assignInOrder [λv=>bindName X.env y v,λv=>bindName X.env x v] items.reverse;pure Flow.next) _ _ _
 refine i_ (wpAny_rule (i_ (unpackItems_tuple (items:=#[u1,u2]) (I.ok.hd hc) (IsTup.new s1.heap _) λh' hx'=>?_)))
 have I3:=I2.kept (h':=h') (t':=s1.toks) λb o e=>hx' b o (L_ (w_ e)) e
 show wpAny _ _ (assignInOrder [λv=>bindName X.env y v,λv=>bindName X.env x v] [u2,u1] >>= λ_=>pure Flow.next) _ _ _
 refine i_ (assignInOrder_cons (wpAny_bindName (fH I3 hN hj (.inl hy) rw' (λs2 I4=>?_) (.inr hy))))
 refine assignInOrder_cons (wpAny_bindName (fH I4 hN hi (.inl hx) rv (λs3 I5=>assignInOrder_nil (u_ ?_)) (.inr hx)))
 rw[List.set_comm _ _ (Ne.symm hij)] at I5
 exact⟨_,H1,I5,q1⟩
def tAug(i:Nat)(te:TE)(ti:TIp):TS:=λD σ H=>∃x,σ[i]?=some (some x)/\te σ H λy H1=>ti x y H1 λz H2=>D.nx (σ.set i (some z)) H2
def Kd(hN:X.N.Nodup)(hi:X.N[i]?=some x)(hx:Loc X.env.scope x)(he:PE X e te)(ho:PIp X op ti)(hf:X.fn x=true\/X.env.scope.names.lookup x=some .local):
 PS X (.AugAssign (.Name x h_) op e pos) (tAug i te ti):=by
 intro pins s σ H D I h
 obtain⟨v,e1,h⟩:=h
 obtain⟨m,hn,hl⟩:=I.loc
 have vis:Vis X.env.scope x:=by rcases hx with k |k;exact .inl k;exact .inr (.inl k)
 obtain⟨u,r,l⟩:=hl i x v hi e1 vis
 refine wpAny_AugAssign_Name ?_
 have go:wpAny (model X.prog X.w) X.A (eval e X.env) (λw s₂=>wpAny (model X.prog X.w) X.A (inplaceOp op u w) (λr s₃=>wpAny (model X.prog X.w) X.A (storeName X.env x r) (λ_=>SP X pins D .next) X.xe s₃) X.xe s₂) X.xe s:=by
  refine thn (he pins s σ H _ I h) λw s1 ⟨y,H1,I1,r1,q1⟩=>?_
  refine thn (ho pins s1 σ H1 v y u w _ I1 r r1 q1) λz s2 ⟨zv,H2,I2,r2,q2⟩=>?_
  exact fH I2 hN hi hx r2 (λs3 I3=>⟨_,H2,I3,q2⟩) hf
 rcases l with ⟨hk,hm⟩ |⟨hk,c,hc,hcell⟩
 ·exact wpAny_loadName_local I.ok.kind hk hn hm go
 ·rcases hk with hk |hk
  ·exact wpAny_loadName_cell I.ok.kind hk hc hcell go
  ·rcases hx with k |k
   ·have:X.env.scope.names.lookup x=some .free:=hk
    rw[k] at this;cases this
   ·have:X.env.scope.names.lookup x=some .free:=hk
    rw[k] at this;cases this
def ipI(f:Int->Int->Int):TIp:=λx y H Q=>∃i j,x=.int i/\y=.int j/\Q (.int (f i j)) H
def IZ:PIp X .Add (ipI λi j=>i+j):=by
 intro pins s σ H x y v u Q I r1 r2 h
 obtain⟨i,j,e1,e2,q⟩:=h
 subst e1;subst e2
 obtain⟨t,rfl⟩:=r1
 obtain⟨t',rfl⟩:=r2
 exact iadd_int ⟨.int _,H,I.tok _,⟨_,rfl⟩,q⟩
end
section
variable{X:Cx}{pos:Pos}
def FU(c:TT)(tb:TS):TS:=λD σ H=>∃W:Nat->St->Hp->Prop,(∃m,W m σ H)/\∀m σ H,W m σ H->
 c σ H λb H1=>if b=true then ∃N:St->Hp->Prop,(∀σ' H',N σ' H'->∃m',m'<m/\W m' σ' H')/\tb { D with nx:=N,ct:=N,bk:=D.nx } σ H1 else D.nx σ H1
def zx(hp:PassesOwn (model X.prog X.w) X.A X.env X.xe)(hc:PT X c tc)(hb:PSs X body tb):PS X (.While c body [] pos) (FU tc tb):=by
 intro pins s σ H D I h
 obtain⟨W,⟨m0,w0⟩,turn⟩:=h
 refine wpAny_While (codeAny_whileLoop (λn s'=>∃σ' H',Inv X pins σ' H' s'/\W n σ' H') ?_ m0 ⟨σ,H,I,w0⟩)
 rintro n s1 ⟨σ1,H1,I1,w1⟩
 refine Pq hp (thn (hc pins s1 σ1 H1 _ I1 (turn n σ1 H1 w1)) λb s2 ⟨H2,I2,q2⟩=>?_)
 cases b with
 |
  true=>
  obtain⟨N,hN,q2⟩:=q2
  rw[if_pos rfl]
  refine Pq hp (thn (hb pins s2 σ1 H2 _ I2 q2) λf s3 q3=>?_)
  cases f with
  |
   next=>
   obtain⟨σ3,H3,I3,n3⟩:=q3
   obtain⟨m',hm,w3⟩:=hN σ3 H3 n3
   exact⟨m',hm,σ3,H3,I3,w3⟩
  |
   cont=>
   obtain⟨σ3,H3,I3,n3⟩:=q3
   obtain⟨m',hm,w3⟩:=hN σ3 H3 n3
   exact⟨m',hm,σ3,H3,I3,w3⟩
  |brk=>exact q3
  |ret v=>exact q3
 |
  false=>
  rw[if_neg r_]
  exact Qc ⟨σ1,H2,I2,q2⟩
end
structure It where
 go:Nat->Hp->Prop
 yld:Nat->Hp->V->Hp->Prop
 stop:Nat->Hp->Prop
def FpOk(X:Cx)(pins:Rb)(H:Hp)(b:Addr):Prop:=
 H b=none/\b≠X.env.locals/\b∉X.fs/\(b∈X.ex\/X.s₀.heap.objs.size<=b)/\(∀x c,X.env.cells.lookup x=some c->c≠b)/\∀p∈X.pn++pins,p.1≠b
def Inv.fpOk(I:Inv X pins σ H s)(hb:s.heap.objs.size<=b)(hn:H' b=none):FpOk X pins H' b:=by
 refine⟨hn,Ph (B_ I.lt hb),I.nofs hb,.inr (y_ I.sz hb),λx c e z=>?_,λp hp z=>?_⟩
 ·obtain⟨v,q⟩:=I.cell x c e
  exact absurd (B_ q.lt (by rw[z];exact hb)) (OW _)
 ·exact absurd (B_ (w_ (I.pin p hp).1) (by rw[z];exact hb)) (OW _)
structure Turn(P:Program)(w:World)(K:W.Frag)(tg:Expr)(J:It)(fp:List Addr)(it:Addr)(tn:Nat->Heap->Prop):Prop where
 mem:it∈fp
 obj:∀i h,tn i h->∀b∈fp,∃o,h.get? b=some o/\∀v,o.data ≠ .cell v
 keep:∀i h h',tn i h->(∀b∈fp,∀o,h.get? b=some o->h'.get? b=some o)->tn i h'
 item:∀(X:Cx),X.prog=P->X.w=w->X.K=K->X.calm=true->∀(i:Nat) (pins:Rb) (s:Shared) (σ:St) (H:Hp) (E:Rg),Inv X pins σ H s->(∀b∈fp,FpOk X pins H b)->tn i s.heap->J.go i H->
  wpAny (model P w) X.A (pyNext (.ref it)) (λr s1=>∃u,r=some u/\
   wpAny (model P w) X.A (letOwnedTupleGo tg (.ref it) u) (λ_ s2=>∃x H',Inv X pins σ H' s2/\RelV x u/\J.yld i H x H'/\tn (i+1) s2.heap/\∀b∈fp,H' b=none) E s1) E s
 done:∀(X:Cx),X.prog=P->X.w=w->X.K=K->X.calm=true->∀(i:Nat) (pins:Rb) (s:Shared) (σ:St) (H:Hp) (E:Rg),Inv X pins σ H s->(∀b∈fp,FpOk X pins H b)->tn i s.heap->J.stop i H->
  wpAny (model P w) X.A (pyNext (.ref it)) (λr s1=>r=none/\Inv X pins σ H s1) E s
 self:∀(A:Around) (i:Nat) (s:Shared) (Q:Rg) (E:Rg),tn i s.heap->Q (.ref it) s->wpAny (model P w) A (pyIter (.ref it)) Q E s
abbrev TI:=St->Hp->(It->Hp->Prop)->Prop
def PIE(X:Cx)(pins:Rb)(σ:St)(tg:Expr)(R:It->Hp->Prop)(itv:Value)(s2:Shared):Prop:=
 ∃(it:Addr) (fp:List Addr) (tn:Nat->Heap->Prop) (J:It) (H':Hp),itv=.ref it/\Inv X pins σ H' s2/\Turn X.prog X.w X.K tg J fp it tn/\tn 0 s2.heap/\(∀b∈fp,FpOk X pins H' b)/\R J H'
def PI(X:Cx)(tg am:Expr)(wi:TI):Prop:=
 ∀
  (pins:Rb) (s:Shared) (σ:St) (H:Hp) (R:It->Hp->Prop),Inv X pins σ H s->wi σ H R->
  wpAny (model X.prog X.w) X.A (eval am X.env) (λv s1=>wpAny (model X.prog X.w) X.A (pyIter v) (PIE X pins σ tg R) X.xe s1) X.xe s
def wx(ho:s.heap.get? it=some o)(hc:o.cls=.type n)(hd:o.data=.fields vs)
 (hn:["enumerate", "zip", "dict_itemiterator", "dict_reverseitemiterator", "odict_iterator", "itertools.zip_longest", "itertools.pairwise"].contains n=false) (hQ:Q () s):wpAny M A (letOwnedTupleGo tg (.ref it) u) Q E s:=by
 unfold letOwnedTupleGo
 cases tg
  <;> first
  |exact u_ hQ
  |(cases u <;> first
   |exact u_ hQ
   |(
    refine i_ (wpAny_load ho ?_)
    rw[hc,hd]
    show wpAny M A (if (["enumerate", "zip", "dict_itemiterator", "dict_reverseitemiterator", "odict_iterator", "itertools.zip_longest", "itertools.pairwise"].contains n&&vs[0]?==some (rawInt _))=true then _ else _) Q E s
    rw[if_neg (by intro h;rw[hn,Bool.false_and] at h;cases h)]
    exact u_ hQ))
noncomputable def Itl(K:W.Frag)(a:Addr):It:=
 ⟨λi H=>∃xs x,SqL K H a xs/\xs[i]?=some x,λi H x H'=>H'=H/\∀xs,SqL K H a xs->xs[i]?=some x,λi H=>∃xs,SqL K H a xs/\xs.length<=i⟩
noncomputable def Itt(K:W.Frag)(a:Addr):It:=
 ⟨λi H=>∃xs x,SqT K H a xs/\xs[i]?=some x,λi H x H'=>H'=H/\∀xs,SqT K H a xs->xs[i]?=some x,λi H=>∃xs,SqT K H a xs/\xs.length<=i⟩
noncomputable def Itr(lo:Int)(n:Nat):It:=⟨λi _=>i<n,λi H x H'=>H'=H/\x=.int (lo+i),λi _=>n<=i⟩
def yI{P:Program}{w:World}{K:W.Frag}{tg:Expr}(a it:Addr):Turn P w K tg (Itl K a) [it] it (λi h=>h.IsListIter it a i) where
 mem:=by simp
 obj:=λi h st b hb=>by
  have e:b=it:=by simpa using hb
  subst e
  obtain⟨o,e,c,d⟩:=st
  exact⟨o,e,λv z=>by rw[d] at z;cases z⟩
 keep:=λi h h' st k=>st.at λo e=>k it (by simp) o e
 item:=by
  intro X hP hw hK hc i pins s σ H E I hf st hg
  subst hP hw hK
  obtain⟨xs,x,hq,hx⟩:=hg
  obtain⟨its,rv,p,hz⟩:=I.list hq
  obtain⟨u,hu,ru⟩:=rv.get hx
  obtain⟨f0,f1,f2,f3,f4,f5⟩:=hf it (by simp)
  refine wpAny_pyNext_list_item st p.isList (x:=u) (by simpa using hu) λh' st' sb=>?_
  have I1:Inv X pins σ H { s with heap:=h' }:=I.turned (t':=s.toks) (λb o hb e=>(sb.2 b hb).trans e) f0 f1 f3 f4 f5
  obtain⟨o,e,c,d⟩:=id st'
  exact⟨u,rfl,wx (s:={ s with heap:=h' }) e c d (by decide) ⟨x,H,I1,ru,⟨rfl,λys hy=>by rw[I.list_inj hy hq];exact hx⟩,st',λb hb=>(hf b hb).1⟩⟩
 done:=by
  intro X hP hw hK hc i pins s σ H E I hf st hg
  subst hP hw hK
  obtain⟨xs,hq,hx⟩:=hg
  obtain⟨its,rv,p,hz⟩:=I.list hq
  obtain⟨f0,f1,f2,f3,f4,f5⟩:=hf it (by simp)
  have hl:=rv.length
  exact wpAny_pyNext_list_end (I.ok.hd hc) st p.isList (by simp;omega) λh' eb=>⟨rfl,I.turned (t':=s.toks) (λb o hb e=>eb b o hb e) f0 f1 f3 f4 f5⟩
 self:=λ_ _ _ _ _ st h=>wpAny_pyIter_listiter st h
def vN{P:Program}{w:World}{K:W.Frag}{tg:Expr}(a it:Addr):Turn P w K tg (Itt K a) [it] it (λi h=>h.IsTupleIter it a i) where
 mem:=by simp
 obj:=λi h st b hb=>by
  have e:b=it:=by simpa using hb
  subst e
  obtain⟨o,e,c,d⟩:=st
  exact⟨o,e,λv z=>by rw[d] at z;cases z⟩
 keep:=λi h h' st k=>st.at λo e=>k it (by simp) o e
 item:=by
  intro X hP hw hK hc i pins s σ H E I hf st hg
  subst hP hw hK
  obtain⟨xs,x,hq,hx⟩:=hg
  obtain⟨its,rv,p,hz⟩:=I.tuple hq
  obtain⟨u,hu,ru⟩:=rv.get hx
  obtain⟨f0,f1,f2,f3,f4,f5⟩:=hf it (by simp)
  refine wpAny_pyNext_tuple_item st (show s.heap.IsTuple a its.toArray from p) (x:=u) (by simpa using hu) λh' st' sb=>?_
  have I1:Inv X pins σ H { s with heap:=h' }:=I.turned (t':=s.toks) (λb o hb e=>(sb.2 b hb).trans e) f0 f1 f3 f4 f5
  obtain⟨o,e,c,d⟩:=id st'
  exact⟨u,rfl,wx (s:={ s with heap:=h' }) e c d (by decide) ⟨x,H,I1,ru,⟨rfl,λys hy=>by rw[I.tuple_inj hy hq];exact hx⟩,st',λb hb=>(hf b hb).1⟩⟩
 done:=by
  intro X hP hw hK hc i pins s σ H E I hf st hg
  subst hP hw hK
  obtain⟨xs,hq,hx⟩:=hg
  obtain⟨its,rv,p,hz⟩:=I.tuple hq
  obtain⟨f0,f1,f2,f3,f4,f5⟩:=hf it (by simp)
  have hl:=rv.length
  exact wpAny_pyNext_tuple_end (I.ok.hd hc) st (show s.heap.IsTuple a its.toArray from p) (by simp;omega) λh' eb=>⟨rfl,I.turned (t':=s.toks) (λb o hb e=>eb b o hb e) f0 f1 f3 f4 f5⟩
 self:=λ_ _ _ _ _ st h=>wpAny_pyIter_tupleiter st h
def wu{P:Program}{w:World}{K:W.Frag}{tg:Expr}(it:Addr)(lo:Int)(n:Nat):Turn P w K tg (Itr lo n) [it] it (λi h=>IsRangeIter h it (lo+(i:Nat)*1) ((n:Int)-(i:Nat)) 1) where
 mem:=by simp
 obj
  := λi h st b hb=>by
  have e:b=it:=by simpa using hb
  subst e
  exact⟨_,st,λv z=>by
   have z':Data.fields _=Data.cell v:=z
   cases z'⟩
 keep:=λi h h' st k=>k it (by simp) _ st
 item:=by
  intro X hP hw hK hc i pins s σ H E I hf st hg
  subst hP hw hK
  obtain⟨f0,f1,f2,f3,f4,f5⟩:=hf it (by simp)
  have W:=Walks.range (prog:=X.prog) (w:=X.w) (I.ok.hd hc) it lo 1 n
  refine W.item i s _ _ hg st λv h' tk hv st' kk=>?_
  obtain⟨t,rfl⟩:=hv
  have I1:Inv X pins σ H { s with heap:=h',toks:=tk }:=I.turned (λb o hb e=>kk b o (by simpa using hb) e) f0 f1 f3 f4 f5
  refine⟨_,rfl,wx (s:={ s with heap:=h',toks:=tk }) (n:="range_iterator") st' rfl rfl (by decide) ⟨.int (lo+i),H,I1,⟨t,?_⟩,⟨rfl,rfl⟩,st',λb hb=>(hf b hb).1⟩⟩
  rw[Int.mul_one]
 done:=by
  intro X hP hw hK hc i pins s σ H E I hf st hg
  subst hP hw hK
  obtain⟨f0,f1,f2,f3,f4,f5⟩:=hf it (by simp)
  exact wpAny_pyNext_range_end (I.ok.hd hc) st (by have:n<=i:=hg;omega) λh' eb=>⟨rfl,I.turned (t':=s.toks) (λb o hb e=>eb b o hb e) f0 f1 f3 f4 f5⟩
 self:=λ_ _ _ _ _ st h=>wpAny_pyIter_rangeiter st h
section
variable{X:Cx}{tg:Expr}
def zG{pins:Rb}{σ:St}{H:Hp}{s:Shared}{R:It->Hp->Prop}{E:Rg}{lo hi:Int}{t u v:Tok}{tk:Nat}(I:Inv X pins σ H s)(h1:-(2^62)<=lo)(h2:lo<2^62)(h3:-(2^62)<=hi)(h4:hi<2^62)
 (q:R (Itr lo (hi-lo).toNat) H):wpAny (model X.prog X.w) X.A (pyIter (.ref s.heap.objs.size)) (PIE X pins σ tg R) E { s with heap:=s.heap.push { cls:=.type "range",data:=.fields #[.int lo t,.int hi u,.int 1 v] },toks:=tk }:=by
 refine wpAny_pyIter_range (IsRange.new ..) (small_one h1 h2 h3 h4) ?_
 have I1:Inv X pins σ H { s with heap:=s.heap.push { cls:=.type "range",data:=.fields #[.int lo t,.int hi u,.int 1 v] },toks:=tk }:=I.kept λb o e=>v_ _ e
 refine⟨(s.heap.push { cls:=.type "range",data:=.fields #[.int lo t,.int hi u,.int 1 v] }).objs.size,[(s.heap.push { cls:=.type "range",data:=.fields #[.int lo t,.int hi u,.int 1 v] }).objs.size],_,_,H,rfl,
  I1.kept (t':=tk) λb o e=>v_ _ e,wu _ lo (hi-lo).toNat,?_,λb hb=>?_,q⟩
 ·have e1:lo+((0:Nat):Int)*1=lo:=by simp
  have e2:(((hi-lo).toNat:Nat):Int)-((0:Nat):Int)=Builtin.Range.rangeSize lo hi 1:=by rw[rangeSize_one];split <;> omega
  show IsRangeIter _ _ (lo+((0:Nat):Int)*1) ((((hi-lo).toNat:Nat):Int)-((0:Nat):Int)) 1
  rw[e1,e2]
  exact Em _ rfl
 ·have e:b=(s.heap.push { cls:=.type "range",data:=.fields #[.int lo t,.int hi u,.int 1 v] }).objs.size:=by simpa using hb
  subst e
  exact I1.fpOk (p_ _) (I1.hok.fresh (p_ _))
def N5(ta:TA):TI:=λσ H R=>ta σ H λvs H1=>∃j:Int,vs=[.int j]/\-(2^62)<=j/\j<2^62/\R (Itr 0 j.toNat) H1
def wI(hg:Gl X "range")(hm:X.mg "range"=none)(ha:PA X [a] ta)(hs:starEach [a] X.env=[(false,eval a X.env)]):PI X tg (.Call (.Name "range" p) [a] [] pos) (N5 ta):=by
 intro pins s σ H R I h
 refine Call_ (iJ I hg hm boot_range (P2 (thn (ha pos pins s σ H _ I h) λus s1 ⟨vs,H1,I1,r1,q1⟩=>?_) hs rfl))
 obtain⟨j,e,q1,q2,q⟩:=q1
 subst e
 cases r1 with
 |
  cons r rr=>
  cases rr
  obtain⟨t,rfl⟩:=r
  exact call_range_1 (zG I1 (by omega) (by omega) q1 q2 (by simpa using q))
def tFor(wi:TI)(g:TG)(tb:TS):TS:=λD σ H=>wi σ H λJ H1=>∃W:Nat->Nat->St->Hp->Prop,(∃m,W 0 m σ H1)/\∀i m σ H,W i m σ H->
 (J.stop i H/\D.nx σ H)\/(J.go i H/\∃N:St->Hp->Prop,(∀σ' H',N σ' H'->∃m',m'<m/\W (i+1) m' σ' H')/\∀x H',J.yld i H x H'->g x σ H' λσ2 H2=>tb { D with nx:=N,ct:=N,bk:=D.nx } σ2 H2)
noncomputable def jS(fp:List Addr)(h:Heap):List (Addr×Obj):=fp.filterMap λb=>(h.get? b).map λo=>(b,o)
def gq(hb:b∈fp)(e:h.get? b=some o):(b,o)∈jS fp h:=List.mem_filterMap.mpr ⟨b,hb,by rw[e];rfl⟩
def xk(hp:p∈jS fp h):p.1∈fp/\h.get? p.1=some p.2:=by
 obtain⟨b,hb,e⟩:=List.mem_filterMap.mp hp
 cases q:h.get? b with
 |none=>rw[q] at e;cases e
 |
  some o=>
  rw[q] at e
  have e':(b,o)=p:=G_ e
  subst e'
  exact⟨hb,q⟩
def Inv.pinned(I:Inv X pins σ H s)(hf:∀b∈fp,FpOk X pins H b)(ho:∀b∈fp,∃o,s.heap.get? b=some o/\∀v,o.data ≠ .cell v):Inv X (pins++jS fp s.heap) σ H s:=
 I.pins_of λp hp=>(OC.mp hp).elim (λz=>I.pin p (K_ _ z)) λz=>by
  obtain⟨hb,e⟩:=xk z
  obtain⟨f0,f1,f2,_⟩:=hf p.1 hb
  obtain⟨o,e',d⟩:=ho p.1 hb
  rw[e] at e';cases e'
  exact⟨e,f0,f1,f2,d⟩
def Inv.unpinned(I:Inv X (pins++pl) σ H s):Inv X pins σ H s:=I.pins_of λp hp=>I.pin p (K_ _ (OX _ hp))
def K4(hp:PassesOwn (model X.prog X.w) X.A X.env X.xe)(hc:X.calm=true)(hi:PI X tg am wi)(hg:PG X tg g)(hb:PSs X body tb)
 (hs:∀x,foldedSetIterable am X.env x=pure x):PS X (.For tg am body [] pos) (tFor wi g tb):=by
 intro pins s σ H D I h
 refine wpAny_For (thn (hi pins s σ H _ I h) λv s1 h1=>thn h1 λitv s2 h2=>?_) hs
 obtain⟨it,fp,tn,J,H2,e,I2,T,st2,f2,W,⟨m0,w0⟩,turn⟩:=h2
 subst e
 have stat:∀{H':Hp},(∀b∈fp,H' b=none)->∀b∈fp,FpOk X pins H' b:=λhn b hb=>⟨hn b hb,(f2 b hb).2⟩
 refine codeAny_forLoop_any (λn s'=>∃i σ' H',Inv X pins σ' H' s'/\tn i s'.heap/\(∀b∈fp,H' b=none)/\W i n σ' H') ?_ m0 ⟨0,σ,H2,I2,st2,λb hb=>(f2 b hb).1,w0⟩
 rintro n s3 ⟨i,σ3,H3,I3,st3,fr3,w3⟩
 rcases turn i n σ3 H3 w3 with ⟨stop,qn⟩ |⟨go,N,hN,step⟩
 ·refine Pq hp (thn (T.done X rfl rfl rfl hc i pins s3 σ3 H3 X.xe I3 (stat fr3) st3 stop) λr s4 ⟨hr,I4⟩=>?_)
  subst hr
  exact Qc ⟨σ3,H3,I4,qn⟩
 ·refine Pq hp (thn (T.item X rfl rfl rfl hc i pins s3 σ3 H3 X.xe I3 (stat fr3) st3 go) λr s4 ⟨u,hr,h4⟩=>?_)
  subst hr
  refine Pq hp (thn h4 λ_ s5 ⟨x,H5,I5,r5,y5,st5,fr5⟩=>?_)
  have I5':=I5.pinned (stat fr5) (T.obj _ _ st5)
  refine Pq hp (thn (hg _ s5 σ3 H5 x u _ I5' r5 (step x H5 y5)) λ_ s6 ⟨σ6,H6,I6,q6⟩=>?_)
  refine Pq hp (thn (hb _ s6 σ6 H6 _ I6 q6) λf s7 q7=>?_)
  have again:∀{σ7:St}{H7:Hp},Inv X (pins++jS fp s5.heap) σ7 H7 s7->N σ7 H7->∃m,m<n/\∃i σ' H',Inv X pins σ' H' s7/\tn i s7.heap/\(∀b∈fp,H' b=none)/\W i m σ' H':=λ{σ7 H7} I7 n7=>by
   obtain⟨m',hm,w7⟩:=hN σ7 H7 n7
   refine⟨m',hm,i+1,σ7,H7,I7.unpinned,T.keep _ _ _ st5 λb hb o e=>(I7.pin (b,o) (K_ _ (K_ _ (gq hb e)))).1,λb hb=>?_,w7⟩
   obtain⟨o,e,d⟩:=T.obj _ _ st5 b hb
   exact (I7.pin (b,o) (K_ _ (K_ _ (gq hb e)))).2.1
  cases f with
  |next=>obtain⟨σ7,H7,I7,n7⟩:=q7;exact again I7 n7
  |cont=>obtain⟨σ7,H7,I7,n7⟩:=q7;exact again I7 n7
  |brk=>obtain⟨σ7,H7,I7,q7⟩:=q7;exact⟨σ7,H7,I7.unpinned,q7⟩
  |ret v=>obtain⟨x7,σ7,H7,I7,r7,q7⟩:=q7;exact⟨x7,σ7,H7,I7.unpinned,r7,q7⟩
end
abbrev R2:=V->V->Hp->VK->Prop
def OpR(X:Cx)(f:Value->Value->Sem Value)(r:R2):Prop:=
 ∀
  (pins:Rb) (s:Shared) (σ:St) (H:Hp) (x y:V) (v u:Value) (Q:VK),Inv X pins σ H s->RelV x v->RelV y u->r x y H Q->
  wpAny (model X.prog X.w) X.A (f v u) (EP X pins σ Q) X.xe s
def UnR(X:Cx)(f:Value->Sem Value)(r:V->Hp->VK->Prop):Prop:=
 ∀
  (pins:Rb) (s:Shared) (σ:St) (H:Hp) (x:V) (v:Value) (Q:VK),Inv X pins σ H s->RelV x v->r x H Q->
  wpAny (model X.prog X.w) X.A (f v) (EP X pins σ Q) X.xe s
def CallR(X:Cx)(f:Value)(r:List V->Hp->VK->Prop):Prop:=
 ∀
  (pins:Rb) (s:Shared) (σ:St) (H:Hp) (xs:List V) (us:List Value) (Q:VK),Inv X pins σ H s->Vals xs us->r xs H Q->
  wpAny (model X.prog X.w) X.A (call f us) (EP X pins σ Q) X.xe s
def TruR(X:Cx)(r:V->Hp->(Bool->Hp->Prop)->Prop):Prop:=
 ∀
  (pins:Rb) (s:Shared) (σ:St) (H:Hp) (x:V) (v:Value) (Q:Bool->Hp->Prop),Inv X pins σ H s->RelV x v->r x H Q->
  wpAny (model X.prog X.w) X.A (truthy v) (TP X pins σ Q) X.xe s
def tOp(r:R2)(ta tb:TE):TE:=λσ H Q=>ta σ H λx H1=>tb σ H1 λy H2=>r x y H2 Q
def tUn(r:V->Hp->VK->Prop)(ta:TE):TE:=λσ H Q=>ta σ H λx H1=>r x H1 Q
def rI(C:Int->Int->Prop)(g:Int->Int->V):R2:=λx y H Q=>∃i j,x=.int i/\y=.int j/\C i j/\Q (g i j) H
def rI0(g:Int->Int->V):R2:=λx y H Q=>∃i j,x=.int i/\y=.int j/\Q (g i j) H
def rU(g:Int->V):V->Hp->VK->Prop:=λx H Q=>∃i,x=.int i/\Q (g i) H
section
variable{X:Cx}{a b c:Expr}{ta tb tc:TE}{pos:Pos}
def B4(ha:PE X a ta)(hb:PE X b tb){pins:Rb}{s:Shared}{σ:St}{H:Hp}{R:V->V->Hp->Prop}(I:Inv X pins σ H s)
 (h:ta σ H λx H1=>tb σ H1 λy H2=>R x y H2) {Q:Rg}{f:Value->Value->Sem Value}
 (hf:∀v u s2 x y H2,Inv X pins σ H2 s2->RelV x v->RelV y u->R x y H2->wpAny (model X.prog X.w) X.A (f v u) Q X.xe s2):
 wpAny (model X.prog X.w) X.A (eval a X.env) (λv s₁=>wpAny (model X.prog X.w) X.A (eval b X.env) (λu s₂=>wpAny (model X.prog X.w) X.A (f v u) Q X.xe s₂) X.xe s₁) X.xe s:=by
 refine thn (ha pins s σ H _ I h) λv s1 ⟨x,H1,I1,r1,q1⟩=>?_
 refine thn (hb pins s1 σ H1 _ I1 q1) λu s2 ⟨y,H2,I2,r2,q2⟩=>?_
 exact hf v u s2 x y H2 I2 r1 r2 q2
def Nm(ho:OpR X (binaryOp op) r)(ha:PE X a ta)(hb:PE X b tb):PE X (.BinOp a op b pos) (tOp r ta tb):=by
 intro pins s σ H Q I h
 exact wpAny_BinOp (B4 ha hb I h λv u s2 x y H2 I2 rx ry q=>ho pins s2 σ H2 x y v u Q I2 rx ry q)
def LG(ho:UnR X (unaryOp op) r)(ha:PE X a ta):PE X (.UnaryOp op a pos) (tUn r ta):=by
 intro pins s σ H Q I h
 exact UnaryOp_ (thn (ha pins s σ H _ I h) λv s1 ⟨x,H1,I1,r1,q1⟩=>ho pins s1 σ H1 x v Q I1 r1 q1)
def opI{f:Value->Value->Sem Value}{C:Int->Int->Prop}{g:Int->Int->Int}
 (rule:∀(i j:Int) (t u:Tok) (s:Shared) (Q:Rg) (E:Rg),C i j->Q (.int (g i j) s.toks) { s with toks:=s.toks+1 }->wpAny (model X.prog X.w) X.A (f (.int i t) (.int j u)) Q E s):
 OpR X f (rI C λi j=>.int (g i j)):=by
 intro pins s σ H x y v u Q I rx ry h
 obtain⟨i,j,rfl,rfl,hc,q⟩:=h
 obtain⟨t,rfl⟩:=rx
 obtain⟨t',rfl⟩:=ry
 exact rule i j t t' s _ _ hc ⟨.int (g i j),H,I.tok _,⟨_,rfl⟩,q⟩
def opI0{f:Value->Value->Sem Value}{g:Int->Int->Int}
 (rule:∀(i j:Int) (t u:Tok) (s:Shared) (Q:Rg) (E:Rg),Q (.int (g i j) s.toks) { s with toks:=s.toks+1 }->wpAny (model X.prog X.w) X.A (f (.int i t) (.int j u)) Q E s):
 OpR X f (rI0 λi j=>.int (g i j)):=by
 intro pins s σ H x y v u Q I rx ry h
 obtain⟨i,j,rfl,rfl,q⟩:=h
 obtain⟨t,rfl⟩:=rx
 obtain⟨t',rfl⟩:=ry
 exact rule i j t t' s _ _ ⟨.int (g i j),H,I.tok _,⟨_,rfl⟩,q⟩
def Cg{f:Value->Value->Sem Value}{g:Int->Int->Bool}
 (rule:∀(i j:Int) (t u:Tok) (s:Shared) (Q:Rg) (E:Rg),Q (.bool (g i j)) s->wpAny (model X.prog X.w) X.A (f (.int i t) (.int j u)) Q E s):
 OpR X f (rI0 λi j=>.bl (g i j)):=by
 intro pins s σ H x y v u Q I rx ry h
 obtain⟨i,j,rfl,rfl,q⟩:=h
 obtain⟨t,rfl⟩:=rx
 obtain⟨t',rfl⟩:=ry
 exact rule i j t t' s _ _ ⟨.bl (g i j),H,I,rfl,q⟩
def ng(i j:Int):Prop:=0<=j/\j<=1000000/\i.natAbs<2^64
def CMul(i j:Int):Prop:=(-(2^64)<i/\i<2^64)\/(-(2^64)<j/\j<2^64)
noncomputable def CMul.ok(h:CMul i j):IntMulOk i j:=by
 rcases h with ⟨h1,h2⟩ |⟨h1,h2⟩
 ·exact .of_left (intBits_le_64 h1 h2)
 ·exact .of_right (intBits_le_64 h1 h2)
def IA:OpR X (binaryOp .Add) (rI0 λi j=>.int (i+j)):=opI0 λ_ _ _ _ _ _ _ q=>add_int q
def He:OpR X (binaryOp .Sub) (rI0 λi j=>.int (i-j)):=opI0 λ_ _ _ _ _ _ _ q=>sub_int q
def K1:OpR X (binaryOp .Mult) (rI CMul λi j=>.int (i*j)):=opI λ_ _ _ _ _ _ _ hc q=>mul_int q hc.ok
def FA:OpR X (binaryOp .Mod) (rI (λ_ j=>j≠0) λi j=>.int (i.fmod j)):=opI λ_ _ _ _ _ _ _ hc q=>mod_int' hc q
def G6:OpR X (binaryOp .Pow) (rI ng λi j=>.int (i^j.toNat)):=opI λ_ _ _ _ _ _ _ hc q=>pow_int_small hc.1 hc.2.1 hc.2.2 q
def unI{f:Value->Sem Value}{g:Int->Int}
 (rule:∀(i:Int) (t:Tok) (s:Shared) (Q:Rg) (E:Rg),Q (.int (g i) s.toks) { s with toks:=s.toks+1 }->wpAny (model X.prog X.w) X.A (f (.int i t)) Q E s):
 UnR X f (rU λi=>.int (g i)):=by
 intro pins s σ H x v Q I rx h
 obtain⟨i,rfl,q⟩:=h
 obtain⟨t,rfl⟩:=rx
 exact rule i t s _ _ ⟨.int (g i),H,I.tok _,⟨_,rfl⟩,q⟩
def F4:UnR X (unaryOp .USub) (rU λi=>.int (-i)):=unI λ_ _ _ _ _ q=>neg_int q
end
section
variable{X:Cx}{a b c:Expr}{ta tb tc:TE}{pos:Pos}
def iV(I:Inv X pins σ H s)(q:Q (.bl k) H)(e:k=k'):EP X pins σ Q (.bool k') s:=by
 subst e
 exact⟨.bl k,H,I,rfl,q⟩
def N7:OpR X (compareOp .Lt) (rI0 λi j=>.bl (decide (i<j))):=Cg λ_ _ _ _ _ _ _ q=>lt_int q
def CT:OpR X (compareOp .Gt) (rI0 λi j=>.bl (decide (j<i))):=Cg λ_ _ _ _ _ _ _ q=>gt_int q
def C2:OpR X (compareOp .GtE) (rI0 λi j=>.bl (decide (j<=i))):=Cg λ_ _ _ _ _ _ _ q=>ge_int q
def JZ:OpR X (compareOp .Is) (λx y H Q=>y=.non/\Q (.bl (decide (x=.non))) H):=by
 intro pins s σ H x y v u Q I rx ry h
 obtain⟨rfl,q⟩:=h
 cases ry
 refine is_none_gen (iV I q ?_)
 cases x <;> first
  |(cases rx;rfl)
  |(obtain⟨t,rfl⟩:=rx;rfl)
def OpR.or(h:OpR X f r)(h':OpR X f r'):OpR X f (λx y H Q=>r x y H Q\/r' x y H Q):=by
 intro pins s σ H x y v u Q I rx ry q
 rcases q with q |q
 ·exact h pins s σ H x y v u Q I rx ry q
 ·exact h' pins s σ H x y v u Q I rx ry q
def qX(b:Expr)(h:op ≠ .In:=by decide)(h2:op ≠ .NotIn:=by decide):behindInMarks op b=false:=by
 have e1:(op==CmpOp.In)=false:=by cases op <;> first |rfl |exact absurd rfl h
 have e2:(op==CmpOp.NotIn)=false:=by cases op <;> first |rfl |exact absurd rfl h2
 cases b <;> simp [behindInMarks,e1,e2]
def FH(ho:OpR X (compareOp op) r)(ha:PE X a ta)(hb:PE X b tb)(hm:behindInMarks op b=false):PE X (.Compare a [op] [b] pos) (tOp r ta tb):=by
 intro pins s σ H Q I h
 exact wpAny_Compare1 (B4 ha hb I h λv u s2 x y H2 I2 rx ry q=>ho pins s2 σ H2 x y v u Q I2 rx ry q) hm
def Nh(t:TE):TT:=λσ H Q=>t σ H λx H'=>∃k,x=.bl k/\Q k H'
def D5(ho:OpR X (compareOp op) r)(ha:PE X a ta)(hb:PE X b tb)(hm:behindInMarks op b=false):PT X (.Compare a [op] [b] pos) (Nh (tOp r ta tb)):=by
 intro pins s σ H Q I h
 refine wpAny_isTrue_Compare1 (thn (ha pins s σ H _ I h) λv s1 ⟨x,H1,I1,r1,q1⟩=>thn (hb pins s1 σ H1 _ I1 q1) λu s2 ⟨y,H2,I2,r2,q2⟩=>
  thn (ho pins s2 σ H2 x y v u _ I2 r1 r2 q2) λc s3 ⟨z,H3,I3,r3,k,e,q3⟩=>?_) hm
 subst e
 cases r3
 exact Pt ⟨H3,I3,q3⟩
def AW(K:W.Frag)(x:V)(H:Hp)(k:Bool):Prop:=
 match x with
 |.non=>k=false
 |.bl b=>k=b
 |.int i=>k=(i != 0)
 |.str y=>y.length<=sizeLine/\k=((y.length:Int) != 0)
 |.byt y=>y.size<=sizeLine/\k=((y.size:Int) != 0)
 |.ref p=>(∃xs,SqL K H p xs/\k=!xs.isEmpty)\/(∃xs,SqT K H p xs/\k=!xs.isEmpty)\/∃kvs,H p=some (.dK kvs)/\k=!kvs.isEmpty
 |_=>False
def vf(r:KV kvs vs):(!vs.isEmpty)=!kvs.isEmpty:=by
 cases r <;> rfl
def mr(r:Vals xs its):(!its.toArray.isEmpty)=!xs.isEmpty:=by
 cases r <;> simp
def gA:(sizeLine:Nat)<2^63:=by rw[sizeLine_eq];decide
def JP:TruR X (λx H Q=>∃k,AW X.K x H k/\Q k H):=by
 intro pins s σ H x v Q I rx h
 obtain⟨k,e,q⟩:=h
 have hl:=gA
 have hs:sizeLine=16777216:=sizeLine_eq
 cases x with
 |
  non=>
  cases rx
  have e':k=false:=e
  subst e'
  exact truthy_none ⟨H,I,q⟩
 |
  bl b=>
  cases rx
  have e':k=b:=e
  subst e'
  exact Pt ⟨H,I,q⟩
 |
  int i=>
  obtain⟨t,rfl⟩:=rx
  have e':k=(i != 0):=e
  subst e'
  exact PySem.P.truthy_int ⟨H,I,q⟩
 |
  str y=>
  obtain⟨t,rfl⟩:=rx
  obtain⟨hy,e'⟩:y.length<=sizeLine/\k=((y.length:Int) != 0):=e
  subst e'
  exact PySem.P.truthy_str (by omega) ⟨H,I.tok _,q⟩
 |
  byt y=>
  obtain⟨t,rfl⟩:=rx
  obtain⟨hy,e'⟩:y.size<=sizeLine/\k=((y.size:Int) != 0):=e
  subst e'
  exact W.truthy_bytes (by omega) ⟨H,I.tok _,q⟩
 |
  ref p=>
  cases rx
  have e':(∃xs,SqL X.K H p xs/\k=!xs.isEmpty)\/(∃xs,SqT X.K H p xs/\k=!xs.isEmpty)\/∃kvs,H p=some (.dK kvs)/\k=!kvs.isEmpty:=e
  rcases e' with ⟨xs,hx,e'⟩ |⟨xs,hx,e'⟩ |⟨kvs,hx,e'⟩
  ·subst e'
   obtain⟨its,r,pl,hz⟩:=I.list hx
   have bd:=r.length
   exact wpAny_truthy_list pl.isList (by simp only[t_];omega) ⟨H,I.tok _,by rw[mr r];exact q⟩
  ·subst e'
   obtain⟨its,r,pl,hz⟩:=I.tuple hx
   have bd:=r.length
   exact truthy_tuple pl (by simp only[t_];omega) ⟨H,I.tok _,by rw[mr r];exact q⟩
  ·subst e'
   obtain⟨hz,hS,vs,r,m⟩:kvs.length<=sizeLine/\(p==sysModules)=false/\∃vs,KV kvs vs/\s.heap.DictOf (bT X.prog X.w) p vs:=I.hok p _ hx
   have bd:kvs.length=vs.length:=QJ r
   exact wpAny_truthy_dict hS m (by omega) ⟨H,I.tok _,by rw[vf r];exact q⟩
 |_=>exact (show False from e).elim
def AY(ha:PE X a ta)(he:∀c_,isTrue a X.env c_=(do let v <- c_;standAt a.pos;holding [v] (truthy v))):
 PT X a (λσ H Q=>ta σ H λx H'=>∃k,AW X.K x H' k/\Q k H'):=by
 intro pins s σ H Q I h
 exact isTrue_plain (thn (ha pins s σ H _ I h) λv s1 ⟨x,H1,I1,r1,q1⟩=>JP pins s1 σ H1 x v Q I1 r1 q1) (he _)
def fb(r:Vals [x] us):∃u,us=[u]/\RelV x u:=by
 cases r with
 |cons r1 r2=>cases r2;exact⟨_,rfl,r1⟩
def j9(r:Vals [x,y] us):∃u w',us=[u,w']/\RelV x u/\RelV y w':=by
 cases r with
 |
  cons r1 r2=>
  cases r2 with
  |cons r3 r4=>cases r4;exact⟨_,_,rfl,r1,r3⟩
def Bd:CallR X (.builtin "abs") (λxs H Q=>∃i,xs=[.int i]/\Q (.int (if i<0 then -i else i)) H):=by
 intro pins s σ H xs us Q I r h
 obtain⟨i,rfl,q⟩:=h
 obtain⟨u,rfl,t,rfl⟩:=fb r
 exact call_abs_int λu tk=>⟨.int (if i<0 then -i else i),H,I.tok _,⟨_,rfl⟩,q⟩
def yx(hc:X.calm=true):CallR X (.builtin "max") (λxs H Q=>∃i j,xs=[.int i,.int j]/\Q (.int (if j>i then j else i)) H):=by
 intro pins s σ H xs us Q I r h
 obtain⟨i,j,rfl,q⟩:=h
 obtain⟨u,w',rfl,⟨t,rfl⟩,⟨t',rfl⟩⟩:=j9 r
 refine max_two_ints (I.ok.hd hc) λh' tk k=>⟨_,H,I.kept k,?_,q⟩
 by_cases hj:j>i
 ·rw[if_pos hj,if_pos hj];exact⟨_,rfl⟩
 ·rw[if_neg hj,if_neg hj];exact⟨_,rfl⟩
def y0(hc:X.calm=true):CallR X (.builtin "min") (λxs H Q=>∃i j,xs=[.int i,.int j]/\Q (.int (if j<i then j else i)) H):=by
 intro pins s σ H xs us Q I r h
 obtain⟨i,j,rfl,q⟩:=h
 obtain⟨u,w',rfl,⟨t,rfl⟩,⟨t',rfl⟩⟩:=j9 r
 refine min_two_ints (I.ok.hd hc) λh' tk k=>⟨_,H,I.kept k,?_,q⟩
 by_cases hj:j<i
 ·rw[if_pos hj,if_pos hj];exact⟨_,rfl⟩
 ·rw[if_neg hj,if_neg hj];exact⟨_,rfl⟩
def xu:CallR X (.type "int") (λxs H Q=>(∃i,xs=[.int i]/\Q (.int i) H)\/∃k,xs=[.bl k]/\Q (.int (if k then 1 else 0)) H):=by
 intro pins s σ H xs us Q I r h
 rcases h with ⟨i,rfl,q⟩ |⟨k,rfl,q⟩
 ·obtain⟨u,rfl,t,rfl⟩:=fb r
  exact call_int_int ⟨.int i,H,I,⟨_,rfl⟩,q⟩
 ·obtain⟨u,rfl,r1⟩:=fb r
  cases r1
  exact call_int_bool ⟨.int (if k then 1 else 0),H,I.tok _,⟨_,rfl⟩,q⟩
end
structure ObjM(h:Heap)(x dx C:Addr)(mA:Ra):Prop where
 obj:h.get? x=some (W.instObj C dx)
 ns:h.Ns1 dx mA
 ne:dx≠x
def xU{h:Heap}{dx:Addr}{mA:Ra}(n:h.Ns1 dx mA):∃od,h.get? dx=some od/\∀name,W.lookIn name od=some (mA name):=by
 obtain⟨o,es,ep,ho,hd,hk,_,hm⟩:=n
 refine⟨o,ho,λname=>?_⟩
 have e:=hm name
 unfold nsFind findBy at e
 rw[<- Array.find?_toList] at e
 unfold W.lookIn
 rw[hd]
 dsimp only
 split
 ·rename_i y q
  rw[q] at e
  exact OI some e
 ·rename_i q
  rw[q] at e
  have a:es.toList.any (·.refKey)=false:=by
   rw[List.any_eq_false]
   intro y hy
   obtain⟨z,t,hkey⟩:=hk y (Array.mem_toList_iff.mp hy)
   simp [DictEntry.refKey,hkey]
  have a':¬ es.toList.any (·.refKey)=true:=by rw[a];exact r_
  rw[if_neg a']
  exact OI some e
def ObjM.look(I:ObjM h x dx C mA):∃od,W.InstAt h x (W.instObj C dx) C (some od)/\∀name,W.lookIn name od=some (mA name):=
 let ⟨od,ho,hl⟩:=xU I.ns
 ⟨od,⟨I.obj,rfl,rfl,ho⟩,hl⟩
section
variable{prog:Program}{w:World}{A:Around}{E:Rg}{s:Shared}{K:W.Frag}{x dx C f:Addr}{mA:Ra}{name:Str}{v:Value}
end
noncomputable def bK(f:Str)(v:V):List (Str×V)->List (Str×V)
 | []=>[(f,v)]
 |(g,x)::r=>if g=f then (g,v)::r else (g,x)::bK f v r
def RelO.some_of(r:RelO (some v) o):∃u,o=some u/\RelV v u:=by
 cases o with
 |none=>exact (show False from r).elim
 |some u=>exact⟨u,rfl,r⟩
section
variable{P:Program}{w:World}{H H':Hp}{h h':Heap}{a C dx:Addr}{fs fs':List (Str×V)}
def EC(hok:HOk P w H h)(e:H a=some (.ins C dx fs)):∃mA,ObjM h a dx C mA/\(∀f,RelO (fs.lookup f) (mA f))/\PySem.Within mA (fs.map (·.1))/\fs.length<=1000/\H dx=some (.own a):=by
 obtain⟨d,z,ne,ob,mA,n,r,q⟩:=(show ObjOk P w H h a (.ins C dx fs) from hok a _ e)
 exact⟨mA,⟨ob,n,ne⟩,r,q,z,d⟩
end
structure Cls(K:W.Frag)(C:Addr):Prop where
 pg:W.plainGet K C Str.empty=true
 hd:W.hasDictIn K C=true
 po:W.plainOver K C=true
 sa:W.findIn K (.ref C) "__setattr__"=some (some (.builtin "object.__setattr__"))
noncomputable def Cls.get{K:W.Frag}{C:Addr}(c:Cls K C)(f:Str):W.plainGet K C f=true:=c.pg
structure Con(K:W.Frag)(C:Addr)(f:Str)(v:V)(u:Value):Prop where
 at_:W.findIn K (.ref C) f=some (some u)
 rel:RelV v u
 get:W.specialIn K u "__get__"=some none
 cp:W.copiedNames.contains f=false
structure Meth(K:W.Frag)(C:Addr)(m:Str)(f:Addr):Prop where
 at_:W.findIn K (.ref C) m=some (some (.ref f))
 fn:W.isFn K (.ref f)=true
 kp:W.keepIn K (.ref f)=true
section
variable{X:Cx}{pins:Rb}{σ:St}{H:Hp}{s:Shared}{a C dx:Addr}{fs:List (Str×V)}{f:Str}{v:V}{A:Around}{E:Rg}
end
section
variable{X:Cx}{o e value:Expr}{f:Str}{pos h_ tpos:Pos}{ta tv:TE}
end
section
variable{X:Cx}{pins:Rb}{σ:St}{H:Hp}{s:Shared}{A:Around}{E:Rg}{Q:Rg}{c:Value}{b:Bool}
inductive TyOf(K:W.Frag)(H:Hp):V->Value->Prop where
 |non:TyOf K H .non (.type "NoneType")
 |bl (x:Bool):TyOf K H (.bl x) (.type "bool")
 |int (i:Int):TyOf K H (.int i) (.type "int")
 |str (x:Str):TyOf K H (.str x) (.type "str")
 |flt (x:UInt64):TyOf K H (.flt x) (.type "float")
 |lst {a:Addr}{xs:List V} (e:H a=some (.lst xs)):TyOf K H (.ref a) (.type "list")
 |frz {a:Addr}{o:Obj}{xs:List V} (e:H a=some (.frz o (.lst xs))):TyOf K H (.ref a) (.type "list")
 |tup {a:Addr}{xs:List V} (e:H a=some (.tup xs)):TyOf K H (.ref a) (.type "tuple")
 |dK {a:Addr}{kvs:List (Key×V)} (e:H a=some (.dK kvs)):TyOf K H (.ref a) (.type "dict")
 |dT {a:Addr}{kvs:List (List Key×V)} (e:H a=some (.dT kvs)):TyOf K H (.ref a) (.type "dict")
 |ins {a C dx:Addr}{fs:List (Str×V)} (e:H a=some (.ins C dx fs)) (cl:Cls K C) (ha:W.findIn K (.ref C) "__class__"=some (some (.builtin "object.__class__")))
  (hn:W.specialIn K (.builtin "object.__class__") "__get__"=some (some (.builtin "getset_descriptor.__get__"))) (htk:W.takesIn K (.builtin "object.__class__")=some true)
  (hm:W.mroIn K C (.type "object")=some true):TyOf K H (.ref a) (.ref C)
end
structure Room(k:Nat)(A:Around):Prop where
 hd:A.handled=none
 dp:A.depth+3*k+5<recursionLimit
 un:A.units+16*k+200<cLine
def Room.mono(r:Room k A)(h:j<=k):Room j A:=⟨r.hd,by have:=r.dp;omega,by have:=r.un;omega⟩
def Room.deeper(r:Room (k+1) A)(env:Env):Room k (A.deeper env):=
 ⟨r.hd,by have:=r.dp;show A.depth+1+3*k+5<_;omega,by have:=r.un;show A.units+3+16*k+200<_;omega⟩
def Room.depth(r:Room k A):A.depth<recursionLimit:=by have:=r.dp;omega
def Room.units(r:Room k A):A.units+64<cLine:=by have:=r.un;omega
def tNil:TA:=λ_ H Q=>Q [] H
def Lk(ta:TE)(tr:TA):TA:=λσ H Q=>ta σ H λx H1=>tr σ H1 λxs H2=>Q (x::xs) H2
section
variable{X:Cx}{e:Expr}{es:List Expr}{te:TE}{t:TA}{pos:Pos}
def Gw:PA X [] tNil:=λ_ _ _ _ H Q I h=>Calls.spliced_nil ⟨[],H,I,.nil,h⟩
def Fp(ha:PE X e te)(hr:PA X es t)(hs:starEach (e::es) X.env=(false,eval e X.env)::starEach es X.env):PA X (e::es) (Lk te t):=by
 intro pos pins s σ H Q I h
 rw[hs]
 show wpAny _ _ (spliced ((false,eval e X.env)::backTo pos (starEach es X.env))) _ _ s
 refine Calls.spliced_cons (thn (ha pins s σ H _ I h) λu s1 ⟨x,H1,I1,r1,q1⟩=>?_)
 exact thn (hr pos pins s1 σ H1 _ I1 q1) λus s2 ⟨xs,H2,I2,r2,q2⟩=>⟨x::xs,H2,I2,.cons r1 r2,q2⟩
def tTup(t:TA):TE:=λσ H Q=>t σ H λxs H1=>xs.length<=sizeLine/\∀p,H1 p=none->Q (.ref p) (upd H1 p (.tup xs))
def tLst(t:TA):TE:=λσ H Q=>t σ H λxs H1=>xs.length<=sizeLine/\∀p,H1 p=none->Q (.ref p) (upd H1 p (.lst xs))
def GL{x1}(h:PA X es t):PE X (.Tuple es x1 pos) (tTup t):=by
 intro pins s σ H Q I hq
 refine wpAny_Tuple_spliced (thn (h pos pins s σ H _ I hq) λus s1 ⟨xs,H1,I1,r,z,q⟩=>⟨by rw[<- r.length];exact z,?_⟩)
 have hf:H1 s1.heap.objs.size=none:=I1.hok.fresh (p_ _)
 refine⟨.ref s1.heap.objs.size,upd H1 s1.heap.objs.size (.tup xs),I1.laid (t':=s1.toks) (λb u e=>v_ _ e) (p_ _) ?_,rfl,q _ hf⟩
 exact⟨z,us,r,⟨_,Em _ rfl,rfl,_,rfl⟩⟩
def GZ(h:PA X es t):PE X (.List es pos) (tLst t):=by
 intro pins s σ H Q I hq
 refine wpAny_List_spliced (thn (h pos pins s σ H _ I hq) λus s1 ⟨xs,H1,I1,r,z,q⟩=>⟨by rw[<- r.length];exact z,?_⟩)
 have hf:H1 s1.heap.objs.size=none:=I1.hok.fresh (p_ _)
 refine⟨.ref s1.heap.objs.size,upd H1 s1.heap.objs.size (.lst xs),I1.laid (t':=s1.toks) (λb u e=>v_ _ e) (p_ _) ?_,rfl,q _ hf⟩
 exact⟨z,us,0,r,Em _ rfl⟩
end
abbrev Sp:=List V->Hp->VK->XK->Prop
abbrev CXT:=List Env->Hp->Shared->XK->Value->Shared->Prop
structure Env0(P:Program)(w:World)(K:W.Frag)(mg:Ra)(base:Heap)(A:Around)(outer:List Env)(s:Shared)(H:Hp):Prop where
 frames:A.frames=some outer
 mod:Mod K mg base
 bs:∀b o,base.get? b=some o->s.heap.get? b=some o/\H b=none
 bsz:base.objs.size<=s.heap.objs.size
 funs:s.heap.FunFrames base outer
 frf:∀b∈frs outer,H b=none
 hok:HOk P w H s.heap
 bare:AllBare s.gens
def CE(outer:List Env)(P:Program)(w:World)(H:Hp)(s:Shared)(Q:VK)(u:Value)(s':Shared):Prop:=
 ∃v H',s'.os=s.os/\AllBare s'.gens/\Un (frs outer) [] H H' s.heap s'.heap/\HOk P w H' s'.heap/\RelV v u/\Q v H'
def CR(CX:CXT)(outer:List Env)(P:Program)(w:World)(H:Hp)(s:Shared)(Q:VK)(E:XK)(r:Result)(s':Shared):Prop:=
 match r with
 |.ok (.ret u)=>CE outer P w H s Q u s'
 |.ok _=>False
 |.error e=>CX outer H s E e s'
structure FnOk(P:Program)(w:World)(K:W.Frag)(mg:Ra)(base:Heap)(CX:CXT)(k:Nat)(f:Addr)(fd:FuncData)(ps:List Str)(sp:Sp):Prop where
 len:∀vs H Q E,sp vs H Q E->vs.length=ps.length
 run:∀(A:Around) (outer:List Env) (s:Shared) (H:Hp) (args:Args) (us:List Value) (vs:List V) (Q:VK) (E:XK),Room k A->Env0 P w K mg base A outer s H->BindsTo s fd args (ps.zip us)->Vals vs us->sp vs H Q E->
  codeAny (model P w) A (.call (.ref f) args) (CR CX outer P w H s Q E) s
def FnOk.imp{P:Program}{w:World}{K:W.Frag}{mg:Ra}{base:Heap}{CX:CXT}{k:Nat}{f:Addr}{fd:FuncData}{ps:List Str}{sp sp':Sp}(F:FnOk P w K mg base CX k f fd ps sp)
 (h:∀vs H Q E,sp' vs H Q E->sp vs H Q E):FnOk P w K mg base CX k f fd ps sp':=
 ⟨λvs H Q E q=>F.len vs H Q E (h _ _ _ _ q),λA outer s H args us vs Q E hr he hb hv hs=>F.run A outer s H args us vs Q E hr he hb hv (h _ _ _ _ hs)⟩
section
variable{X:Cx}{pins:Rb}{σ:St}{H:Hp}{s s':Shared}
def Inv.env0(I:Inv X pins σ H s):Env0 X.prog X.w X.K X.mg X.base X.A X.stack s H:=
 ⟨I.ok.frames,I.ok.mod,I.bs,y_ I.ok.bsz I.sz,I.stack,I.stkFree,I.hok,I.bare⟩
def Inv.after(I:Inv X pins σ H s)(h:CE X.stack X.prog X.w H s Q u s'):EP X pins σ Q u s':=by
 obtain⟨v,H',os,bare,un,hok,r,q⟩:=h
 obtain⟨hh,g,d,t,os'⟩:=s'
 obtain rfl:os'=s.os:=os
 exact⟨v,H',I.call (h':=hh) (g':=g) (d':=d) (t':=t) (ch:=[]) un hok bare (λb z=>absurd z (by simp)),r,q⟩
end
def Binds(K:W.Frag)(fd:FuncData)(ps:List Str)(ds:List Value):Prop:=
 ∀(s:Shared) (us:List Value),K.In s.heap->(us++ds).length=ps.length->BindsTo s fd ⟨us,[]⟩ (ps.zip (us++ds))
def Binds.all{K:W.Frag}{fd:FuncData}{ps:List Str}(h:∀us:List Value,us.length=ps.length->bindArgs fd ⟨us,[]⟩=pure (ps.zip us)):Binds K fd ps []:=λs us _ hl=>by
 rw[OB] at hl ⊢
 exact .of_eq (h us hl)
def sf(CX:CXT)(X:Cx)(E:XK):Prop:=∀(pins:Rb) (σ:St) (H:Hp) (s:Shared) (e:Value) (s':Shared),Inv X pins σ H s->CX X.stack H s E e s'->X.xe e s'
section
variable{X:Cx}{CX:CXT}{k:Nat}{f C:Addr}{fd:FuncData}{ps:List Str}{sp:Sp}{dvs:List V}{ds:List Value}{E:XK}{x m:Str}{p pos apos:Pos}{e o:Expr}{es:List Expr}{ta:TE}{t:TA}
structure Mk(K:W.Frag)(C f:Addr):Prop where
 makes:W.makesIn K C=true
 init:W.findIn K (.ref C) "__init__"=some (some (.ref f))
 fn:W.isFn K (.ref f)=true
 kp:W.keepIn K (.ref C)=true
end
section
variable{X:Cx}{CX:CXT}{k:Nat}{f C:Addr}{fd:FuncData}{ps ks:List Str}{sp:Sp}{E:XK}{x m:Str}{p pos apos kpos:Pos}{e o:Expr}{es:List Expr}{kws:List Keyword}{te ta:TE}{t tk:TA}{nm:Option Str}
structure KBinds(K:W.Frag)(fd:FuncData)(ps ks:List Str)(g:List Value->List Value->List Value)(gV:List V->List V->List V):Prop where
 to:∀(s:Shared) (us ws:List Value),K.In s.heap->(g us ws).length=ps.length->BindsTo s fd ⟨us,ks.zip ws⟩ (ps.zip (g us ws))
 rel:∀{vs:List V}{us:List Value}{zs:List V}{ws:List Value},Vals vs us->Vals zs ws->Vals (gV vs zs) (g us ws)
variable{g:List Value->List Value->List Value}{gV:List V->List V->List V}
end
structure FnScope(N P:List Str)(sc:Scope):Prop where
 kind:sc.kind=.function
 co:sc.isCoroutine=false
 gen:sc.isGenerator=false
 nd:N.Nodup
 pre:N.take P.length=P
 par:∀x∈P,sc.names.lookup x=some .local\/sc.names.lookup x=some .cell
 nofree:∀y∈sc.names,y.2 ≠ .free
theorem oi{kindOf:Str->Option NameKind}{x:Str}:∀{binds:List (Str×Value)}{m:Ra},(∀v,(x,v)∉binds)->bindL kindOf binds m x=m x
 | [],_,_=>rfl
 |
  (n,v)::r,m,h=>by
  unfold bindL
  rw[oi λw hw=>h w (m_ _ hw)]
  split
  ·have:x≠n:=by rintro rfl;exact h v o_
   simp [this]
  ·rfl
theorem oA{kindOf:Str->Option NameKind}{x:Str}:∀{binds:List (Str×Value)}{m:Ra},(∀v,(x,v)∉binds)->bindC kindOf binds m x=m x
 | [],_,_=>rfl
 |
  (n,v)::r,m,h=>by
  unfold bindC
  rw[oA λw hw=>h w (m_ _ hw)]
  split
  ·rfl
  ·have:x≠n:=by rintro rfl;exact h v o_
   simp [this]
theorem oh{kindOf:Str->Option NameKind}{x:Str}{v:Value}:∀{P:List Str}{vs:List Value}{i:Nat}{m:Ra},P.Nodup->P[i]?=some x->vs[i]?=some v->kindOf x=some .local->
 bindL kindOf (P.zip vs) m x=some v
 | [],_,_,_,_,h,_,_=>by simp at h
 |_::_,[],_,_,_,_,h,_=>by simp at h
 |
  p::P,w::vs,0,m,nd,h1,h2,hk=>by
  simp at h1 h2;subst h1;subst h2
  show bindL kindOf ((p,w)::P.zip vs) m p=_
  unfold bindL
  rw[oi λv hv=>(O8.mp nd).1 (List.of_mem_zip hv).1,if_pos hk]
  simp
 |
  p::P,w::vs,i+1,m,nd,h1,h2,hk=>by
  show bindL kindOf ((p,w)::P.zip vs) m x=_
  unfold bindL
  exact oh (i:=i) (O8.mp nd).2 (by simpa using h1) (by simpa using h2) hk
theorem ou{kindOf:Str->Option NameKind}{x:Str}{v:Value}:∀{P:List Str}{vs:List Value}{i:Nat}{m:Ra},P.Nodup->P[i]?=some x->vs[i]?=some v->kindOf x≠some .local->
 bindC kindOf (P.zip vs) m x=some v
 | [],_,_,_,_,h,_,_=>by simp at h
 |_::_,[],_,_,_,_,h,_=>by simp at h
 |
  p::P,w::vs,0,m,nd,h1,h2,hk=>by
  simp at h1 h2;subst h1;subst h2
  show bindC kindOf ((p,w)::P.zip vs) m p=_
  unfold bindC
  rw[oA λv hv=>(O8.mp nd).1 (List.of_mem_zip hv).1,if_neg hk]
  simp
 |
  p::P,w::vs,i+1,m,nd,h1,h2,hk=>by
  show bindC kindOf ((p,w)::P.zip vs) m x=_
  unfold bindC
  exact ou (i:=i) (O8.mp nd).2 (by simpa using h1) (by simpa using h2) hk
noncomputable def fg(N:List Str)(vs:List V):St:=vs.map some++List.replicate (N.length-vs.length) none
noncomputable def dD(CX:CXT)(P:Program)(w:World)(K:W.Frag)(mg:Ra)(base:Heap)(N:List Str)(qual:Str)(scope:Scope)(f:Addr)(cd:Value)(A:Around)(outer:List Env)(s:Shared)(H:Hp)(E:XK):Cx where
 prog:=P
 w:=w
 K:=K
 mg:=mg
 base:=base
 A:=A.deeper (envOfC qual scope s.heap.objs.size f cd)
 N:=N
 s₀:=s
 H₀:=H
 env:=envOfC qual scope s.heap.objs.size f cd
 outer:=outer
 stack:=envOfC qual scope s.heap.objs.size f cd::outer
 ex:=[]
 calm:=true
 fn:=λ_=>true
 pn:=[]
 xe:=λe s'=>wpAny (model P w) (A.deeper (envOfC qual scope s.heap.objs.size f cd)) (leaving (envOfC qual scope s.heap.objs.size f cd) e) (λ_ s''=>CX outer H s E e s'') (λe' s''=>CX outer H s E e' s'') s'
def qF{sc:Scope}{n:Nat}{x:Str}(h:sc.names.lookup x=some .cell):∃c,(cellsFrom n sc.names []).lookup x=some c:=by
 have q:=W.cellsFrom_some sc.names n [] (.inl h)
 exact OH.mp q
def yo{CX:CXT}{P:Program}{w:World}{K:W.Frag}{mg:Ra}{base:Heap}{N ps:List Str}{qual:Str}{scope:Scope}{f:Addr}{cd:Value}{A:Around}{outer:List Env}{s s1:Shared}{H:Hp}{E:XK}{us:List Value}{vs:List V}
 (S:FnScope N ps scope) (hd:A.handled=none) (e0:Env0 P w K mg base A outer s H) (hl:vs.length=ps.length) (r:Vals vs us)
 (x:InCallC s s.heap.objs.size (bindL (envOfC qual scope s.heap.objs.size f cd).kindOf (ps.zip us) λ_=>none) (cellsFrom (s.heap.objs.size+1) scope.names []) (bindC (envOfC qual scope s.heap.objs.size f cd).kindOf (ps.zip us) λ_=>none) s1):
 Inv (dD CX P w K mg base N qual scope f cd A outer s H E) [] (fg N vs) H s1:=by
 have hpl:ps.length<=N.length:=by have:=OI List.length S.pre;rw[OM] at this;omega
 obtain⟨h1,tk,rfl,hk⟩:=x.done
 have noA:∀b:Addr,b∉(dD CX P w K mg base N qual scope f cd A outer s H E).ex:=λb z=>absurd (show b∈([]:List Addr) from z) (by simp)
 refine⟨⟨e0.mod,S.kind,rfl,rfl,p_ _,λy z c h1 h2=>?_,λy hy=>?_,λy c _ h=>?_,λ_=>hd,Around.frames_deeper e0.frames,.inr ⟨rfl,rfl⟩,λb z=>absurd z (noA b),e0.bs,e0.bsz,λb _ _=>noA b,λb z=>absurd z (noA b),e0.funs,e0.frf⟩,
  rfl,e0.bare,Un.kept hk,⟨_,x.toInCall.ns,λi y v h1 h2 h3=>?_⟩,λy c h=>⟨_,x.cell y c h⟩,e0.hok.fresh (p_ _),λy c h=>?_,λp hp=>absurd (show p∈([]:Rb) from hp) (by simp),e0.hok.kept hk,?_⟩
 ·exact name_of_addr x.apart (O0 h1) (O0 h2)
 ·have hy:scope.names.lookup y=some .cell\/scope.names.lookup y=some .free:=hy
  rcases hy with hy |hy
  ·exact qF hy
  ·exact absurd rfl (S.nofree _ (O0 hy))
 ·exact Qg (x.above y c (O0 h))
 ·have hi:i<vs.length:=by
   unfold fg at h2
   by_cases hi:i<vs.length
   ·exact hi
   ·rw[I_ (by simpa using hi)] at h2
    rw[OK] at h2
    split at h2 <;> cases h2
  have ha:vs[i]?=some v:=by
   unfold fg at h2
   rw[J_ (by simpa using hi),E_] at h2
   cases e:vs[i]? with
   |none=>rw[e] at h2;cases h2
   |some a=>rw[e] at h2;cases h2;rfl
  obtain⟨u,hu,rv⟩:=r.get ha
  have hp:ps[i]?=some y:=by
   rw[<- S.pre,List.getElem?_take_of_lt (by omega)];exact h1
  have ndP:ps.Nodup:=by rw[<- S.pre];exact S.nd.sublist (List.take_sublist _ _)
  refine⟨u,rv,?_⟩
  rcases S.par y (ON hp) with k |k
  ·exact .inl ⟨k,oh ndP hp hu k⟩
  ·obtain⟨c,e⟩:=qF (n:=s.heap.objs.size+1) k
   refine .inr ⟨.inl k,c,e,?_⟩
   have q:=x.cell y c e
   rw[ou ndP hp hu (by show scope.names.lookup y≠_;rw[k];decide)] at q
   exact q
 ·exact e0.hok.fresh (Qg (x.above y c (O0 h)))
 ·unfold fg
  show _=N.length
  rw[l_,j_,Oh]
  omega
def Mi{CX:CXT}{P:Program}{w:World}{K:W.Frag}{mg:Ra}{base:Heap}{k:Nat}{f:Addr}{name qual:Str}{params:Arguments}{body:List Stmt}{scope:Scope}{dV kV doc pm cdv ct oc:Value}{an od:Option Addr}
 {osl:Array (Option Value)}{N ps:List Str}{sp:Sp} (lk:K.lookup f=some ⟨oc,od,.func (W.fnOf name qual params body scope dV kV doc pm an cdv ct),osl⟩) (hcd:W.codeIn K cdv qual=true) (S:FnScope N ps scope)
 (len:∀vs H Q E,sp vs H Q E->vs.length=ps.length)
 (f_:∀(A:Around) (outer:List Env) (s:Shared) (H:Hp) (vs:List V) (Q:VK) (E:XK),Room k (A.deeper (envOfC qual scope s.heap.objs.size f cdv))->sp vs H Q E->
  ∃t,PSs (dD CX P w K mg base N qual scope f cdv A outer s H E) body t/\t { nx:=λ_ H'=>Q .non H',rt:=Q } (fg N vs) H):
 FnOk P w K mg base CX (k+1) f (W.fnOf name qual params body scope dV kV doc pm an cdv ct) ps sp:=by
 refine⟨len,λA outer s H args us vs Q E hr e0 hb r hsp=>?_⟩
 have hl:=len _ _ _ _ hsp
 have KX:K.In s.heap:=e0.mod.kin.keeps λb o e=>(e0.bs b o e).1
 have lim:s.heap.NoLimit:=e0.mod.nolimit.keeps λb o e=>(e0.bs b o e).1
 have hkind:∀y∈ps.zip us,scope.names.lookup y.1=some .local\/(scope.names.lookup y.1=some .cell/\((cellsFrom (s.heap.objs.size+1) scope.names []).lookup y.1).isSome=true):=λ⟨n,v⟩ hy=>by
  rcases S.par n (List.of_mem_zip hy).1 with q |q
  ·exact .inl q
  ·exact .inr ⟨q,W.cellsFrom_some _ _ _ (.inl q)⟩
 refine codeAny_call_function hr.depth (KX _ _ lk) rfl S.co S.gen rfl (W.codeRec_of KX hcd) (hb _ _ _ _ ?_)
 refine wpAny_newFunctionEnv_cells S.kind hkind λenv he s1 x=>?_
 subst he
 refine⟨lim.keeps x.toInCall.keep,codeAny_func ?_⟩
 obtain⟨t,ht,hq⟩:=f_ A outer s H vs Q E (hr.deeper _) hsp
 have I:Inv (dD CX P w K mg base N qual scope f cdv A outer s H E) [] (fg N vs) H s1:=yo S hr.hd e0 hl r x
 refine Ox (ht [] s1 (fg N vs) H _ I hq) (λfl s' hs=>?_) λe s' hs=>hs
 have g_:∀{σ':St}{H':Hp}{v:V}{u:Value},Inv (dD CX P w K mg base N qual scope f cdv A outer s H E) [] σ' H' s'->RelV v u->Q v H'->CE outer P w H s Q u s':=
  λ{σ' H' v u} J rv q=>⟨v,H',J.os,J.bare,J.base,J.hok,rv,q⟩
 cases fl with
 |
  ret u=>
  obtain⟨v,σ',H',J,rv,q⟩:=hs
  exact g_ J rv q
 |
  next=>
  obtain⟨σ',H',J,q⟩:=hs
  exact g_ (v:=V.non) (u:=Value.none) J rfl q
 |
  brk=>
  obtain⟨_,_,_,q⟩:=hs
  exact False.elim q
 |
  cont=>
  obtain⟨_,_,_,q⟩:=hs
  exact False.elim q
section
variable{X:Cx}{x:Str}{p pos:Pos}{e:Expr}{es:List Expr}{t:TA}{id T:String}{r:List V->Hp->VK->Prop}
def tCB(r:List V->Hp->VK->Prop)(t:TA):TE:=λσ H Q=>t σ H λvs H1=>r vs H1 Q
def Al(hc:CallR X (.builtin id) r)(hg:Gl X x)(hm:X.mg x=none)(hv:bootBuiltins x=some (.builtin id))(ha:PA X (e::es) t)(hn:x ≠ "__name__")(hdb:(x==("__debug__" : Str))=false)
 (he:starEach (e::es) X.env=(false,eval e X.env)::starEach es X.env) (hpl:(backTo pos (starEach es X.env)).any (·.1)=false):PE X (.Call (.Name x p) (e::es) [] pos) (tCB r t):=by
 intro pins s σ H Q I h
 refine Qi (iJ I hg hm hv ?_ hn hdb)
 exact PyProof.Rows.callWith_builtin1 (thn (ha pos pins s σ H _ I h) λus s1 ⟨vs,H1,I1,r1,q1⟩=>hc pins s1 σ H1 vs us Q I1 r1 q1) he hpl
def wH(hc:CallR X (.type T) r)(hg:Gl X x)(hm:X.mg x=none)(hv:bootBuiltins x=some (.type T))(ha:PA X (e::es) t)(hn:x ≠ "__name__")(hdb:(x==("__debug__" : Str))=false)
 (he:starEach (e::es) X.env=(false,eval e X.env)::starEach es X.env) (hpl:(backTo pos (starEach es X.env)).any (·.1)=false):PE X (.Call (.Name x p) (e::es) [] pos) (tCB r t):=by
 intro pins s σ H Q I h
 refine Qi (iJ I hg hm hv ?_ hn hdb)
 exact P2 (thn (ha pos pins s σ H _ I h) λus s1 ⟨vs,H1,I1,r1,q1⟩=>hc pins s1 σ H1 vs us Q I1 r1 q1) he hpl
def wF(hc:CallR X (.type T) r)(hg:Gl X x)(hm:X.mg x=none)(hv:bootBuiltins x=some (.type T))(hn:x ≠ "__name__")(hdb:(x==("__debug__" : Str))=false):
 PE X (.Call (.Name x p) [] [] pos) (tCB r tNil):=by
 intro pins s σ H Q I h
 refine Qi (iJ I hg hm hv ?_ hn hdb)
 exact PyProof.Rows.callWith_type0 (hc pins s σ H [] [] Q I .nil h)
end
end L2
namespace HT
open PySem PyProof.Rows
section
open PySem.SeqAt
open PySem.AutoSeq1 (wpAny_loadPart')
open PySem.MeetsSeq PySem.MeetsSeq2 PySem.MeetsSeq3
end
section
variable{prog:Program}{w:World}{A:Around}{E:Rg}{s:Shared}
def cat_tup(ht:IsTup s.heap t vs.toArray)(hb:IsTup s.heap b ws.toArray)(hv:vs≠[])
 (h1:ws=[]->Q (.ref t) s) (h2:ws≠[]->Q (.ref s.heap.objs.size) { s with heap:=s.heap.push { cls:=.type "tuple",data:=.seq (vs++ws).toArray } })
 (hsz:vs.length+ws.length<=sizeLine):wpAny (model prog w) A (binaryOp .Add (.ref t) (.ref b)) Q E s:=by
 obtain⟨⟨cls,dd,data,sl⟩,ho,hc,n,hd⟩:=id ht
 obtain⟨⟨cls2,dd2,data2,sl2⟩,ho2,hc2,n2,hd2⟩:=id hb
 simp only at hc hd hc2 hd2
 subst hc hd hc2 hd2
 have e:vs.toArray++ws.toArray=(vs++ws).toArray:=by simp
 by_cases hw:ws=[]
 ·exact concat_meets ⟨_,ho,rfl⟩ ⟨_,ho2,rfl⟩ noFill_tuple_add seq_tuple_add Qo Qk (Qh _ _)
   (tuple_addW1 t b vs.toArray ws.toArray n n2 dd dd2 sl sl2 (by simpa using hv) (by simp [hw])) ⟨ho,ho2,h1 hw⟩
 ·refine concat_meets ⟨_,ho,rfl⟩ ⟨_,ho2,rfl⟩ noFill_tuple_add seq_tuple_add Qo Qk (Qh _ _)
   (tuple_addW2 t b vs.toArray ws.toArray n n2 dd dd2 sl sl2 (by simpa using hv) (by simpa using hw) (by rw[t_,t_];exact hsz)) ⟨ho,ho2,?_⟩
  rw[e]
  exact h2 hw
noncomputable def sIx(n d:Nat):Option Int->Nat
 |none=>d
 |some v=>if v<0 then (v+(n:Int)).toNat else min v.toNat n
def sIx_none(n d:Nat):sIx n d none=d:=rfl
def sIx_nat(n d k:Nat):sIx n d (some (k:Int))=min k n:=by
 show (if (k:Int)<0 then ((k:Int)+(n:Int)).toNat else min (k:Int).toNat n)=min k n
 rw[if_neg (by omega),Oy]
def Jj(n d:Nat)(hd:d<=n)(o:Option Int):sIx n d o<=n:=by
 cases o with
 |none=>exact hd
 |
  some v=>
  show (if v<0 then (v+(n:Int)).toNat else min v.toNat n)<=n
  by_cases hv:v<0
  ·rw[if_pos hv];omega
  ·rw[if_neg hv];exact Nat.min_le_right _ _
def tN(v:Int)(n d:Nat):(if v<0 then max (v+(n:Int)) 0 else min v (n:Int))=((sIx n d (some v):Nat):Int):=by
 show (if v<0 then max (v+(n:Int)) 0 else min v (n:Int))=(((if v<0 then (v+(n:Int)).toNat else min v.toNat n):Nat):Int)
 by_cases hv:v<0
 ·simp only[if_pos hv];omega
 ·simp only[if_neg hv];omega
def vg(lo hi:Option Int)(n:Nat):Builtin.Slice.sliceAdjust lo hi 1 (n:Int)=(((sIx n 0 lo:Nat):Int),((sIx n n hi:Nat):Int)):=by
 have h1:¬ ((1:Int)<0):=by omega
 unfold Builtin.Slice.sliceAdjust
 simp only[h1,PM]
 refine Prod.ext ?_ ?_
 ·cases lo with
  |none=>rfl
  |some v=>exact tN v n 0
 ·cases hi with
  |none=>rfl
  |some v=>exact tN v n n
def vJ(i j:Nat):Builtin.Slice.slicePlaces (i:Int) (j:Int) 1=j-i:=by
 unfold Builtin.Slice.slicePlaces
 have h1:(1:Int)>0:=by omega
 simp only[h1,O4,Int.ediv_one]
 split <;> omega
noncomputable def l7(p:IsPart v o)(h:Q o s):wpAny (model prog w) A (Builtin.Slice.slicePartIndex v) Q E s:=by
 cases p with
 |none=>exact slicePart_none h
 |int i t=>exact slicePart_int h
def kU{sl:Addr}{vl vu:Value}{lo hi:Option Int}{n:Nat}{Q:Int×Int×Nat->Shared->Prop}(hs:s.heap.IsSliceOf sl vl vu .none)(pl:IsPart vl lo)(pu:IsPart vu hi)
 (h:Q (((sIx n 0 lo:Nat):Int),1,sIx n n hi-sIx n 0 lo) s):wpAny (model prog w) A (Builtin.Slice.sliceApplied (.ref sl) (pure (n:Int))) Q E s:=by
 obtain⟨os,hos,hcs,hds⟩:=id hs
 unfold Builtin.Slice.sliceApplied Builtin.Slice.sliceFields
 refine i_ (i_ (OJ hos hds (x:=vl) rfl (i_ (OJ hos hds (x:=vu) rfl (i_ (OJ hos hds (x:=.none) rfl (u_ ?_)))))))
 refine i_ (slicePart_none ?_)
 show wpAny _ _ (if ((1:Int)==0)=true then _ else _) _ _ s
 rw[if_neg (by decide)]
 refine i_ (l7 pl (i_ (l7 pu (i_ (u_ ?_)))))
 show wpAny _ _ (match Builtin.Slice.sliceAdjust lo hi 1 (n:Int) with |(lo,hi)=>pure (lo,(1:Int),Builtin.Slice.slicePlaces lo hi 1)) _ _ s
 rw[vg lo hi n]
 show wpAny _ _ (pure (((sIx n 0 lo:Nat):Int),(1:Int),Builtin.Slice.slicePlaces ((sIx n 0 lo:Nat):Int) ((sIx n n hi:Nat):Int) 1)) _ _ s
 rw[vJ]
 exact u_ h
def zV(xs:Array Value)(i k:Nat):((List.range k).filterMap λ(m:Nat)=>xs[((i:Int)+(m:Int)*1).toNat]?).toArray=((xs.toList.drop i).take k).toArray:=by
 have e:(λ(m:Nat)=>xs[((i:Int)+(m:Int)*1).toNat]?)=λm=>xs[i+m]?:=by
  funext m
  have:((i:Int)+(m:Int)*1).toNat=i+m:=by omega
  rw[this]
 rw[e]
 have:=pick_run xs i k
 rw[List.filterMap_map] at this
 have e2:((λx=>xs[x]?) ∘ λx=>i+x)=λm=>xs[i+m]?:=rfl
 rw[e2] at this
 rw[this]
def getItem_tuple_cut{t sl:Addr}{items:Array Value}{vl vu:Value}{lo hi:Option Int}{Q:Rg}(ht:IsTup s.heap t items)(hs:s.heap.IsSliceOf sl vl vu .none)(pl:IsPart vl lo)(pu:IsPart vu hi)
 (hw:¬ (sIx items.size 0 lo=0/\sIx items.size items.size hi=items.size))
 (h:Q (.ref s.heap.objs.size) { s with heap:=s.heap.push { cls:=.type "tuple",data:=.seq ((items.toList.drop (sIx items.size 0 lo)).take (sIx items.size items.size hi-sIx items.size 0 lo)).toArray } })
 (hsz:items.size<=sizeLine):wpAny (model prog w) A (getItem (.ref t) (.ref sl)) Q E s:=by
 have htake:sizeOk (.seq ((items.toList.drop (sIx items.size 0 lo)).take (sIx items.size items.size hi-sIx items.size 0 lo)).toArray):=by
  show ((items.toList.drop (sIx items.size 0 lo)).take (sIx items.size items.size hi-sIx items.size 0 lo)).toArray.size<=sizeLine
  rw[t_,OM,Px,QE]
  omega
 have hj:sIx items.size items.size hi<=items.size:=Jj _ _ (p_ _) hi
 obtain⟨os,hos,hcs,hds⟩:=id hs
 have hTs:s.TypeIs (.ref sl) "slice":=⟨os,hos,hcs⟩
 unfold getItem
 try with_reducible refine PF ?_
 first |refine i_ (u_ ?_) |skip
 refine i_ (wpAny_sequenceKey ht.typeIs (by decide) ?_)
 refine i_ (O_ (name:=Str.ofString "__getitem__") ht.typeIs PyProof.Rows.slot_tuple_getitem
  (P6 PyProof.Rows.slot_tuple_getitem ht.typeIs entry_tuple_getitem ?_ (args_tuple_getitem _ _)))
 show wpAny _ _ (Builtin.Tuple.tupleItemsOf (.ref t) >>= _) _ _ s
 refine i_ (tupleItemsOf_ ht ?_)
 refine i_ (wpAny_typeOf hTs ?_)
 rw[if_pos (by decide)]
 refine i_ (kU hs pl pu ?_)
 have hno:¬ ((((sIx items.size 0 lo:Nat):Int)==0&&(1:Int)==1&&(sIx items.size items.size hi-sIx items.size 0 lo)==items.size)=true):=by
  intro q
  rw[n_,n_] at q
  have q1:((sIx items.size 0 lo:Nat):Int)=0:=eq_of_beq q.1.1
  have q2:sIx items.size items.size hi-sIx items.size 0 lo=items.size:=eq_of_beq q.2
  exact hw ⟨by omega,by omega⟩
 show wpAny _ _ (if (((sIx items.size 0 lo:Nat):Int)==0&&(1:Int)==1&&(sIx items.size items.size hi-sIx items.size 0 lo)==items.size)=true then _ else _) _ _ s
 rw[if_neg hno,zV]
 first
  |exact i_ (m:=Builtin.Tuple.tupleExact _) (OQ (u_ ⟨_,rfl,u_ h⟩) htake)
  |exact i_ (m:=Builtin.Tuple.tupleExact _) (OQ (i_ (u_ (u_ ⟨_,rfl,u_ h⟩))) htake)
  |exact i_ (i_ (m:=Builtin.Tuple.tupleExact _) (OQ (u_ (u_ ⟨_,rfl,u_ h⟩)) htake))
  |exact i_ (i_ (m:=Builtin.Tuple.tupleExact _) (OQ (u_ ⟨_,rfl,u_ h⟩) htake))
end
end HT
namespace L2
open PySem PySem.Spec PyProof.Rows
abbrev TO:=St->Hp->(Option Int->Hp->Prop)->Prop
def PO(X:Cx)(e:Option Expr)(t:TO):Prop:=
 ∀
  (pins:Rb) (s:Shared) (σ:St) (H:Hp) (Q:Option Int->Hp->Prop),Inv X pins σ H s->t σ H Q->
  wpAny (model X.prog X.w) X.A (evalPart e X.env) (λu s'=>∃o H',Inv X pins σ H' s'/\IsPart u o/\Q o H') X.xe s
def DP:TO:=λ_ H Q=>Q none H
def MZ(t:TE):TO:=λσ H Q=>t σ H λx H1=>∃i,x=.int i/\Q (some i) H1
section
variable{X:Cx}{e:Expr}{te:TE}{lo hi:Option Expr}{tl th:TO}{pos p2:Pos}
def C7:PO X none DP:=by
 intro pins s σ H Q I h
 rw[evalPart_none]
 exact u_ ⟨none,H,I,.none,h⟩
def Eo(h:PE X e te):PO X (some e) (MZ te):=by
 intro pins s σ H Q I hw
 rw[evalPart_some]
 refine thn (h pins s σ H _ I hw) λu s1 ⟨x,H1,I1,r1,q1⟩=>?_
 obtain⟨i,rfl,q⟩:=q1
 obtain⟨t,rfl⟩:=r1
 exact⟨some i,H1,I1,.int i t,q⟩
def SlR(X:Cx)(r:V->Option Int->Option Int->Hp->VK->Prop):Prop:=
 ∀
  (pins:Rb) (s:Shared) (σ:St) (H:Hp) (x:V) (v vl vu:Value) (lo hi:Option Int) (sl:Addr) (Q:VK),Inv X pins σ H s->RelV x v->s.heap.IsSliceOf sl vl vu .none->IsPart vl lo->IsPart vu hi->r x lo hi H Q->
  ∃T id,typeLookup (.type T) "__getitem__"=pure (some (.builtin id))/\s.TypeIs v T/\wpAny (model X.prog X.w) X.A (getItem v (.ref sl)) (EP X pins σ Q) X.xe s
def SlR.or(h:SlR X r)(h':SlR X r'):SlR X (λx lo hi H Q=>r x lo hi H Q\/r' x lo hi H Q):=by
 intro pins s σ H x v vl vu lo hi sl Q I rx hs pl pu q
 rcases q with q |q
 ·exact h pins s σ H x v vl vu lo hi sl Q I rx hs pl pu q
 ·exact h' pins s σ H x v vl vu lo hi sl Q I rx hs pl pu q
def tSl(r:V->Option Int->Option Int->Hp->VK->Prop)(te:TE)(tl th:TO):TE:=λσ H Q=>te σ H λx H1=>tl σ H1 λl H2=>th σ H2 λu H3=>r x l u H3 Q
def Cb(hr:SlR X r)(he:PE X e te)(hl:PO X lo tl)(hu:PO X hi th):PE X (.Subscript e (.Slice lo hi none p2) pos) (tSl r te tl th):=by
 intro pins s σ H Q I h
 refine Subscript_ (thn (he pins s σ H _ I h) λv s1 ⟨x,H1,I1,r1,q1⟩=>?_)
 refine wpAny_Slice (thn (hl pins s1 σ H1 _ I1 q1) λvl s2 ⟨l,H2,I2,pl,q2⟩=>thn (hu pins s2 σ H2 _ I2 q2) λvu s3 ⟨u,H3,I3,pu,q3⟩=>?_)
 rw[evalPart_none]
 refine u_ ?_
 have I4:Inv X pins σ H3 { s3 with heap:=s3.heap.push { cls:=.type "slice",data:=.fields #[vl,vu,.none] } }:=I3.kept (t':=s3.toks) λb ob q=>v_ _ q
 obtain⟨T,id,hT,ht,hg⟩:=hr pins { s3 with heap:=s3.heap.push { cls:=.type "slice",data:=.fields #[vl,vu,.none] } } σ H3 x v vl vu l u s3.heap.objs.size Q I4 r1 (Heap.IsSliceOf.new ..) pl pu q3
 show wpAny (model X.prog X.w) X.A (subscriptTail e (.Slice lo hi none p2) v (.ref s3.heap.objs.size)) (EP X pins σ Q) X.xe { s3 with heap:=s3.heap.push { cls:=.type "slice",data:=.fields #[vl,vu,.none] } }
 exact tail_any (ops:=[.ref s3.heap.objs.size,v]) ht hT hg (by with_unfolding_all rfl)
def jU(xs:List V)(lo hi:Option Int):List V:=(xs.drop (HT.sIx xs.length 0 lo)).take (HT.sIx xs.length xs.length hi-HT.sIx xs.length 0 lo)
def kL(xs:List V)(lo hi:Option Int):(jU xs lo hi).length<=xs.length:=by
 unfold jU
 rw[OM,Px]
 omega
def rSlT(K:W.Frag):V->Option Int->Option Int->Hp->VK->Prop:=λx lo hi H Q=>∃a xs,x=.ref a/\SqT K H a xs/\
 ¬ (HT.sIx xs.length 0 lo=0/\HT.sIx xs.length xs.length hi=xs.length)/\∀p,H p=none->Q (.ref p) (upd H p (.tup (jU xs lo hi)))
def Kg:SlR X (rSlT X.K):=by
 intro pins s σ H x v vl vu lo hi sl Q I rx hs pl pu h
 obtain⟨a,xs,rfl,hx,hw,q⟩:=h
 cases rx
 obtain⟨its,r,ht,hz⟩:=I.tuple hx
 have bd:its.toArray.size=xs.length:=by rw[t_];exact r.length.symm
 refine⟨"tuple",_,PyProof.Rows.slot_tuple_getitem.lookup,ht.typeIs,?_⟩
 refine HT.getItem_tuple_cut ht hs pl pu (by rw[bd];exact hw) ?_ (by rw[bd];exact hz)
 rw[bd]
 refine⟨.ref s.heap.objs.size,_,I.laid (t':=s.toks) (o:=.tup (jU xs lo hi)) (λb ob q=>v_ _ q) (p_ _) ?_,rfl,q _ (I.hok.fresh (p_ _))⟩
 exact⟨y_ (kL xs lo hi) hz,_,(r.drop (HT.sIx xs.length 0 lo)).take (HT.sIx xs.length xs.length hi-HT.sIx xs.length 0 lo),IsTup.new _ _⟩
def kr(K:W.Frag):R2:=λx y H Q=>∃a b xs ys,x=.ref a/\y=.ref b/\SqT K H a xs/\SqT K H b ys/\xs≠[]/\xs.length+ys.length<=sizeLine/\
 (ys=[]->Q (.ref a) H)/\(ys≠[]->∀p,H p=none->Q (.ref p) (upd H p (.tup (xs++ys))))
def Vals.nil_iff(r:Vals xs us):us=[] ↔ xs=[]:=by
 cases r with
 |nil=>simp
 |cons _ _=>simp
def DN:OpR X (binaryOp .Add) (kr X.K):=by
 intro pins s σ H x y v u Q I rx ry h
 obtain⟨a,b,xs,ys,rfl,rfl,ha,hb,hx,hz,q1,q2⟩:=h
 cases rx
 cases ry
 obtain⟨its,r1,p1,_⟩:=I.tuple ha
 obtain⟨its2,r2,p2,_⟩:=I.tuple hb
 refine HT.cat_tup p1 p2 (λz=>hx (r1.nil_iff.mp z)) (λz=>⟨.ref a,H,I,rfl,q1 (r2.nil_iff.mp z)⟩) (λz=>?_) (by rw[<- r1.length,<- r2.length];exact hz)
 refine⟨.ref s.heap.objs.size,_,I.laid (t':=s.toks) (o:=.tup (xs++ys)) (λb ob q=>v_ _ q) (p_ _) ?_,rfl,q2 (λw=>z (r2.nil_iff.mpr w)) _ (I.hok.fresh (p_ _))⟩
 exact⟨by rw[l_];exact hz,_,r1.append r2,IsTup.new _ _⟩
end
noncomputable def ixN(n:Nat)(i:Int):Option Nat:=if 0<=i then (if i<n then some i.toNat else none) else if -(n:Int)<=i then some (i+n).toNat else none
def atI{α:Type}(xs:List α)(i:Int):Option α:=(ixN xs.length i).bind λj=>xs[j]?
def uP(h:ixN n i=some j):seqIndex? i n=some j/\j<n/\-(n:Int)<=i/\i<n:=by
 unfold ixN at h
 by_cases h0:0<=i
 ·rw[if_pos h0] at h
  by_cases h1:i<n
  ·rw[if_pos h1] at h
   have e:i.toNat=j:=G_ h
   exact⟨by rw[seqIndex_of h0 h1,e],by omega,by omega,h1⟩
  ·rw[if_neg h1] at h;cases h
 ·rw[if_neg h0] at h
  by_cases h1:-(n:Int)<=i
  ·rw[if_pos h1] at h
   have e:(i+n).toNat=j:=G_ h
   exact⟨by rw[seqIndex_neg (by omega) h1,e],by omega,h1,by omega⟩
  ·rw[if_neg h1] at h;cases h
def uu(h:atI xs i=some v):∃j,seqIndex? i xs.length=some j/\xs[j]?=some v/\j<xs.length/\-(xs.length:Int)<=i/\i<xs.length:=by
 unfold atI at h
 cases e:ixN xs.length i with
 |none=>rw[e] at h;cases h
 |
  some j=>
  rw[e] at h
  obtain⟨h1,h2,h3,h4⟩:=uP e
  exact⟨j,h1,h,h2,h3,h4⟩
def Ay(xs:List α)(v:α):atI (xs++[v]) (-1)=some v:=by
 have hl:(xs++[v]).length=xs.length+1:=by simp
 have e:ixN (xs++[v]).length (-1)=some xs.length:=by
  unfold ixN
  rw[hl,if_neg (by decide),if_pos (by omega)]
  congr 1
  omega
 unfold atI
 rw[e]
 show (xs++[v])[xs.length]?=some v
 simp
def kh(b:Expr):Prop:=∀o i,subscripted b false o i=operate [o,i] (getItem o i)
def IxR(X:Cx)(r:R2):Prop:=
 ∀
  (value gl:Expr) (pins:Rb) (s:Shared) (σ:St) (H:Hp) (x y:V) (v u:Value) (Q:VK),Inv X pins σ H s->RelV x v->RelV y u->r x y H Q->
  subscripted gl false v u=operate [v,u] (getItem v u)->wpAny (model X.prog X.w) X.A (subscriptTail value gl v u) (EP X pins σ Q) X.xe s
def MtR(X:Cx)(id:String)(r:V->List V->Hp->VK->Prop):Prop:=
 ∀
  (pins:Rb) (s:Shared) (σ:St) (H:Hp) (x:V) (xs:List V) (v:Value) (us:List Value) (Q:VK),Inv X pins σ H s->RelV x v->Vals xs us->r x xs H Q->
  wpAny (model X.prog X.w) X.A (call (.builtin id) (v::us)) (EP X pins σ Q) X.xe s
section
variable{X:Cx}{a b:Expr}{ta tb:TE}{pos:Pos}
def IxR.or(h:IxR X r)(h':IxR X r'):IxR X (λx y H Q=>r x y H Q\/r' x y H Q):=by
 intro value gl pins s σ H x y v u Q I rx ry q hs
 rcases q with q |q
 ·exact h value gl pins s σ H x y v u Q I rx ry q hs
 ·exact h' value gl pins s σ H x y v u Q I rx ry q hs
def NO(hr:IxR X r)(ha:PE X a ta)(hb:PE X b tb)(hs:kh b):PE X (.Subscript a b pos) (tOp r ta tb):=by
 intro pins s σ H Q I h
 exact Subscript_ (B4 ha hb I h λv u s2 x y H2 I2 rx ry q=>hr a b pins s2 σ H2 x y v u Q I2 rx ry q (hs _ _))
def wG(K:W.Frag):R2:=λx y H Q=>∃p xs i v,x=.ref p/\y=.int i/\SqL K H p xs/\atI xs i=some v/\Q v H
def vU(K:W.Frag):R2:=λx y H Q=>∃p xs i v,x=.ref p/\y=.int i/\SqT K H p xs/\atI xs i=some v/\Q v H
def ED:IxR X (wG X.K):=by
 intro value gl pins s σ H x y v u Q I rx ry h hs
 obtain⟨p,xs,i,z,rfl,rfl,hq,he,q⟩:=h
 cases rx
 obtain⟨t,rfl⟩:=ry
 obtain⟨its,r,pl,hz⟩:=I.list hq
 obtain⟨j,h1,h2,h3,h4,h5⟩:=uu he
 obtain⟨w,ew,rw'⟩:=r.get h2
 have hl:=r.length
 have hn:=gA
 have g_:EP X pins σ Q w s:=⟨z,H,I,rw',q⟩
 by_cases h0:0<=i
 ·have hj:i.toNat=j:=by
   rw[seqIndex_of h0 h5] at h1
   exact G_ h1
  exact item_listR pl.isList h0 (by omega) (by rw[hj];simpa using ew) g_ hs
 ·have hj:(i+(its.toArray.size:Int)).toNat=j:=by
   rw[seqIndex_neg (by omega) h4] at h1
   rw[t_,<- hl]
   exact G_ h1
  exact subscriptTail_builtinR (x:=w) pl.isList.typeIs slot_list_getitem.lookup
   (wpAny_getItem_list_neg (Q:=λr s'=>r=w/\EP X pins σ Q r s') pl.isList (by omega) (by rw[t_] <;> omega) (by omega) (by rw[hj];simpa using ew) ⟨rfl,g_⟩) hs
def JX:IxR X (vU X.K):=by
 intro value gl pins s σ H x y v u Q I rx ry h hs
 obtain⟨p,xs,i,z,rfl,rfl,hq,he,q⟩:=h
 cases rx
 obtain⟨t,rfl⟩:=ry
 obtain⟨its,r,pl,hz⟩:=I.tuple hq
 obtain⟨j,h1,h2,h3,h4,h5⟩:=uu he
 obtain⟨w,ew,rw'⟩:=r.get h2
 have hl:=r.length
 have hn:=gA
 have g_:EP X pins σ Q w s:=⟨z,H,I,rw',q⟩
 exact subscriptTail_builtinR (x:=w) pl.typeIs slot_tuple_getitem.lookup
  (getItem_tuple (j:=j) (Q:=λr s'=>r=w/\EP X pins σ Q r s') pl (by omega) (by omega) (by rw[t_,<- hl];exact h1) (by simpa using ew) ⟨rfl,g_⟩) hs
def vy(its:List Value)(n j:Nat)(u:Value):Obj.mapSeq (·.setIfInBounds j u) { cls:=.type "list",data:=.seq its.toArray n }={ cls:=.type "list",data:=.seq (its.set j u).toArray n }:=by
 simp [Obj.mapSeq]
def Inv.lst(I:Inv X pins σ H s)(h:H p=some (.lst xs)):
 ∃(its:List Value) (n:Nat),Vals xs its/\s.heap.get? p=some { cls:=.type "list",data:=.seq its.toArray n }/\xs.length<=sizeLine:=by
 obtain⟨z,its,n,r,e⟩:=I.hok p _ h
 exact⟨its,n,r,e,z⟩
def Inv.lstUpd{pins:Rb}{σ:St}{H:Hp}{s:Shared}{p:Addr}{xs ys:List V}{its its':List Value}{n n':Nat}{f:Obj->Obj}(I:Inv X pins σ H s)(h:H p=some (.lst xs))
 (ho:s.heap.get? p=some { cls:=.type "list",data:=.seq its.toArray n }) (hf:f { cls:=.type "list",data:=.seq its.toArray n }={ cls:=.type "list",data:=.seq its'.toArray n' }) (r:Vals ys its') (hz:ys.length<=sizeLine) (t:Nat):
 Inv X pins σ (upd H p (.lst ys)) { s with heap:=s.heap.update p f,toks:=t }:=by
 have e:(s.heap.update p f).get? p=some { cls:=.type "list",data:=.seq its'.toArray n' }:=by
  rw[PY f ho (by rw[hf] <;> rfl),hf]
 refine I.write (x:=p) (e:=p) (by rw[h];trivial) (.inl rfl) (λb u hb q=>(OA _ _ (Ne.symm hb)).trans q) ⟨_,e⟩ ?_
 exact⟨hz,its',n',r,e⟩
def wb:V->V->V->Hp->(Hp->Prop)->Prop:=λo i v H Q=>∃p xs k j,o=.ref p/\i=.int k/\H p=some (.lst xs)/\ixN xs.length k=some j/\Q (upd H p (.lst (xs.set j v)))
def AD:pS X wb:=by
 intro pins s σ H o i v ov iv u Q I ro ri rv h
 obtain⟨p,xs,k,j,rfl,rfl,hp,hj,q⟩:=h
 cases ro
 obtain⟨t,rfl⟩:=ri
 obtain⟨its,n,r,ho,hz⟩:=I.lst hp
 obtain⟨h1,h2,h3,h4⟩:=uP hj
 have hl:=r.length
 have hn:=gA
 have I':Inv X pins σ (upd H p (.lst (xs.set j v))) { s with heap:=s.heap.update p (Obj.mapSeq (·.setIfInBounds j u)) }:=
  I.lstUpd hp ho (vy its n j u) (r.set rv j) (by rw[C_];exact hz) s.toks
 by_cases h0:0<=k
 ·have hk:k.toNat=j:=by
   rw[seqIndex_of h0 h4] at h1
   exact G_ h1
  exact W.ki_setAt ho h0 (by omega) (by rw[t_,<- hl];exact h4) (by rw[hk];exact⟨_,I',q⟩)
 ·have hk:(k+(its.toArray.size:Int)).toNat=j:=by
   rw[seqIndex_neg (by omega) h3] at h1
   rw[t_,<- hl]
   exact G_ h1
  exact W.ki_setBack ho (by omega) (by rw[t_,<- hl];exact h3) (by omega) (by rw[hk];exact⟨_,I',q⟩)
def rQ(lo hi:Option Int)(n:Nat):(sliceBounds lo hi none n).1=((HT.sIx n 0 lo:Nat):Int)/\(sliceBounds lo hi none n).2.1=((HT.sIx n n hi:Nat):Int)/\(sliceBounds lo hi none n).2.2=1:=by
 refine⟨?_,?_,rfl⟩
 ·cases lo with
  |none=>simp [sliceBounds,HT.sIx]
  |
   some i=>
   simp only[sliceBounds,HT.sIx,Option.getD_none,show (1:Int)>0 by decide,O4]
   by_cases h:i<0
   ·simp only[h,O4] <;> omega
   ·simp only[h,PM] <;> omega
 ·cases hi with
  |none=>simp [sliceBounds,HT.sIx]
  |
   some i=>
   simp only[sliceBounds,HT.sIx,Option.getD_none,show (1:Int)>0 by decide,O4]
   by_cases h:i<0
   ·simp only[h,O4] <;> omega
   ·simp only[h,PM] <;> omega
def oT(its:List Value)(lo hi:Option Int):slicePick its.toArray lo hi none=((its.drop (HT.sIx its.length 0 lo)).take (HT.sIx its.length its.length hi-HT.sIx its.length 0 lo)).toArray:=by
 obtain⟨h1,h2,h3⟩:=rQ lo hi its.toArray.size
 unfold slicePick
 rw[h1,h2,h3]
 simp only[sliceRange_one,pick_run,t_] <;> rfl
def rSlL(K:W.Frag):V->Option Int->Option Int->Hp->VK->Prop:=λx lo hi H Q=>∃a xs,x=.ref a/\SqL K H a xs/\∀p,H p=none->Q (.ref p) (upd H p (.lst (jU xs lo hi)))
def DF:SlR X (rSlL X.K):=by
 intro pins s σ H x v vl vu lo hi sl Q I rx hs pl pu h
 obtain⟨a,xs,rfl,hx,q⟩:=h
 cases rx
 obtain⟨its,r,ht,hz⟩:=I.list hx
 have bd:=r.length
 refine⟨"list",_,slot_list_getitem.lookup,ht.isList.typeIs,?_⟩
 refine wpAny_getItem_list_slice ht.isList hs pl pu .none (by simp) ?_ (by rw[t_] <;> omega)
 rw[oT,<- bd]
 refine⟨.ref s.heap.objs.size,_,I.laid (t':=s.toks) (o:=.lst (jU xs lo hi)) (λb ob q=>v_ _ q) (p_ _) ?_,rfl,q _ (I.hok.fresh (p_ _))⟩
 exact⟨y_ (kL xs lo hi) hz,_,0,(r.drop (HT.sIx xs.length 0 lo)).take (HT.sIx xs.length xs.length hi-HT.sIx xs.length 0 lo),Em _ rfl⟩
noncomputable def bj:V->Bool
 |.non=>true
 |.bl _=>true
 |.int _=>true
 |.str _=>true
 |_=>false
noncomputable def eqV:V->V->Bool
 |.non,.non=>true
 |.bl a,.bl b=>a==b
 |.bl a,.int b=>(if a then 1 else 0)==b
 |.int a,.bl b=>a==(if b then 1 else 0)
 |.int a,.int b=>a==b
 |.str a,.str b=>a==b
 |_,_=>false
def JS(ry:RelV y u)(rx:RelV x v)(fy:bj y=true)(fx:bj x=true):SeqAt.EqAt A s u v (eqV y x):=by
 cases y with
 |
  non=>
  cases ry
  cases x with
  |non=>cases rx;exact SeqAt.EqAt.same _
  |bl b=>cases rx;exact SeqAt.EqAt.none_bool b
  |int b=>obtain⟨t,rfl⟩:=rx;exact SeqAt.EqAt.none_int b t
  |str b=>obtain⟨t,rfl⟩:=rx;exact SeqAt.EqAt.none_str b t
  |_=>exact absurd (show false=true from fx) r_
 |
  bl a=>
  cases ry
  cases x with
  |non=>cases rx;exact SeqAt.EqAt.bool_none a
  |bl b=>cases rx;exact SeqAt.EqAt.bool_bool a b
  |int b=>obtain⟨t,rfl⟩:=rx;exact SeqAt.EqAt.bool_int a b t
  |str b=>obtain⟨t,rfl⟩:=rx;exact SeqAt.EqAt.bool_str a b t
  |_=>exact absurd (show false=true from fx) r_
 |
  int a=>
  obtain⟨t',rfl⟩:=ry
  cases x with
  |non=>cases rx;exact SeqAt.EqAt.int_none a t'
  |bl b=>cases rx;exact SeqAt.EqAt.int_bool a t' b
  |int b=>obtain⟨t,rfl⟩:=rx;exact SeqAt.EqAt.int_int a t' b t
  |str b=>obtain⟨t,rfl⟩:=rx;exact SeqAt.EqAt.int_str a t' b t
  |_=>exact absurd (show false=true from fx) r_
 |
  str a=>
  obtain⟨t',rfl⟩:=ry
  cases x with
  |non=>cases rx;exact SeqAt.EqAt.str_none a t'
  |bl b=>cases rx;exact SeqAt.EqAt.str_bool a t' b
  |int b=>obtain⟨t,rfl⟩:=rx;exact SeqAt.EqAt.str_int a t' b t
  |str b=>obtain⟨t,rfl⟩:=rx;exact SeqAt.EqAt.str_str a t' b t
  |_=>exact absurd (show false=true from fx) r_
 |_=>exact absurd (show false=true from fy) r_
def eqU(x:V)(u:Value):Bool:=match u with
 |.none=>eqV .non x
 |.bool b=>eqV (.bl b) x
 |.int i _=>eqV (.int i) x
 |.str z _=>eqV (.str z) x
 |_=>false
def yK(r:RelV y u)(f:bj y=true):eqU x u=eqV y x:=by
 cases y with
 |non=>cases r;rfl
 |bl b=>cases r;rfl
 |int i=>obtain⟨t,rfl⟩:=r;rfl
 |str z=>obtain⟨t,rfl⟩:=r;rfl
 |_=>exact absurd (show false=true from f) r_
theorem iI:∀{xs:List V}{us:List Value},Vals xs us->xs.all bj=true->us.any (eqU x)=xs.any λy=>eqV y x
 |_,_,.nil,_=>rfl
 |
  y::xs,u::us,.cons r t,f=>by
  rw[P9,n_] at f
  rw[OV,OV,yK r f.1,iI t f.2]
theorem gE(rx:RelV x v)(fx:bj x=true):∀{xs:List V}{us:List Value},Vals xs us->xs.all bj=true->∀u∈us,SeqAt.EqAt A s u v (eqU x u)
 |_,_,.nil,_=>λu hu=>by cases hu
 |
  y::xs,u::us,.cons r t,f=>λu' hu=>by
  rw[P9,n_] at f
  rcases H_.mp hu with rfl |hu
  ·rw[yK r f.1];exact JS r rx f.1 fx
  ·exact gE rx fx t f.2 u' hu
def inV(x:V)(xs:List V):Bool:=xs.any λy=>eqV y x
def rIn(K:W.Frag)(neg:Bool):R2:=λx y H Q=>∃p xs,y=.ref p/\(SqL K H p xs\/SqT K H p xs)/\bj x=true/\xs.all bj=true/\Q (.bl (if neg then !inV x xs else inV x xs)) H
def xM:OpR X (compareOp .In) (rIn X.K false):=by
 intro pins s σ H x y v u Q I rx ry h
 obtain⟨p,xs,rfl,hq,fx,fs,q⟩:=h
 cases ry
 rcases hq with hq |hq
 ·obtain⟨its,r,pl,hz⟩:=I.list hq
  refine SeqAt.in_listAt (eqU x) pl.isList (λw hw=>gE rx fx r fs w (by simpa using hw)) ⟨.bl _,H,I,rfl,?_⟩
  rw[show its.toArray.any (eqU x)=its.any (eqU x) by simp,iI r fs]
  exact q
 ·obtain⟨its,r,pl,hz⟩:=I.tuple hq
  refine SeqAt.in_tupleAt (eqU x) pl (λw hw=>gE rx fx r fs w (by simpa using hw)) ⟨.bl _,H,I,rfl,?_⟩
  rw[show its.toArray.any (eqU x)=its.any (eqU x) by simp,iI r fs]
  exact q
def sT:OpR X (compareOp .NotIn) (rIn X.K true):=by
 intro pins s σ H x y v u Q I rx ry h
 obtain⟨p,xs,rfl,hq,fx,fs,q⟩:=h
 cases ry
 rcases hq with hq |hq
 ·obtain⟨its,r,pl,hz⟩:=I.list hq
  refine SeqAt.notIn_listAt (eqU x) pl.isList (λw hw=>gE rx fx r fs w (by simpa using hw)) ⟨.bl _,H,I,rfl,?_⟩
  rw[show its.toArray.any (eqU x)=its.any (eqU x) by simp,iI r fs]
  exact q
 ·obtain⟨its,r,pl,hz⟩:=I.tuple hq
  refine SeqAt.notIn_tupleAt (eqU x) pl (λw hw=>gE rx fx r fs w (by simpa using hw)) ⟨.bl _,H,I,rfl,?_⟩
  rw[show its.toArray.any (eqU x)=its.any (eqU x) by simp,iI r fs]
  exact q
def qr:CallR X (.builtin "len") (λxs H Q=>∃p ys,xs=[.ref p]/\(SqL X.K H p ys\/SqT X.K H p ys)/\Q (.int ys.length) H):=by
 intro pins s σ H xs us Q I r h
 obtain⟨p,ys,rfl,hq,q⟩:=h
 obtain⟨u,rfl,rx⟩:=fb r
 cases rx
 have hn:=gA
 rcases hq with hq |hq
 ·obtain⟨its,r',pl,hz⟩:=I.list hq
  have bd:=r'.length
  exact Calls.call_len_list pl.isList (by simp only[t_] <;> omega) ⟨.int ys.length,H,I.tok _,⟨s.toks+1,by rw[t_,bd]⟩,q⟩
 ·obtain⟨its,r',pl,hz⟩:=I.tuple hq
  have bd:=r'.length
  exact len_tuple pl (by simp only[t_] <;> omega) ⟨.int ys.length,H,I.tok _,⟨s.toks+1,by rw[t_,bd]⟩,q⟩
def qw:CallR X (.builtin "len") (λxs H Q=>∃z,xs=[.str z]/\z.length<=sizeLine/\Q (.int z.length) H):=by
 intro pins s σ H xs us Q I r h
 obtain⟨z,rfl,hz,q⟩:=h
 obtain⟨u,rfl,t,rfl⟩:=fb r
 have hn:=gA
 exact len_str (by omega) ⟨.int z.length,H,I.tok _,⟨_,rfl⟩,q⟩
def CallR.or(h:CallR X f r)(h':CallR X f r'):CallR X f (λxs H Q=>r xs H Q\/r' xs H Q):=by
 intro pins s σ H xs us Q I rs q
 rcases q with q |q
 ·exact h pins s σ H xs us Q I rs q
 ·exact h' pins s σ H xs us Q I rs q
def rf:CallR X (.type "list") (λxs H Q=>∃p ys,xs=[.ref p]/\(SqL X.K H p ys\/SqT X.K H p ys)/\∀l,H l=none->Q (.ref l) (upd H l (.lst ys))):=by
 intro pins s σ H xs us Q I r h
 obtain⟨p,ys,rfl,hq,q⟩:=h
 obtain⟨u,rfl,rx⟩:=fb r
 cases rx
 have g_:∀(its:List Value),Vals ys its->ys.length<=sizeLine->∀(h':Heap) (c':Nat),(∀b o',s.heap.get? b=some o'->h'.get? b=some o')->
  h'.get? s.heap.objs.size=some { cls:=.type "list",dict:=none,data:=.seq its.toArray c',slots:=#[] }->EP X pins σ Q (.ref s.heap.objs.size) { s with heap:=h' }:=λits r' hz h' c' kp e=>
  ⟨.ref s.heap.objs.size,_,I.laid (t':=s.toks) kp (p_ _) (show ObjOk X.prog X.w _ h' _ (.lst ys) from ⟨hz,its,c',r',e⟩),rfl,q _ (I.hok.fresh (p_ _))⟩
 rcases hq with hq |hq
 ·obtain⟨its,r',pl,hz⟩:=I.list hq
  have bd:=r'.length
  obtain⟨o,ho,hc,n,hd⟩:=pl.isList
  exact call_list_seq p (.inl rfl) ho hc hd (λh' c' kp e=>g_ its r' hz h' c' kp e) (by simp only[t_] <;> omega)
 ·obtain⟨its,r',pl,hz⟩:=I.tuple hq
  have bd:=r'.length
  obtain⟨o,ho,hc,n,hd⟩:=pl
  exact call_list_seq p (.inr rfl) ho hc hd (λh' c' kp e=>g_ its r' hz h' c' kp e) (by simp only[t_] <;> omega)
def oU:CallR X (.type "tuple") (λxs H Q=>∃p ys,xs=[.ref p]/\((SqL X.K H p ys/\∀l,H l=none->Q (.ref l) (upd H l (.tup ys)))\/(SqT X.K H p ys/\Q (.ref p) H))):=by
 intro pins s σ H xs us Q I r h
 obtain⟨p,ys,rfl,h⟩:=h
 obtain⟨u,rfl,rx⟩:=fb r
 cases rx
 rcases h with ⟨hq,q⟩ |⟨hq,q⟩
 ·obtain⟨its,r',pl,hz⟩:=I.list hq
  have bd:=r'.length
  refine call_tuple_list pl.isList (λh' kp=>?_) (by simp only[t_] <;> omega)
  have I1:Inv X pins σ H { s with heap:=h' }:=I.kept (t':=s.toks) kp
  have I2:Inv X pins σ (upd H h'.objs.size (.tup ys)) { s with heap:=h'.push { cls:=.type "tuple",data:=.seq its.toArray } }:=
   I1.laid (t':=s.toks) (λb o e=>v_ _ e) (p_ _) (show ObjOk X.prog X.w _ _ _ (.tup ys) from ⟨hz,its,r',IsTup.new _ _⟩)
  exact⟨.ref h'.objs.size,_,I2,rfl,q _ (I1.hok.fresh (p_ _))⟩
 ·obtain⟨its,r',pl,hz⟩:=I.tuple hq
  exact call_tuple_same pl ⟨.ref p,H,I,rfl,q⟩
def tyV(K:W.Frag)(T:String)(x:V)(H:Hp):Prop:=match x with
 |.str _=>T="str"
 |.int _=>T="int"
 |.ref p=>(T="list" /\ ∃xs,SqL K H p xs)\/(T="tuple" /\ ∃o,K.lookup p=some o/\o.cls=.type "tuple" /\ o.dict=none)\/
  (T="dict" /\ ((∃kvs,H p=some (.dK kvs))\/∃kvs,H p=some (.dT kvs)))\/(T="set" /\ ∃S n,H p=some (.set S n))
 |_=>False
def wX(I:Inv X pins σ H s)(r:RelV x v)(ty:tyV X.K T x H):
 s.TypeIs v T/\∀a,v=.ref a->∃ob,s.heap.get? a=some ob/\ob.dict=none:=by
 cases x with
 |
  str z=>
  obtain⟨t,rfl⟩:=r
  cases (show T="str" from ty)
  exact⟨typeIs_str s z t,λ_ e=>nomatch e⟩
 |
  int i=>
  obtain⟨t,rfl⟩:=r
  cases (show T="int" from ty)
  exact⟨typeIs_int s i t,λ_ e=>nomatch e⟩
 |
  ref p=>
  cases r
  rcases ty with ⟨rfl,xs,hq⟩ |⟨rfl,o,hk,hc,hd⟩ |⟨rfl,hk⟩ |⟨rfl,S,n,hk⟩
  ·obtain⟨its,_,pl,_⟩:=I.list hq
   refine⟨pl.isList.typeIs,λa e=>?_⟩
   cases e
   obtain⟨o,n,e,c,hd,_⟩:=pl
   exact⟨o,e,hd⟩
  ·refine⟨⟨o,I.kIn p o hk,hc⟩,λa e=>?_⟩
   cases e
   exact⟨o,I.kIn _ o hk,hd⟩
  ·have z:∃o,s.heap.get? p=some o/\o.ExactDict:=by
    rcases hk with ⟨kvs,hk⟩ |⟨kvs,hk⟩
    ·obtain⟨_,_,_,_,o,_,_,e,ex,_⟩:=I.hok p _ hk
     exact⟨o,e,ex⟩
    ·obtain⟨_,_,_,_,o,_,_,e,ex,_⟩:=I.hok p _ hk
     exact⟨o,e,ex⟩
   obtain⟨o,e,ex⟩:=z
   refine⟨⟨o,e,ex.1⟩,λa e2=>?_⟩
   cases e2
   exact⟨o,e,ex.2.1⟩
  ·obtain⟨o,_,_,_,e,ex,_⟩:=I.hok p _ hk
   refine⟨⟨o,e,ex.1⟩,λa e2=>?_⟩
   cases e2
   exact⟨o,e,ex.2.1⟩
 |_=>exact False.elim ty
def tBM0(K:W.Frag)(T:String)(r:V->List V->Hp->VK->Prop)(to:TE):TE:=λσ H Q=>to σ H λx H1=>tyV K T x H1/\r x [] H1 Q
def tBM(K:W.Frag)(T:String)(r:V->List V->Hp->VK->Prop)(to:TE)(t:TA):TE:=λσ H Q=>to σ H λx H1=>tyV K T x H1/\t σ H1 λxs H2=>r x xs H2 Q
variable{o e:Expr}{es:List Expr}{to:TE}{t:TA}{name:Str}{apos cpos:Pos}{T id:String}{r:V->List V->Hp->VK->Prop}
def J6(pa:PlainAttrs T)(slot:Slot T name id)(hty:typeOf (.builtin id)=pure (.type "method_descriptor"))(hm:MtR X id r)(ho:PE X o to)
 (b_:attributeBase o name X.env (eval o X.env)=eval o X.env) (ci:(apos.endLine==cpos.line)=true):PE X (.Call (.Attribute o name apos) [] [] cpos) (tBM0 X.K T r to):=by
 intro pins s σ H Q I h
 refine wpAny_Call_method0_late b_ ci (thn (ho pins s σ H _ I h) λv s1 ⟨x,H1,I1,r1,ty,q1⟩=>?_)
 obtain⟨h1,h2⟩:=wX I1 r1 ty
 exact⟨T,id,pa,slot,hty,h1,h2,Calls.callWith_builtin rfl (PySem.evalArgs_none (hm pins s1 σ H1 x [] v [] Q I1 r1 .nil q1))⟩
def Cz(pa:PlainAttrs T)(slot:Slot T name id)(hty:typeOf (.builtin id)=pure (.type "method_descriptor"))(hm:MtR X id r)(ho:PE X o to)(ha:PA X (e::es) t)
 (b_:attributeBase o name X.env (eval o X.env)=eval o X.env)
 (hfew:((backTo cpos (starEach (e::es) X.env)).all (λx=>!x.1)&&(backToKw cpos (keywordEach [] X.env)).all (λx=>x.1.isSome)
  && decide ((e::es).length+([]:List Keyword).length+(if ([]:List Keyword).isEmpty then 0 else 1)<30))=true)
 (ci:(apos.endLine==cpos.line)=true) (hs:starEach (e::es) X.env=(false,eval e X.env)::starEach es X.env) (bn:(backTo cpos (starEach es X.env)).any (·.1)=false):
 PE X (.Call (.Attribute o name apos) (e::es) [] cpos) (tBM X.K T r to t):=by
 intro pins s σ H Q I h
 refine wpAny_Call_method_late b_ hfew ci rfl (thn (ho pins s σ H _ I h) λv s1 ⟨x,H1,I1,r1,ty,q1⟩=>?_)
 obtain⟨h1,h2⟩:=wX I1 r1 ty
 refine⟨T,id,pa,slot,hty,h1,h2,?_⟩
 have hA:=ha cpos pins s1 σ H1 _ I1 q1
 rw[hs] at hA ⊢
 refine Calls.callWith_builtin (by show (false || (backTo cpos (starEach es X.env)).any (·.1))=false;rw[bn] <;> rfl) (Calls.evalArgs_plain ?_)
 exact thn hA λus s2 ⟨vs,H2,I2,r2,q2⟩=>hm pins s2 σ H2 x vs v us Q I2 r1 r2 q2
end
def MtM(X:Cx)(id:String)(r:V->List V->Hp->VK->Prop):Prop:=
 ∀
  (pins:Rb) (s:Shared) (σ:St) (H:Hp) (x:V) (xs:List V) (v:Value) (us:List Value) (Q:VK),Inv X pins σ H s->RelV x v->Vals xs us->r x xs H Q->
  wpAny (model X.prog X.w) X.A (call (.builtin id) (v::us)) (EP X pins σ Q) X.xe s
def Vals.one(r:Vals [x] us):∃u,us=[u]/\RelV x u:=by
 cases r with
 |cons r t=>cases t;exact⟨_,rfl,r⟩
theorem Vals.zero:∀{us:List Value},Vals [] us->us=[]
 |_,.nil=>rfl
noncomputable def Vals.dropLast(h:Vals xs us):Vals xs.dropLast us.dropLast:=by
 induction h with
 |nil=>exact .nil
 |
  cons r t ih=>
  cases t with
  |nil=>exact .nil
  |cons q t'=>exact .cons r ih
theorem Vals.rep(h:Vals xs us):∀k:Nat,Vals (List.replicate k xs).flatten (List.replicate k us).flatten
 |0=>.nil
 |
  k+1=>by
  rw[Oz,Oz,Ot,Ot]
  exact Vals.append h (Vals.rep h k)
def vm{α:Type}(l:List α):l.eraseIdx (l.length-1)=l.dropLast:=by
 induction l with
 |nil=>rfl
 |
  cons a r ih=>
  cases r with
  |nil=>rfl
  |
   cons b r=>
   have e:(a::b::r).length-1=((b::r).length-1)+1:=by
    have h1:(a::b::r).length=r.length+2:=rfl
    have h2:(b::r).length=r.length+1:=rfl
    omega
   rw[e,List.eraseIdx_cons_succ,ih]
   all_goals rfl
theorem oG(its:List Value):∀(k:Nat) (acc:List Value),
 List.foldl (λx1 x2=>x1++x2) acc.toArray (List.replicate k its.toArray)=(acc++(List.replicate k its).flatten).toArray
 |0,acc=>by simp
 |
  k+1,acc=>by
  have e:acc.toArray++its.toArray=(acc++its).toArray:=by simp
  have e2:(acc++its)++(List.replicate k its).flatten=acc++(List.replicate (k+1) its).flatten:=by
   rw[Oz,Ot,OD]
  rw[<- e2,<- oG its k (acc++its),<- e,Oz,List.foldl_cons]
section
variable{X:Cx}{pins:Rb}{σ:St}{H:Hp}{s:Shared}{l b:Addr}{xs ys zs:List V}
def Inv.lset{its its':List Value}{n:Nat}{f:Array Value->Array Value}{t':Nat}(I:Inv X pins σ H s)(hH:H l=some (.lst xs))
 (e:s.heap.get? l=some { cls:=.type "list",data:=.seq its.toArray n }) (hf:f its.toArray=its'.toArray) (hv:Vals ys its') (hz:ys.length<=sizeLine):
 Inv X pins σ (upd H l (.lst ys)) { s with heap:=s.heap.update l (Obj.mapSeq f),toks:=t' }:=by
 have q:=PySem.IsL.update e f
 rw[hf] at q
 refine I.write (x:=l) (e:=l) (by rw[hH];exact trivial) (.inl rfl) (λb' u hb hu=>(OA s.heap (Obj.mapSeq f) (Ne.symm hb)).trans hu) ⟨_,q⟩ ?_
 exact⟨hz,its',_,hv,q⟩
def Inv.lnew(I:Inv X pins σ H s)(hv:Vals ys its)(hz:ys.length<=sizeLine):
 Inv X pins σ (upd H s.heap.objs.size (.lst ys)) { s with heap:=s.heap.push { cls:=.type "list",data:=.seq its.toArray },toks:=t' }:=
 I.laid (λ_ _ q=>v_ _ q) (p_ _) ⟨hz,its,0,hv,Em _ rfl⟩
def Inv.fresh(I:Inv X pins σ H s):H s.heap.objs.size=none:=I.hok.fresh (p_ _)
def Inv.lstM(I:Inv X pins σ H s)(hH:H l=some (.lst xs)):xs.length<=sizeLine/\∃(its:List Value) (n:Nat),Vals xs its/\xs.length=its.length/\s.heap.get? l=some { cls:=.type "list",data:=.seq its.toArray n }:=by
 obtain⟨z,its,n,r,e⟩:=I.hok l _ hH
 exact⟨z,its,n,r,r.length,e⟩
def pV{n:Nat}(h:n<=sizeLine):Builtin.List.listTooLong n=false:=by
 unfold Builtin.List.listTooLong
 exact A_ (by omega)
end
section
variable{X:Cx}
def mZ:V->List V->Hp->VK->Prop:=λx vs H Q=>∃l xs y,x=.ref l/\vs=[y]/\H l=some (.lst xs)/\xs.length<sizeLine/\Q .non (upd H l (.lst (xs++[y])))
def oq:MtM X "list.append" mZ:=by
 intro pins s σ H x vs v us Q I rx rv h
 obtain⟨l,xs,y,rfl,rfl,hH,hz,q⟩:=h
 cases rx
 obtain⟨u,rfl,ru⟩:=rv.one
 obtain⟨z,its,n,r,hl,e⟩:=I.lstM hH
 refine PK F.slot_list_append ⟨_,e,rfl⟩ F.entry_list_append (F.args_list_append_2 _ _) (PySem.list_append l its.toArray n u (by rw[t_];omega)) ⟨e,?_⟩
 refine⟨.non,_,I.lset (its':=its++[u]) hH e (by simp) (r.append (.cons ru .nil)) ?_,rfl,q⟩
 rw[l_,List.length_singleton]
 omega
def BZ:V->List V->Hp->VK->Prop:=λx vs H Q=>∃l xs y,x=.ref l/\vs=[]/\H l=some (.lst xs)/\xs[xs.length-1]?=some y/\Q y (upd H l (.lst xs.dropLast))
def Gy:MtM X "list.pop" BZ:=by
 intro pins s σ H x vs v us Q I rx rv h
 obtain⟨l,xs,y,rfl,rfl,hH,hy,q⟩:=h
 cases rx
 have hus:=rv.zero
 subst hus
 obtain⟨z,its,n,r,hl,e⟩:=I.lstM hH
 obtain⟨u,hu,ru⟩:=r.get hy
 have hy':its.toArray[its.toArray.size-1]?=some u:=by
  show its.toArray[its.length-1]?=some u
  rw[<- Array.getElem?_toList,<- hl]
  exact hu
 refine PK F.slot_list_pop ⟨_,e,rfl⟩ F.entry_list_pop (F.args_list_pop_1 _) (MeetsSeq.list_pop_last l its.toArray n u hy' (by rw[t_];omega)) ⟨e,?_⟩
 refine⟨y,_,I.lset (its':=its.dropLast) hH e ?_ r.dropLast ?_,ru,q⟩
 ·show its.toArray.eraseIdxIfInBounds (its.toArray.size-1)=its.dropLast.toArray
  rw[t_,List.eraseIdxIfInBounds_toArray,vm]
 ·rw[List.length_dropLast]
  omega
def mS:R2:=λx y H Q=>∃l b xs zs,x=.ref l/\y=.ref b/\H l=some (.lst xs)/\H b=some (.lst zs)/\xs.length+zs.length<=sizeLine/\∀p,H p=none->Q (.ref p) (upd H p (.lst (xs++zs)))
def GU:OpR X (binaryOp .Add) mS:=by
 intro pins s σ H x y v u Q I rx ry h
 obtain⟨l,b,xs,zs,rfl,rfl,hH,hB,hz,q⟩:=h
 cases rx
 cases ry
 obtain⟨z,its,n,r,hl,e⟩:=I.lstM hH
 obtain⟨z2,its2,n2,r2,hl2,e2⟩:=I.lstM hB
 refine PySem.P.add_list e e2 ?_ (by rw[t_,t_];omega)
 have ea:its.toArray++its2.toArray=(its++its2).toArray:=by simp
 rw[ea]
 exact⟨.ref _,_,I.lnew (t':=s.toks) (r.append r2) (by rw[l_];omega),rfl,q _ I.fresh⟩
def zi:R2:=λx y H Q=>∃l k xs,x=.ref l/\y=.int k/\H l=some (.lst xs)/\-(2^63)<=k/\k<2^63/\xs.length*k.toNat<=sizeLine/\
 ∀p,H p=none->Q (.ref p) (upd H p (.lst (List.replicate k.toNat xs).flatten))
def D7(xs:List α)(k:Nat):(List.replicate k xs).flatten.length=k*xs.length:=by
 induction k with
 |zero=>simp
 |succ k ih=>rw[Oz,Ot,l_,ih,Nat.succ_mul,Nat.add_comm]
def JN:OpR X (binaryOp .Mult) zi:=by
 intro pins s σ H x y v u Q I rx ry h
 obtain⟨l,k,xs,rfl,rfl,hH,h1,h2,hz,q⟩:=h
 cases rx
 obtain⟨t,rfl⟩:=ry
 obtain⟨z,its,n,r,hl,e⟩:=I.lstM hH
 have bd:its.toArray.size*k.toNat<=sizeLine:=by rw[t_,<- hl];exact hz
 have hcap:¬ its.toArray.size*k.toNat>(2^63-1)/8:=by
  have:(sizeLine:Nat)<=(2^63-1)/8:=by decide
  omega
 have hfit:¬ (!Builtin.List.listFitsIndex k)=true:=by
  rw[fitsIndex_both h1 h2]
  exact r_
 have hlong:¬ Builtin.List.listTooLong (its.toArray.size*k.toNat)=true:=by
  rw[pV bd]
  exact r_
 have hnew:List.foldl (λx1 x2=>x1++x2) #[] (List.replicate (if its.toArray.isEmpty=true then 0 else k.toNat) its.toArray)=(List.replicate k.toNat its).flatten.toArray:=by
  have f0:∀m:Nat,List.foldl (λx1 x2=>x1++x2) #[] (List.replicate m its.toArray)=(List.replicate m its).flatten.toArray:=λm=>by
   have:=oG its m []
   rw[Ou] at this
   exact this
  rw[f0]
  cases its with
  |nil=>simp
  |cons a r'=>rw[if_neg (by simp)]
 refine wpAny_binaryOp_repeat_ref (T:="list") (U:="int") (by decide) ⟨_,e,rfl⟩ (λs'=>typeIs_int s' k t) noFill_list_mul F.fills_int_mul F.slot_int_rmul repeat_list F.slot_int_index.lookup
  (PK F.slot_int_rmul (typeIs_int s k t) F.entry_int_rmul (F.args_int_rmul_2 _ _) (int___rmul___int_list k t l its.toArray n)
   ⟨e,rfl,⟨_,e,rfl⟩,PK F.slot_list_mul ⟨_,e,rfl⟩ F.entry_list_mul (F.args_list_mul_2 _ _) (AutoListH.list___mul___list_int_3 l its.toArray n k t hfit hcap hlong) ⟨e,?_⟩⟩)
 rw[hnew]
 exact⟨.ref _,_,I.lnew (t':=s.toks) (r.rep k.toNat) (by rw[D7,Nat.mul_comm];exact hz),rfl,q _ I.fresh⟩
end
section
variable{prog:Program}{w:World}{A:Around}{E:Rg}{s:Shared}
set_option maxRecDepth 100000 in
end
section
variable{X:Cx}
end
end L2
namespace Att
open PySem PySem.W PySem.Calls PyProof.Rows
def lT:∀(ns:List Int) (vs:List Value),WellAll P h vs (ns.map WData.int)->IntsAre vs ns:=by
 intro ns
 induction ns with
 |
  nil=>
  intro vs w
  rw[OF] at w
  cases w
  exact .nil
 |
  cons n ns ih=>
  intro vs w
  rw[s_] at w
  cases w with
  |
   cons a b=>
   cases a
   exact .cons _ _ (ih _ b)
def yE{l:OpenLaw}{n:Nat}(hn:l.most=some n){P:Params}{h:Heap}{args:List WData}{vals:List Value}
 (hpre:l.row.toRowW.claim.pre args=true) (hwl:WellAll P h vals args):
 ∃a vs ns,vals=[Value.ref a]/\args=[WData.list (ns.map WData.int)]/\h.get? a=some { cls:=.type "list",data:=.seq vs.toArray }/\IntsAre vs ns/\ns.length<=n:=by
 have hsh:WShape.hasAll [] args [.list .int]=true:=(pre_splitW hpre).1
 have hc:l.pre.holds [] { args:=args }=true:=(pre_splitW hpre).2
 obtain⟨d,r,rfl,h1,h2⟩:=hasAllW_cons hsh
 obtain rfl:=hasAllW_nil h2
 obtain⟨xs,rfl,h3⟩:=hasW_list h1
 obtain⟨ns,rfl⟩:=items_int h3
 have bd:ns.length<=n:=by
  unfold OpenLaw.pre at hc
  have h4:(WTm.not (.lt (.lit (.int (n:Int))) (.len (.arg 0)))).holds [] { args:=[.list (ns.map .int)] }=true:=by
   have h4:=(holds_andW hc).1
   rw[hn] at h4
   exact h4
  have h5:=condW_of h4 (w_not (w_lt w_lit (w_len_list (w_arg rfl))))
  rw[j_] at h5
  refine Nat.le_of_not_lt λq=>?_
  have q':(n:Int)<((ns.length:Nat):Int):=by omega
  first
   |(rw[F_ q'] at h5;exact absurd h5 (by decide))
   |(simp at h5;omega)
 cases hwl with
 |
  cons w1 w2=>
  cases w2
  cases w1 with
  |list ho hall=>exact⟨_,_,ns,rfl,rfl,ho,lT ns _ hall,bd⟩
def yh(l:OpenLaw)(args:List WData):l.row.toRowW.claim.post args (.bool true) args=true:=
 postW_of (r:=l.row.toRowW) (X:=(true==true))
  (show WShape.has [] (.bool true) .bool=true by first |rfl |decide |simp [WShape.has,WShape.arms,WShape.armsAll])
  (show (WTm.eq .res (.lit (.bool true))).value [] { args:=args,res:=some (.bool true),after:=args }=some (.bool (true==true)) from w_eq_bool (w_res rfl) w_lit) rfl
def attach_call{l:OpenLaw}{n:Nat}{q:Program}{loose:List Str}{XP:(Str->Option Value)->Heap->Prop}{YP:World->Heap->Prop}{d:DefRec}
 (hn:l.most=some n) (hdf:d.params.defaults=[])
 (call:∀(w:World) (s₀ s₁:Shared) (mg mb:Ra) (fa:Addr) (o:Obj) (pm cd doc:Value) (a:Addr) (vs:List Value) (ns:List Int),
  Ground q loose [] XP w s₀ mg mb s₁.heap->YP w s₁.heap->
  s₁.heap.get? fa=some o->o.data=.func (docDef d.name d.params d.body d.scope pm cd doc)->s₁.heap.CodeRec cd d.name->mg d.name=some (.ref fa)->
  s₁.heap.get? a=some { cls:=.type "list",data:=.seq vs.toArray }->IntsAre vs ns->ns.length<=n->s₁.gens=#[]->
  codeAny (model l.prog w) callerA (.call (.ref fa) ⟨[.ref a],[]⟩) (λr s'=>r=.ok (.ret (.bool true))/\OldK s₁.heap s'.heap/\s'.os=s₁.os/\AllBare s'.gens) s₁):
 WalkO q loose XP YP l.row.toRowW d [] (λf vs=>PySem.call f vs):=by
 intro w s₀ s₁ mg mb G Y fa o pm cd doc dV kV ho hd hcd hD hmg hg args vals as hpre hlay hrd hwl hlo
 obtain rfl:dV=.none:=Dflts.none hD hdf
 obtain rfl:kV=.none:=Dflts.noKw hD
 obtain⟨a,vs,ns,rfl,rfl,hobj,hints,bd⟩:=yE hn hpre hwl
 refine enter_call (codeAny_mono (call w s₀ s₁ mg mb fa o pm cd doc a vs ns G Y ho (fd_plain hd) hcd hmg hobj hints bd hg) λr s' hq=>?_)
 obtain⟨rfl,h2,h3,h4⟩:=hq
 exact⟨.inl ⟨.bool true,.bool true,[],rfl,λ_=>rfl,.bool true,yh l _,λ_=>⟨List.Pairwise.nil,λ_ hm=>(nomatch hm)⟩⟩,h2,h3,h4⟩
section
variable{prog:Program}{w:World}{A:Around}{E:Rg}{s:Shared}{K:Frag}
noncomputable def ledger(h:Heap)(L d:Addr):List (Addr×Obj):=(List.range h.objs.size).filterMap λa=>if a=L\/a=d then none else (h.get? a).map λo=>(a,o)
end
end Att
namespace L2
open PySem PySem.Spec PyProof.Rows
theorem jT:∀{vs:List Value}{ns:List Int},IntsAre vs ns->Vals (ns.map V.int) vs
 |_,_,.nil=>.nil
 |_,_,.cons n t h=>.cons ⟨t,rfl⟩ (jT h)
def nM(H:Hp):Prop:=∀b,H b=none\/∃o xs,H b=some (.frz o (.lst xs))
def Cf{P:Program}{w:World}{K:W.Frag}{mg mb:Ra}{CX:CXT}{k:Nat}{fa a:Addr}{fd:FuncData}{x:Str}{sp:Sp}{s₁:Shared}{vs:List Value}{ns:List Int}
 (KX:K.In s₁.heap) (hns:s₁.heap.Ns mainGlobals mg) (hb:s₁.heap.Ns builtinsNs mb) (hbb:∀x:Str,x ≠ "__name__"->mb x=bootBuiltins x) (hlim:s₁.heap.NoLimit) (hg:s₁.gens=#[])
 (ha:s₁.heap.get? a=some { cls:=.type "list",data:=.seq vs.toArray }) (hi:IntsAre vs ns) (hl:ns.length<=sizeLine) (hr:Room k callerA)
 (F:∀base:Heap,K.In base->base.Ns mainGlobals mg->FnOk P w K mg base CX k fa fd [x] sp) (hbind:∀(s:Shared) (u:Value),BindsTo s fd ⟨[u],[]⟩ [(x,u)])
 (hsp:∀H:Hp,nM H->SqL K H a (ns.map V.int)->sp [.ref a] H (λv _=>v=.bl true) λ_ _ _=>False)
 (hCX:∀H e s',CX [] H s₁ (λ_ _ _=>False) e s'->False):
 codeAny (model P w) callerA (.call (.ref fa) ⟨[.ref a],[]⟩) (λr s'=>r=.ok (.ret (.bool true))/\OldK s₁.heap s'.heap/\s'.os=s₁.os/\AllBare s'.gens) s₁:=by
 have rv:=jT hi
 have lenV:=hi.length
 have core
  : ∀H:Hp,nM H->SqL K H a (ns.map V.int)->HOk P w H s₁.heap->(∀b,H b≠none->b=a)->(H a≠none->K.lookup a=none)->
  codeAny (model P w) callerA (.call (.ref fa) ⟨[.ref a],[]⟩) (λr s'=>r=.ok (.ret (.bool true))/\OldK s₁.heap s'.heap/\s'.os=s₁.os/\AllBare s'.gens) s₁:=by
  intro H hO hS hok hA hK
  have base_of:∀{b:Addr}{o:Obj},s₁.heap.get? b=some o->H b=none->(jw s₁.heap H).get? b=some o:=λe n=>BA e n
  have noA:∀{b:Addr}{o:Obj}{es:Array DictEntry}{ep:Nat},s₁.heap.get? b=some o->o.data=.dict es ep->H b=none:=λ{b o es ep} e d=>by
   cases q:H b with
   |none=>rfl
   |
    some u=>
    have e':b=a:=hA b (by rw[q];simp)
    subst e'
    rw[ha] at e;cases e
    have d':Data.seq vs.toArray _=Data.dict es ep:=d
    cases d'
  have nsK:∀{b:Addr}{m:Ra},s₁.heap.Ns b m->(jw s₁.heap H).Ns b m:=λ{b m} ⟨o,es,ep,e,d,r⟩=>⟨o,es,ep,base_of e (noA e d),d,r⟩
  have hKb:K.In (jw s₁.heap H):=λb o e=>base_of (KX b o e) (by
   cases q:H b with
   |none=>rfl
   |
    some u=>
    have e':b=a:=hA b (by rw[q];simp)
    subst e'
    rw[hK (by rw[q];simp)] at e;cases e)
  have hM:Mod K mg (jw s₁.heap H):=⟨hKb,nsK hns,⟨mb,nsK hb,hbb⟩,let ⟨mc,h1,h2⟩:=hlim;⟨mc,nsK h1,h2⟩⟩
  have e0:Env0 P w K mg (jw s₁.heap H) callerA [] s₁ H:=⟨rfl,hM,λb o e=>Dq e,Nat.le_of_eq (xg _ _),trivial,λb hb=>absurd (show b∈([]:List Addr) from hb) (by simp),hok,.of_eq hg⟩
  refine codeAny_mono ((F _ hKb (nsK hns)).run callerA [] s₁ H ⟨[.ref a],[]⟩ [.ref a] [.ref a] _ _ hr e0 (hbind s₁ (.ref a)) (.cons rfl .nil) (hsp H hO hS)) λr s' h=>?_
  cases r with
  |error e=>exact (hCX H e s' h).elim
  |
   ok fl=>
   cases fl with
   |next=>exact False.elim h
   |brk=>exact False.elim h
   |cont=>exact False.elim h
   |
    ret u=>
    obtain⟨v,H',os,bare,un,hok',r',q⟩:=h
    have q':v=.bl true:=q
    subst q'
    obtain rfl:u=Value.bool true:=r'
    refine⟨rfl,OldK.of_keep λb o e=>?_,os,bare⟩
    cases q:H b with
    |none=>exact un.keep b o e q (by intro z;exact absurd (show b∈([]:List Addr) from z) (by simp)) (by simp)
    |
     some u=>
     rcases hO b with z |⟨ob,xs,z⟩
     ·rw[q] at z;cases z
     ·have z2:=un.frzs b ob _ z
      obtain⟨e1,_⟩:=hok b _ z
      obtain⟨e2,_⟩:=hok' b _ z2
      rw[e] at e1;cases e1
      exact e2
 cases hk:K.lookup a with
 |
  some o=>
  have e:=KX a o hk
  rw[ha] at e
  cases e
  refine core (λ_=>none) (λ_=>.inl rfl) (.inr ⟨_,vs.toArray,_,hk,rfl,rfl,rfl,by rw[t_,lenV];exact hl,by simpa using rv⟩) (λb u z=>by have z':(none:Option HO)=some u:=z;cases z') (λb z=>absurd rfl z) λz=>absurd rfl z
 |
  none=>
  refine core (λb=>if b=a then some (.frz { cls:=.type "list",data:=.seq vs.toArray } (.lst (ns.map V.int))) else none) (λb=>?_) (.inl (.inr ⟨{ cls:=.type "list",data:=.seq vs.toArray },if_pos rfl⟩)) (λb u z=>?_) (λb z=>?_) λ_=>hk
  ·by_cases hb:b=a
   ·exact .inr ⟨_,_,if_pos hb⟩
   ·exact .inl (if_neg hb)
  ·by_cases hb:b=a
   ·have z':=(if_pos hb).symm.trans z
    cases z'
    subst hb
    exact⟨ha,by rw[j_];exact hl,vs,_,rv,ha⟩
   ·have z':=(if_neg hb).symm.trans z
    cases z'
  ·by_cases hb:b=a
   ·exact hb
   ·exact absurd (if_neg hb) z
abbrev KOf{K:W.Frag}{h:Heap}(_:K.In h):W.Frag:=K
def walk_of{l:W.OpenLaw}{n k:Nat}{q:Program}{loose:List Str}{XP:(Str->Option Value)->Heap->Prop}{YP:World->Heap->Prop}{d:DefRec}{K:Params->W.Frag}{CX:World->CXT}{sp:World->Sp}{x:Str}
 (hn:l.most=some n) (hn2:n<=sizeLine) (hdf:d.params.defaults=[]) (hr:Room k callerA)
 (hY:∀(w:World) (h:Heap),YP w h->(K w.params).In h)
 (F:∀(w:World) (mg:Ra) (fa:Addr) (h:Heap),(K w.params).In h->h.Ns mainGlobals mg->mg d.name=some (.ref fa)->
  ∃
   fd:FuncData,(∀(s:Shared) (u:Value),BindsTo s fd ⟨[u],[]⟩ [(x,u)])/\
   ∀base:Heap,(K w.params).In base->base.Ns mainGlobals mg->FnOk l.prog w (K w.params) mg base (CX w) k fa fd [x] (sp w))
 (hsp:∀(w:World) (H:Hp) (a:Addr) (ns:List Int),ns.length<=n->nM H->SqL (K w.params) H a (ns.map V.int)->sp w [.ref a] H (λv _=>v=.bl true) λ_ _ _=>False)
 (hCX:∀(w:World) (H:Hp) (s:Shared) (e:Value) (s':Shared),CX w [] H s (λ_ _ _=>False) e s'->False):
 W.WalkO q loose XP YP l.row.toRowW d [] (λf vs=>PySem.call f vs):=by
 refine Att.attach_call hn hdf λw s₀ s₁ mg mb fa o pm cd doc a vs ns G Y ho hd hcd hmg hobj hints bd hg=>?_
 have KX:=hY w _ Y
 obtain⟨fd,hb,hF⟩:=F w mg fa _ KX G.T.g hmg
 exact Cf KX G.T.g G.T.b G.T.builtins G.T.nolimit hg hobj hints (y_ bd hn2) hr hF hb (λH hO hS=>hsp w H a ns bd hO hS) λH e s'=>hCX w H s₁ e s'
noncomputable def cB(s:Stmt):Arguments:=match s with
 |.FunctionDef _ a _ _ _ _ _ _ _ _=>a
 |_=>{ posonlyargs:=[],args:=[],vararg:=none,kwonlyargs:=[],kw_defaults:=[],kwarg:=none,defaults:=[] }
noncomputable def aX(s:Stmt):List Stmt:=match s with
 |.FunctionDef _ _ b _ _ _ _ _ _ _=>b
 |_=>[]
noncomputable def ao(s:Stmt):Scope:=match s with
 |.FunctionDef _ _ _ _ _ _ sc _ _ _=>sc
 |_=>{ kind:=.function,names:=[],isGenerator:=false,isCoroutine:=false }
abbrev E0:XK:=λ_ _ _=>False
structure Fun(K:W.Frag)(x qual:Str)(st:Stmt)(f:Addr)(fd:FuncData):Prop where
 ex:∃(oc:Value) (od:Option Addr) (kV doc pm:Value) (an:Option Addr) (cdv ct:Value) (osl:Array (Option Value)),
  fd=W.fnOf x qual (cB st) (aX st) (ao st) .none kV doc pm an cdv ct/\K.lookup f=some ⟨oc,od,.func fd,osl⟩/\W.codeIn K cdv qual=true
 kp:W.keepIn K (.ref f)=true
section
variable{P:Program}{w:World}{K:W.Frag}{mg:Ra}{base:Heap}
def Fun.binds{x qual:Str}{st:Stmt}{f:Addr}{fd:FuncData}{ps:List Str}(F:Fun K x qual st f fd)
 (h:∀(kV doc pm:Value) (an:Option Addr) (cdv ct:Value) (us:List Value),us.length=ps.length->bindArgs (W.fnOf x qual (cB st) (aX st) (ao st) .none kV doc pm an cdv ct) ⟨us,[]⟩=pure (ps.zip us)):Binds K fd ps []:=by
 obtain⟨oc,od,kV,doc,pm,an,cdv,ct,osl,rfl,lk,hcd⟩:=F.ex
 exact .all (h kV doc pm an cdv ct)
def KZ{x qual:Str}{st:Stmt}{f:Addr}{oc:Value}{od an:Option Addr}{osl:Array (Option Value)}{kV doc pm cdv ct:Value}(l:K.lookup f=some ⟨oc,od,.func (W.fnOf x qual (cB st) (aX st) (ao st) .none kV doc pm an cdv ct),osl⟩)
 (c:W.codeIn K cdv qual=true) (k:W.keepIn K (.ref f)=true):Fun K x qual st f (W.fnOf x qual (cB st) (aX st) (ao st) .none kV doc pm an cdv ct):=⟨⟨oc,od,kV,doc,pm,an,cdv,ct,osl,rfl,l,c⟩,k⟩
end
def Nf(hr:Room k A):A.units+1<cLine:=PJ (Nat.add_le_add_left (by decide:1<=64) _) hr.units
section
variable{X:Cx}
end
section
variable{X:Cx}{pins:Rb}{σ:St}{H:Hp}{s:Shared}
def Inv.track{a:Addr}{o:HO}(I:Inv X pins σ H s)(hn:H a=none)(h0:X.s₀.heap.get? a=none)(hL:a≠X.env.locals)(hc:∀x c,X.env.cells.lookup x=some c->c≠a)
 (hp:∀p∈X.pn++pins,p.1≠a) (new:ObjOk X.prog X.w (upd H a o) s.heap a o):Inv X pins σ (upd H a o) s:=by
 have ne:∀b u,H b=some u->b≠a:=λb u e z=>by rw[z,hn] at e;cases e
 have ne0:∀b u,X.s₀.heap.get? b=some u->b≠a:=λb u e z=>by rw[z,h0] at e;cases e
 refine⟨I.ok,I.os,I.bare,⟨I.base.keep,I.base.slot,λb u e n hx=>?_,I.base.there,λb xs e=>?_,λb u xs e=>?_,λb ps e=>?_⟩,I.loc,I.cell,?_,λx c e=>?_,λp hp'=>?_,λb u e=>?_,I.len⟩
 ·rw[aF (ne0 b u e)];exact I.base.free b u e n hx
 ·have q:=I.base.tups b xs e
  rw[aF (ne _ _ q)];exact q
 ·have q:=I.base.frzs b u xs e
  rw[aF (ne _ _ q)];exact q
 ·obtain⟨m,q⟩:=I.base.tbls b ps e
  exact⟨m,by rw[aF (ne _ _ q)];exact q⟩
 ·rw[aF (Ne.symm hL)];exact I.free
 ·rw[aF (hc x c e)];exact I.freeC x c e
 ·obtain⟨e,n,r⟩:=I.pin p hp'
  exact⟨e,by rw[aF (hp p hp')];exact n,r⟩
 ·by_cases hb:b=a
  ·subst hb;rw[bB] at e;cases e;exact new
  ·rw[aF hb] at e
   exact (I.hok b u e).stay (λc v _ q=>q) (λc q=>by rw[aF (ne _ _ q)];exact q) λc xs q=>by rw[aF (ne _ _ q)];exact q
end
theorem jg{env:Env}:∀{names:List (Str×NameKind)} (cs:List (Str×Addr)),(∀x∈names,x.2=.free->∃c,env.cells.lookup x.1=some c)->(∀x c,cs.lookup x=some c->env.cells.lookup x=some c)->
 ∃
  cl,(forIn names cs λ(x:Str×NameKind) (r:List (Str×Addr))=>if (x.2==NameKind.free)=true then do let a <- cellOf env x.1;pure (ForInStep.yield ((x.1,a)::r)) else pure (ForInStep.yield r):Sem (List (Str×Addr)))=pure cl/\
  (∀x c,cl.lookup x=some c->env.cells.lookup x=some c)/\(∀x c,cs.lookup x=some c->∃c',cl.lookup x=some c')/\∀x∈names,x.2=.free->∃c,cl.lookup x.1=some c
 | [],cs,_,h=>⟨cs,by simp,h,λx c e=>⟨c,e⟩,λ_ hx=>nomatch hx⟩
 |
  (n,k)::r,cs,hf,h=>by
  rw[PH]
  by_cases hk:k=.free
  ·subst hk
   obtain⟨c,hc⟩:=hf (n,.free) o_ rfl
   have hcell:cellOf env n=pure c:=by unfold cellOf;rw[hc]
   have h':∀x d,((n,c)::cs).lookup x=some d->env.cells.lookup x=some d:=λx d e=>by
    rw[Pd] at e
    cases q:x==n with
    |true=>rw[q] at e;cases e;rw[Ow.mp q];exact hc
    |false=>rw[q] at e;exact h x d e
   obtain⟨cl,e1,e2,e3,e4⟩:=jg (env:=env) (names:=r) ((n,c)::cs) (λx hx=>hf x (m_ _ hx)) h'
   have top:∃c',cl.lookup n=some c':=e3 n c (by rw[Pd];simp)
   refine⟨cl,?_,e2,λx d e=>?_,λx hx hfr=>?_⟩
   ·simp only[P5,O4,hcell]
    exact e1
   ·by_cases q:x=n
    ·rw[q];exact top
    ·exact e3 x d (by rw[Pd,(M_.mpr q:(x==n)=false)];exact e)
   ·rcases H_.mp hx with rfl |hx
    ·exact top
    ·exact e4 x hx hfr
  ·have hb:(k==NameKind.free)=false:=by simpa using hk
   obtain⟨cl,e1,e2,e3,e4⟩:=jg (env:=env) (names:=r) cs (λx hx=>hf x (m_ _ hx)) h
   refine⟨cl,?_,e2,e3,λx hx hfr=>?_⟩
   ·simp only[hb,OT,PM]
    exact e1
   ·rcases H_.mp hx with rfl |hx
    ·exact absurd hfr hk
    ·exact e4 x hx hfr
def oW{env:Env}{scope:Scope}(hf:∀x∈scope.names,x.2=.free->∃c,env.cells.lookup x.1=some c):
 ∃cl,closureFor scope env=pure cl/\(∀x c,cl.lookup x=some c->env.cells.lookup x=some c)/\∀x∈scope.names,x.2=.free->∃c,cl.lookup x.1=some c:=by
 obtain⟨cl,e1,e2,_,e4⟩:=jg (env:=env) (names:=scope.names) [] hf (λx c e=>by simp at e)
 refine⟨cl,?_,e2,e4⟩
 unfold closureFor
 simp only[e1]
 rfl
noncomputable def aQ(X:Cx)(N:List Str)(scope:Scope)(cl:List (Str×Addr))(C:Addr)(s₂:Shared)(H:Hp)(fp:List Addr):Cx:=
 { X with N:=N,s₀:=s₂,H₀:=H,env:=compEnvC scope cl C X.env,outer:=X.stack,stack:=X.stack,ex:=fp,fn:=λ_=>false,pn:=[],xe:=λ_ _=>False }
noncomputable def fN(sub:Rh)(σ:St):St:=sub.map λo=>o.bind λi=>(σ[i]?).bind id
def LcW(J:It)(sub:Rh)(g:TG)(tc:TT)(te:TE)(σ:St)(H1:Hp)(Q:VK):Prop:=∃W:Nat->Nat->List V->St->Hp->Prop,(∃m,W 0 m [] (fN sub σ) H1)/\∀i m ys σ H,W i m ys σ H->
 (J.stop i H/\ys.length<=sizeLine/\∀D,H D=none->Q (.ref D) (upd H D (.lst ys)))\/
 (J.go i H/\ys.length<sizeLine/\∃Nx:List V->St->Hp->Prop,(∀ys' σ' H',Nx ys' σ' H'->∃m',m'<m/\W (i+1) m' ys' σ' H')/\
  ∀x H',J.yld i H x H'->g x σ H' λσ2 H2=>tc σ2 H2 λb H3=>if b=true then te σ2 H3 λy H4=>Nx (ys++[y]) σ2 H4 else Nx ys σ2 H3)
def jl(wi:TI)(sub:Rh)(g:TG)(tc:TT)(te:TE):TE:=λσ H Q=>wi σ H λJ H1=>LcW J sub g tc te σ H1 Q
abbrev Bo:TT:=λ_ H Q=>Q true H
section
variable{prog:Program}{w:World}{A:Around}{R:Result->Shared->Prop}{s:Shared}
def so{ge target am:Expr}{ifs:List Expr}{scope:Scope}{pos:Pos}{it acc:Value}{env:Env}(I:Nat->Shared->Prop)
 (turn
  : ∀n s,I n s->wpAny (model prog w) A (pyNext it) (λr s₁=>match r with
  |none=>R (.ok .next) s₁
  |some v=>wpAny (model prog w) A (letOwnedTupleGo target it v) (λ_ s₁'=>wpAny (model prog w) A (assign target env v) (λ_ s₂=>
   wpAny (model prog w) A (forIn ifs true λc r=>if r=true then do let ok <- isTrue c env (eval c env);pure (ForInStep.yield ok) else pure (ForInStep.yield r))
    (λok s₃=>if ok=true then wpAny (model prog w) A (eval ge env) (λx s₄=>wpAny (model prog w) A (call (.builtin "list.append") [acc,x]) (λ_ s₅=>∃m,m<n/\I m s₅) (λ_ _=>False) s₄) (λ_ _=>False) s₃
     else ∃m,m<n/\I m s₃) (λ_ _=>False) s₂) (λ_ _=>False) s₁') (λ_ _=>False) s₁) (λ_ _=>False) s)
 (n:Nat) (h:I n s):
 codeAny (model prog w) A (.compLoop (.ListComp ge [⟨target,am,ifs,0⟩] scope pos) 0 it acc env) R s:=by
 refine codeAny_loop rfl I (λn s hI=>?_) n h
 show wpAny _ _ ((compTurn (.ListComp ge [⟨target,am,ifs,0⟩] scope pos) 0 it acc env).onRaise (λx=>do noteFrame x env;theTreesLotGoes x)) _ _ s
 refine wpAny_noted ?_
 rw[compTurn_list]
 refine Ox (E:=λ_ _=>False) ?_ (λ_ _ q=>q) λ_ _ q=>q.elim
 refine i_ (QL (i_ (Ox (turn n s hI) (λr s₁ h₁=>?_) λ_ _ h'=>h')))
 cases r with
 |none=>exact u_ h₁
 |
  some v=>
  refine i_ (Ox h₁ (λ_ s₁' h₁'=>?_) λ_ _ h'=>h')
  refine i_ (Ox h₁' (λ_ s₂ h₂=>?_) λ_ _ h'=>h')
  refine i_ (Ox h₂ (λok s₃ h₃=>?_) λ_ _ h'=>h')
  cases ok with
  |
   true=>
   simp only[O4] at h₃ ⊢
   refine i_ (i_ (Ox h₃ (λx s₄ h₄=>?_) λ_ _ h'=>h'))
   refine i_ (Ox h₄ (λ_ s₅ h₅=>?_) λ_ _ h'=>h')
   exact u_ (u_ ⟨rfl,h₅⟩)
  |
   false=>
   simp only[OT,PM] at h₃ ⊢
   first
    |exact i_ (u_ (u_ ⟨rfl,h₃⟩))
    |exact u_ ⟨rfl,h₃⟩
end
section
variable{X:Cx}
def PTs(X:Cx)(ifs:List Expr)(t:TT):Prop:=
 ∀
  (pins:Rb) (s:Shared) (σ:St) (H:Hp) (Q:Bool->Hp->Prop),Inv X pins σ H s->t σ H Q->
  wpAny (model X.prog X.w) X.A (forIn ifs true λc r=>if r=true then do let ok <- isTrue c X.env (eval c X.env);pure (ForInStep.yield ok) else pure (ForInStep.yield r)) (TP X pins σ Q) X.xe s
def uw:PTs X [] (λ_ H Q=>Q true H):=λpins s σ H Q I h=>by
 rw[Qj]
 exact u_ ⟨H,I,h⟩
structure LcEnd(X:Cx)(pins:Rb)(σ:St)(Q:VK)(D C:Addr)(s4:Shared):Prop where
 ns:∃m,s4.heap.Ns C m
 dc:D<C
 fr:X.env.locals<D
 cell:∀x c,X.env.cells.lookup x=some c->c<D
 pin:∀p∈X.pn++pins,p.1<D
 sz:X.s₀.heap.objs.size<=D
 inv:∃H',H' C=none/\Q (.ref D) H'/\∀h',Heap.SameBut C s4.heap h'->Inv X pins σ H' { s4 with heap:=h' }
def uO{ge am tg:Expr}{ifs:List Expr}{scope:Scope}{pos:Pos}{wi:TI}{g:TG}{tc:TT}{te:TE}{N:List Str}{sub:Rh}{use:Option (Value->Sem Unit)}{R:Rg}{pins:Rb}{s:Shared}{σ:St}{H:Hp}{Q:VK}{fpos:Pos}
 (hc:X.calm=true) (hi:PI X tg am wi)
 (hk:scope.kind=.function) (hnc:∀x∈scope.names,x.2 ≠ .cell) (be:∀x∈scope.names,x.2=.local->scope.names.lookup x.1=some .local)
 (hfr:∀x∈scope.names,x.2=.free->X.env.kindOf x.1=some .cell\/X.env.kindOf x.1=some .free)
 (hsl:sub.length=N.length) (d_:∀(j i:Nat) (x:Str),sub[j]?=some (some i)->N[j]?=some x->X.N[i]?=some x/\scope.names.lookup x=some .free)
 (hg:∀cl C s₂ H fp,PG (aQ X N scope cl C s₂ H fp) tg g) (ht:∀cl C s₂ H fp,PTs (aQ X N scope cl C s₂ H fp) ifs tc) (he:∀cl C s₂ H fp,PE (aQ X N scope cl C s₂ H fp) ge te)
 (hs:∀x,foldedSetIterable am X.env x=pure x) (I:Inv X pins σ H s) (h:jl wi sub g tc te σ H Q)
 (g_:∀D C s4,LcEnd X pins σ Q D C s4->compPost (model X.prog X.w) X.A X.xe use R (.ref D) C (.ok .next) s4):
 wpAny (model X.prog X.w) X.A (comprehension (.ListComp ge [⟨tg,am,ifs,0⟩] scope pos) scope X.env fpos (newList []) false (eval am X.env) use) R X.xe s:=by
 obtain⟨cl,hclos,hcl,hclf⟩:=oW (env:=X.env) (scope:=scope) λx hx hf=>I.ok.has x.1 (hfr x hx hf)
 refine wpAny_comprehension_free rfl hs hclos hk be ?_
 show wpAny _ _ (eval am X.env) _ _ _
 refine thn (hi pins s σ H _ I h) λv s1 h1=>thn h1 λitv s2 h2=>?_
 obtain⟨it,fp,tn,J,H2,e,I2,T,st2,f2,W,⟨m0,w0⟩,turn⟩:=h2
 subst e
 refine OQ (wpAny_newFunctionEnv hnc (by intro y hy;simp at hy) (λh₁ hns₁ hsb₁=>?_) hk)
 dsimp only at hns₁ hsb₁ ⊢
 generalize hH2:s2.heap.push { cls:=.type "list",dict:=none,data:=.seq ([]:List Value).toArray }=G2 at hns₁ hsb₁ ⊢
 have hC:G2.objs.size=s2.heap.objs.size+1:=by rw[<- hH2,Pb]
 have hDC:s2.heap.objs.size≠G2.objs.size:=by omega
 have below:∀b,b<s2.heap.objs.size->b≠G2.objs.size/\b≠s2.heap.objs.size:=λb hb=>⟨by omega,by omega⟩
 have old:∀b o,s2.heap.get? b=some o->h₁.get? b=some o:=λb o e=>hsb₁.extBut b o (below b (w_ e)).1 (v_ _ (hH2 ▸ v_ _ e))
 have hD₁:h₁.get? s2.heap.objs.size=some { cls:=.type "list",dict:=none,data:=.seq ([]:List Value).toArray }:=hsb₁.extBut _ _ hDC (v_ _ (hH2 ▸ Em _ rfl))
 have fresh:∀a,s2.heap.objs.size<=a->s2.heap.get? a=none:=λa ha=>Qv ha
 have cellOld:∀x c,cl.lookup x=some c->c<s2.heap.objs.size:=λx c e=>by
  obtain⟨v,z⟩:=I2.cell x c (hcl x c e)
  exact z.lt
 have fpOld:∀b∈fp,b<s2.heap.objs.size:=λb hb=>by
  obtain⟨o,e,_⟩:=T.obj _ _ st2 b hb
  exact w_ e
 let Y:Cx:=aQ X N scope cl G2.objs.size s2 H2 fp
 have okY:Y.Ok
  := by
  refine⟨I2.ok.mod,?_,I2.ok.glob,I2.ok.blt,?_,λx y c e1 e2=>I2.ok.inj x y c (hcl x c e1) (hcl y c e2),λx hx=>?_,λx c hfn _=>absurd hfn r_,I2.ok.hd,I2.ok.frames,.inl rfl,
   λb hb=>⟨?_,λx c e z=>?_⟩,I2.bs,y_ I2.ok.bsz I2.sz,λb o e hb=>?_,λb hb hf=>?_,I2.stack,I2.stkFree⟩
  ·show (relabel scope X.env).kind=.function
   exact hk
  ·show s2.heap.objs.size<=G2.objs.size
   omega
  ·have hx':(
    relabel scope X.env).names.lookup x=some .cell\/(relabel scope X.env).names.lookup x=some .free:=hx
   have:∃k,
    (x,k)∈scope.names/\k=.free:=by
    have gen:∀(names:List (Str×NameKind)),(∀y∈names,y.2 ≠ .cell)->∀kk,(kk=NameKind.cell\/kk=NameKind.free)->(names.map λ(n,k)=>if (k==NameKind.free&&X.env.scope.kind == .function&&X.env.kindOf n==some .cell) then (n,NameKind.cell) else (n,k)).lookup x=some kk->∃k,(x,k)∈names/\k=.free:=by
     intro names
     induction names with
     |nil=>intro _ kk _ e;simp at e
     |
      cons y r ih=>
      intro hn kk hkk e
      obtain⟨n,k⟩:=y
      rw[s_,Pd] at e
      by_cases hkf:k=.free
      ·subst hkf
       by_cases hxn:x=n
       ·exact⟨.free,by rw[hxn];exact o_,rfl⟩
       ·have hb:(x==(if (NameKind.free==NameKind.free&&X.env.scope.kind == .function&&X.env.kindOf n==some .cell)=true then (n,NameKind.cell) else (n,NameKind.free)).1)=false:=by
         split <;> exact M_.mpr hxn
        rw[hb] at e
        obtain⟨k',m,q⟩:=ih (λz hz=>hn z (m_ _ hz)) kk hkk e
        exact⟨k',m_ _ m,q⟩
      ·have hb0:(k==NameKind.free&&X.env.scope.kind == .function&&X.env.kindOf n==some .cell)=false:=by
        have:(k==NameKind.free)=false:=by simpa using hkf
        rw[this];rfl
       rw[hb0] at e
       simp only[OT,PM] at e
       cases q:x==n with
       |
        true=>
        rw[q] at e
        have e':k=kk:=G_ e
        subst e'
        rcases hkk with z |z
        ·exact absurd z (hn (n,k) o_)
        ·exact absurd z hkf
       |
        false=>
        rw[q] at e
        obtain⟨k',m,q⟩:=ih (λz hz=>hn z (m_ _ hz)) kk hkk e
        exact⟨k',m_ _ m,q⟩
    rcases hx' with z |z
    ·exact gen scope.names hnc _ (.inl rfl) z
    ·exact gen scope.names hnc _ (.inr rfl) z
   obtain⟨k,m,q⟩:=this
   exact hclf (x,k) m q
  ·show b≠G2.objs.size
   exact (below b (fpOld b hb)).1
  ·exact (f2 b hb).2.2.2.2.1 x c (hcl x c e) z
  ·rcases (f2 b hb).2.2.2.1 with z |z
   ·exact I2.ok.noex b o e z
   ·exact absurd (B_ (w_ e) (y_ I2.ok.bsz z)) (OW _)
  ·have hf':b∈frs X.stack:=hf
   rcases H_.mp (I2.stkSub b hf') with z |z
   ·exact (f2 b hb).2.1 z
   ·exact (f2 b hb).2.2.1 z
 have startLoc
  : ∃m,h₁.Ns G2.objs.size m/\∀(i:Nat) (x:Str) (v:V),N[i]?=some x->(fN sub σ)[i]?=some (some v)->Vis (relabel scope X.env) x->∃u,RelV v u/\BL Y.env h₁ m x u:=by
  refine⟨_,hns₁,λj x v e1 e2 e3=>?_⟩
  unfold fN at e2
  rw[E_] at e2
  cases q:sub[j]? with
  |none=>rw[q] at e2;cases e2
  |
   some o=>
   rw[q] at e2
   cases o with
   |none=>cases e2
   |
    some i=>
    obtain⟨hNi,hfree⟩:=d_ j i x q e1
    have e2':(σ[i]?).bind id=some v:=G_ e2
    have e2'':σ[i]?=some (some v):=by
     cases z:σ[i]? with
     |none=>rw[z] at e2';cases e2'
     |some y=>rw[z] at e2';rw[show y=some v from e2']
    obtain⟨m2,hn2,hl2⟩:=I2.loc
    have hkx:=hfr (x,.free) (O0 hfree) rfl
    obtain⟨u,r,l⟩:=hl2 i x v hNi e2'' (by rcases hkx with z |z;exact .inr (.inl z);exact .inr (.inr z))
    refine⟨u,r,.inr ⟨?_,?_⟩⟩
    ·rcases e3
      with z |z |z
     ·exfalso
      have gen:∀(names:List (Str×NameKind)),names.lookup x=some .free->(names.map λ(n,k)=>if (k==NameKind.free&&X.env.scope.kind == .function&&X.env.kindOf n==some .cell) then (n,NameKind.cell) else (n,k)).lookup x=some .local->False:=by
       intro names
       induction names with
       |nil=>intro e _;simp at e
       |
        cons y r ih=>
        intro e1 e2
        obtain⟨n,k⟩:=y
        rw[Pd] at e1
        rw[s_,Pd] at e2
        by_cases hxn:x=n
        ·have hb1:(x==n)=true:=Ow.mpr hxn
         rw[hb1] at e1
         have:k=.free:=G_ e1
         subst this
         split at e2
         ·rename_i hq
          split at e2 <;> cases e2
         ·rename_i hq
          split at hq <;> (rw[hb1] at hq;cases hq)
        ·have hb1:(x==n)=false:=M_.mpr hxn
         rw[hb1] at e1
         refine ih e1 ?_
         split at e2
         ·rename_i hq
          split at hq <;> (rw[hb1] at hq;cases hq)
         ·exact e2
      exact gen scope.names hfree z
     ·exact .inl z
     ·exact .inr z
    ·obtain⟨c,hc'⟩:=hclf (x,.free) (O0 hfree) rfl
     refine⟨c,hc',?_⟩
     rcases l with ⟨k,_⟩ |⟨_,c2,ec2,z⟩
     ·rcases hkx with z |z <;> (rw[k] at z;cases z)
     ·have:=hcl x c hc'
      rw[ec2] at this
      cases this
      obtain⟨oc,hoc,hd⟩:=z
      exact⟨oc,old _ _ hoc,hd⟩
 have pinD:∀{σ':St}{H':Hp}{s':Shared}{pl:Rb}{o:Obj},Inv Y pl σ' H' s'->s'.heap.get? s2.heap.objs.size=some o->(∀v,o.data ≠ .cell v)->H' s2.heap.objs.size=none->Inv Y [(s2.heap.objs.size,o)] σ' H' s':=λ{σ' H' s' pl o} IY e d n=>
  IY.pins_of λp hp=>by
   have e':p=(s2.heap.objs.size,o):=by simpa using hp
   subst e'
   refine⟨e,n,?_,?_,d⟩
   ·show s2.heap.objs.size≠G2.objs.size
    omega
   ·intro hf
    have hf':s2.heap.objs.size∈frs X.stack:=hf
    obtain⟨_,o',ho',_⟩:=I2.stack.mem hf'
    exact absurd (w_ ho') (OW _)
 have fpY:∀{H':Hp}{pl:Rb},(∀b∈fp,H' b=none)->(∀p∈pl,p.1∉fp)->∀b∈fp,FpOk Y pl H' b:=λ{H' pl} hn hp b hb=>by
  refine⟨hn b hb,?_,?_,.inl hb,λx c e=>?_,λp hp'=>?_⟩
  ·exact (okY.exf b hb).1
  ·exact okY.exfs b hb
  ·exact (okY.exf b hb).2 x c e
  ·intro z
   have hp'':p∈pl:=by simpa [Y,aQ] using hp'
   exact hp p hp'' (by rw[z];exact hb)
 have hDfp:s2.heap.objs.size∉fp:=λz=>OW _ (fpOld _ z)
 have loop
  : ∀s₃:Shared,s₃={ s2 with heap:=h₁,toks:=s2.toks+([]:List (Str×Value)).length }->
  codeAny (model X.prog X.w) X.A (.compLoop (.ListComp ge [⟨tg,am,ifs,0⟩] scope pos) 0 (.ref it) (.ref s2.heap.objs.size) (compEnvC scope cl G2.objs.size X.env))
   (compPost (model X.prog X.w) X.A X.xe use R (.ref s2.heap.objs.size) G2.objs.size) s₃:=by
  rintro s₃ rfl
  have IY0:Inv Y [(s2.heap.objs.size,{ cls:=.type "list",dict:=none,data:=.seq ([]:List Value).toArray })] (fN sub σ) H2 { s2 with heap:=h₁,toks:=s2.toks+([]:List (Str×Value)).length }:=by
   have J0:Inv Y [] (fN sub σ) H2 { s2 with heap:=h₁,toks:=s2.toks+([]:List (Str×Value)).length }:=by
    refine⟨okY,rfl,I2.bare,Un.kept old,startLoc,λx c e=>?_,I2.hok.fresh (by show s2.heap.objs.size<=G2.objs.size;omega),λx c e=>I2.freeC x c (hcl x c e),λp hp=>absurd (show p∈([]:Rb) from hp) (by simp),I2.hok.kept old,?_⟩
    ·obtain⟨v,oc,hoc,hd⟩:=I2.cell x c (hcl x c e)
     exact⟨v,oc,old _ _ hoc,hd⟩
    ·show (fN sub σ).length=N.length
     unfold fN
     rw[j_];exact hsl
   exact pinD J0 hD₁ (λv z=>by cases z) I2.fresh
  refine so (λn s'=>∃(i:Nat) (ys:List V) (its:List Value) (k:Nat) (σ':St) (H':Hp),Inv Y [(s2.heap.objs.size,{ cls:=.type "list",dict:=none,data:=.seq its.toArray k })] σ' H' s'/\Vals ys its/\tn i s'.heap/\(∀b∈fp,H' b=none)/\W i n ys σ' H') ?_ m0
   ⟨0,[],[],0,fN sub σ,H2,IY0,.nil,T.keep _ _ _ st2 (λb hb o e=>old b o e),λb hb=>(f2 b hb).1,w0⟩
  rintro n s3 ⟨i,ys,its,k,σ3,H3,I3,rv,st3,fr3,w3⟩
  have npl:∀(o:Obj),∀p∈[(s2.heap.objs.size,o)],p.1∉fp:=λo p hp=>by
   have e':p=(s2.heap.objs.size,o):=by simpa using hp
   subst e'
   exact hDfp
  rcases turn i n ys σ3 H3 w3 with ⟨stop,hz,qn⟩ |⟨go,hz,Nx,hNx,step⟩
  ·refine Ox (T.done Y rfl rfl rfl hc i _ s3 σ3 H3 (λ_ _=>False) I3 (fpY fr3 (npl _)) st3 stop) (λr s4 ⟨hr,I4⟩=>?_) λ_ _ z=>z
   subst hr
   obtain⟨m4,hn4,_⟩:=I4.loc
   have hCfree:H3 G2.objs.size=none:=I4.free
   have hD4:=I4.pin (s2.heap.objs.size,{ cls:=.type "list",dict:=none,data:=.seq its.toArray k }) (K_ _ o_)
   have un4:Un (frs X.stack) fp H2 H3 s2.heap s4.heap:=I4.base
   have ne2:∀b o,s2.heap.get? b=some o->b≠G2.objs.size:=λb o e=>(below b (w_ e)).1
   have hDfree:H3 s2.heap.objs.size=none:=hD4.2.1
   have sz0:X.s₀.heap.objs.size<=s2.heap.objs.size:=I2.sz
   refine g_ s2.heap.objs.size G2.objs.size s4 ⟨⟨m4,hn4⟩,by rw[hC];exact Nat.lt_succ_self _,I2.lt,λx c e=>?_,λp hp=>w_ (I2.pin p hp).1,sz0,upd H3 s2.heap.objs.size (.lst ys),by rw[aF (Ne.symm hDC)];exact hCfree,qn _ hDfree,λh' hs'=>?_⟩
   ·obtain⟨v,q⟩:=I2.cell x c e
    exact q.lt
   have up:∀b o,b≠G2.objs.size->s4.heap.get? b=some o->h'.get? b=some o:=λb o hb e=>hs'.extBut b o hb e
   have un5:Un (frs X.stack) fp H2 H3 s2.heap h':=by
    refine⟨λb o e n hb hx=>up b o (ne2 b o e) (un4.keep b o e n hb hx),λb o e n hb hx=>?_,un4.free,λb o e hx=>?_,un4.tups,un4.frzs,un4.tbls⟩
    ·obtain⟨sl,q⟩:=un4.slot b o e n hb hx
     exact⟨sl,up b _ (ne2 b o e) q⟩
    ·obtain⟨o',q⟩:=un4.there b o e hx
     exact⟨o',up b _ (ne2 b o e) q⟩
   have hok5:HOk X.prog X.w H3 h':=λb u e=>(I4.hok b u e).stay (λc v hcc q=>up c v (λz=>by
    rcases hcc with zz |zz
    ·rw[zz] at z;rw[z,hCfree] at e;cases e
    ·rw[z,hCfree] at zz;cases zz) q) (λ_ q=>q) λ_ _ q=>q
   have I5:Inv X pins σ H3 { s4 with heap:=h' }:=I2.call' (s':={ s4 with heap:=h' }) (ch:=fp) I4.os un5 hok5 I4.bare λb hb=>by
    obtain⟨_,g1,_,g3,g4,g5⟩:=f2 b hb
    exact⟨g3,g1,g4,g5⟩
   refine I5.track (o:=.lst ys) hDfree (Qv sz0) (Ph I2.lt) (λx c e z=>?_) (λp hp z=>?_) ?_
   ·obtain⟨v,q⟩:=I2.cell x c e
    exact absurd q.lt (by rw[z];exact OW _)
   ·exact absurd (w_ (I2.pin p hp).1) (by rw[z];exact OW _)
   ·exact⟨hz,its,k,rv,up _ _ hDC hD4.1⟩
  ·refine Ox (T.item Y rfl rfl rfl hc i _ s3 σ3 H3 (λ_ _=>False) I3 (fpY fr3 (npl _)) st3 go) (λr s4 ⟨u,hr,h4⟩=>?_) λ_ _ z=>z
   subst hr
   refine Ox h4 (λ_ s5 ⟨x,H5,I5,r5,y5,st5,fr5⟩=>?_) λ_ _ z=>z
   have I5':=I5.pinned (fpY fr5 (npl _)) (T.obj _ _ st5)
   refine Ox (hg cl G2.objs.size s2 H2 fp _ s5 σ3 H5 x u _ I5' r5 (step x H5 y5)) (λ_ s6 ⟨σ6,H6,I6,q6⟩=>?_) λ_ _ z=>z
   refine Ox (ht cl G2.objs.size s2 H2 fp _ s6 σ6 H6 _ I6 q6) (λok s7 ⟨H7,I7,q7⟩=>?_) λ_ _ z=>z
   have back:∀{σ':St}{H':Hp}{s':Shared},Inv Y ([(s2.heap.objs.size,{ cls:=.type "list",dict:=none,data:=.seq its.toArray k })]++jS fp s5.heap) σ' H' s'->tn (i+1) s'.heap/\∀b∈fp,H' b=none:=λ{σ' H' s'} IB=>by
    refine⟨T.keep _ _ _ st5 λb hb o e=>(IB.pin (b,o) (K_ _ (K_ _ (gq hb e)))).1,λb hb=>?_⟩
    obtain⟨o,e,d⟩:=T.obj _ _ st5 b hb
    exact (IB.pin (b,o) (K_ _ (K_ _ (gq hb e)))).2.1
   cases ok with
   |
    false=>
    rw[if_neg r_] at q7
    obtain⟨m',hm,w7⟩:=hNx _ _ _ q7
    rw[if_neg r_]
    obtain⟨t7,f7⟩:=back I7
    exact⟨m',hm,i+1,ys,its,k,σ6,H7,I7.unpinned,rv,t7,f7,w7⟩
   |
    true=>
    rw[if_pos rfl] at q7
    rw[if_pos rfl]
    refine Ox (he cl G2.objs.size s2 H2 fp _ s7 σ6 H7 _ I7 q7) (λy s8 ⟨yv,H8,I8,r8,q8⟩=>?_) λ_ _ z=>z
    obtain⟨m',hm,w8⟩:=hNx _ _ _ q8
    obtain⟨t8,f8⟩:=back I8
    have I9:=I8.unpinned
    have hD9:=I9.pin (s2.heap.objs.size,{ cls:=.type "list",dict:=none,data:=.seq its.toArray k }) (K_ _ o_)
    have e9:s8.heap.get? s2.heap.objs.size=some { cls:=.type "list",dict:=none,data:=.seq its.toArray k }:=hD9.1
    have bd:=rv.length
    refine PK F.slot_list_append ⟨_,e9,rfl⟩ F.entry_list_append (F.args_list_append_2 _ _) (PySem.list_append _ its.toArray k y (by rw[t_];omega)) ⟨e9,?_⟩
    have q9:=PySem.IsL.update e9 (λxs=>xs.push y)
    have ea:its.toArray.push y=(its++[y]).toArray:=by simp
    rw[ea] at q9
    have k9:∀b o,b≠s2.heap.objs.size->s8.heap.get? b=some o->(s8.heap.update s2.heap.objs.size (Obj.mapSeq λxs=>xs.push y)).get? b=some o:=λb o hb e=>(OA _ _ (Ne.symm hb)).trans e
    have I10:Inv Y [] σ6 H8 { s8 with heap:=s8.heap.update s2.heap.objs.size (Obj.mapSeq λxs=>xs.push y) }:=
     (I9.pins_of (pins':=[]) (λp hp=>nomatch hp)).turned (t':=s8.toks) k9 hD9.2.1 hD9.2.2.1 (.inr (p_ _)) (λx c e z=>absurd (cellOld x c e) (by rw[z];exact OW _))
      (λp hp=>absurd (show p∈([]:Rb) from hp) (by simp))
    refine⟨m',hm,i+1,ys++[yv],its++[y],_,σ6,H8,pinD I10 q9 (λv z=>by cases z) hD9.2.1,rv.append (.cons r8 .nil),?_,f8,w8⟩
    exact T.keep _ _ _ t8 λb hb o e=>k9 b o (λz=>hDfp (by rw[<- z];exact hb)) e
 exact codeAny_compStart_list (loop _ rfl) (T.self _ 0 _ _ _ (T.keep _ _ _ st2 λb hb o e=>old b o e) (loop _ rfl))
def IH{ge am tg:Expr}{ifs:List Expr}{scope:Scope}{pos:Pos}{wi:TI}{g:TG}{tc:TT}{te:TE}{N:List Str}{sub:Rh}
 (hc:X.calm=true) (hi:PI X tg am wi)
 (hk:scope.kind=.function) (hnc:∀x∈scope.names,x.2 ≠ .cell) (be:∀x∈scope.names,x.2=.local->scope.names.lookup x.1=some .local)
 (hfr:∀x∈scope.names,x.2=.free->X.env.kindOf x.1=some .cell\/X.env.kindOf x.1=some .free)
 (hsl:sub.length=N.length) (d_:∀(j i:Nat) (x:Str),sub[j]?=some (some i)->N[j]?=some x->X.N[i]?=some x/\scope.names.lookup x=some .free)
 (hg:∀cl C s₂ H fp,PG (aQ X N scope cl C s₂ H fp) tg g) (ht:∀cl C s₂ H fp,PTs (aQ X N scope cl C s₂ H fp) ifs tc) (he:∀cl C s₂ H fp,PE (aQ X N scope cl C s₂ H fp) ge te)
 (hs:∀x,foldedSetIterable am X.env x=pure x):
 PE X (.ListComp ge [⟨tg,am,ifs,0⟩] scope pos) (jl wi sub g tc te):=by
 intro pins s σ H Q I h
 rw[eval_ListComp]
 refine uO hc hi hk hnc be hfr hsl d_ hg ht he hs I h λD C s4 e=>?_
 obtain⟨m,hm⟩:=e.ns
 obtain⟨H',_,q,i⟩:=e.inv
 exact⟨m,hm,λh' hs'=>⟨.ref D,H',i h' hs',rfl,q⟩⟩
noncomputable def fM(M:List Str)(names:List (Str×NameKind))(sub:Rh)(N:List Str):Bool:=(sub.zip N).all λp=>match p.1 with
 |none=>true
 |some i=>M[i]?==some p.2&&names.lookup p.2==some .free
def pU{M:List Str}{names:List (Str×NameKind)}{sub:Rh}{N:List Str}(h:fM M names sub N=true)(j i:Nat)(x:Str)(h1:sub[j]?=some (some i))(h2:N[j]?=some x):
 M[i]?=some x/\names.lookup x=some .free:=by
 unfold fM at h
 rw[N_] at h
 have hm:(some i,x)∈sub.zip N:=by
  refine ON (i:=j) ?_
  rw[List.getElem?_zip_eq_some]
  exact⟨h1,h2⟩
 have q:=h _ hm
 simp only[n_,Ow] at q
 exact q
noncomputable def ik(kn names:List (Str×NameKind)):Bool:=names.all λx=>x.2 != .free || kn.lookup x.1==some .cell || kn.lookup x.1==some .free
def tQ{kn names:List (Str×NameKind)}(h:ik kn names=true):∀x∈names,x.2=.free->kn.lookup x.1=some .cell\/kn.lookup x.1=some .free:=λx hx hf=>by
 unfold ik at h
 rw[N_] at h
 have q:=h x hx
 rw[hf] at q
 simpa using q
def Mo{ge am tg:Expr}{scope:Scope}{pos:Pos}{wi:TI}{g:TG}{te:TE}(M:List Str)(kn:List (Str×NameKind))(N:List Str)(sub:Rh)
 (hc:X.calm=true) (hi:PI X tg am wi)
 (hg:∀cl C s₂ H fp,PG (aQ X N scope cl C s₂ H fp) tg g) (he:∀cl C s₂ H fp,PE (aQ X N scope cl C s₂ H fp) ge te)
 (hM:X.N=M) (hkn:X.env.scope.names=kn) (d_:fM M scope.names sub N=true)
 (hk:scope.kind=.function) (hnc:∀x∈scope.names,x.2 ≠ .cell) (be:∀x∈scope.names,x.2=.local->scope.names.lookup x.1=some .local)
 (hfr:ik kn scope.names=true)
 (hsl:sub.length=N.length) (hs:∀x,foldedSetIterable am X.env x=pure x):
 PE X (.ListComp ge [⟨tg,am,[],0⟩] scope pos) (jl wi sub g Bo te):=
 IH hc hi hk hnc be (by subst hkn;exact tQ hfr) hsl (by subst hM;exact pU d_) hg (λcl C s₂ H fp=>uw) he hs
end
end L2
namespace L2
open PySem PySem.Spec PyProof.Rows PySem.W PySem.Builtin PySem.Builtin.ObjectAttr PySem.Builtin.Getset_descriptor
structure XCls(K:W.Frag)(C:Addr):Prop where
 cls:(clsIn K C).isSome=true
 ga:findIn K (.ref C) "__getattribute__"=some (some (.builtin "BaseException.__getattribute__"))
 gt:findIn K (.ref C) "__getattr__"=some none
 at_:findIn K (.ref C) "__class__"=some (some (.builtin "object.__class__"))
 gs:specialIn K (.builtin "object.__class__") "__get__"=some (some (.builtin "getset_descriptor.__get__"))
 tk:takesIn K (.builtin "object.__class__")=some true
 mo:mroIn K C (.type "object")=some true
 mb:mroIn K C (.type "BaseException")=some true
section
variable{prog:Program}{w:World}{A:Around}{E:Rg}{K:W.Frag}{x C:Addr}{o:Obj}
noncomputable def gH(hx:h.get? x=some o)(hc:o.cls=.ref C):Looks M h (typeOf (.ref x)) (.ref C):=hc ▸ (Looks.ld hx).andThen .now
noncomputable def ze(X:K.In h)(T:XCls K C):Looks M h (find (.ref x) (.ref C) "__class__") (.bind (.builtin "getset_descriptor.__get__") (.builtin "object.__class__")):=by
 have L1:=looks_findIn (M:=M) X T.at_
 have L2:Looks M h (getOf (some (.builtin "object.__class__"))) (some (.builtin "getset_descriptor.__get__")):=looks_specialIn X T.gs
 have L3:=looks_takesIn (M:=M) X T.tk
 refine L1.andThen (L2.andThen ?_)
 exact (show Looks M h (dataDescriptor? (some (.builtin "object.__class__")) (some (.builtin "getset_descriptor.__get__"))) (some (.builtin "getset_descriptor.__get__",.builtin "object.__class__")) from L3.andThen .now).andThen (Looks.tag .now)
def o3(X:K.In s.heap)(hx:s.heap.get? x=some o)(hc:o.cls=.ref C)(T:XCls K C)
 (h:R (.ok (.ret (.ref C))) s):codeAny (model prog w) A (.call (.builtin "getset_descriptor.__get__") ⟨[.builtin "object.__class__",.ref x,tp],[]⟩) R s:=by
 obtain⟨hh,g,dr,t,os⟩:=s
 have L0:=gH (M:=model prog w) hx hc
 have L1:=looks_mroIn (M:=model prog w) X T.mo
 refine codeAny_call_builtin KF.slot_gs.plain KF.entry_gs (KF.slot_gs.check _ _ _ _ _ _ _ _ KF.type_class (KF.args_gs _ _ _) ?_)
 unfold Builtin.«getset_descriptor.__get__» descrGet
 rw[dga_obj]
 refine i_ (u_ ?_)
 unfold descrGetter descrCheckInstance descrNameAndClass isInstance
 simp only[KF.owner_class]
 repeat lk
 refine⟨Code.quiet_builtin _ (by decide),codeAny_builtin KF.entry_class ?_⟩
 unfold Builtin.«object.__class__» shownTypeOf
 repeat lk
 exact h
def xO(X:K.In s.heap)(hx:s.heap.get? x=some o)(hc:o.cls=.ref C)(T:XCls K C)(hq:Q () s):
 wpAny M A (checkBuiltinCall "BaseException.__getattribute__" ⟨[.ref x,nameV],[]⟩) Q E s:=by
 obtain⟨h,g,dr,t,os⟩:=s
 have hk:builtinKind "BaseException.__getattribute__"=some .slot:=by decide
 have hsplit:splitId "BaseException.__getattribute__"=some ("BaseException", "__getattribute__"):=by decide
 have ha:=PySem.F.args_bexc_ga (.ref x) nameV
 have L0:=gH (M:=M) hx hc
 have LM:=looks_mroIn (M:=M) X T.mb
 have LI:Looks M h (isInstance (.ref x) (.type "BaseException")) true:=L0.andThen LM
 simp only[checkBuiltinCall,hk,hsplit]
 refine i_ ?_
 refine LI.at ?_
 repeat (first |wp_step)
 all_goals exact hq
def Ho(X:K.In s.heap)(hx:s.heap.get? x=some o)(hc:o.cls=.ref C)(T:XCls K C)(h:Q (some (.ref C)) { s with toks:=s.toks+1 }):
 wpAny (model prog w) A (getAttr? (.ref x) "__class__") Q E s:=by
 obtain⟨hh,g,d,t,os⟩:=s
 have L0:=gH (M:=model prog w) hx hc
 have L1:=looks_findIn (M:=model prog w) X T.ga
 have L2:=looks_findIn (M:=model prog w) X T.gt
 have LF:=ze (M:=model prog w) (x:=x) X T
 have f3:=PySem.F.excAttr_ValueError.ga.bind (.ref x)
 have hx2:(Value.builtin "BaseException.__getattribute__" == Value.builtin "object.__getattribute__")=false:=by decide
 unfold getAttr? getAttrBy? getAttrBy
 refine i_ (wpAny_mkText (i_ (Qp (PF (i_ (L0.at (i_ (L1.at ?_))))))))
 dsimp only
 rw[if_neg (by rw[hx2];simp)]
 unfold getAttrByItsOwn hookBefore
 rw[if_pos (show onTheHeap (Value.ref C)=true from rfl)]
 refine i_ (L2.at ?_)
 unfold callGetattribute
 refine i_ (Qp (PF ?_))
 rw[if_neg (by simp)]
 unfold boundAndCalled
 refine i_ (wpAny_of_eq f3 ?_)
 refine wpAny_call (codeAny_call_builtin PySem.F.excAttr_ValueError.ga.plain PySem.F.entry_bexc_ga (xO X hx hc T ?_))
 unfold Builtin.«object.__getattribute__»
 repeat (first |(refine i_ (L0.at ?_)) |(refine i_ (LF.at ?_)) |wp_step)
 refine o3 (s:=⟨hh,g,d,t+1,os⟩) X hx hc T ?_
 repeat (first |exact h |wp_step)
def nX(x:Addr)(C:Addr)(h:Heap):Prop:=∃o vs,h.get? x=some o/\o.cls=.ref C/\o.data=.fields vs
def BX(T:XCls K C):KitX K (.ref x) (.ref C) (nX x C) where
 ty:=λM h _ ⟨o,_,hx,hc,_⟩=>gH hx hc
 it:=λM h X _=>by
  obtain⟨cd,hcd⟩:=OH.mp T.cls
  unfold clsIn at hcd
  split at hcd
  ·rename_i c' d' cd' sl' ho
   intro A' Q' E' s' k q
   unfold isType loadHead
   exact i_ (wpAny_loadPart (k _ _ (X _ _ ho)) (u_ q))
  ·cases hcd
 ne:=λh tp dd its n sl X htp=>by
  obtain⟨cd,hcd⟩:=OH.mp T.cls
  refine Bool.eq_false_iff.mpr λq=>?_
  have e:C=tp:=Value.ref.inj (Ow.mp q)
  subst e
  unfold clsIn at hcd
  split at hcd
  ·rename_i c' d' cd' sl' ho
   have z:=(X _ _ ho).symm.trans htp
   cases z
  ·cases hcd
 ca:=λX ⟨o,_,hx,hc,_⟩ k=>Ho X hx hc T k
end
inductive TyX(K:W.Frag)(H:Hp):V->Value->Prop where
 |of {x:V}{t:Value} (h:TyOf K H x t):TyX K H x t
 |exc {a C:Addr} (e:H a=some (.ext (nX a C))) (T:XCls K C):TyX K H (.ref a) (.ref C)
 |sqT {a:Addr}{xs:List V} (h:SqT K H a xs):TyX K H (.ref a) (.type "tuple")
 |sqL {a:Addr}{xs:List V} (h:SqL K H a xs):TyX K H (.ref a) (.type "list")
section
variable{X:Cx}{pins:Rb}{σ:St}{H:Hp}{s:Shared}{A:Around}{E:Rg}{Q:Rg}{c:Value}{b:Bool}
def tZ(I:Inv X pins σ H s)(rx:RelV x u)(ty:TyX X.K H x t):∃Hh:Heap->Prop,KitX X.K u t Hh/\Hh s.heap/\u ≠ .builtin "__main__.__loader__#opaque":=by
 cases ty with
 |
  exc ea T=>
  cases (show u=Value.ref _ from rx)
  exact⟨_,BX T,(I.hok _ _ ea).1,λz=>nomatch z⟩
 |
  sqT h=>
  cases (show u=Value.ref _ from rx)
  obtain⟨its,rv,⟨o,e,c,_⟩,_⟩:=I.tuple h
  exact⟨_,kitx_tuple,⟨o,e,c⟩,λz=>nomatch z⟩
 |
  sqL h=>
  cases (show u=Value.ref _ from rx)
  obtain⟨its,rv,⟨o,n,e,c,_⟩,_⟩:=I.list h
  exact⟨_,kitx_list,⟨o,e,c⟩,λz=>nomatch z⟩
 |
  of ty=>
  cases ty with
  |non=>cases (show u=Value.none from rx);exact⟨_,kitx_none,True.intro,λz=>nomatch z⟩
  |bl y=>cases (show u=Value.bool y from rx);exact⟨_,kitx_bool,True.intro,λz=>nomatch z⟩
  |int i=>obtain⟨t,q⟩:=(show ∃t,u=Value.int i t from rx);cases q;exact⟨_,kitx_int,True.intro,λz=>nomatch z⟩
  |str y=>obtain⟨t,q⟩:=(show ∃t,u=Value.str y t from rx);cases q;exact⟨_,kitx_str,True.intro,λz=>nomatch z⟩
  |flt y=>obtain⟨t,q⟩:=(show ∃t,u=Value.float y t from rx);cases q;exact⟨_,kitx_float,True.intro,λz=>nomatch z⟩
  |
   @lst a xs ea=>
   cases (show u=Value.ref a from rx)
   obtain⟨_,_,n,_,h1⟩:=(show ObjOk X.prog X.w H s.heap a (.lst xs) from I.hok a _ ea)
   exact⟨_,kitx_list,⟨_,h1,rfl⟩,λz=>nomatch z⟩
  |
   @frz a ob xs ea=>
   cases (show u=Value.ref a from rx)
   obtain⟨_,_,_,n,_,h1⟩:=(show ObjOk X.prog X.w H s.heap a (.frz ob (.lst xs)) from I.hok a _ ea)
   exact⟨_,kitx_list,⟨_,h1,rfl⟩,λz=>nomatch z⟩
  |
   @tup a xs ea=>
   cases (show u=Value.ref a from rx)
   obtain⟨_,_,_,p⟩:=(show ObjOk X.prog X.w H s.heap a (.tup xs) from I.hok a _ ea)
   obtain⟨o,h1,h2,_⟩:=p
   exact⟨_,kitx_tuple,⟨o,h1,h2⟩,λz=>nomatch z⟩
  |
   @dK a kvs ea=>
   cases (show u=Value.ref a from rx)
   obtain⟨_,_,vs,_,p⟩:=(show ObjOk X.prog X.w H s.heap a (.dK kvs) from I.hok a _ ea)
   obtain⟨o,es,ep,h1,h2,_⟩:=p
   exact⟨_,kitx_dict,⟨o,h1,h2.1⟩,λz=>nomatch z⟩
  |
   @dT a kvs ea=>
   cases (show u=Value.ref a from rx)
   obtain⟨_,_,xs,_,o,es,ep,h1,h2,_⟩:=(show ObjOk X.prog X.w H s.heap a (.dT kvs) from I.hok a _ ea)
   exact⟨_,kitx_dict,⟨o,h1,h2.1⟩,λz=>nomatch z⟩
  |
   @ins a C dx fs ea cl ha hn htk hm=>
   cases (show u=Value.ref a from rx)
   obtain⟨mA,O,_⟩:=EC I.hok ea
   obtain⟨od,J,_⟩:=O.look
   exact⟨_,kitx_own (cl.get _) cl.hd ha hn htk hm,J,λz=>nomatch z⟩
end
section
variable{X:Cx}
noncomputable def eW:V->Option Value
 |.ref C=>some (.ref C)
 |.ty T=>some (.type T)
 |_=>none
def qV(h:eW c=some v)(r:RelV c u):u=v:=by
 cases c with
 |ref C=>cases r;exact G_ h
 |ty T=>cases r;exact G_ h
 |_=>cases h
theorem n5:∀{cs:List V}{us vs:List Value},cs.mapM eW=some vs->Vals cs us->us=vs
 |
  [],_,vs,h,.nil=>by
  have h':some ([]:List Value)=some vs:=h
  exact G_ h'
 |
  c::cs,_,vs,h,.cons r rr=>by
  rw[P0] at h
  cases q:eW c with
  |none=>rw[q] at h;cases h
  |
   some v=>
   rw[q] at h
   cases q2:cs.mapM eW with
   |none=>rw[q2] at h;cases h
   |
    some vs'=>
    rw[q2] at h
    have h':some (v::vs')=some vs:=h
    cases h'
    rw[qV q r,n5 q2 rr]
def Ca:CallR X (.builtin "isinstance") (λxs H Q=>∃x c t v b,xs=[x,c]/\TyX X.K H x t/\eW c=some v/\kitOne X.K t v=some b/\Q (.bl b) H):=by
 intro pins s σ H xs us Q I r h
 obtain⟨x,c,t,v,b,rfl,ty,hc,hk,q⟩:=h
 obtain⟨u,w',rfl,rx,rc⟩:=j9 r
 obtain rfl:=qV hc rc
 obtain⟨Hh,Z,p,hne⟩:=tZ I rx ty
 exact kia_one Z I.kIn p hk hne λtk=>⟨.bl b,H,I.tok _,rfl,q⟩
end
end L2
namespace L2
open PySem PySem.Spec PyProof.Rows
def ObjOk.there(x:ObjOk P w H h a o):∃u,h.get? a=some u:=by
 cases o with
 |lst xs=>obtain⟨_,_,_,_,e⟩:=x;exact⟨_,e⟩
 |tup xs=>obtain⟨_,_,_,ob,e,_⟩:=x;exact⟨_,e⟩
 |dK kvs=>obtain⟨_,_,_,_,o,_,_,e,_⟩:=x;exact⟨_,e⟩
 |dT kvs=>obtain⟨_,_,_,_,o,_,_,e,_⟩:=x;exact⟨_,e⟩
 |set S n=>obtain⟨o,_,_,_,e,_⟩:=x;exact⟨_,e⟩
 |ins C dx fs=>obtain⟨_,_,_,e,_⟩:=x;exact⟨_,e⟩
 |own y=>exact x
 |xd fs=>obtain⟨_,⟨_,_,_,e,_⟩,_⟩:=x;exact⟨_,e⟩
 |rng lo hi=>obtain⟨_,_,_,e⟩:=x;exact⟨_,e⟩
 |frz ob u=>obtain⟨e,_⟩:=x;exact⟨_,e⟩
 |tbl ps=>exact⟨_,show h.get? a=some _ from x⟩
 |met f y=>exact⟨_,show h.get? a=some _ from x⟩
 |ext φ=>obtain⟨_,e,_⟩:=x;exact e
structure Fly(P:Program)(w:World)(outer:List Env)(H:Hp)(h₀:Heap)(H':Hp)(ea:Addr)(cls:Value)(h:Heap)(B:Heap)(t:Addr):Prop where
 un:Un (frs outer) [] H H' h₀ h
 hok:HOk P w H' h
 fl:Heap.FlyingW B outer ea cls (.ref t) h
 old:∀b o,h₀.get? b=some o->b∉frs outer->∃o',B.get? b=some o'
 trk:∀b o,H' b=some o->∃o',B.get? b=some o'
def CX1(P:Program)(w:World):CXT:=λouter H s E e s'=>∃(ea t:Addr) (cls:Value) (H':Hp) (B:Heap),e=.ref ea/\s'.os=s.os/\AllBare s'.gens/\Fly P w outer H s.heap H' ea cls s'.heap B t/\E cls none H'
def sJ(h:env.frame=some L):frs (env::outer)=L::frs outer:=by
 unfold frs
 rw[Pa,h]
section
variable{P:Program}{w:World}{outer:List Env}{H H':Hp}{h₀ h h' B:Heap}{ea t L:Addr}{cls:Value}
def Fly.step(F:Fly P w outer H h₀ H' ea cls h B t)(fl':Heap.FlyingW B outer' ea cls (.ref t) h')(up:h.UpToSlots h'):
 Un (frs outer) [] H H' h₀ h'/\HOk P w H' h':=by
 have st:=F.fl.1
 have same:∀b o,(∃o',B.get? b=some o')->h.get? b=some o->h'.get? b=some o:=λb o ⟨o',e⟩ q=>by
  have z:=st b o' e
  rw[q] at z;cases z
  exact fl'.1 b _ e
 have frame:∀b o,b∈frs outer->h.get? b=some o->∃sl,h'.get? b=some { o with slots:=sl }:=λb o hb q=>by
  obtain⟨_,o',ho',hd⟩:=F.fl.2.2.1.mem hb
  rw[q] at ho';cases ho'
  exact up b o q hd
 refine⟨⟨λb o e n hb hx=>same b o (F.old b o e hb) (F.un.keep b o e n hb hx),λb o e n hb hx=>?_,F.un.free,λb o e hx=>?_,F.un.tups,F.un.frzs,F.un.tbls⟩,λa o e=>?_⟩
 ·obtain⟨sl,q⟩:=F.un.slot b o e n hb hx
  obtain⟨sl',q'⟩:=frame b _ hb q
  exact⟨sl',q'⟩
 ·obtain⟨o',q⟩:=F.un.there b o e hx
  by_cases hb:b∈frs outer
  ·obtain⟨sl,q'⟩:=frame b _ hb q
   exact⟨_,q'⟩
  ·exact⟨o',same b o' (F.old b o e hb) q⟩
 ·refine (F.hok a o e).stay (λb u hb q=>same b u ?_ q) (λ_ q=>q) λ_ _ q=>q
  rcases hb with z |z
  ·rw[z];exact F.trk a o e
  ·exact F.trk b _ z
end
structure Cx.Top(X:Cx):Prop where
 ex:X.ex=[]
 stk:X.stack=X.env::X.outer
 fr:X.env.frame=some X.env.locals
section
variable{X:Cx}{pins:Rb}{σ:St}{H:Hp}{s s':Shared}{E:XK}{e:Value}
def xB(T:X.Top)(hA:A.frames=some X.stack)(I:Inv X pins σ H s)(h:CX1 X.prog X.w X.stack H s E e s'):
 wpAny (model X.prog X.w) A (leaving X.env e) (λ_ s''=>CX1 X.prog X.w X.outer X.H₀ X.s₀ E e s'') E' s':=by
 obtain⟨ea,t,cls,H',B,rfl,os,bare,F,q⟩:=h
 have F0:=F
 rw[T.stk] at F
 have hf:=sJ (outer:=X.outer) T.fr
 refine wpAny_leaves_onW (by rw[hA,T.stk]) T.fr F.fl λh'' fl'' up=>?_
 obtain⟨un2,hok2⟩:=F.step fl'' up
 have exn:∀b,b∉X.ex:=λb z=>by rw[T.ex] at z;cases z
 have neL:∀b o,X.s₀.heap.get? b=some o->b≠X.env.locals:=λb o e=>L_ (B_ (w_ e) I.ok.above)
 have notin:∀b o,X.s₀.heap.get? b=some o->b∉frs X.outer->b∉frs (X.env::X.outer):=λb o e hb z=>by
  rw[hf] at z
  rcases H_.mp z with z |z
  ·exact neL b o e z
  ·exact hb z
 refine⟨ea,t,cls,H',B,rfl,os.trans I.os,bare,⟨⟨λb o e n hb hx=>?_,λb o e n hb hx=>?_,λb o e n hx=>?_,λb o e hx=>?_,λb xs e=>un2.tups b xs (I.base.tups b xs e),λb o xs e=>un2.frzs b o xs (I.base.frzs b o xs e),λb ps e=>?_⟩,hok2,fl'',λb o e hb=>?_,F.trk⟩,q⟩
 ·exact un2.keep b o (I.base.keep b o e n hb (exn b)) (I.base.free b o e n (exn b)) (notin b o e hb) (by simp)
 ·obtain⟨sl,e1⟩:=I.base.slot b o e n hb (exn b)
  obtain⟨sl',e2⟩:=un2.slot b _ e1 (I.base.free b o e n (exn b)) (by rw[hf];exact m_ _ hb) (by simp)
  exact⟨sl',e2⟩
 ·obtain⟨o',e1⟩:=I.base.there b o e (exn b)
  exact un2.free b o' e1 (I.base.free b o e n (exn b)) (by simp)
 ·obtain⟨o',e1⟩:=I.base.there b o e (exn b)
  exact un2.there b o' e1 (by simp)
 ·obtain⟨m1,e1⟩:=I.base.tbls b ps e
  obtain⟨m2,e2⟩:=un2.tbls b _ e1
  exact⟨m1++m2,by rw[e2,Array.append_assoc]⟩
 ·obtain⟨o',e1⟩:=I.base.there b o e (exn b)
  exact F.old b o' e1 (notin b o e hb)
def BY(T:X.Top)(hA:A.frames=some X.stack)(I:Inv X pins σ H s)(hx:Heap.MadeExcOf s.heap h' ea cls args)(q:E cls none H):
 wpAny (model X.prog X.w) A (leaving X.env (.ref ea)) (λ_ s''=>CX1 X.prog X.w X.outer X.H₀ X.s₀ E (.ref ea) s'') E' { s with heap:=h' }:=by
 have hf:=sJ (outer:=X.outer) T.fr
 have stk:=I.stack
 rw[T.stk] at stk
 have hin:∀env∈(X.env::X.outer),∀b,env.frame=some b->b∈frs (X.env::X.outer):=λenv he b hb=>List.mem_filterMap.mpr ⟨env,he,hb⟩
 refine wpAny_leaves_madeW (base:=W.hideAll s.heap (frs (X.env::X.outer))) (h:=s.heap) (by rw[hA,T.stk]) T.fr (λb o q=>W.of_hideAll _ q) (W.funFrames_hide stk hin) hx λh'' t fl tup tn up=>?_
 have inB:∀b o,s.heap.get? b=some o->b∉frs (X.env::X.outer)->(W.hideAll s.heap (frs (X.env::X.outer))).get? b=some o:=λb o e hb=>W.hideAll_get _ e hb
 have free:∀b∈frs (X.env::X.outer),H b=none:=λb hb=>I.stkFree b (by rw[T.stk];exact hb)
 have up2:s.heap.UpToSlots h'':=(Heap.UpToSlots.of_keeps hx.keeps).trans up
 have exn:∀b,b∉X.ex:=λb z=>by rw[T.ex] at z;cases z
 have neL:∀b o,X.s₀.heap.get? b=some o->b≠X.env.locals:=λb o e=>L_ (B_ (w_ e) I.ok.above)
 have notin:∀b o,X.s₀.heap.get? b=some o->b∉frs X.outer->b∉frs (X.env::X.outer):=λb o e hb z=>by
  rw[hf] at z
  rcases H_.mp z with z |z
  ·exact neL b o e z
  ·exact hb z
 have trk:∀b o,H b=some o->∃o',(W.hideAll s.heap (frs (X.env::X.outer))).get? b=some o':=λb o e=>by
  obtain⟨u,hu⟩:=(I.hok b o e).there
  exact⟨u,inB b u hu λz=>by rw[free b z] at e;cases e⟩
 refine⟨ea,t,cls,H,_,rfl,I.os,I.bare,⟨⟨λb o e n hb hx=>?_,λb o e n hb hx=>?_,λb o e n hx=>?_,λb o e hx=>?_,I.base.tups,I.base.frzs,I.base.tbls⟩,λa o e=>?_,fl,λb o e hb=>?_,trk⟩,q⟩
 ·exact fl.1 b o (inB b o (I.base.keep b o e n hb (exn b)) (notin b o e hb))
 ·obtain⟨sl,e1⟩:=I.base.slot b o e n hb (exn b)
  obtain⟨_,o',ho',hd⟩:=I.ok.funs.mem hb
  rw[e] at ho';cases ho'
  obtain⟨sl',e2⟩:=up2 b _ e1 hd
  exact⟨sl',e2⟩
 ·exact I.base.free b o e n (exn b)
 ·obtain⟨o',e1⟩:=I.base.there b o e (exn b)
  by_cases hb:b∈frs X.outer
  ·obtain⟨_,o2,ho2,hd⟩:=I.funs.mem hb
   rw[e1] at ho2;cases ho2
   obtain⟨sl',e2⟩:=up2 b _ e1 hd
   exact⟨_,e2⟩
  ·exact⟨o',fl.1 b o' (inB b o' e1 (notin b o e hb))⟩
 ·refine (I.hok a o e).stay (λb u hb q=>?_) (λ_ q=>q) λ_ _ q=>q
  refine fl.1 b u (inB b u q λz=>?_)
  rcases hb with y |y
  ·rw[y] at z;rw[free a z] at e;cases e
  ·rw[free b z] at y;cases y
 ·obtain⟨o',e1⟩:=I.base.there b o e (exn b)
  exact⟨o',inB b o' e1 (notin b o e hb)⟩
def qh{h6:Heap}{ea t:Addr}{C:Addr}{H':Hp}{B:Heap}{g':Shared}(T:X.Top)(I:Inv X pins σ H s)(F:Fly X.prog X.w X.stack H s.heap H' ea (.ref C) s'.heap B t)(os:s'.os=s.os)(bare:AllBare s'.gens)
 (fl6:Heap.FlyingW B X.stack ea (.ref C) (.ref t) h6) (up:s'.heap.UpToSlots h6):
 H' ea=none/\Inv X pins σ (upd H' ea (.ext (nX ea C))) { s' with heap:=h6 }:=by
 obtain⟨un2,hok2⟩:=F.step fl6 up
 obtain⟨oe,vs,he,hc,hd,_⟩:=fl6.first
 have hB:B.get? ea=none:=fl6.2.1
 have hn:H' ea=none:=by
  cases q:H' ea with
  |none=>rfl
  |
   some o=>
   obtain⟨o',z⟩:=F.trk ea o q
   rw[hB] at z;cases z
 have hnf:ea∉frs X.stack:=λz=>by
  obtain⟨_,o,ho,hdd⟩:=fl6.2.2.1.mem z
  rw[he] at ho;cases ho
  exact hdd vs hd
 have hs:s.heap.get? ea=none:=by
  cases q:s.heap.get? ea with
  |none=>rfl
  |
   some o=>
   obtain⟨o',z⟩:=F.old ea o q hnf
   rw[hB] at z;cases z
 have I5:Inv X pins σ H' { s' with heap:=h6 }:=I.call' (s':={ s' with heap:=h6 }) (ch:=[]) os un2 hok2 bare λb hb=>nomatch hb
 refine⟨hn,I5.track hn ?_ ?_ (λx c e z=>?_) (λp hp z=>?_) ⟨⟨oe,vs,he,hc,hd⟩,⟨oe,he⟩,λh1 h2 ⟨o1,v1,e1,r⟩ k=>⟨o1,v1,k o1 e1,r⟩⟩⟩
 ·cases q:X.s₀.heap.get? ea with
  |none=>rfl
  |
   some o=>
   obtain⟨o',z⟩:=I.base.there ea o q (by rw[T.ex];simp)
   rw[hs] at z;cases z
 ·intro z
  obtain⟨m,⟨o,es,ep,ho,hdd,_⟩,_⟩:=I.loc
  rw[<- z,hs] at ho;cases ho
 ·obtain⟨v,o,ho,_⟩:=I.cell x c e
  rw[z,hs] at ho;cases ho
 ·have:=(I.pin p hp).1
  rw[z,hs] at this;cases this
end
section
variable{P:Program}{w:World}{K:W.Frag}{mg:Ra}{base:Heap}{N:List Str}{qual:Str}{scope:Scope}{f:Addr}{cd:Value}{A:Around}{outer:List Env}{s:Shared}{H:Hp}{E:XK}
def vK:(dD (CX1 P w) P w K mg base N qual scope f cd A outer s H E).Top:=⟨rfl,rfl,rfl⟩
def M9:sf (CX1 P w) (dD (CX1 P w) P w K mg base N qual scope f cd A outer s H E) E:=λpins σ H s e s' I h=>xB vK I.ok.frames I h
def M4:sf (CX1 P w) X E0:=λpins σ H s e s' I ⟨_,_,_,_,_,_,_,_,_,q⟩=>q.elim
def own1:PassesOwn (model P w) (dD (CX1 P w) P w K mg base N qual scope f cd A outer s H E).A (dD (CX1 P w) P w K mg base N qual scope f cd A outer s H E).env (dD (CX1 P w) P w K mg base N qual scope f cd A outer s H E).xe:=PassesOwn.leaving
def Rz(X:Cx)(E:XK):Prop:=∀(pins:Rb) (σ:St) (H:Hp) (s:Shared) (h':Heap) (ea:Addr) (cls:Value) (args:List Value),Inv X pins σ H s->Heap.MadeExcOf s.heap h' ea cls args->E cls none H->X.xe (.ref ea) { s with heap:=h' }
def rz1:Rz (dD (CX1 P w) P w K mg base N qual scope f cd A outer s H E) E:=λpins σ H s h' ea cls args I hx q=>BY vK I.ok.frames I hx q
def Fun.okR{x qual:Str}{st:Stmt}{f:Addr}{fd:FuncData}{N ps:List Str}{k:Nat}{sp:Sp}(F:Fun K x qual st f fd)(S:FnScope N ps (ao st))(len:∀vs H Q E,sp vs H Q E->vs.length=ps.length)
 (f_:∀(cdv:Value) (A:Around) (outer:List Env) (s:Shared) (H:Hp) (vs:List V) (Q:VK) (E:XK),Room k (A.deeper (envOfC qual (ao st) s.heap.objs.size f cdv))->sp vs H Q E->
  ∃t,PSs (dD (CX1 P w) P w K mg base N qual (ao st) f cdv A outer s H E) (aX st) t/\t { nx:=λ_ H'=>Q .non H',rt:=Q } (fg N vs) H):FnOk P w K mg base (CX1 P w) (k+1) f fd ps sp:=by
 obtain⟨oc,od,kV,doc,pm,an,cdv,ct,osl,rfl,lk,hcd⟩:=F.ex
 exact Mi lk hcd S len λA outer s H vs Q E hr hsp=>f_ cdv A outer s H vs Q E hr hsp
end
abbrev lA:List Value:=[.type "ValueError",.type "Exception",.type "BaseException",.type "object"]
def yR{K:W.Frag}{h:Heap}{C:Addr}(X:K.In h)(q:W.excIn K C lA "ValueError.__new__"=true):
 ∃bm N nm q' bs hdct sn sub ab col dd k0 k1 k2 k3 k5 mN,h.get? C=some (excClassObj nm q' C N bs bm hdct sn sub ab col dd k0 k1 k2 k3 k5 "ValueError.__new__")/\h.Ns N mN/\mN "__init__"=none/\OwnTail h lA bm:=by
 unfold W.excIn at q
 split at q
 ·rename_i dd cd sl ho
  split at q
  ·rename_i C' bm k0 k1 k2 k3 n k5 hm hs
   simp only[n_,Ow,Bool.not_eq_true'] at q
   obtain⟨⟨⟨⟨⟨rfl,rfl⟩,hdel⟩,ht⟩,hok⟩,hni⟩:=q
   obtain⟨nm,bs,mro,ns,qn,hd,sn,sub,ab,col,del⟩:=cd
   dsimp only at hm hdel hok hni
   subst hm hdel
   have hsl:sl=#[k0,k1,k2,k3,some (.builtin "ValueError.__new__"),k5]:=by
    obtain⟨l⟩:=sl
    simp only at hs
    rw[hs]
   subst hsl
   exact⟨bm,ns,nm,qn,bs,hd,sn,sub,ab,col,dd,k0,k1,k2,k3,k5,_,X _ _ ho,.of_isNs (W.isNs_of_in X hok),W.nsMap_none_of_in X hok hni,W.tail_of_in X ht⟩
  ·cases q
 ·cases q
section
variable{X:Cx}{x:Str}{C:Addr}{E:XK}{np cpos pos:Pos}{e₀:Expr}{es:List Expr}{ta:TA}
def Kp(C:Addr)(E:XK)(ta:TA):TS:=λ_ σ H=>ta σ H λvs H1=>vs.length<=sizeLine/\E (.ref C) none H1
def Bb(hc:X.calm=true)(hR:Rz X E)(hg:Gl X x)(hm:X.mg x=some (.ref C))(hq:W.excIn X.K C lA "ValueError.__new__"=true)(ha:PA X (e₀::es) ta)
 (he:starEach (e₀::es) X.env=(false,eval e₀ X.env)::starEach es X.env) (bn:(backTo cpos (starEach es X.env)).any (·.1)=false) (hd:(x==("__debug__" : Str))=false):
 PS X (.Raise (some (.Call (.Name x np) (e₀::es) [] cpos)) none pos) (Kp C E ta):=by
 intro pins s σ H D I h
 obtain⟨bm,N,nm,q',bs,hdct,sn,sub,ab,col,dd,k0,k1,k2,k3,k5,mN,hC,hN,hni,T⟩:=yR I.ok.mod.kin hq
 refine wpAny_Raise_call_subT (C:=C) (nm:=nm) (q:=q') (N:=N) (bs:=bs) (bm:=bm) (hdct:=hdct) (sn:=sn) (sub:=sub) (ab:=ab) (col:=col) (dd:=dd) (k0:=k0) (k1:=k1) (k2:=k2) (k3:=k3) (k5:=k5)
  PySem.F.excBase_ValueError (mN:=mN) (T.hasType PySem.F.excBase_ValueError.hasBase) (I.ok.hd hc) (by rw[he];show (false || (backTo cpos (starEach es X.env)).any (·.1))=false;rw[bn];rfl) hni (nS I hg hm ⟨rfl,?_⟩ hd)
 have hA:=ha cpos pins s σ H _ I h
 rw[he] at hA ⊢
 refine Calls.evalArgs_plain (thn hA λus s2 ⟨vs,H2,I2,r2,hz,q2⟩=>⟨rfl,by rw[<- r2.length];exact hz,I2.bk _ _ hC,hN.keeps I2.bk,T.keeps I2.bk,λh' e hm'=>?_⟩)
 exact hR pins σ H2 s2 h' e _ _ I2 hm' q2
end
abbrev XS:=St->XK
abbrev TEx:=St->Hp->VK->XK->Prop
abbrev TSx:=Ends->XS->St->Hp->Prop
def XP(X:Cx)(pins:Rb)(E:XS)(e:Value)(s':Shared):Prop:=∃σ1 H1 s1,Inv X pins σ1 H1 s1/\CX1 X.prog X.w X.stack H1 s1 (E σ1) e s'
def PEx(X:Cx)(e:Expr)(t:TEx):Prop:=
 ∀(pins:Rb) (s:Shared) (σ:St) (H:Hp) (Q:VK) (E:XS),Inv X pins σ H s->t σ H Q (E σ)->wpAny (model X.prog X.w) X.A (eval e X.env) (EP X pins σ Q) (XP X pins E) s
def PSsx(X:Cx)(st:List Stmt)(t:TSx):Prop:=
 ∀(pins:Rb) (s:Shared) (σ:St) (H:Hp) (D:Ends) (E:XS),Inv X pins σ H s->t D E σ H->wpAny (model X.prog X.w) X.A (execs st X.env) (SP X pins D) (XP X pins E) s
section
variable{X:Cx}{st:Stmt}{bp:List Stmt}{t u:TSx}{e:Expr}{es:List Expr}{te:TEx}{pos p:Pos}{x:Str}{f:Addr}{fd:FuncData}{ps:List Str}{sp:Sp}{k:Nat}{ta:TA}{dvs:List V}{ds:List Value}
end
noncomputable def gw(X:Cx)(ea:Addr):Cx:={ X with A:=X.A.mark (some (.ref ea)),calm:=false,xe:=λ_ _=>False }
section
variable{X:Cx}{pins:Rb}{σ:St}{H:Hp}{s:Shared}{ea:Addr}
def Inv.suite(I:Inv X pins σ H s):Inv (gw X ea) pins σ H s:=
 ⟨⟨I.ok.mod,I.ok.kind,I.ok.glob,I.ok.blt,I.ok.above,I.ok.inj,I.ok.has,I.ok.cab,λz=>absurd z r_,I.ok.frames,I.ok.stk,I.ok.exf,I.ok.bs,I.ok.bsz,I.ok.noex,I.ok.exfs,I.ok.funs,I.ok.frf⟩,I.os,I.bare,I.base,I.loc,I.cell,I.free,I.freeC,I.pin,I.hok,I.len⟩
def Inv.unsuite(ok:X.Ok)(I:Inv (gw X ea) pins σ H s):Inv X pins σ H s:=
 ⟨ok,I.os,I.bare,I.base,I.loc,I.cell,I.free,I.freeC,I.pin,I.hok,I.len⟩
def wJ{M:Model}{A:Around}{E:Rg}{K:W.Frag}{C Ce:Addr}{o:Obj}{Q:Bool->Shared->Prop}(KX:K.In s.heap)(he:s.heap.get? ea=some o)(hc:o.cls=.ref Ce)
 (hty:W.typeIn K (.ref C)=some (.type "type")) (hcl:(W.clsIn K C).isSome=true) (hb:W.mroIn K C (.type "BaseException")=some true) (hm:W.mroIn K Ce (.ref C)=some true) (q:Q true s):
 wpAny M A (excMatches (.ref ea) (.ref C)) Q E s:=by
 obtain⟨h,g,d,tk,os⟩:=s
 have L0:=gH (M:=M) he hc
 have L1:=W.looks_typeIn (M:=M) KX hty
 have L2:=W.looks_mroIn (M:=M) KX hb
 have L3:=W.looks_mroIn (M:=M) KX hm
 have L4:W.Looks M h (isType (.ref C)) true:=by
  obtain⟨cd,hcd⟩:=OH.mp hcl
  unfold W.clsIn at hcd
  split at hcd
  ·rename_i c' d' cd' sl' ho
   intro A' Q' E' s' k q
   unfold isType loadHead
   exact i_ (wpAny_loadPart (k _ _ (KX _ _ ho)) (u_ q))
  ·cases hcd
 have LT:W.Looks M h (isInstance (.ref C) (.type "tuple")) false:=L1.andThen (W.Looks.of_pure tc_notTuple)
 have LE:W.Looks M h (isExcClass (.ref C)) true:=by
  unfold isExcClass
  exact L4.andThen L2
 unfold excMatches
 refine i_ (LT.at ?_)
 rw[if_neg r_]
 refine i_ (u_ ?_)
 dsimp only
 refine i_ ?_
 rw[PH]
 refine i_ (i_ (LE.at ?_))
 simp only[Bool.not_true,OT,PM]
 refine u_ ?_
 dsimp only
 rw[Qj]
 refine u_ ?_
 refine i_ (L0.at (i_ ?_))
 rw[PH]
 refine i_ (i_ (L3.at ?_))
 simp only[O4]
 exact u_ (u_ (u_ q))
def Inv.unbind(I:Inv X pins σ H s)(hN:X.N.Nodup)(hi:X.N[i]?=some n)(hl:X.env.kindOf n=some .local)
 (hm:∀(i:Nat) (x:Str) (v:V),X.N[i]?=some x->σ[i]?=some (some v)->Vis X.env.scope x->∃u,RelV v u/\BL X.env s.heap m x u) (hn:s.heap.Ns X.env.locals m)
 (hn':h'.Ns X.env.locals (λx=>if x=n then v else m x)) (hs:Heap.SameBut X.env.locals s.heap h'):Inv X pins (σ.set i none) H { s with heap:=h',toks:=tk }:=by
 have cne:=I.cne
 have neL:∀b o,X.s₀.heap.get? b=some o->b≠X.env.locals:=λb o e=>L_ (B_ (w_ e) I.ok.above)
 refine⟨I.ok,I.os,I.bare,⟨λb o e n hb hx=>?_,λb o e n hb hx=>?_,I.base.free,λb o e hx=>?_,I.base.tups,I.base.frzs,I.base.tbls⟩,⟨_,hn',λj y v' e1 e2 e3=>?_⟩,λy c e=>?_,I.free,I.freeC,λp hp=>?_,λb ob e=>?_,by simpa using I.len⟩
 ·exact (hs.2 b (neL b o e)).trans (I.base.keep b o e n hb hx)
 ·obtain⟨sl,e1⟩:=I.base.slot b o e n hb hx
  exact⟨sl,(hs.2 b (neL b o e)).trans e1⟩
 ·obtain⟨o',e1⟩:=I.base.there b o e hx
  exact⟨o',(hs.2 b (neL b o e)).trans e1⟩
 ·by_cases hj:j=i
  ·subst hj
   have hiσ:j<σ.length:=by rw[I.len];exact (k_.mp hi).1
   rw[Qn hiσ] at e2
   cases e2
  ·rw[Pu (Ne.symm hj)] at e2
   obtain⟨u',r',q⟩:=hm j y v' e1 e2 e3
   refine⟨u',r',?_⟩
   rcases q with ⟨k,e⟩ |⟨k,c,e,z⟩
   ·refine .inl ⟨k,?_⟩
    have:y≠n:=λe=>hj (lM hN e1 (e ▸ hi))
    simp [this,e]
   ·exact .inr ⟨k,c,e,z.sameBut hs (cne y c e)⟩
 ·obtain⟨w',z⟩:=I.cell y c e
  exact⟨w',z.sameBut hs (cne y c e)⟩
 ·obtain⟨e,n,ne,nf,d⟩:=I.pin p hp
  exact⟨(hs.2 p.1 ne).trans e,n,ne,nf,d⟩
 ·refine (I.hok b ob e).stay (λc w' hc q=>(hs.2 c ?_).trans q) (λ_ q=>q) λ_ _ q=>q
  rintro rfl
  rcases hc with z |hc
  ·rw[<- z,I.free] at e;cases e
  ·rw[I.free] at hc;cases hc
def zU(I:Inv X pins σ H s)(hg:Gl X x)(hm:X.mg x=some u)(h:Q u s)
 (hd:(x==("__debug__" : Str))=false):wpAny (model X.prog X.w) A (eval (.Name x pos) X.env) Q E s:=
 P7 I.ok.kind hg (Calls.loadGlobal_global (by rw[I.ok.glob];exact I.mod.glob.keeps I.bk) hm h) hd
end
structure XHand(K:W.Frag)(C:Addr):Prop where
 ty:W.typeIn K (.ref C)=some (.type "type")
 cls:(W.clsIn K C).isSome=true
 mb:W.mroIn K C (.type "BaseException")=some true
noncomputable def Cq(i:Nat)(D:Ends):Ends:={ nx:=λσ H=>D.nx (σ.set i none) H,rt:=D.rt,bk:=λσ H=>D.bk (σ.set i none) H,ct:=λσ H=>D.ct (σ.set i none) H }
def tTry(K:W.Frag)(C:Addr)(i:Nat)(tb:TSx)(ts:TS):TS:=λD σ H=>
 tb D (λσ1 cls _ H1=>∃Ce,cls=.ref Ce/\W.mroIn K Ce (.ref C)=some true/\∀ea,H1 ea=none->ts (Cq i D) (σ1.set i (some (.ref ea))) (upd H1 ea (.ext (nX ea Ce)))) σ H
section
variable{X:Cx}{x n:Str}{C:Addr}{i:Nat}{body suite:List Stmt}{b₀:Stmt}{tb:TSx}{ts:TS}{np hpos pos:Pos}
def GG(T:X.Top)(hN:X.N.Nodup)(hi:X.N[i]?=some n)(hl:X.env.kindOf n=some .local)(hg:Gl X x)(hm:X.mg x=some (.ref C))(hh:XHand X.K C)(hb:PSsx X body tb)(hs:∀ea,PSs (gw X ea) (b₀::suite) ts)
 (hd:(x==("__debug__" : Str))=false):PS X (.Try body [.ExceptHandler (some (.Name x np)) (some n) (b₀::suite) hpos] [] [] pos) (tTry X.K C i tb ts):=by
 intro pins s σ H D I h
 refine wpAny_Try_except (Ox (hb pins s σ H D _ I h) (λf s1 q=>?_) λe s1 hx=>?_)
 ·cases f with
  |next=>exact Qc q
  |ret v=>exact q
  |brk=>exact q
  |cont=>exact q
 ·obtain⟨σ1,H1,s0,I1,ea,t,cls,H',B,rfl,os,bare,F,Ce,rfl,hme,q⟩:=hx
  have F1:=F.fl
  rw[T.stk] at F1
  have hfr:X.A.frames=some (X.env::X.outer):=by rw[I1.ok.frames,T.stk]
  refine wpAny_looks_onW hfr T.fr F1 λh4 held4 up4=>?_
  refine wpAny_landsW held4 λh5 fl5 up5=>?_
  have fl5':=fl5
  rw[<- T.stk] at fl5'
  obtain⟨hn5,I5⟩:=qh (g':=s1) T I1 F os bare fl5' (up4.trans up5)
  obtain⟨o5,he5,hc5⟩:=fl5.there
  refine wpAny_handleBy_cons (codeAny_handlers_test (zU I5 hg hm ?_ hd)) (by intro q;cases q)
  refine wJ I5.kIn he5 hc5 hh.ty hh.cls hh.mb hme ?_
  refine codeAny_handlers_suite_as ?_
  refine lands_againW fl5 λh6 fl6 up6=>?_
  have fl6':=fl6
  rw[<- T.stk] at fl6'
  obtain⟨hn6,I6⟩:=qh (g':=s1) T I1 F os bare fl6' ((up4.trans up5).trans up6)
  refine fH (v:=.ref ea) I6 hN hi (.inl hl) rfl (λs7 I7=>?_) (.inr hl)
  refine Ox (hs ea pins s7 _ _ (Cq i D) I7.suite (q ea hn6)) (λf s8 h8=>?_) λ_ _ z=>False.elim z
  have go:∀{σ8:St}{H8:Hp},Inv (gw X ea) pins σ8 H8 s8->(∀s9,Inv X pins (σ8.set i none) H8 s9->SP X pins D f s9)->
   wpAny (model X.prog X.w) X.A (do bindName X.env n .none;unbindBehindTheSuite X.env n hpos) (λ_ s9=>SP X pins D f s9) X.xe s8:=λ{σ8 H8} I8' k=>by
   have I8:=I8'.unsuite I.ok
   obtain⟨m,hn,hm⟩:=I8.loc
   exact wpAny_nameGoes_keeps hl hn (by rw[I8.ok.kind];rfl) λh' v hn' hs'=>k _ (I8.unbind hN hi hl hm hn hn' hs')
  cases f with
  |next=>obtain⟨σ8,H8,I8,q8⟩:=h8;exact go I8 λs9 I9=>⟨_,_,I9,q8⟩
  |brk=>obtain⟨σ8,H8,I8,q8⟩:=h8;exact go I8 λs9 I9=>⟨_,_,I9,q8⟩
  |cont=>obtain⟨σ8,H8,I8,q8⟩:=h8;exact go I8 λs9 I9=>⟨_,_,I9,q8⟩
  |ret u=>obtain⟨v,σ8,H8,I8,r8,q8⟩:=h8;exact go I8 λs9 I9=>⟨v,_,_,I9,r8,q8⟩
end
mutual
inductive Rep(K:W.Frag)(H:Hp):V->PyData->Prop where
 |non:Rep K H .non .none
 |bl (b:Bool):Rep K H (.bl b) (.bool b)
 |int (i:Int):Rep K H (.int i) (.int i)
 |str (x:Str):Rep K H (.str x) (.str x)
 |tup {a:Addr}{xs:List V}{ds:List PyData} (h:SqT K H a xs) (r:Reps K H xs ds):Rep K H (.ref a) (.tuple ds)
 |lst {a:Addr}{xs:List V}{ds:List PyData} (h:SqL K H a xs) (r:Reps K H xs ds):Rep K H (.ref a) (.list ds)
inductive Reps(K:W.Frag)(H:Hp):List V->List PyData->Prop where
 |nil:Reps K H [] []
 |cons {x:V}{d:PyData}{xs:List V}{ds:List PyData} (r:Rep K H x d) (rr:Reps K H xs ds):Reps K H (x::xs) (d::ds)
end
section
variable{X:Cx}{pins:Rb}{σ:St}{H H':Hp}{s:Shared}{K:W.Frag}
def Rep.reads(I:Inv X pins σ H s)(r:Rep X.K H v d)(q:RelV v u):∃as,Reads s.heap u d as:=
 Rep.rec (motive_1:=λv d _=>∀u,RelV v u->∃as,Reads s.heap u d as) (motive_2:=λvs ds _=>∀us,Vals vs us->∃as,ReadsAll s.heap us ds as)
  (λu r=>by cases r;exact⟨_,.none⟩) (λb u r=>by cases r;exact⟨_,.bool b⟩) (λi u r=>by obtain⟨t,rfl⟩:=r;exact⟨_,.int i t⟩) (λx u r=>by obtain⟨t,rfl⟩:=r;exact⟨_,.str x t⟩)
  (λh _ ih u r=>by
   cases r
   obtain⟨its,rv,⟨o,e,c,n,d⟩,_⟩:=I.tuple h
   obtain⟨as,q⟩:=ih _ rv
   exact⟨as,.tuple e c d (by simpa using q)⟩)
  (λh _ ih u r=>by
   cases r
   obtain⟨its,rv,⟨o,n,e,c,_,d⟩,_⟩:=I.list h
   obtain⟨as,q⟩:=ih _ rv
   exact⟨_,.list e c d (by simpa using q)⟩)
  (λus r=>by cases r;exact⟨_,.nil⟩)
  (λ_ _ a b us q=>by
   cases q with
   |
    cons q1 q2=>
    obtain⟨as,h1⟩:=a _ q1
    obtain⟨bs,h2⟩:=b _ q2
    exact⟨_,.cons h1 h2⟩) r u q
end
section
variable{X:Cx}
noncomputable def shp(d:PyData):Bool:=d.canLay0&&decide (d.depth<=160)
def fm(h:shp d=true):d.canLay0=true:=(Bool.and_eq_true_iff.mp h).1
def lg{A:Around}{d e:PyData}(h:shp d=true)(hu:A.units+180<cLine):A.units+min d.depth e.depth<cLine:=by
 have h1:d.depth<=160:=Om (Bool.and_eq_true_iff.mp h).2
 have h2:min d.depth e.depth<=d.depth:=Nat.min_le_left _ _
 omega
def uV(K:W.Frag):R2:=λx y H Q=>∃dx dy,Rep K H x dx/\Rep K H y dy/\shp dx=true/\shp dy=true/\Q (.bl (PyData.eqv dx dy)) H
def vS(K:W.Frag):R2:=λx y H Q=>∃dx dy,Rep K H x dx/\Rep K H y dy/\shp dx=true/\shp dy=true/\Q (.bl (!PyData.eqv dx dy)) H
def Kt(hu:X.A.units+180<cLine):OpR X (compareOp .Eq) (uV X.K):=by
 intro pins s σ H x y v u Q I rx ry h
 obtain⟨dx,dy,r1,r2,h1,h2,q⟩:=h
 obtain⟨as,q1⟩:=r1.reads I rx
 obtain⟨bs,q2⟩:=r2.reads I ry
 exact SeqAt.compareEq_reads q1 q2 (fm h1) (fm h2) (lg h1 hu) (iV I q rfl)
def IQ(hu:X.A.units+180<cLine):OpR X (compareOp .NotEq) (vS X.K):=by
 intro pins s σ H x y v u Q I rx ry h
 obtain⟨dx,dy,r1,r2,h1,h2,q⟩:=h
 obtain⟨as,q1⟩:=r1.reads I rx
 obtain⟨bs,q2⟩:=r2.reads I ry
 exact SeqAt.compareNe_reads q1 q2 (fm h1) (fm h2) (lg h1 hu) (iV I q rfl)
open PySem.Builtin.Int (intBits)
def CDivB(i j:Int):Prop:=j≠0/\intBits j<=8000
def CI(i j:Int):Prop:=intBits i<=100000/\intBits j<=100000
def Az:OpR X (binaryOp .FloorDiv) (rI CDivB λi j=>.int (i.fdiv j)):=opI λi j _ _ _ _ _ hc q=>floordiv_int hc.1 q (.inl (PyProof.noPylong_of_log2 (by
 have h:=hc.2
 have h0:=hc.1
 unfold intBits at h
 have hb:(j==0)=false:=by simpa using h0
 rw[hb] at h
 simp only[OT,PM] at h
 omega)))
def Dy:OpR X (binaryOp .Mult) (rI CI λi j=>.int (i*j)):=opI λi j _ _ _ _ _ hc q=>mul_int q (PySem.IntMulOk.of_le hc.1 hc.2 (by decide))
def yF(bs:List Bool):((List.range bs.length).all λi=>bs.getD i false)=bs.all id:=by
 rw[Pl,N_,N_]
 constructor
 ·intro h x hx
  obtain⟨i,hi,rfl⟩:=List.mem_iff_getElem.mp hx
  have:=h i (Pe.mpr hi)
  simpa [O2,hi] using this
 ·intro h i hi
  have hi':=Pe.mp hi
  have:=h bs[i] (Qq hi')
  simpa [O2,hi'] using this
def BD(hc:X.calm=true):CallR X (.builtin "all") (λxs H Q=>∃(a:Addr) (bs:List Bool),xs=[.ref a]/\SqL X.K H a (bs.map V.bl)/\Q (.bl (bs.all id)) H):=by
 intro pins s σ H xs us Q I r h
 obtain⟨a,bs,rfl,hq,q⟩:=h
 obtain⟨u,rfl,ru⟩:=fb r
 cases ru
 obtain⟨its,rv,p,hz⟩:=I.list hq
 have hl:=rv.length
 rw[j_] at hl
 have hlt:a<s.heap.objs.size:=by obtain⟨o,n,e,_⟩:=p;exact w_ e
 refine call_all_walk (Ql p.isList ?_)
 refine⟨s.heap.objs.size,_,_,_,_,_,λi=>bs.getD i false,rfl,Walks.list (A:=X.A.in1) (I.ok.hd hc) s.heap.objs.size a (L_ hlt) its.toArray,⟨⟨_,Em _ rfl,rfl,rfl⟩,(p.keeps λb o e=>v_ _ e).isList⟩,λi v s' Q' E' hP hQ=>?_,λh' tk hk=>?_⟩
 ·have hP':its[i]?=some v:=by simpa using hP
  have hi:i<bs.length:=by rw[hl];exact (k_.mp hP').1
  have hb:(bs.map V.bl)[i]?=some (V.bl bs[i]):=by simp [hi]
  obtain⟨u,hu,ru⟩:=rv.get hb
  rw[hP'] at hu
  cases hu
  cases ru
  refine Pt ?_
  have e:bs.getD i false=bs[i]:=by simp [O2,hi]
  show Q' bs[i] s'
  rw[<- e]
  exact hQ
 ·have e1:its.toArray.size=bs.length:=by rw[t_,hl]
  rw[e1,yF]
  have hn:H s.heap.objs.size=none:=I.fresh
  have I1:Inv X pins σ H { s with heap:=s.heap.push { cls:=.type "list_iterator",dict:=none,data:=.fields #[.ref a,rawInt 0] } }:=I.kept (t':=s.toks) λb o e=>v_ _ e
  refine⟨.bl _,H,?_,rfl,q⟩
  refine I.kept (t':=tk) λb o e=>?_
  have hne:b≠s.heap.objs.size:=L_ (w_ e)
  exact hk b o (by simpa using hne) (v_ _ e)
end
structure Def(K:W.Frag)(mg:Ra)(x:Str)(st:Stmt):Prop where
 ex:∃f fd,Fun K x x st f fd/\mg x=some (.ref f)
def yn{K:W.Frag}{h:Heap}{mg:Ra}{x:Str}{st:Stmt}{f:Addr}{oc:Value}{od an:Option Addr}{osl:Array (Option Value)}{kV doc pm cdv ct:Value}(X:K.In h)(G:h.Ns mainGlobals mg)
 (a:W.nsIn K mainGlobals x=some (some (.ref f))) (l:K.lookup f=some ⟨oc,od,.func (W.fnOf x x (cB st) (aX st) (ao st) .none kV doc pm an cdv ct),osl⟩)
 (c:W.codeIn K cdv x=true) (k:W.keepIn K (.ref f)=true):Def K mg x st:=⟨f,_,KZ l c k,W.mg_of X G a⟩
def Fun.look{K:W.Frag}{x qual:Str}{st:Stmt}{f:Addr}{fd:FuncData}(F:Fun K x qual st f fd):∃oc od osl,K.lookup f=some ⟨oc,od,.func fd,osl⟩:=by
 obtain⟨oc,od,kV,doc,pm,an,cdv,ct,osl,rfl,lk,hcd⟩:=F.ex
 exact⟨oc,od,osl,lk⟩
structure Callee(P:Program)(w:World)(K:W.Frag)(mg:Ra)(base:Heap)(x:Str)(k:Nat)(ps:List Str)(sp:Sp):Prop where
 ex:∃f fd,FnOk P w K mg base (CX1 P w) k f fd ps sp/\mg x=some (.ref f)/\W.keepIn K (.ref f)=true/\Binds K fd ps []/\∃oc od osl,K.lookup f=some ⟨oc,od,.func fd,osl⟩
section
variable{P:Program}{w:World}{K:W.Frag}{mg:Ra}{base:Heap}{x:Str}{st:Stmt}{k:Nat}{ps N:List Str}{sp:Sp}
def Callee.imp(C:Callee P w K mg base x k ps sp)(h:∀vs H Q E,sp' vs H Q E->sp vs H Q E):Callee P w K mg base x k ps sp':=by
 obtain⟨f,fd,F,r⟩:=C.ex
 exact⟨f,fd,F.imp h,r⟩
def Def.okR(D:Def K mg x st)(S:FnScope N ps (ao st))
 (hb:∀(kV doc pm:Value) (an:Option Addr) (cdv ct:Value) (us:List Value),us.length=ps.length->bindArgs (W.fnOf x x (cB st) (aX st) (ao st) .none kV doc pm an cdv ct) ⟨us,[]⟩=pure (ps.zip us))
 (len:∀vs H Q E,sp vs H Q E->vs.length=ps.length)
 (f_:∀(f:Addr) (cdv:Value) (A:Around) (outer:List Env) (s:Shared) (H:Hp) (vs:List V) (Q:VK) (E:XK),Room k (A.deeper (envOfC x (ao st) s.heap.objs.size f cdv))->sp vs H Q E->
  ∃t,PSs (dD (CX1 P w) P w K mg base N x (ao st) f cdv A outer s H E) (aX st) t/\t { nx:=λ_ H'=>Q .non H',rt:=Q } (fg N vs) H):Callee P w K mg base x (k+1) ps sp:=by
 obtain⟨f,fd,F,m⟩:=D.ex
 exact⟨f,fd,F.okR S len (f_ f),m,F.kp,F.binds hb,F.look⟩
end
section
variable{X:Cx}{x:Str}{p pos:Pos}{e:Expr}{es:List Expr}{ta:TA}{k:Nat}{ps:List Str}{sp:Sp}{E:XK}
end
section
variable{X:Cx}{K:W.Frag}{tg l:Expr}{tl:TE}
def allK(h:X.K=K)(hc:X.calm=true):CallR X (.builtin "all") (λxs H Q=>∃(a:Addr) (bs:List Bool),xs=[.ref a]/\SqL K H a (bs.map V.bl)/\Q (.bl (bs.all id)) H):=by subst h;exact BD hc
def Room.u180(r:Room k A):A.units+180<cLine:=by have:=r.un;omega
def zW(h:X.K=K)(hu:X.A.units+180<cLine):OpR X (compareOp .Eq) (uV K):=by subst h;exact Kt hu
def neDK(h:X.K=K)(hu:X.A.units+180<cLine):OpR X (compareOp .NotEq) (vS K):=by subst h;exact IQ hu
def inK(h:X.K=K):OpR X (compareOp .In) (rIn K false):=by subst h;exact xM
def FY(h:X.K=K):OpR X (compareOp .NotIn) (rIn K true):=by subst h;exact sT
end
section
variable{X:Cx}
def Gn{ge am tg:Expr}{ifs:List Expr}{scope:Scope}{pos:Pos}{wi:TI}{g:TG}{tc:TT}{te:TE}{N:List Str}{sub:Rh}{iT:Nat}{xT:Str}{px spos:Pos}
 (hc:X.calm=true) (hN:X.N.Nodup) (hix:X.N[iT]?=some xT) (hxl:Loc X.env.scope xT) (hi:PI X tg am wi)
 (hk:scope.kind=.function) (hnc:∀x∈scope.names,x.2 ≠ .cell) (be:∀x∈scope.names,x.2=.local->scope.names.lookup x.1=some .local)
 (hfr:∀x∈scope.names,x.2=.free->X.env.kindOf x.1=some .cell\/X.env.kindOf x.1=some .free)
 (hsl:sub.length=N.length) (d_:∀(j i:Nat) (x:Str),sub[j]?=some (some i)->N[j]?=some x->X.N[i]?=some x/\scope.names.lookup x=some .free)
 (hg:∀cl C s₂ H fp,PG (aQ X N scope cl C s₂ H fp) tg g) (ht:∀cl C s₂ H fp,PTs (aQ X N scope cl C s₂ H fp) ifs tc) (he:∀cl C s₂ H fp,PE (aQ X N scope cl C s₂ H fp) ge te)
 (hsw:swapsWith (.ListComp ge [⟨tg,am,ifs,0⟩] scope pos) (some (.Name xT px)) spos.line X.env=pure true)
 (hs:∀x,foldedSetIterable am X.env x=pure x) (hf:X.fn xT=true\/X.env.scope.names.lookup xT=some .local):
 PS X (.Assign [.Name xT px] (.ListComp ge [⟨tg,am,ifs,0⟩] scope pos) spos) (pQ (jl wi sub g tc te) (mD iT)):=by
 intro pins s σ H D0 I h
 rw[exec_Assign_Name_used _ _ _ _ hsw]
 refine i_ (QL (i_ ?_))
 show wpAny _ X.A (do let _ <- comprehension (.ListComp ge [⟨tg,am,ifs,0⟩] scope pos) scope X.env _ (newList []) false (eval am X.env) (some (assign (.Name xT px) X.env))) _ _ s
 refine i_ (Ox (uO (use:=some (assign (.Name xT px) X.env)) (R:=λ_ s'=>SP X pins D0 .next s') hc hi hk hnc be hfr hsl d_ hg ht he hs I h λD C s4 e=>?_) (λ_ s' hq=>u_ (u_ hq)) λ_ _ e=>e)
 obtain⟨m,hm⟩:=e.ns
 obtain⟨H',hC,q,i⟩:=e.inv
 have dc:=e.dc
 have fr:=e.fr
 refine wpAny_assign_Name (oI (v:=.ref D) (i s4.heap ⟨rfl,λ_ _=>rfl⟩) hN hix hxl rfl (λs7 I7 ⟨a7,sb7,ha7⟩=>?_) hf)
 have ha:a7<D:=by
  rcases ha7 with z |z
  ·rw[z];exact fr
  ·exact e.cell xT a7 z
 refine⟨m,hm.sameBut sb7 (Ph (QA ha dc)),λh8 hs8=>⟨_,_,I7.turned (it:=C) (t':=s7.toks) (λb o hb e=>hs8.extBut b o hb e) hC (Ph (QA fr dc)) (.inr (y_ e.sz (Qg dc))) (λx c q=>L_ (QA (e.cell x c q) dc)) (λp hp=>L_ (QA (e.pin p hp) dc)),q⟩⟩
def LP{ge am tg:Expr}{scope:Scope}{pos px spos:Pos}{wi:TI}{g:TG}{te:TE}{iT:Nat}{xT:Str}(M:List Str)(kn:List (Str×NameKind))(N:List Str)(sub:Rh)
 (hc:X.calm=true) (hN:X.N.Nodup) (hix:X.N[iT]?=some xT) (hxl:Loc X.env.scope xT) (hi:PI X tg am wi)
 (hg:∀cl C s₂ H fp,PG (aQ X N scope cl C s₂ H fp) tg g) (he:∀cl C s₂ H fp,PE (aQ X N scope cl C s₂ H fp) ge te)
 (hsw:swapsWith (.ListComp ge [⟨tg,am,[],0⟩] scope pos) (some (.Name xT px)) spos.line X.env=pure true)
 (hM:X.N=M) (hkn:X.env.scope.names=kn) (d_:fM M scope.names sub N=true)
 (hk:scope.kind=.function) (hnc:∀x∈scope.names,x.2 ≠ .cell) (be:∀x∈scope.names,x.2=.local->scope.names.lookup x.1=some .local)
 (hfr:ik kn scope.names=true)
 (hsl:sub.length=N.length) (hs:∀x,foldedSetIterable am X.env x=pure x) (hf:X.fn xT=true\/X.env.scope.names.lookup xT=some .local):
 PS X (.Assign [.Name xT px] (.ListComp ge [⟨tg,am,[],0⟩] scope pos) spos) (pQ (jl wi sub g Bo te) (mD iT)):=
 Gn hc hN hix hxl hi hk hnc be (by subst hkn;exact tQ hfr) hsl (by subst hM;exact pU d_) hg (λcl C s₂ H fp=>uw) he hsw hs hf
end
theorem nT:∀{ns:List Int}{its:List Value},Vals (ns.map V.int) its->IntsAre its ns
 | [],_,h=>by cases h;exact .nil
 |
  i::r,_,h=>by
  cases h with
  |
   cons h1 h2=>
   obtain⟨t,rfl⟩:=h1
   exact .cons i t (nT h2)
def oD{X:Cx}{K:W.Frag}(hK:X.K=K)(hc:X.calm=true):CallR X (.builtin "sum") (λxs H Q=>∃(a:Addr) (ns:List Int),xs=[.ref a]/\SqL K H a (ns.map V.int)/\Q (.int ns.sum) H):=by
 subst hK
 intro pins s σ H xs us Q I r h
 obtain⟨a,ns,rfl,hq,q⟩:=h
 obtain⟨u,rfl,ru⟩:=fb r
 cases ru
 obtain⟨its,rv,p,hz⟩:=I.list hq
 have hi:=nT rv
 obtain⟨ys,hy⟩:=hi.allInts.items
 have hn:numsOf its.toArray.toList=ns:=by rw[show its.toArray.toList=its from rfl,hi.numsOf]
 have pl:=p.isList
 rw[hy] at pl hn
 rw[nums_intItems] at hn
 refine sum_intListG (I.ok.hd hc) pl λh' tk t' hk=>?_
 rw[preSum_eq,Pf (by simp),hn]
 exact⟨.int ns.sum,H,I.kept (t':=tk) hk,⟨_,rfl⟩,q⟩
end L2
namespace Fr
noncomputable def dv(a b:Int):Int:=if b<0 then -((Int.gcd a b:Nat):Int) else ((Int.gcd a b:Nat):Int)
def T(a b:Int):Int:=a.fdiv (dv a b)
def B(a b:Int):Int:=b.fdiv (dv a b)
noncomputable def qJ(hb:b≠0):0<Int.gcd a b:=Int.gcd_pos_of_ne_zero_right a hb
def dv_ne(hb:b≠0):dv a b≠0:=by
 have:=qJ (a:=a) hb
 unfold dv
 split <;> omega
def AF(a b:Int):dv a b ∣ a:=by
 have h:((Int.gcd a b:Nat):Int) ∣ a:=Int.gcd_dvd_left a b
 unfold dv
 split
 ·exact Int.neg_dvd.mpr h
 ·exact h
def zJ(a b:Int):dv a b ∣ b:=by
 have h:((Int.gcd a b:Nat):Int) ∣ b:=Int.gcd_dvd_right a b
 unfold dv
 split
 ·exact Int.neg_dvd.mpr h
 ·exact h
def tP{a d q:Int}(hd:d≠0)(h:a=d*q):a.fdiv d=q:=by
 rw[h,Qd]
 exact Int.mul_fdiv_cancel q hd
def T_mul(hb:b≠0):T a b*dv a b=a:=by
 obtain⟨q,h⟩:=AF a b
 have:T a b=q:=tP (dv_ne hb) h
 rw[this,Qd];exact h.symm
def B_mul(hb:b≠0):B a b*dv a b=b:=by
 obtain⟨q,h⟩:=zJ a b
 have:B a b=q:=tP (dv_ne hb) h
 rw[this,Qd];exact h.symm
def B_pos(hb:b≠0):0<B a b:=by
 have h:=B_mul (a:=a) hb
 have hg:=qJ (a:=a) hb
 generalize hx:B a b=x at h ⊢
 unfold dv at h
 split at h
 ·rename_i hneg
  have h2:x*((Int.gcd a b:Nat):Int)=-b:=by rw[Int.mul_neg] at h;omega
  rcases Int.lt_or_le 0 x with z |z
  ·exact z
  ·have:x*((Int.gcd a b:Nat):Int)<=0:=Int.mul_nonpos_of_nonpos_of_nonneg z (by omega)
   omega
 ·rename_i hpos
  rcases Int.lt_or_le 0 x with z |z
  ·exact z
  ·have:x*((Int.gcd a b:Nat):Int)<=0:=Int.mul_nonpos_of_nonpos_of_nonneg z (by omega)
   omega
def cross(hb:b≠0):T a b*b=a*B a b:=by
 have h1:=T_mul (a:=a) hb
 have h2:=B_mul (a:=a) hb
 generalize T a b=x at *
 generalize B a b=y at *
 generalize dv a b=d at *
 rw[<- h2,<- h1]
 rw[<- OU,Qe]
def dv_abs(a b:Int):(dv a b).natAbs=Int.gcd a b:=by
 unfold dv
 split <;> simp
def low(hb:b≠0):Int.gcd (T a b) (B a b)=1:=by
 have h1:=T_mul (a:=a) hb
 have h2:=B_mul (a:=a) hb
 have hg:=qJ (a:=a) hb
 have e1:a.natAbs=(T a b).natAbs*Int.gcd a b:=by rw[<- dv_abs a b,<- OO,h1]
 have e2:b.natAbs=(B a b).natAbs*Int.gcd a b:=by rw[<- dv_abs a b,<- OO,h2]
 have e3:Int.gcd a b=Nat.gcd ((T a b).natAbs*Int.gcd a b) ((B a b).natAbs*Int.gcd a b):=by rw[<- e1,<- e2];rfl
 rw[Nat.gcd_mul_right] at e3
 show Nat.gcd (T a b).natAbs (B a b).natAbs=1
 generalize Nat.gcd (T a b).natAbs (B a b).natAbs=k at *
 generalize Int.gcd a b=g at *
 have:(1:Nat)*g=k*g:=by omega
 exact (Nat.eq_of_mul_eq_mul_right hg this).symm
def uniq(hy:0<y)(hy':0<y')(h:Int.gcd x y=1)(h':Int.gcd x' y'=1)(e:x*y'=x'*y):x=x'/\y=y':=by
 have c1:Nat.Coprime y.natAbs x.natAbs:=by rw[Nat.coprime_comm];exact h
 have c2:Nat.Coprime y'.natAbs x'.natAbs:=by rw[Nat.coprime_comm];exact h'
 have e1:x.natAbs*y'.natAbs=x'.natAbs*y.natAbs:=by rw[<- OO,<- OO,e]
 have d1:y.natAbs ∣ y'.natAbs:=c1.dvd_of_dvd_mul_left (by rw[e1];exact Nat.dvd_mul_left _ _)
 have d2:y'.natAbs ∣ y.natAbs:=c2.dvd_of_dvd_mul_left (by rw[<- e1];exact Nat.dvd_mul_left _ _)
 have ey:y.natAbs=y'.natAbs:=Nat.dvd_antisymm d1 d2
 have ey':y=y':=by omega
 subst ey'
 exact⟨P8 (by omega) e,rfl⟩
def same(hb:b≠0)(hd:d≠0)(e:a*d=c*b):T a b=T c d/\B a b=B c d:=by
 refine uniq (B_pos hb) (B_pos hd) (low hb) (low hd) ?_
 have h1:=cross (a:=a) hb
 have h2:=cross (a:=c) hd
 have hbd:b*d≠0:=Qw hb hd
 refine P8 hbd ?_
 calc T a b*B c d*(b*d)=(T a b*b)*(B c d*d):=by rw[OU,PN (B c d) b d,<- OU]
  _=(a*B a b)*(B c d*d):=by rw[h1]
  _=(a*d)*(B c d*B a b):=by rw[OU a,OU a,PN (B a b),PN d,Qd (B a b) d]
  _=(c*b)*(B c d*B a b):=by rw[e]
  _=(c*B c d)*(B a b*b):=by rw[OU c,OU c,PN b,Qd b (B a b)]
  _=(T c d*d)*(B a b*b):=by rw[<- h2]
  _=T c d*B a b*(b*d):=by rw[OU,OU,PN d,Qd d b]
def self(hb:0<b)(h:Int.gcd a b=1):T a b=a/\B a b=b:=
 uniq (B_pos (by omega)) hb (low (by omega)) h (cross (by omega))
def euc(m n:Nat):Nat.gcd n (m % n)=Nat.gcd m n:=by
 rw[Nat.gcd_comm,<- Nat.gcd_rec,Nat.gcd_comm]
end Fr
set_option maxHeartbeats 1000000
namespace L2
open PySem PySem.Spec PyProof.Rows
def Inv.turnedL{X:Cx}{pins:Rb}{σ:St}{H:Hp}{s:Shared}{h':Heap}{t':Nat}{ch:List Addr}(I:Inv X pins σ H s)(k:∀b o,b∉ch->s.heap.get? b=some o->h'.get? b=some o)(hf:∀b∈ch,FpOk X pins H b):Inv X pins σ H { s with heap:=h',toks:=t' }:=by
 have away:∀b u,H b=some u->b∉ch:=λb u e z=>by have:=(hf b z).1;rw[e] at this;cases this
 refine I.step (g':=s.gens) (d':=s.drawn) (ch:=ch) (λb hb=>⟨(hf b hb).2.2.2.1,(hf b hb).2.1,(hf b hb).2.2.2.2.1,(hf b hb).2.2.2.2.2⟩) (λb o _ _ hc e _=>k b o hc e) (λb o _ _ hc e _=>⟨o.slots,k b o hc e⟩) (λ_ _ _ _ n=>n)
  (λb o hc e=>⟨o,k b o hc e⟩) (λ_ _ e=>e) (λ_ _ _ e=>e) (λb ps e=>⟨#[],by rw[e];simp⟩) (λm hm=>?_) (λb u e=>?_) I.bare
 ·obtain⟨o,es,ep,ho,r⟩:=hm
  exact⟨o,es,ep,k _ o (λz=>(hf _ z).2.1 rfl) ho,r⟩
 ·refine (I.hok b u e).stay (λc v hc q=>k c v ?_ q) (λ_ q=>q) λ_ _ q=>q
  rcases hc with z |z
  ·rw[z];exact away b u e
  ·exact away c _ z
def FpOk.up(f:FpOk X pins H b)(hn:b≠p):FpOk X pins (upd H p o) b:=⟨by rw[aF hn];exact f.1,f.2⟩
def wo(hj:s.heap.IsTupleIter j t n)(ht:s.heap.IsTuple t its)(hv:its[n]?=some v)
 (k:∀h',h'.IsTupleIter j t (n+1)->Heap.SameBut j s.heap h'->Q v { s with heap:=h' }):wpAny (model prog w) A (Builtin.SmallTypes.nextOf (.ref j)) Q E s:=by
 obtain⟨oj,ej,cj,dj⟩:=id hj
 obtain⟨ot,et,_,m,dt⟩:=ht
 unfold Builtin.SmallTypes.nextOf
 refine i_ (O_ (name:=Str.ofString "__next__") hj.typeIs Pr (P6 Pr hj.typeIs F.entry_tuple_iterator_next ?_ (F.args_tuple_iterator_next_1 _)))
 show wpAny _ _ (field (.ref j) 0 >>= _) _ _ s
 refine i_ (OJ ej dj (x:=.ref t) rfl ?_)
 show wpAny _ _ (if (Value.ref t==Value.none)=true then _ else _) _ _ s;rw[if_neg (show ¬ ((Value.ref t==Value.none)=true) from r_)]
 show wpAny _ _ (field (.ref j) 1 >>= _) _ _ s
 refine i_ (OJ ej dj (x:=.int n 0) rfl ?_)
 show wpAny _ _ (seqItems? (.ref t) >>= _) _ _ s;refine i_ (OY et dt ?_)
 simp only[Oy,hv]
 refine i_ (wpAny_setField ej dj (by simp) (u_ ⟨v,rfl,u_ (k _ ?_ (Heap.SameBut.update ..))⟩))
 exact⟨_,PY _ ej (Obj.isFreed_of_fields (Obj.data_mapFields dj _)),(Obj.cls_mapFields ..).trans cj,by rw[Obj.data_mapFields dj];simp [rawInt]⟩
def nB(hh:A.handled=none)(hj:s.heap.IsTupleIter j t n)(ht:s.heap.IsTuple t its)(hv:its[n]?=none)
 (k:∀h' e,Heap.ExtBut j s.heap h'->(∃o,h'.get? e=some o/\o.cls=.type "StopIteration")->E (.ref e) { s with heap:=h' }):wpAny (model prog w) A (Builtin.SmallTypes.nextOf (.ref j)) Q E s:=by
 obtain⟨oj,ej,cj,dj⟩:=id hj
 obtain⟨ot,et,_,m,dt⟩:=ht
 unfold Builtin.SmallTypes.nextOf
 refine i_ (O_ (name:=Str.ofString "__next__") hj.typeIs Pr (P6 Pr hj.typeIs F.entry_tuple_iterator_next ?_ (F.args_tuple_iterator_next_1 _)))
 show wpAny _ _ (field (.ref j) 0 >>= _) _ _ s
 refine i_ (OJ ej dj (x:=.ref t) rfl ?_)
 show wpAny _ _ (if (Value.ref t==Value.none)=true then _ else _) _ _ s;rw[if_neg (show ¬ ((Value.ref t==Value.none)=true) from r_)]
 show wpAny _ _ (field (.ref j) 1 >>= _) _ _ s
 refine i_ (OJ ej dj (x:=.int n 0) rfl ?_)
 show wpAny _ _ (seqItems? (.ref t) >>= _) _ _ s;refine i_ (OY et dt ?_)
 simp only[Oy,hv]
 refine i_ (wpAny_rule (i_ (wpAny_setField ej dj (by simp) ?_)));show wpAny _ _ (newExc (.type "StopIteration") [] >>= _) _ _ _
 refine i_ ?_;simp only[newExc,newTuple]
 refine i_ (OQ ?_ (by size_fits));refine i_ (m:=firstArgMember _ _) (wpAny_of_eq (a:=Value.none) (by first |rfl |(simp only[firstArgMember];rfl)) ?_)
 refine OQ ?_ (by size_fits);simp only[raiseNew]
 refine i_ (wpAny_handled ?_);first |rw[show A.in1.handled=none from hh] |rw[hh]
 refine i_ (u_ (wpAny_throw ?_));exact k _ _ (((Heap.SameBut.update ..).extBut.push _).push _) ⟨_,Em _ rfl,rfl⟩
def SqB(K:W.Frag)(b:Bool)(H:Hp)(a:Addr)(xs:List V):Prop:=match b with
 |true=>SqL K H a xs
 |false=>SqT K H a xs
def ItB(b:Bool)(h:Heap)(j a:Addr)(i:Nat):Prop:=match b with
 |true=>h.IsListIter j a i
 |false=>h.IsTupleIter j a i
def SqB.inj(I:Inv X pins σ H s)(x:SqB X.K b H a xs)(y:SqB X.K b H a ys):xs=ys:=by
 cases b with
 |true=>exact I.list_inj x y
 |false=>exact I.tuple_inj x y
noncomputable def IteE(K:W.Frag)(b:Bool)(a:Addr):It:=
 ⟨λi H=>∃xs x,SqB K b H a xs/\xs[i]?=some x,λi H x H'=>∃p u,x=.ref p/\H p=none/\H'=upd H p (.tup [.int (i:Nat),u])/\∀xs,SqB K b H a xs->xs[i]?=some u,λi H=>∃xs,SqB K b H a xs/\xs.length=i⟩
def kH(z:ItB b h j a i):∃o,h.get? j=some o/\(∀v,o.data ≠ .cell v)/\o.cls=.type (if b then "list_iterator" else "tuple_iterator"):=by
 cases b with
 |true=>obtain⟨o,e,c,d⟩:=z;exact⟨o,e,(λv y=>by rw[d] at y;cases y),c⟩
 |false=>obtain⟨o,e,c,d⟩:=z;exact⟨o,e,(λv y=>by rw[d] at y;cases y),c⟩
def bI(z:ItB b h j a i)(k:∀o,h.get? j=some o->h'.get? j=some o):ItB b h' j a i:=by
 cases b with
 |true=>obtain⟨o,e,r⟩:=z;exact⟨o,k o e,r⟩
 |false=>obtain⟨o,e,r⟩:=z;exact⟨o,k o e,r⟩
def LsB(b:Bool)(h:Heap)(a:Addr)(its:Array Value):Prop:=match b with
 |true=>h.IsList a its
 |false=>h.IsTuple a its
def LsB.keep(z:LsB b h a its)(k:∀o,h.get? a=some o->h'.get? a=some o):LsB b h' a its:=by
 cases b <;> (obtain⟨o,e,r⟩:=z;exact⟨o,k o e,r⟩)
def u7(hj:ItB b s.heap j a n)(ht:LsB b s.heap a its)(hv:its[n]?=some v)
 (k:∀h',ItB b h' j a (n+1)->Heap.SameBut j s.heap h'->Q v { s with heap:=h' }):wpAny (model prog w) A (Builtin.SmallTypes.nextOf (.ref j)) Q E s:=by
 cases b with
 |true=>exact wpAny_nextOf_list_item hj ht hv k
 |false=>exact wo hj ht hv k
def n9(hh:A.handled=none)(hj:ItB b s.heap j a n)(ht:LsB b s.heap a its)(hv:its[n]?=none)
 (k:∀h' e,Heap.ExtBut j s.heap h'->(∃o,h'.get? e=some o/\o.cls=.type "StopIteration")->E (.ref e) { s with heap:=h' }):wpAny (model prog w) A (Builtin.SmallTypes.nextOf (.ref j)) Q E s:=by
 cases b with
 |true=>exact wpAny_nextOf_list_end hh hj ht hv k
 |false=>exact nB hh hj ht hv k
section
variable{prog:Program}{w:World}{A:Around}{E:Rg}{s:Shared}{b1 b2:Bool}{z p q j1 j2 a1 a2:Addr}{n:Nat}{xs ys:Array Value}{x y u v:Value}
def zipN{Q:Rg}(D:ZipApart z p q j1 j2 a1 a2)(hz:IsZip s.heap z p q .none)(hp:IsPair s.heap p (.ref j1) (.ref j2))(hq:IsPair s.heap q u v)
 (i1:ItB b1 s.heap j1 a1 n) (i2:ItB b2 s.heap j2 a2 n) (l1:LsB b1 s.heap a1 xs) (l2:LsB b2 s.heap a2 ys) (ex:xs[n]?=some x) (ey:ys[n]?=some y)
 (k:∀h',IsZip h' z p q (rawInt s.heap.objs.size)->IsPair h' q x y->ItB b1 h' j1 a1 (n+1)->ItB b2 h' j2 a2 (n+1)->IsPair h' s.heap.objs.size x y->(∀c o,c≠z->c≠q->c≠j1->c≠j2->s.heap.get? c=some o->h'.get? c=some o)->Q (.ref s.heap.objs.size) { s with heap:=h' }):
 wpAny (model prog w) A (Builtin.«zip.__next__» ⟨[.ref z],[]⟩) (λg_ s'=>∃v,g_=.done (.ret v)/\Q v s') E s:=by
 show wpAny _ _ (field (.ref z) 2 >>= _) _ _ _;refine i_ (OJ hz rfl (x:=.bool false) rfl ?_)
 show wpAny _ _ (field (.ref z) 3 >>= _) _ _ _;refine i_ (OJ hz rfl (x:=.ref p) rfl ?_)
 refine i_ (OY hp rfl ?_);show wpAny _ _ (Builtin.SmallTypes.ownedTupleIsFree (.ref z) >>= _) _ _ _
 refine i_ ?_;unfold Builtin.SmallTypes.ownedTupleIsFree
 refine i_ (OJ hz rfl (x:=.none) rfl (u_ ?_));simp only[O4]
 refine i_ (wpAny_rule ?_);refine i_ (OJ hz rfl (x:=.ref q) rfl ?_)
 refine i_ (Pk hz (by simp) λg1 (y1:IsZip g1 z p q .ellipsis) t1=>?_)
 refine i_ ?_;simp only[List.zipIdx_cons,List.zipIdx_nil,PH,Qj]
 refine i_ (i_ (QK ?_));show wpAny _ _ (Builtin.SmallTypes.nextOf (.ref j1) >>= _) _ _ _
 refine i_ (u7 (bI i1 λo e=>t1.extBut _ _ D.i1z e) (l1.keep λo e=>t1.extBut _ _ D.l1z e) ex λg2 m1 t2=>u_ ?_)
 have q2:IsPair g2 q u v:=t2.extBut _ _ D.TOi1 (t1.extBut _ _ D.TOz hq)
 refine i_ (OY q2 rfl ?_);refine i_ (QD q2 λg3 (q3:IsPair g3 q x v) t3=>?_)
 refine i_ (wpAny_letGo (u_ ?_));refine i_ (i_ (QK ?_))
 show wpAny _ _ (Builtin.SmallTypes.nextOf (.ref j2) >>= _) _ _ _
 refine i_ (u7 (bI i2 λo e=>t3.extBut _ _ D.TOi2.symm (t2.extBut _ _ D.i12.symm (t1.extBut _ _ D.i2z e))) (l2.keep λo e=>t3.extBut _ _ D.l2TO (t2.extBut _ _ D.l2i1 (t1.extBut _ _ D.l2z e))) ey λg4 m2 t4=>u_ ?_)
 have q4:IsPair g4 q x v:=t4.extBut _ _ D.TOi2 q3
 refine i_ (OY q4 rfl ?_);refine i_ (QD q4 λg5 (q5:IsPair g5 q x y) t5=>?_)
 refine i_ (wpAny_letGo (u_ (u_ ?_)));refine i_ (OY q5 rfl ?_);refine i_ (wpAny_newTuple ?_)
 have sz:g5.objs.size=s.heap.objs.size:=by rw[t5.1,t4.1,t3.1,t2.1,t1.1]
 have y5:IsZip g5 z p q .ellipsis:=t5.extBut _ _ D.TOz.symm (t4.extBut _ _ D.i2z.symm (t3.extBut _ _ D.TOz.symm (t2.extBut _ _ D.i1z.symm y1)))
 have all5:∀c o,c≠z->c≠q->c≠j1->c≠j2->s.heap.get? c=some o->g5.get? c=some o:=λc o c1 c2 c3 c4 e=>t5.extBut _ _ c2 (t4.extBut _ _ c4 (t3.extBut _ _ c2 (t2.extBut _ _ c3 (t1.extBut _ _ c1 e))))
 have n1:ItB b1 g5 j1 a1 (n+1):=bI m1 λo e=>t5.extBut _ _ D.TOi1.symm (t4.extBut _ _ D.i12 (t3.extBut _ _ D.TOi1.symm e))
 have n2:ItB b2 g5 j2 a2 (n+1):=bI m2 λo e=>t5.extBut _ _ D.TOi2.symm e
 have zl:z<g5.objs.size:=w_ y5
 show wpAny _ _ (Builtin.SmallTypes.ownedTupleHandOut (.ref z) (.ref g5.objs.size) >>= _) _ _ _;refine i_ ?_;unfold Builtin.SmallTypes.ownedTupleHandOut
 have y6:IsZip (g5.push { cls:=.type "tuple",data:=.seq #[x,y] }) z p q .ellipsis:=v_ _ y5
 refine i_ (Pk y6 (by simp) λg7 (y7:IsZip g7 z p q (rawInt g5.objs.size)) t7=>?_)
 refine Pk y7 (by simp) λg8 (y8:IsZip g8 z p q (rawInt g5.objs.size)) t8=>?_
 have up:∀c o,c≠z->g5.get? c=some o->g8.get? c=some o:=λc o c1 e=>t8.extBut _ _ c1 (t7.extBut _ _ c1 (v_ _ e))
 have w8:IsPair g8 g5.objs.size x y:=t8.extBut _ _ (Ph zl) (t7.extBut _ _ (Ph zl) (Em _ rfl))
 rw[sz] at y8 w8
 refine u_ ⟨_,rfl,?_⟩
 show Q (.ref g5.objs.size) _;rw[sz]
 exact k g8 y8 (up _ _ D.TOz q5) (bI n1 λo e=>up _ o D.i1z e) (bI n2 λo e=>up _ o D.i2z e) w8 λc o c1 c2 c3 c4 e=>up c o c1 (all5 c o c1 c2 c3 c4 e)
def AM(hh:A.handled=none)(D:ZipApart z p q j1 j2 a1 a2)(hz:IsZip s.heap z p q .none)(hp:IsPair s.heap p (.ref j1) (.ref j2))(hq:IsPair s.heap q u v)
 (i1:ItB b1 s.heap j1 a1 n) (i2:ItB b2 s.heap j2 a2 n) (l1:LsB b1 s.heap a1 xs) (l2:LsB b2 s.heap a2 ys) (en:xs[n]?=none\/ys[n]?=none)
 (k:∀h' e,(∀c o,c≠z->c≠q->c≠j1->c≠j2->s.heap.get? c=some o->h'.get? c=some o)->(∃o,h'.get? e=some o/\o.cls=.type "StopIteration")->E (.ref e) { s with heap:=h' }):wpAny (model prog w) A (Builtin.«zip.__next__» ⟨[.ref z],[]⟩) Q E s:=by
 show wpAny _ _ (field (.ref z) 2 >>= _) _ _ _;refine i_ (OJ hz rfl (x:=.bool false) rfl ?_)
 show wpAny _ _ (field (.ref z) 3 >>= _) _ _ _;refine i_ (OJ hz rfl (x:=.ref p) rfl ?_)
 refine i_ (OY hp rfl ?_);show wpAny _ _ (Builtin.SmallTypes.ownedTupleIsFree (.ref z) >>= _) _ _ _
 refine i_ ?_;unfold Builtin.SmallTypes.ownedTupleIsFree
 refine i_ (OJ hz rfl (x:=.none) rfl (u_ ?_));simp only[O4]
 refine i_ (wpAny_rule ?_);refine i_ (OJ hz rfl (x:=.ref q) rfl ?_)
 refine i_ (Pk hz (by simp) λg1 (y1:IsZip g1 z p q .ellipsis) t1=>?_)
 refine i_ ?_;simp only[List.zipIdx_cons,List.zipIdx_nil,PH,Qj]
 refine i_ (i_ (QK ?_));show wpAny _ _ (Builtin.SmallTypes.nextOf (.ref j1) >>= _) _ _ _
 cases ex:xs[n]? with
 |
  none=>
  refine i_ (n9 hh (bI i1 λo e=>t1.extBut _ _ D.i1z e) (l1.keep λo e=>t1.extBut _ _ D.l1z e) ex λg2 e t2 ⟨oe,he,ce⟩=>?_)
  have y2:IsZip g2 z p q .ellipsis:=t2 _ _ D.i1z.symm y1
  have ez:e≠z:=λw=>by subst w;rw[y2] at he;cases he;simp at ce
  exact Pk y2 (by simp) λg3 _ t3=>k g3 e (λc o c1 _ c3 _ w=>t3.extBut _ _ c1 (t2 _ _ c3 (t1.extBut _ _ c1 w))) ⟨oe,t3.extBut _ _ ez he,ce⟩
 |
  some x=>
  have ey:ys[n]?=none:=en.resolve_left λw=>by rw[ex] at w;cases w
  refine i_ (u7 (bI i1 λo e=>t1.extBut _ _ D.i1z e) (l1.keep λo e=>t1.extBut _ _ D.l1z e) ex λg2 m1 t2=>u_ ?_)
  have q2:IsPair g2 q u v:=t2.extBut _ _ D.TOi1 (t1.extBut _ _ D.TOz hq)
  refine i_ (OY q2 rfl ?_);refine i_ (QD q2 λg3 q3 t3=>?_);refine i_ (wpAny_letGo (u_ ?_))
  refine i_ (i_ (QK ?_));show wpAny _ _ (Builtin.SmallTypes.nextOf (.ref j2) >>= _) _ _ _
  refine i_ (n9 hh (bI i2 λo e=>t3.extBut _ _ D.TOi2.symm (t2.extBut _ _ D.i12.symm (t1.extBut _ _ D.i2z e))) (l2.keep λo e=>t3.extBut _ _ D.l2TO (t2.extBut _ _ D.l2i1 (t1.extBut _ _ D.l2z e))) ey λg4 e t4 ⟨oe,he,ce⟩=>?_)
  have y4:IsZip g4 z p q .ellipsis:=t4 _ _ D.i2z.symm (t3.extBut _ _ D.TOz.symm (t2.extBut _ _ D.i1z.symm y1))
  have ez:e≠z:=λw=>by subst w;rw[y4] at he;cases he;simp at ce
  exact Pk y4 (by simp) λg5 _ t5=>k g5 e (λc o c1 c2 c3 c4 w=>t5.extBut _ _ c1 (t4 _ _ c4 (t3.extBut _ _ c2 (t2.extBut _ _ c3 (t1.extBut _ _ c1 w))))) ⟨oe,t5.extBut _ _ ez he,ce⟩
end
noncomputable def AN(b:Bool):String:=if b then "list_iterator" else "tuple_iterator"
def uc(h:LsB b s.heap a its)(k:Q (.ref s.heap.objs.size) { s with heap:=s.heap.push { cls:=.type (AN b),data:=.fields #[.ref a,.int 0 0] } }):wpAny (model prog w) A (pyIter (.ref a)) Q E s:=by
 cases b with
 |true=>exact Ql h k
 |false=>exact wpAny_pyIter_tuple h k
abbrev zp1(h:Heap)(b:Bool)(a:Addr):Heap:=h.push { cls:=.type (AN b),data:=.fields #[.ref a,.int 0 0] }
abbrev zp2(h:Heap)(b c:Bool)(a d:Addr):Heap:=zp1 (zp1 h b a) c d
abbrev zp3(h:Heap)(b c:Bool)(a d:Addr):Heap:=(zp2 h b c a d).push { cls:=.type "tuple",data:=.seq #[.ref h.objs.size,.ref (zp1 h b a).objs.size] }
abbrev zp4(h:Heap)(b c:Bool)(a d:Addr):Heap:=(zp3 h b c a d).push { cls:=.type "tuple",data:=.seq #[.none,.none] }
abbrev zp5(h:Heap)(b c:Bool)(a d:Addr):Heap:=(zp4 h b c a d).push { cls:=.type "zip",data:=.fields #[.none,.bool false,.bool false,.ref (zp2 h b c a d).objs.size,.ref (zp3 h b c a d).objs.size] }
def By(b c:Bool)(a d:Addr)(xs ys:Array Value):Meets (Builtin.«zip.__new__» ⟨[.type "zip",.ref a,.ref d],[]⟩) (λ_ R s=>LsB b s.heap a xs/\LsB c s.heap d ys/\R (.ok (.ret (.ref (zp4 s.heap b c a d).objs.size))) { s with heap:=zp5 s.heap b c a d }):=
 .of_wp λprog w A R s h=>by
  obtain⟨hp,g,dr,tk,os⟩:=s;obtain⟨la,ld,h⟩:=h
  have d_:=sub_zip
  have L1:LsB b (Shared.heap ⟨hp,g,dr,tk,os⟩) a xs:=la
  have L2':LsB c (Shared.heap ⟨hp.push { cls:=.type (AN b),data:=.fields #[.ref a,.int 0 0] },g,dr,tk,os⟩) d ys:=ld.keep λo e=>v_ _ e
  wp_walk using uc L1,uc L2'
  exact⟨_,rfl,h⟩
def xW(la:LsB b s.heap a xs)(ld:LsB c s.heap d ys)
 (k:∀h',IsZip h' (s.heap.objs.size+4) (s.heap.objs.size+2) (s.heap.objs.size+3) .none->IsPair h' (s.heap.objs.size+2) (.ref s.heap.objs.size) (.ref (s.heap.objs.size+1))->IsPair h' (s.heap.objs.size+3) .none .none->
  ItB b h' s.heap.objs.size a 0->ItB c h' (s.heap.objs.size+1) d 0->(∀c o,s.heap.get? c=some o->h'.get? c=some o)->Q (.ref (s.heap.objs.size+4)) { s with heap:=h' }):wpAny (model prog w) A (call (.type "zip") [.ref a,.ref d]) Q E s:=by
 refine callType_new F.called_zip (by decide) (F.typeCall_zip_2 _ _) (F.newCall_zip_2 _ _) (λobj=>F.args_object_init_3 obj _ _) F.entry_zip_new (By b c a d xs ys) ⟨la,ld,?_⟩
 have n1:(zp1 s.heap b a).objs.size=s.heap.objs.size+1:=Pb ..
 have n2:(zp2 s.heap b c a d).objs.size=s.heap.objs.size+2:=by rw[Pb,n1]
 have n3:(zp3 s.heap b c a d).objs.size=s.heap.objs.size+3:=by rw[Pb,n2]
 have n4:(zp4 s.heap b c a d).objs.size=s.heap.objs.size+4:=by rw[Pb,n3]
 have up:=λ{h:Heap}{x:Addr}{o:Obj} (o':Obj) (e:h.get? x=some o)=>v_ o' e
 have e5:(zp5 s.heap b c a d).get? (zp4 s.heap b c a d).objs.size=some _:=Em _ rfl
 have e4:(zp5 s.heap b c a d).get? (zp3 s.heap b c a d).objs.size=some _:=up _ (Em _ rfl)
 have e3:(zp5 s.heap b c a d).get? (zp2 s.heap b c a d).objs.size=some _:=up _ (up _ (Em _ rfl))
 have e2:(zp5 s.heap b c a d).get? (zp1 s.heap b a).objs.size=some _:=up _ (up _ (up _ (Em _ rfl)))
 have e1:(zp5 s.heap b c a d).get? s.heap.objs.size=some _:=up _ (up _ (up _ (up _ (Em _ rfl))))
 show _/\_
 rw[n2,n3,n4] at e5;rw[n1,n2] at e3;rw[n3] at e4;rw[n1] at e2;rw[n4]
 have i1:ItB b (zp5 s.heap b c a d) s.heap.objs.size a 0:=by cases b <;> exact⟨_,e1,rfl,rfl⟩
 have i2:ItB c (zp5 s.heap b c a d) (s.heap.objs.size+1) d 0:=by cases c <;> exact⟨_,e2,rfl,rfl⟩
 exact⟨⟨_,e5,rfl⟩,k _ e5 e3 e4 i1 i2 λx o e=>up _ (up _ (up _ (up _ (up _ e))))⟩
noncomputable def ItZ(K:W.Frag)(b c:Bool)(a d:Addr):It:=
 ⟨λi H=>∃xs ys x y,SqB K b H a xs/\SqB K c H d ys/\xs[i]?=some x/\ys[i]?=some y,
  λi H x H'=>∃p u v,x=.ref p/\H p=none/\H'=upd H p (.tup [u,v])/\(∀xs,SqB K b H a xs->xs[i]?=some u)/\∀ys,SqB K c H d ys->ys[i]?=some v,
  λi H=>∃xs ys,SqB K b H a xs/\SqB K c H d ys/\(xs[i]?=none\/ys[i]?=none)⟩
def iL(I:Inv X pins σ H s)(hq:SqB X.K b H a xs):∃its:List Value,Vals xs its/\LsB b s.heap a its.toArray:=by
 cases b with
 |true=>obtain⟨its,rv,p,_⟩:=I.list hq;exact⟨its,rv,p.isList⟩
 |false=>obtain⟨its,rv,p,_⟩:=I.tuple hq;exact⟨its,rv,p⟩
def AK{P:Program}{w:World}{K:W.Frag}{elts:List Expr}{x1:Nat}{tp:Pos}(b c:Bool)(a d z p q j1 j2:Addr)(D:ZipApart z p q j1 j2 a d):
 Turn P w K (.Tuple elts x1 tp) (ItZ K b c a d) [z,p,q,j1,j2] z (λi h=>IsZip h z p q .none/\IsPair h p (.ref j1) (.ref j2)/\(∃u v,IsPair h q u v)/\ItB b h j1 a i/\ItB c h j2 d i) where
 mem:=by simp
 obj:=λi h st e he=>by
  obtain⟨s1,s2,⟨u,v,s3⟩,s4,s5⟩:=st
  obtain⟨o4,k4,l4,_⟩:=kH s4
  obtain⟨o5,k5,l5,_⟩:=kH s5
  simp only[H_,List.not_mem_nil,or_false] at he
  rcases he with rfl |rfl |rfl |rfl |rfl
  ·exact⟨_,s1,λv y=>by cases y⟩
  ·exact⟨_,s2,λv y=>by cases y⟩
  ·exact⟨_,s3,λv y=>by cases y⟩
  ·exact⟨o4,k4,l4⟩
  ·exact⟨o5,k5,l5⟩
 keep:=λi h h' st k=>by
  obtain⟨s1,s2,⟨u,v,s3⟩,s4,s5⟩:=st
  exact⟨k z (by simp) _ s1,k p (by simp) _ s2,⟨u,v,k q (by simp) _ s3⟩,bI s4 λo e=>k j1 (by simp) o e,bI s5 λo e=>k j2 (by simp) o e⟩
 item:=
  by
  intro X hP hw hK hc i pins s σ H E I hf st hg
  subst hP hw hK
  obtain⟨xs,ys,x,y,qx,qy,ex,ey⟩:=hg
  obtain⟨s1,s2,⟨u,v,s3⟩,s4,s5⟩:=st
  obtain⟨ix,rx,lx⟩:=iL I qx
  obtain⟨iy,ry,ly⟩:=iL I qy
  obtain⟨ux,hux,rux⟩:=rx.get ex
  obtain⟨uy,huy,ruy⟩:=ry.get ey
  have hTy:s.TypeIs (.ref z) "zip":=⟨_,s1,rfl⟩
  have zl:=w_ s1
  have pl:=w_ s2
  have ql:=w_ s3
  obtain⟨o4,k4,_,_⟩:=kH s4
  obtain⟨o5,k5,_,_⟩:=kH s5
  have j1l:=w_ k4
  have j2l:=w_ k5
  unfold pyNext
  refine i_ (Qp (O_ (name:=Str.ofString "__next__") hTy Qu (P6 Qu hTy F.entry_zip_next (zipN D s1 s2 s3 s4 s5 lx ly (by simpa using hux) (by simpa using huy) λh' y1 y3 y4 y5 yT hk=>u_ ?_) (F.args_zip_next_1 _))))
  refine⟨_,rfl,wpAny_letOwnedTupleGo_zip (s:={ s with heap:=h' }) y1 λh2 z2 sb=>?_⟩
  have sb':Heap.SameBut z h' h2:=sb
  have hT:H s.heap.objs.size=none:=I.hok.fresh (p_ _)
  have I1:Inv X pins σ (upd H s.heap.objs.size (.tup [x,y])) { s with heap:=s.heap.push { cls:=.type "tuple",data:=.seq #[ux,uy] },toks:=s.toks }:=
   I.laid (t':=s.toks) (λc o q=>v_ _ q) (p_ _) ⟨by show 2<=sizeLine;decide,[ux,uy],.cons rux (.cons ruy .nil),⟨_,Em _ rfl,rfl,_,rfl⟩⟩
  have fp':∀e∈[z,p,q,j1,j2],FpOk X pins (upd H s.heap.objs.size (.tup [x,y])) e:=λe he=>by
   have:=hf e he
   simp only[H_,List.not_mem_nil,or_false] at he
   rcases he with rfl |rfl |rfl |rfl |rfl
   ·exact this.up (L_ zl)
   ·exact this.up (L_ pl)
   ·exact this.up (L_ ql)
   ·exact this.up (L_ j1l)
   ·exact this.up (L_ j2l)
  have I2:Inv X pins σ (upd H s.heap.objs.size (.tup [x,y])) { s with heap:=h2,toks:=s.toks }:=
   Inv.turnedL (s:={ s with heap:=s.heap.push { cls:=.type "tuple",data:=.seq #[ux,uy] },toks:=s.toks }) (ch:=[z,p,q,j1,j2]) (t':=s.toks) I1 (λe o he qe=>by
    have c1:e≠z:=λw=>he (by simp [w])
    have c2:e≠q:=λw=>he (by simp [w])
    have c3:e≠j1:=λw=>he (by simp [w])
    have c4:e≠j2:=λw=>he (by simp [w])
    rw[sb'.2 e c1]
    have q':(s.heap.push { cls:=.type "tuple",data:=.seq #[ux,uy] }).get? e=some o:=qe
    by_cases w:e=s.heap.objs.size
    ·subst w
     rw[Em _ rfl] at q'
     cases q'
     exact yT
    ·rw[Heap.get?_push_ne _ _ _ w] at q'
     exact hk e o c1 c2 c3 c4 q') fp'
  refine⟨.ref s.heap.objs.size,_,I2,rfl,⟨_,x,y,rfl,hT,rfl,λzs hz=>by rw[SqB.inj I hz qx];exact ex,λzs hz=>by rw[SqB.inj I hz qy];exact ey⟩,⟨z2,?_,⟨ux,uy,?_⟩,bI y4 λo e=>(sb'.2 j1 D.i1z).trans e,bI y5 λo e=>(sb'.2 j2 D.i2z).trans e⟩,λe he=>(fp' e he).1⟩
  ·exact (sb'.2 p D.TIz).trans (hk p _ D.TIz D.TITO D.TIi1 D.TIi2 s2)
  ·exact (sb'.2 q D.TOz).trans y3
 done:=by
  intro X hP hw hK hc i pins s σ H E I hf st hg
  subst hP hw hK
  obtain⟨xs,ys,qx,qy,en⟩:=hg
  obtain⟨s1,s2,⟨u,v,s3⟩,s4,s5⟩:=st
  obtain⟨ix,rx,lx⟩:=iL I qx
  obtain⟨iy,ry,ly⟩:=iL I qy
  have hTy:s.TypeIs (.ref z) "zip":=⟨_,s1,rfl⟩
  have en':ix.toArray[i]?=none\/iy.toArray[i]?=none:=by
   rcases en with e |e
   ·left;rw[O5] at e;simp;rw[<- rx.length];exact e
   ·right;rw[O5] at e;simp;rw[<- ry.length];exact e
  unfold pyNext
  refine i_ (Qp (O_ (name:=Str.ofString "__next__") hTy Qu (P6 Qu hTy F.entry_zip_next (AM (I.ok.hd hc) D s1 s2 s3 s4 s5 lx ly en' λh' e hk ⟨o,ho,co⟩=>?_) (F.args_zip_next_1 _))))
  refine i_ (Qs (T:="StopIteration") (b:=true) ⟨o,ho,co⟩ isSubtype_stop (u_ ⟨rfl,?_⟩))
  exact Inv.turnedL (ch:=[z,p,q,j1,j2]) (t':=s.toks) I (λe o he qe=>hk e o (λw=>he (by simp [w])) (λw=>he (by simp [w])) (λw=>he (by simp [w])) (λw=>he (by simp [w])) qe) hf
 self:=λ_ _ _ _ _ st h=>wpAny_pyIter_zip st.1 h
def za:bootBuiltins "zip"=some (.type "zip"):=by decide
def HF(hg:Gl X "zip")(hm:X.mg "zip"=none)(ha:PA X [l,m] tl)(hs:starEach [l,m] X.env=[(false,eval l X.env),(false,eval m X.env)])(hs2:starEach [m] X.env=[(false,eval m X.env)]):
 PI X (.Tuple elts x1 tp) (.Call (.Name "zip" p) [l,m] [] pos) (λσ H R=>tl σ H λvs H1=>∃(b c:Bool) (a d:Addr) (xs ys:List V),vs=[.ref a,.ref d]/\SqB X.K b H1 a xs/\SqB X.K c H1 d ys/\R (ItZ X.K b c a d) H1):=by
 intro pins s σ H R I h
 refine Call_ (iJ I hg hm za (P2 (thn (ha pos pins s σ H _ I h) λus s1 ⟨vs,H1,I1,r1,q1⟩=>?_) (by rw[hs,hs2]) (by rw[hs2];rfl)))
 obtain⟨b,c,a,d,xs,ys,e,qx,qy,q⟩:=q1
 subst e
 cases r1 with
 |
  cons r rr=>
  cases rr with
  |
   cons r' rr=>
   cases rr
   cases r
   cases r'
   obtain⟨ix,rx,lx⟩:=iL I1 qx
   obtain⟨iy,ry,ly⟩:=iL I1 qy
   have la:a<s1.heap.objs.size:=by cases b <;> (obtain⟨o,e,_⟩:=lx;exact w_ e)
   have ld:d<s1.heap.objs.size:=by cases c <;> (obtain⟨o,e,_⟩:=ly;exact w_ e)
   refine xW lx ly λh' y1 y2 y3 y4 y5 hk=>wpAny_pyIter_zip y1 ⟨s1.heap.objs.size+4,[s1.heap.objs.size+4,s1.heap.objs.size+2,s1.heap.objs.size+3,s1.heap.objs.size,s1.heap.objs.size+1],_,_,H1,rfl,I1.kept (t':=s1.toks) λc o z=>hk c o z,AK b c a d _ _ _ _ _ (W.ktu_apart _ _ _ la ld),⟨y1,y2,⟨_,_,y3⟩,y4,y5⟩,λe he=>?_,q⟩
   have hge:s1.heap.objs.size<=e:=by
    simp only[H_,List.not_mem_nil,or_false] at he
    rcases he with rfl |rfl |rfl |rfl |rfl
    ·exact Qr _ _
    ·exact Qr _ _
    ·exact Qr _ _
    ·exact p_ _
    ·exact Qr _ _
   exact I1.fpOk hge (I1.hok.fresh hge)
inductive D where
 |non |bl (b:Bool) |int (i:Int) |str (x:Str) |ty (n:String) |glb (x:Str) |exc (x:Str) |tup (xs:List D) |ref (n:Nat) |kl (xs:List D)
 deriving Inhabited
inductive Ob where
 |lst (xs:List D) |fz (xs:List D) |set (xs:List Int) |dct (kvs:List (Key×D)) |any
 deriving Inhabited
abbrev AH:=List Ob
abbrev AE:=List (Option D)
inductive R(α:Type) where
 |ok (a:α) (h:AH) |exc (c:Str) (h:AH) |stuck
inductive SR where
 |nx (ae:AE) (h:AH) |rt (d:D) (h:AH) |bk (ae:AE) (h:AH) |ct (ae:AE) (h:AH) |exc (c:Str) (ae:AE) (h:AH) |stuck
abbrev ME:=AE->AH->R D
abbrev MT:=AE->AH->R Bool
abbrev MA:=AE->AH->R (List D)
abbrev MS:=AE->AH->SR
abbrev Fn:=List D->AH->R D
def R.bind{α β:Type}(r:R α)(f:α->AH->R β):R β:=match r with
 |.ok a h=>f a h
 |.exc c h=>.exc c h
 |.stuck=>.stuck
section
variable(K:W.Frag)(mg:Ra)
mutual
inductive RelD(ρ:List Addr)(H:Hp):D->V->Prop where
 |non:RelD ρ H .non .non
 |bl (b:Bool):RelD ρ H (.bl b) (.bl b)
 |int (i:Int):RelD ρ H (.int i) (.int i)
 |str (x:Str):RelD ρ H (.str x) (.str x)
 |ty (n:String):RelD ρ H (.ty n) (.ty n)
 |glb {x:Str}{a:Addr} (m:mg x=some (.ref a)):RelD ρ H (.glb x) (.ref a)
 |exc {x:Str}{a C:Addr} (m:mg x=some (.ref C)) (e:H a=some (.ext (nX a C))):RelD ρ H (.exc x) (.ref a)
 |tup {p:Addr}{vs:List V}{ds:List D} (h:SqT K H p vs) (r:RelDs ρ H ds vs):RelD ρ H (.tup ds) (.ref p)
 |ref {n:Nat}{a:Addr} (e:ρ[n]?=some a):RelD ρ H (.ref n) (.ref a)
 |kl {a:Addr}{vs:List V}{ds:List D} (h:∃(o:Obj) (its:Array Value) (n:Nat),K.lookup a=some o/\o.cls=.type "list" /\ o.dict=none/\o.data=.seq its n/\its.size<=sizeLine/\Vals vs its.toList) (r:RelDs ρ H ds vs):RelD ρ H (.kl ds) (.ref a)
inductive RelDs(ρ:List Addr)(H:Hp):List D->List V->Prop where
 |nil:RelDs ρ H [] []
 |cons {d:D}{v:V}{ds:List D}{vs:List V} (r:RelD ρ H d v) (rr:RelDs ρ H ds vs):RelDs ρ H (d::ds) (v::vs)
end
structure Le(ρ:List Addr)(H:Hp)(ρ':List Addr)(H':Hp):Prop where
 pre:∀(n:Nat) (a:Addr),ρ[n]?=some a->ρ'[n]?=some a
 tup:∀b xs,H b=some (.tup xs)->H' b=some (.tup xs)
 frz:∀b o u,H b=some (.frz o u)->H' b=some (.frz o u)
 ext:∀b φ,H b=some (.ext φ)->H' b=some (.ext φ)
def ObR(ρ:List Addr)(H:Hp)(a:Addr):Ob->Prop
 |.lst ds=>∃vs,H a=some (.lst vs)/\RelDs K mg ρ H ds vs
 |.fz ds=>∃o vs,H a=some (.frz o (.lst vs))/\RelDs K mg ρ H ds vs
 |.set xs=>xs.Nodup/\H a=some (.set (λi=>decide (i∈xs)) xs.length)
 |.dct kvs=>∃ws,H a=some (.dK ws)/\ws.map (·.1)=kvs.map (·.1)/\RelDs K mg ρ H (kvs.map (·.2)) (ws.map (·.2))
 |.any=>∃o,H a=some o
structure Wd(ρ:List Addr)(h:AH)(H:Hp):Prop where
 len:ρ.length=h.length
 nd:ρ.Nodup
 ob:∀(n:Nat) (a:Addr) (o:Ob),ρ[n]?=some a->h[n]?=some o->ObR K mg ρ H a o
structure RelE(ρ:List Addr)(H:Hp)(ae:AE)(σ:St):Prop where
 len:ae.length=σ.length
 at_:∀(i:Nat) (d:D),ae[i]?=some (some d)->∃v,σ[i]?=some (some v)/\RelD K mg ρ H d v
def PostG{α:Type}(ρ:List Addr)(H:Hp)(E:XK)(k:α->AH->List Addr->Hp->Prop):R α->Prop
 |.ok a h=>∀ρ' H',Le ρ H ρ' H'->Wd K mg ρ' h H'->k a h ρ' H'
 |.exc c h=>∀ρ' H' C,Le ρ H ρ' H'->Wd K mg ρ' h H'->mg c=some (.ref C)->E (.ref C) none H'
 |.stuck=>False
abbrev dE(ρ:List Addr)(H:Hp)(Q:VK)(E:XK)(r:R D):Prop:=PostG K mg ρ H E (λd _ ρ' H'=>∀v,RelD K mg ρ' H' d v->Q v H') r
abbrev Cs(ρ:List Addr)(H:Hp)(Q:Bool->Hp->Prop)(E:XK)(r:R Bool):Prop:=PostG K mg ρ H E (λb _ ρ' H'=>Q b H') r
abbrev Cn(ρ:List Addr)(H:Hp)(Q:List V->Hp->Prop)(E:XK)(r:R (List D)):Prop:=PostG K mg ρ H E (λd _ ρ' H'=>∀vs,RelDs K mg ρ' H' d vs->Q vs H') r
def PostS(ρ:List Addr)(H:Hp)(D:Ends)(ES:St->XK):SR->Prop
 |.nx ae h=>∀ρ' H' σ',Le ρ H ρ' H'->Wd K mg ρ' h H'->RelE K mg ρ' H' ae σ'->D.nx σ' H'
 |.bk ae h=>∀ρ' H' σ',Le ρ H ρ' H'->Wd K mg ρ' h H'->RelE K mg ρ' H' ae σ'->D.bk σ' H'
 |.ct ae h=>∀ρ' H' σ',Le ρ H ρ' H'->Wd K mg ρ' h H'->RelE K mg ρ' H' ae σ'->D.ct σ' H'
 |.rt d h=>∀ρ' H' v,Le ρ H ρ' H'->Wd K mg ρ' h H'->RelD K mg ρ' H' d v->D.rt v H'
 |.exc c ae h=>∀ρ' H' σ' C,Le ρ H ρ' H'->Wd K mg ρ' h H'->RelE K mg ρ' H' ae σ'->mg c=some (.ref C)->ES σ' (.ref C) none H'
 |.stuck=>False
def rdE(ES:St->XK)(F:ME):TE:=λσ H Q=>∃ρ h ae,Wd K mg ρ h H/\RelE K mg ρ H ae σ/\dE K mg ρ H Q (ES σ) (F ae h)
def rdT(ES:St->XK)(F:MT):TT:=λσ H Q=>∃ρ h ae,Wd K mg ρ h H/\RelE K mg ρ H ae σ/\Cs K mg ρ H Q (ES σ) (F ae h)
def rdA(ES:St->XK)(F:MA):TA:=λσ H Q=>∃ρ h ae,Wd K mg ρ h H/\RelE K mg ρ H ae σ/\Cn K mg ρ H Q (ES σ) (F ae h)
def rdS(ES:St->XK)(F:MS):TS:=λD σ H=>∃ρ h ae,Wd K mg ρ h H/\RelE K mg ρ H ae σ/\PostS K mg ρ H D ES (F ae h)
def spD(n:Nat)(S:Fn):Sp:=λvs H Q E=>∃ρ h ds,Wd K mg ρ h H/\RelDs K mg ρ H ds vs/\ds.length=n/\dE K mg ρ H Q E (S ds h)
end
def rdE.el{K:W.Frag}{mg:Ra}{ES:St->XK}{F:ME}{σ:St}{H:Hp}{Q:VK}{C:Prop}(q:rdE K mg ES F σ H Q)(k:∀ρ h ae,Wd K mg ρ h H->RelE K mg ρ H ae σ->dE K mg ρ H Q (ES σ) (F ae h)->C):C:=by
 obtain⟨ρ,h,ae,w,re,p⟩:=q
 exact k ρ h ae w re p
def rdT.el{K:W.Frag}{mg:Ra}{ES:St->XK}{F:MT}{σ:St}{H:Hp}{Q:Bool->Hp->Prop}{C:Prop}(q:rdT K mg ES F σ H Q)(k:∀ρ h ae,Wd K mg ρ h H->RelE K mg ρ H ae σ->Cs K mg ρ H Q (ES σ) (F ae h)->C):C:=by
 obtain⟨ρ,h,ae,w,re,p⟩:=q
 exact k ρ h ae w re p
def rdA.el{K:W.Frag}{mg:Ra}{ES:St->XK}{F:MA}{σ:St}{H:Hp}{Q:List V->Hp->Prop}{C:Prop}(q:rdA K mg ES F σ H Q)(k:∀ρ h ae,Wd K mg ρ h H->RelE K mg ρ H ae σ->Cn K mg ρ H Q (ES σ) (F ae h)->C):C:=by
 obtain⟨ρ,h,ae,w,re,p⟩:=q
 exact k ρ h ae w re p
def rdS.el{K:W.Frag}{mg:Ra}{ES:St->XK}{F:MS}{σ:St}{H:Hp}{De:Ends}{C:Prop}(q:rdS K mg ES F De σ H)(k:∀ρ h ae,Wd K mg ρ h H->RelE K mg ρ H ae σ->PostS K mg ρ H De ES (F ae h)->C):C:=by
 obtain⟨ρ,h,ae,w,re,p⟩:=q
 exact k ρ h ae w re p
section
variable{K:W.Frag}{mg:Ra}{ρ ρ' ρ1:List Addr}{H H' H1:Hp}{h h':AH}{ae:AE}{σ:St}
noncomputable def Le.refl:Le ρ H ρ H:=⟨λ_ _ e=>e,λ_ _ e=>e,λ_ _ _ e=>e,λ_ _ e=>e⟩
noncomputable def Le.trans(a:Le ρ H ρ1 H1)(b:Le ρ1 H1 ρ' H'):Le ρ H ρ' H':=
 ⟨λn x e=>b.pre n x (a.pre n x e),λx y e=>b.tup x y (a.tup x y e),λx y z e=>b.frz x y z (a.frz x y z e),λx y e=>b.ext x y (a.ext x y e)⟩
noncomputable def Le.sqT(l:Le ρ H ρ' H')(q:SqT K H a xs):SqT K H' a xs:=by
 rcases q with (q |⟨o,q⟩) |q
 ·exact .inl (.inl (l.tup _ _ q))
 ·exact .inl (.inr ⟨o,l.frz _ _ _ q⟩)
 ·exact .inr q
def RelD.mono(l:Le ρ H ρ' H')(r:RelD K mg ρ H d v):RelD K mg ρ' H' d v:=
 RelD.rec (motive_1:=λd v _=>RelD K mg ρ' H' d v) (motive_2:=λds vs _=>RelDs K mg ρ' H' ds vs) .non (λb=>.bl b) (λi=>.int i) (λx=>.str x) (λn=>.ty n) (λm=>.glb m) (λm e=>.exc m (l.ext _ _ e)) (λh _ ih=>.tup (l.sqT h) ih) (λe=>.ref (l.pre _ _ e)) (λh _ ih=>.kl h ih) .nil (λ_ _ a b=>.cons a b) r
def RelDs.ind{M:List D->List V->Prop}(h0:M [] [])(h1:∀{d v ds vs},RelD K mg ρ H d v->RelDs K mg ρ H ds vs->M ds vs->M (d::ds) (v::vs)){ds:List D}{vs:List V}(r:RelDs K mg ρ H ds vs):M ds vs:=by
 induction ds generalizing vs with
 |nil=>cases r;exact h0
 |
  cons d ds ih=>
  cases r with
  |cons r rr=>exact h1 r rr (ih rr)
def RelDs.mono(l:Le ρ H ρ' H'){ds:List D}{vs:List V}(r:RelDs K mg ρ H ds vs):RelDs K mg ρ' H' ds vs:=r.ind .nil λr _ ih=>.cons (r.mono l) ih
def RelDs.len{ds:List D}{vs:List V}(r:RelDs K mg ρ H ds vs):ds.length=vs.length:=r.ind (M:=λds vs=>ds.length=vs.length) rfl λ_ _ ih=>OI (· + 1) ih
def RelDs.getD{ds:List D}{vs:List V}{i:Nat}{d:D}(r:RelDs K mg ρ H ds vs)(e:ds[i]?=some d):∃v,vs[i]?=some v/\RelD K mg ρ H d v:=
 r.ind (M:=λds vs=>∀i,ds[i]?=some d->∃v,vs[i]?=some v/\RelD K mg ρ H d v) (λ_ e=>by rw[PR] at e;cases e) (λr _ ih i e=>match i,e with
  |0,e=>by cases e;exact⟨_,rfl,r⟩
  |i+1,e=>ih i e) i e
noncomputable def RelDs.append{ds es:List D}{vs ws:List V}(r:RelDs K mg ρ H ds vs)(q:RelDs K mg ρ H es ws):RelDs K mg ρ H (ds++es) (vs++ws):=r.ind (M:=λds vs=>RelDs K mg ρ H (ds++es) (vs++ws)) q λr _ ih=>.cons r ih
def RelDs.take{ds:List D}{vs:List V}(n:Nat)(r:RelDs K mg ρ H ds vs):RelDs K mg ρ H (ds.take n) (vs.take n):=
 r.ind (M:=λds vs=>∀n:Nat,RelDs K mg ρ H (ds.take n) (vs.take n)) (λn=>by rw[PD,PD];exact .nil) (λr _ ih n=>by cases n with |zero=>exact .nil |succ n=>exact .cons r (ih n)) n
def RelDs.drop{ds:List D}{vs:List V}(n:Nat)(r:RelDs K mg ρ H ds vs):RelDs K mg ρ H (ds.drop n) (vs.drop n):=
 r.ind (M:=λds vs=>∀n:Nat,RelDs K mg ρ H (ds.drop n) (vs.drop n)) (λn=>by rw[P_,P_];exact .nil) (λr rr ih n=>by cases n with |zero=>exact .cons r rr |succ n=>exact ih n) n
def RelDs.set{d:D}{v:V}(r:RelD K mg ρ H d v){ds:List D}{vs:List V}(i:Nat)(q:RelDs K mg ρ H ds vs):RelDs K mg ρ H (ds.set i d) (vs.set i v):=
 q.ind (M:=λds vs=>∀i:Nat,RelDs K mg ρ H (ds.set i d) (vs.set i v)) (λ_=>.nil) (λq qq ih i=>by cases i with |zero=>exact .cons r qq |succ i=>exact .cons q (ih i)) i
def RelDs.ints:∀{ns:List Int}{vs:List V},RelDs K mg ρ H (ns.map D.int) vs->vs=ns.map V.int:=by
 intro ns
 induction ns with
 |nil=>intro vs r;cases r;rfl
 |
  cons n ns ih=>
  intro vs r
  cases r with
  |cons r rr=>cases r;rw[ih rr];rfl
def RelDs.bls:∀{ns:List Bool}{vs:List V},RelDs K mg ρ H (ns.map D.bl) vs->vs=ns.map V.bl:=by
 intro ns
 induction ns with
 |nil=>intro vs r;cases r;rfl
 |
  cons n ns ih=>
  intro vs r
  cases r with
  |cons r rr=>cases r;rw[ih rr];rfl
def RelE.mono(l:Le ρ H ρ' H')(r:RelE K mg ρ H ae σ):RelE K mg ρ' H' ae σ:=⟨r.len,λi d e=>by
 obtain⟨v,h1,h2⟩:=r.at_ i d e
 exact⟨v,h1,h2.mono l⟩⟩
def RelE.set(i:Nat)(r:RelE K mg ρ H ae σ)(q:RelD K mg ρ H d v):RelE K mg ρ H (ae.set i (some d)) (σ.set i (some v)):=⟨by rw[C_,C_];exact r.len,λj d' e=>by
 rw[PU] at e ⊢
 by_cases hij:i=j
 ·rw[if_pos hij] at e ⊢
  by_cases hi:i<ae.length
  ·rw[if_pos hi] at e
   cases e
   rw[if_pos (by rw[<- r.len];exact hi)]
   exact⟨v,rfl,q⟩
  ·rw[if_neg hi] at e;cases e
 ·rw[if_neg hij] at e ⊢
  exact r.at_ j d' e⟩
def RelE.unset(i:Nat)(r:RelE K mg ρ H ae σ):RelE K mg ρ H (ae.set i none) (σ.set i v):=⟨by rw[C_,C_];exact r.len,λj d' e=>by
 rw[PU] at e ⊢
 by_cases hij:i=j
 ·rw[if_pos hij] at e
  by_cases hi:i<ae.length
  ·rw[if_pos hi] at e;cases e
  ·rw[if_neg hi] at e;cases e
 ·rw[if_neg hij] at e ⊢
  exact r.at_ j d' e⟩
def ObR.mono(l:Le ρ H ρ' H')(e:H' a=H a)(q:ObR K mg ρ H a o):ObR K mg ρ' H' a o:=by
 cases o with
 |lst ds=>obtain⟨vs,h1,h2⟩:=q;exact⟨vs,e.trans h1,h2.mono l⟩
 |fz ds=>obtain⟨o,vs,h1,h2⟩:=q;exact⟨o,vs,e.trans h1,h2.mono l⟩
 |set xs=>exact⟨q.1,e.trans q.2⟩
 |dct kvs=>obtain⟨ws,h1,h2,h3⟩:=q;exact⟨ws,e.trans h1,h2,h3.mono l⟩
 |any=>obtain⟨o,h1⟩:=q;exact⟨o,e.trans h1⟩
def ObR.there(q:ObR K mg ρ H a o):∃u,H a=some u:=by
 cases o with
 |lst ds=>obtain⟨vs,h1,_⟩:=q;exact⟨_,h1⟩
 |fz ds=>obtain⟨o,vs,h1,_⟩:=q;exact⟨_,h1⟩
 |set xs=>exact⟨_,q.2⟩
 |dct kvs=>obtain⟨ws,h1,_⟩:=q;exact⟨_,h1⟩
 |any=>exact q
def Wd.fresh(w:Wd K mg ρ h H)(hp:H p=none):p∉ρ:=λhm=>by
 obtain⟨n,hn⟩:=Qy hm
 have hl:n<h.length:=by rw[<- w.len];exact (k_.mp hn).1
 obtain⟨u,hu⟩:=(w.ob n p h[n] hn (z_ hl)).there
 rw[hp] at hu;cases hu
def cJ(hp:H p=none):Le ρ H ρ (upd H p o):=
 ⟨λ_ _ e=>e,λb xs e=>by rw[aF (bM e hp)];exact e,λb xs u e=>by rw[aF (bM e hp)];exact e,λb xs e=>by rw[aF (bM e hp)];exact e⟩
noncomputable def ko:Le ρ H (ρ++m) H:=
 ⟨λn a e=>by rw[J_ (k_.mp e).1];exact e,λ_ _ e=>e,λ_ _ _ e=>e,λ_ _ e=>e⟩
def Wd.alloc(w:Wd K mg ρ h H)(hp:H p=none)(hn:ObR K mg (ρ++[p]) (upd H p u) p o):Wd K mg (ρ++[p]) (h++[o]) (upd H p u):=by
 refine⟨by rw[l_,l_,w.len];rfl,?_,λn a ob e1 e2=>?_⟩
 ·rw[List.nodup_append]
  exact⟨w.nd,by simp,λa ha b hb=>by rw[Pg] at hb;subst hb;intro z;subst z;exact w.fresh hp ha⟩
 ·by_cases hl:n<ρ.length
  ·rw[J_ hl] at e1
   rw[J_ (by rw[<- w.len];exact hl)] at e2
   have q:=w.ob n a ob e1 e2
   obtain⟨v,hv⟩:=q.there
   exact q.mono ((cJ hp).trans ko) (aF (bM hv hp))
  ·have h1:n=ρ.length:=by
    have:=(k_.mp e1).1
    rw[l_] at this
    simp at this
    omega
   subst h1
   rw[I_ (p_ _),Py] at e1
   rw[w.len,I_ (p_ _),Py] at e2
   simp at e1 e2
   subst e1 e2
   exact hn
def Wd.tuple(w:Wd K mg ρ h H)(hp:H p=none):Wd K mg ρ h (upd H p u):=
 ⟨w.len,w.nd,λn a ob e1 e2=>by
  have q:=w.ob n a ob e1 e2
  obtain⟨v,hv⟩:=q.there
  exact q.mono (cJ hp) (aF (bM hv hp))⟩
def lU(e:H a=some u)(hu:(∀xs,u ≠ .tup xs)/\(∀x y,u ≠ .frz x y)/\∀φ,u ≠ .ext φ):Le ρ H ρ (upd H a o):=by
 refine⟨λ_ _ e=>e,λb xs q=>?_,λb x y q=>?_,λb φ q=>?_⟩ <;> rw[aF] <;> (try exact q) <;> (intro z;subst z;rw[e] at q;have:=G_ q;first |exact hu.1 _ this |exact hu.2.1 _ _ this |exact hu.2.2 _ this)
def Wd.write{n:Nat}{a:Addr}{o u:HO}{ob:Ob}(w:Wd K mg ρ h H)(ea:ρ[n]?=some a)(e:H a=some u)(hu:(∀xs,u ≠ .tup xs)/\(∀x y,u ≠ .frz x y)/\∀φ,u ≠ .ext φ)
 (hn:ObR K mg ρ (upd H a o) a ob):Wd K mg ρ (h.set n ob) (upd H a o):=by
 refine⟨by rw[C_];exact w.len,w.nd,λm b ob' e1 e2=>?_⟩
 rw[PU] at e2
 by_cases hm:n=m
 ·subst hm
  rw[ea] at e1;cases e1
  rw[if_pos rfl] at e2
  split at e2
  ·cases e2;exact hn
  ·cases e2
 ·rw[if_neg hm] at e2
  have q:=w.ob m b ob' e1 e2
  refine q.mono (lU e hu) (aF λz=>hm ?_)
  subst z
  have h1:=(k_.mp e1)
  have h2:=(k_.mp ea)
  exact (List.getElem_inj (h₀:=h2.1) (h₁:=h1.1) w.nd).mp (h2.2.trans h1.2.symm)
def pf:(∀xs,HO.lst vs ≠ .tup xs)/\(∀x y,HO.lst vs ≠ .frz x y)/\∀φ,HO.lst vs ≠ .ext φ:=⟨λ_ z=>(nomatch z),λ_ _ z=>(nomatch z),λ_ z=>(nomatch z)⟩
def CD:(∀xs,HO.set S n ≠ .tup xs)/\(∀x y,HO.set S n ≠ .frz x y)/\∀φ,HO.set S n ≠ .ext φ:=⟨λ_ z=>(nomatch z),λ_ _ z=>(nomatch z),λ_ z=>(nomatch z)⟩
noncomputable def dKNo:(∀xs,HO.dK ws ≠ .tup xs)/\(∀x y,HO.dK ws ≠ .frz x y)/\∀φ,HO.dK ws ≠ .ext φ:=⟨λ_ z=>(nomatch z),λ_ _ z=>(nomatch z),λ_ z=>(nomatch z)⟩
def PostG.mono(l:Le ρ H ρ' H')(p:PostG K mg ρ H E k r):PostG K mg ρ' H' E k r:=by
 cases r with
 |ok d h=>exact λρ2 H2 l2=>p ρ2 H2 (l.trans l2)
 |exc c h=>exact λρ2 H2 C l2=>p ρ2 H2 C (l.trans l2)
 |stuck=>exact p
def PostG.imp(p:PostG K mg ρ H E k r)(i:∀a h1 ρ' H',Le ρ H ρ' H'->Wd K mg ρ' h1 H'->k a h1 ρ' H'->k' a h1 ρ' H'):PostG K mg ρ H E k' r:=by
 cases r with
 |ok d h=>exact λρ2 H2 l2 w2=>i _ _ _ _ l2 w2 (p ρ2 H2 l2 w2)
 |exc c h=>exact p
 |stuck=>exact p
def PostG.bind(p:PostG K mg ρ H E k (r.bind f)):PostG K mg ρ H E (λa h1 ρ' H'=>PostG K mg ρ' H' E k (f a h1)) r:=by
 cases r with
 |ok d h=>exact λρ2 H2 l2 w2=>PostG.mono l2 p
 |exc c h=>exact p
 |stuck=>exact p
def PostS.mono(l:Le ρ H ρ' H')(p:PostS K mg ρ H De ES r):PostS K mg ρ' H' De ES r:=by
 cases r with
 |nx ae h=>exact λρ2 H2 σ l2=>p ρ2 H2 σ (l.trans l2)
 |bk ae h=>exact λρ2 H2 σ l2=>p ρ2 H2 σ (l.trans l2)
 |ct ae h=>exact λρ2 H2 σ l2=>p ρ2 H2 σ (l.trans l2)
 |rt d h=>exact λρ2 H2 v l2=>p ρ2 H2 v (l.trans l2)
 |exc c ae h=>exact λρ2 H2 σ C l2=>p ρ2 H2 σ C (l.trans l2)
 |stuck=>exact p
end
section
variable{X:Cx}{e:Expr}{es:List Expr}{st:Stmt}{sts:List Stmt}
def PE.imp(h:PE X e t)(k:∀σ H Q,t' σ H Q->t σ H Q):PE X e t':=λpins s σ H Q I w=>h pins s σ H Q I (k σ H Q w)
def PT.imp(h:PT X e t)(k:∀σ H Q,t' σ H Q->t σ H Q):PT X e t':=λpins s σ H Q I w=>h pins s σ H Q I (k σ H Q w)
def PW.imp(h:PW X e t)(k:∀σ H Q,t' σ H Q->t σ H Q):PW X e t':=λwh pins s σ H Q I w=>h wh pins s σ H Q I (k σ H Q w)
def PA.imp(h:PA X es t)(k:∀σ H Q,t' σ H Q->t σ H Q):PA X es t':=λpos pins s σ H Q I w=>h pos pins s σ H Q I (k σ H Q w)
def PS.imp(h:PS X st t)(k:∀D σ H,t' D σ H->t D σ H):PS X st t':=λpins s σ H D I w=>h pins s σ H D I (k D σ H w)
def PSs.imp(h:PSs X sts t)(k:∀D σ H,t' D σ H->t D σ H):PSs X sts t':=λpins s σ H D I w=>h pins s σ H D I (k D σ H w)
def PG.imp(h:PG X e t)(k:∀v σ H Q,t' v σ H Q->t v σ H Q):PG X e t':=λpins s σ H v u Q I r w=>h pins s σ H v u Q I r (k v σ H Q w)
def PGs.imp(h:PGs X es t)(k:∀v σ H Q,t' v σ H Q->t v σ H Q):PGs X es t':=λpins s σ H v u Q I r w=>h pins s σ H v u Q I r (k v σ H Q w)
def PO.imp(h:PO X o t)(k:∀σ H Q,t' σ H Q->t σ H Q):PO X o t':=λpins s σ H Q I w=>h pins s σ H Q I (k σ H Q w)
end
section
variable(K:W.Frag)(mg:Ra)(X:Cx)(ES:St->XK)
def DE(e:Expr)(F:ME):Prop:=PE X e (rdE K mg ES F)
def DT(e:Expr)(F:MT):Prop:=PT X e (rdT K mg ES F)
def DW(e:Expr)(F:MT):Prop:=PW X e (rdT K mg ES F)
def DA(es:List Expr)(F:MA):Prop:=PA X es (rdA K mg ES F)
def DS(st:Stmt)(F:MS):Prop:=PS X st (rdS K mg ES F)
def DSs(st:List Stmt)(F:MS):Prop:=PSs X st (rdS K mg ES F)
end
def OpD(K:W.Frag)(mg:Ra)(r:R2)(g:D->D->AH->R D):Prop:=∀ρ h H dx dy x y Q E,Wd K mg ρ h H->RelD K mg ρ H dx x->RelD K mg ρ H dy y->dE K mg ρ H Q E (g dx dy h)->r x y H Q
def UnD(K:W.Frag)(mg:Ra)(r:V->Hp->VK->Prop)(g:D->AH->R D):Prop:=∀ρ h H dx x Q E,Wd K mg ρ h H->RelD K mg ρ H dx x->dE K mg ρ H Q E (g dx h)->r x H Q
def aT(K:W.Frag)(mg:Ra)(r:List V->Hp->VK->Prop)(g:Fn):Prop:=∀ρ h H ds vs Q E,Wd K mg ρ h H->RelDs K mg ρ H ds vs->dE K mg ρ H Q E (g ds h)->r vs H Q
noncomputable def aO(i:Nat):ME:=λae h=>match ae[i]? with
 |some (some d)=>.ok d h
 |_=>.stuck
noncomputable def eC(d:D):ME:=λ_ h=>.ok d h
noncomputable def eOp(g:D->D->AH->R D)(F G:ME):ME:=λae h=>(F ae h).bind λx h1=>(G ae h1).bind λy h2=>g x y h2
noncomputable def eUn(g:D->AH->R D)(F:ME):ME:=λae h=>(F ae h).bind g
noncomputable def eA:MA:=λ_ h=>.ok [] h
noncomputable def dX(F:ME)(G:MA):MA:=λae h=>(F ae h).bind λx h1=>(G ae h1).bind λxs h2=>.ok (x::xs) h2
noncomputable def eFn(g:Fn)(A:MA):ME:=λae h=>(A ae h).bind g
noncomputable def mh(ds:List D)(h:AH):R D:=if ds.length<=16777216 then .ok (.tup ds) h else .stuck
noncomputable def bN(ds:List D)(h:AH):R D:=if ds.length<=16777216 then .ok (.ref h.length) (h++[.lst ds]) else .stuck
noncomputable def asB(d:D)(h:AH):R Bool:=match d with
 |.bl b=>.ok b h
 |_=>.stuck
noncomputable def Ag(F G:ME):ME:=λae h=>(F ae h).bind λx h1=>(asB x h1).bind λb h2=>if b=true then G ae h2 else .ok (.bl false) h2
noncomputable def BS(F:ME):ME:=λae h=>(F ae h).bind λx h1=>(asB x h1).bind λb h2=>.ok (.bl (!b)) h2
noncomputable def eIf(c:MT)(F G:ME):ME:=λae h=>(c ae h).bind λb h1=>if b=true then F ae h1 else G ae h1
noncomputable def tOf(F:ME):MT:=λae h=>(F ae h).bind asB
noncomputable def tAn(c d:MT):MT:=λae h=>(c ae h).bind λb h1=>if b=true then d ae h1 else .ok false h1
noncomputable def tO(c d:MT):MT:=λae h=>(c ae h).bind λb h1=>if b=true then .ok true h1 else d ae h1
noncomputable def tNo(c:MT):MT:=λae h=>(c ae h).bind λb h1=>.ok (!b) h1
section
variable{K:W.Frag}{mg:Ra}{ρ:List Addr}{H:Hp}{h:AH}
def c9(w:Wd K mg ρ h H)(rs:RelDs K mg ρ H ds vs)(hp:H p=none)(q:dE K mg ρ H Q E (.ok (.ref h.length) (h++[.lst ds]))):Q (.ref p) (upd H p (.lst vs)):=by
 have l:Le ρ H (ρ++[p]) (upd H p (.lst vs)):=(cJ hp).trans ko
 refine q (ρ++[p]) _ l (w.alloc hp ⟨vs,bB,rs.mono l⟩) _ (.ref ?_)
 rw[<- w.len,I_ (p_ _),Py]
 rfl
def jk(w:Wd K mg ρ h H)(rs:RelDs K mg ρ H ds vs)(hp:H p=none)(q:dE K mg ρ H Q E (.ok (.tup ds) h)):Q (.ref p) (upd H p (.tup vs)):=
 q ρ _ (cJ hp) (w.tuple hp) _ (.tup (SqT.of bB) (rs.mono (cJ hp)))
def aw(w:Wd K mg ρ h H)(r:RelD K mg ρ H d v)(q:dE K mg ρ H Q E (.ok d h)):Q v H:=q ρ H Le.refl w v r
end
section
variable{K:W.Frag}{mg:Ra}{X:Cx}{ES:St->XK}{e a b c:Expr}{es:List Expr}{F G:ME}{A:MA}{cf cg:MT}{pos:Pos}
def HD(i:Nat)(hN:X.N[i]?=some x)(hv:Vis X.env.scope x)(hd:(x==("__debug__" : Str))=false)
 (hcd:(x==("__classdict__" : Str))=false):DE K mg X ES (.Name x pos) (aO i):=PE.imp (Hj hN hv hd hcd) λσ H Q q_=>q_.el λρ h ae w re p=>by
 unfold aO at p
 split at p
 ·rename_i d ed
  obtain⟨v,e1,r⟩:=re.at_ i d ed
  exact⟨v,e1,aw w r p⟩
 ·exact p.elim
def lC(hp:PE X e (tC v))(r:∀ρ H,RelD K mg ρ H d v):DE K mg X ES e (eC d):=PE.imp hp λσ H Q q_=>q_.el λρ h ae w re p=>aw w (r ρ H) p
def FX:DE K mg X ES (.Constant (.int i) j pos) (eC (.int i)):=lC Gk λ_ _=>.int i
def NX:DE K mg X ES (.Constant (.bool i) j pos) (eC (.bl i)):=lC NU λ_ _=>.bl i
def Iw:DE K mg X ES (.Constant .none j pos) (eC .non):=lC Hy λ_ _=>.non
def Gg:DE K mg X ES (.Constant (.str x) j pos) (eC (.str x)):=lC KY λ_ _=>.str x
def HR(hg:Gl X x)(ha:∃a,mg x=some (.ref a))(hm:X.mg=mg)(hd:(x==("__debug__" : Str))=false):DE K mg X ES (.Name x pos) (eC (.glb x)):=by
 subst hm
 obtain⟨a,ha⟩:=ha
 exact lC (uq hg ha (v:=.ref a) rfl hd) λ_ _=>.glb ha
structure GC(K:W.Frag)(mg:Ra)(x:Str)(d:D):Prop where
 ex:∃u v,mg x=some u/\RelV v u/\∀ρ H,RelD K mg ρ H d v
def NG(hg:Gl X x)(ha:GC K mg x d)(hm:X.mg=mg)(hd:(x==("__debug__" : Str))=false):DE K mg X ES (.Name x pos) (eC d):=by
 subst hm
 obtain⟨u,v,h1,h2,h3⟩:=ha.ex
 exact lC (uq hg h1 h2 hd) h3
def Nk(hg:Gl X x)(hm:mg x=none)(hv:bootBuiltins x=some (.type n))(he:X.mg=mg)(hn:x ≠ "__name__")(hd:(x==("__debug__" : Str))=false):DE K mg X ES (.Name x pos) (eC (.ty n)):=by
 subst he
 exact lC (Fb hg hm hv (v:=.ty n) rfl hn hd) λ_ _=>.ty n
def ph(hd:OpD K mg r g)(σ:St)(H:Hp)(Q:VK)(q:rdE K mg ES (eOp g F G) σ H Q):tOp r (rdE K mg ES F) (rdE K mg ES G) σ H Q:=by
 obtain⟨ρ,h,ae,w,re,p⟩:=q
 exact⟨ρ,h,ae,w,re,p.bind.imp λdx h1 ρ1 H1 l1 w1 p1 x rx=>⟨ρ1,h1,ae,w1,re.mono l1,p1.bind.imp λdy h2 ρ2 H2 l2 w2 p2 y ry=>hd ρ2 h2 H2 dx dy x y Q _ w2 (rx.mono l2) ry p2⟩⟩
def Na(ho:OpR X (binaryOp op) r)(hd:OpD K mg r g)(ha:DE K mg X ES a F)(hb:DE K mg X ES b G):DE K mg X ES (.BinOp a op b pos) (eOp g F G):=PE.imp (Nm ho ha hb) (ph hd)
def CG(hr:IxR X r)(hd:OpD K mg r g)(ha:DE K mg X ES a F)(hb:DE K mg X ES b G)(hs:kh b):DE K mg X ES (.Subscript a b pos) (eOp g F G):=PE.imp (NO hr ha hb hs) (ph hd)
def Jz(ho:OpR X (compareOp op) r)(hd:OpD K mg r g)(ha:DE K mg X ES a F)(hb:DE K mg X ES b G)(hm:behindInMarks op b=false):DE K mg X ES (.Compare a [op] [b] pos) (eOp g F G):=PE.imp (FH ho ha hb hm) (ph hd)
def uo(σ:St)(H:Hp)(Q:Bool->Hp->Prop)(q:rdT K mg ES (tOf F) σ H Q):rdE K mg ES F σ H λx H'=>∃k,x=.bl k/\Q k H':=by
 obtain⟨ρ,h,ae,w,re,p⟩:=q
 refine⟨ρ,h,ae,w,re,p.bind.imp λd h1 ρ1 H1 l1 w1 p1 x rx=>?_⟩
 unfold asB at p1
 split at p1
 ·cases rx;exact⟨_,rfl,p1 ρ1 H1 Le.refl w1⟩
 ·exact p1.elim
def Ic(ho:OpR X (compareOp op) r)(hd:OpD K mg r g)(ha:DE K mg X ES a F)(hb:DE K mg X ES b G)(hm:behindInMarks op b=false):DT K mg X ES (.Compare a [op] [b] pos) (tOf (eOp g F G)):=
 PT.imp (D5 ho ha hb hm) λσ H Q q=>ph hd σ H _ (uo σ H Q q)
def K9(ha:DE K mg X ES a F)(he:∀c_,isTrue a X.env c_=(do let v <- c_;standAt a.pos;holding [v] (truthy v))):DT K mg X ES a (tOf F):=
 PT.imp (Hk ha he) λσ H Q q=>uo σ H Q q
def Hs(ha:DT K mg X ES a cf):DT K mg X ES (.UnaryOp .Not a pos) (tNo cf):=PT.imp (Ju ha) λσ H Q q_=>q_.el λρ h ae w re p=>
 ⟨ρ,h,ae,w,re,p.bind.imp λb h1 ρ1 H1 l1 w1 p1=>p1 ρ1 H1 Le.refl w1⟩
def DL(ha:DT K mg X ES a cf):DW K mg X ES (.BoolOp .And [a] pos) cf:=Es ha
def IT(ha:DT K mg X ES a cf):DW K mg X ES (.BoolOp .Or [a] pos) cf:=Hv ha
def Hr(ha:DT K mg X ES a cf)(hb:DW K mg X ES (.BoolOp .And (b::es) pos) cg):DW K mg X ES (.BoolOp .And (a::b::es) pos) (tAn cf cg):=PW.imp (Ia ha hb) λσ H Q q_=>q_.el λρ h ae w re p=>
 ⟨ρ,h,ae,w,re,p.bind.imp λb h1 ρ1 H1 l1 w1 p1=>by
  cases b with
  |true=>exact⟨ρ1,h1,ae,w1,re.mono l1,p1⟩
  |false=>exact p1 ρ1 H1 Le.refl w1⟩
def Mh(ha:DT K mg X ES a cf)(hb:DW K mg X ES (.BoolOp .Or (b::es) pos) cg):DW K mg X ES (.BoolOp .Or (a::b::es) pos) (tO cf cg):=PW.imp (Nn ha hb) λσ H Q q_=>q_.el λρ h ae w re p=>
 ⟨ρ,h,ae,w,re,p.bind.imp λb h1 ρ1 H1 l1 w1 p1=>by
  cases b with
  |true=>exact p1 ρ1 H1 Le.refl w1
  |false=>exact⟨ρ1,h1,ae,w1,re.mono l1,p1⟩⟩
def DW.dt(h:DW K mg X ES a cf):DT K mg X ES a cf:=PW.pt h
def JT{op}(h:DE K mg X ES a F):DE K mg X ES (.BoolOp op [a] pos) F:=JE h
def Ih(ha:DE K mg X ES a F)(hb:DE K mg X ES (.BoolOp .And (b::es) pos) G):DE K mg X ES (.BoolOp .And (a::b::es) pos) (Ag F G):=PE.imp (G0 ha hb) λσ H Q q_=>q_.el λρ h ae w re p=>by
 refine⟨ρ,h,ae,w,re,p.bind.imp λd h1 ρ1 H1 l1 w1 p1 x rx=>?_⟩
 unfold asB at p1
 split at p1
 ·rename_i b'
  cases rx
  refine⟨b',rfl,?_⟩
  cases b' with
  |true=>exact⟨ρ1,h1,ae,w1,re.mono l1,p1⟩
  |false=>exact p1 ρ1 H1 Le.refl w1 _ (.bl false)
 ·exact p1.elim
def HK(ha:DE K mg X ES a F):DE K mg X ES (.UnaryOp .Not a pos) (BS F):=PE.imp (G8 ha) λσ H Q q_=>q_.el λρ h ae w re p=>by
 refine⟨ρ,h,ae,w,re,p.bind.imp λd h1 ρ1 H1 l1 w1 p1 x rx=>?_⟩
 unfold asB at p1
 split at p1
 ·cases rx
  exact⟨_,rfl,p1 ρ1 H1 Le.refl w1 _ (.bl _)⟩
 ·exact p1.elim
def M0(hc:DT K mg X ES c cf)(ha:DE K mg X ES a F)(hb:DE K mg X ES b G):DE K mg X ES (.IfExp c a b pos) (eIf cf F G):=PE.imp (Ab hc ha hb) λσ H Q q_=>q_.el λρ h ae w re p=>
 ⟨ρ,h,ae,w,re,p.bind.imp λb h1 ρ1 H1 l1 w1 p1=>by
  cases b with
  |true=>exact⟨ρ1,h1,ae,w1,re.mono l1,p1⟩
  |false=>exact⟨ρ1,h1,ae,w1,re.mono l1,p1⟩⟩
def MJ(ho:UnR X (unaryOp op) r)(hd:UnD K mg r g)(ha:DE K mg X ES a F):DE K mg X ES (.UnaryOp op a pos) (eUn g F):=PE.imp (LG ho ha) λσ H Q q_=>q_.el λρ h ae w re p=>
 ⟨ρ,h,ae,w,re,p.bind.imp λd h1 ρ1 H1 l1 w1 p1 x rx=>hd ρ1 h1 H1 d x Q _ w1 rx p1⟩
def wK:DA K mg X ES [] eA:=PA.imp Gw λσ H Q q_=>q_.el λρ h ae w re p=>p ρ H Le.refl w _ .nil
def ub(ha:DE K mg X ES e F)(hr:DA K mg X ES es A)(hs:starEach (e::es) X.env=(false,eval e X.env)::starEach es X.env):DA K mg X ES (e::es) (dX F A):=PA.imp (Fp ha hr hs) λσ H Q q_=>q_.el λρ h ae w re p=>
 ⟨ρ,h,ae,w,re,p.bind.imp λd h1 ρ1 H1 l1 w1 p1 x rx=>⟨ρ1,h1,ae,w1,re.mono l1,p1.bind.imp λds h2 ρ2 H2 l2 w2 p2 vs rs=>p2 ρ2 H2 Le.refl w2 _ (.cons (rx.mono l2) rs)⟩⟩
def Hu{x1}(h:DA K mg X ES es A):DE K mg X ES (.Tuple es x1 pos) (eFn mh A):=PE.imp (GL h) λσ H Q q_=>q_.el λρ h ae w re p=>
 ⟨ρ,
  h,ae,w,re,p.bind.imp λds h1 ρ1 H1 l1 w1 p1 vs rs=>by
  unfold mh at p1
  split at p1
  ·rename_i hl
   exact⟨by rw[<- rs.len];exact hl,λq hq=>jk w1 rs hq p1⟩
  ·exact p1.elim⟩
def Ip(h:DA K mg X ES es A):DE K mg X ES (.List es pos) (eFn bN A):=PE.imp (GZ h) λσ H Q q_=>q_.el λρ h ae w re p=>
 ⟨ρ,
  h,ae,w,re,p.bind.imp λds h1 ρ1 H1 l1 w1 p1 vs rs=>by
  unfold bN at p1
  split at p1
  ·rename_i hl
   exact⟨by rw[<- rs.len];exact hl,λq hq=>c9 w1 rs hq p1⟩
  ·exact p1.elim⟩
def Cv(hd:aT K mg r g)(σ:St)(H:Hp)(Q:VK)(q:rdE K mg ES (eFn g A) σ H Q):tCB r (rdA K mg ES A) σ H Q:=by
 obtain⟨ρ,h,ae,w,re,p⟩:=q
 exact⟨ρ,h,ae,w,re,p.bind.imp λds h1 ρ1 H1 l1 w1 p1 vs rs=>hd ρ1 h1 H1 ds vs Q _ w1 rs p1⟩
def Ci{id:String}{r:List V->Hp->VK->Prop}{g:Fn}{x:Str}{p:Pos}(hc:CallR X (.builtin id) r)(hd:aT K mg r g)(hg:Gl X x)(hm:mg x=none)(hv:bootBuiltins x=some (.builtin id))(ha:DA K mg X ES (e::es) A)(hk:X.mg=mg)(hn:x ≠ "__name__")(hdb:(x==("__debug__" : Str))=false)
 (he:starEach (e::es) X.env=(false,eval e X.env)::starEach es X.env) (hpl:(backTo pos (starEach es X.env)).any (·.1)=false):DE K mg X ES (.Call (.Name x p) (e::es) [] pos) (eFn g A):=by
 subst hk
 exact PE.imp (Al hc hg hm hv ha hn hdb he hpl) (Cv hd)
def xC(hc:CallR X (.type T) r)(hd:aT K mg r g)(hg:Gl X x)(hm:mg x=none)(hv:bootBuiltins x=some (.type T))(ha:DA K mg X ES (e::es) A)(hk:X.mg=mg)(hn:x ≠ "__name__")(hdb:(x==("__debug__" : Str))=false)
 (he:starEach (e::es) X.env=(false,eval e X.env)::starEach es X.env) (hpl:(backTo pos (starEach es X.env)).any (·.1)=false):DE K mg X ES (.Call (.Name x p) (e::es) [] pos) (eFn g A):=by
 subst hk
 exact PE.imp (wH hc hg hm hv ha hn hdb he hpl) (Cv hd)
end
def SR.then(r:SR)(f:AE->AH->SR):SR:=match r with
 |.nx ae h=>f ae h
 |.rt d h=>.rt d h
 |.bk ae h=>.bk ae h
 |.ct ae h=>.ct ae h
 |.exc c ae h=>.exc c ae h
 |.stuck=>.stuck
def R.toS{α:Type}(r:R α)(ae:AE)(f:α->AH->SR):SR:=match r with
 |.ok a h=>f a h
 |.exc c h=>.exc c ae h
 |.stuck=>.stuck
noncomputable def sNx:MS:=λae h=>.nx ae h
noncomputable def vh:MS:=λ_ h=>.rt .non h
noncomputable def gK(F G:MS):MS:=λae h=>(F ae h).then G
noncomputable def BH(F:ME):MS:=λae h=>(F ae h).toS ae λd h1=>.rt d h1
noncomputable def gk(F:ME):MS:=λae h=>(F ae h).toS ae λ_ h1=>.nx ae h1
noncomputable def sIf(c:MT)(F G:MS):MS:=λae h=>(c ae h).toS ae λb h1=>if b=true then F ae h1 else G ae h1
abbrev MG:=D->AE->AH->R AE
abbrev MGs:=List D->AE->AH->R AE
noncomputable def f6(F:ME)(g:MG):MS:=λae h=>(F ae h).toS ae λd h1=>(g d ae h1).toS ae λa_ h2=>.nx a_ h2
noncomputable def gN(i:Nat):MG:=λd ae h=>.ok (ae.set i (some d)) h
noncomputable def gsN:MGs:=λds ae h=>match ds with
 | []=>.ok ae h
 |_=>.stuck
noncomputable def gsC(g:MG)(u:MGs):MGs:=λds ae h=>match ds with
 |d::r=>(g d ae h).bind λa_ h'=>u r a_ h'
 | []=>.stuck
noncomputable def gT(u:MGs):MG:=λd ae h=>match d with
 |.tup ds=>u ds ae h
 |_=>.stuck
noncomputable def gS(F G:ME)(w:D->D->D->AH->R Unit):MG:=λv ae h=>(F ae h).bind λo h1=>(G ae h1).bind λi h2=>(w o i v h2).bind λ_ h3=>.ok ae h3
noncomputable def Af(i j:Nat)(A:MA):MS:=λae h=>(A ae h).toS ae λds h1=>match ds with
 | [d,e]=>.nx ((ae.set i (some d)).set j (some e)) h1
 |_=>.stuck
noncomputable def pW(i:Nat)(g:D->D->AH->R D)(F:ME):MS:=λae h=>match ae[i]? with
 |some (some x)=>(F ae h).toS ae λy h1=>(g x y h1).toS ae λz h2=>.nx (ae.set i (some z)) h2
 |_=>.stuck
noncomputable def qE(c:Str)(A:MA):MS:=λae h=>(A ae h).toS ae λds h1=>if ds.length<=16777216 then .exc c ae h1 else .stuck
section
variable(K:W.Frag)(mg:Ra)
def rdG(ES:St->XK)(g:MG):TG:=λv σ H Q=>∃ρ h ae d,Wd K mg ρ h H/\RelE K mg ρ H ae σ/\RelD K mg ρ H d v/\PostG K mg ρ H (ES σ) (λa_ _ ρ' H'=>∀σ',RelE K mg ρ' H' a_ σ'->Q σ' H') (g d ae h)
def rdGs(ES:St->XK)(g:MGs):TGs:=λvs σ H Q=>∃ρ h ae ds,Wd K mg ρ h H/\RelE K mg ρ H ae σ/\RelDs K mg ρ H ds vs/\PostG K mg ρ H (ES σ) (λa_ _ ρ' H'=>∀σ',RelE K mg ρ' H' a_ σ'->Q σ' H') (g ds ae h)
def DG(X:Cx)(ES:St->XK)(e:Expr)(g:MG):Prop:=PG X e (rdG K mg ES g)
def DGs(X:Cx)(ES:St->XK)(es:List Expr)(g:MGs):Prop:=PGs X es (rdGs K mg ES g)
def fR(X:Cx)(ES:St->XK):Prop:=∀(pins:Rb) (σ:St) (H:Hp) (s:Shared) (e:Value) (s':Shared),Inv X pins σ H s->CX1 X.prog X.w X.stack H s (ES σ) e s'->X.xe e s'
end
def rdG.el{K:W.Frag}{mg:Ra}{ES:St->XK}{g:MG}{v:V}{σ:St}{H:Hp}{Q:St->Hp->Prop}{C:Prop}(q:rdG K mg ES g v σ H Q)(k:∀ρ h ae d,Wd K mg ρ h H->RelE K mg ρ H ae σ->RelD K mg ρ H d v->PostG K mg ρ H (ES σ) (λa_ _ ρ' H'=>∀σ',RelE K mg ρ' H' a_ σ'->Q σ' H') (g d ae h)->C):C:=by
 obtain⟨ρ,h,ae,d,w,re,rd,p⟩:=q
 exact k ρ h ae d w re rd p
def rdGs.el{K:W.Frag}{mg:Ra}{ES:St->XK}{g:MGs}{v:List V}{σ:St}{H:Hp}{Q:St->Hp->Prop}{C:Prop}(q:rdGs K mg ES g v σ H Q)(k:∀ρ h ae d,Wd K mg ρ h H->RelE K mg ρ H ae σ->RelDs K mg ρ H d v->PostG K mg ρ H (ES σ) (λa_ _ ρ' H'=>∀σ',RelE K mg ρ' H' a_ σ'->Q σ' H') (g d ae h)->C):C:=by
 obtain⟨ρ,h,ae,d,w,re,rd,p⟩:=q
 exact k ρ h ae d w re rd p
section
variable{K:W.Frag}{mg:Ra}{X:Cx}{ES:St->XK}{ρ:List Addr}{H:Hp}{h:AH}{ae:AE}{σ:St}{De:Ends}
def bR(p:PostS K mg ρ H De ES (r.toS ae f))(re:RelE K mg ρ H ae σ)
 (i:∀a h1 ρ1 H1,Le ρ H ρ1 H1->Wd K mg ρ1 h1 H1->RelE K mg ρ1 H1 ae σ->PostS K mg ρ1 H1 De ES (f a h1)->k a h1 ρ1 H1):PostG K mg ρ H (ES σ) k r:=by
 cases r with
 |ok a h1=>exact λρ1 H1 l1 w1=>i a h1 ρ1 H1 l1 w1 (re.mono l1) (PostS.mono l1 p)
 |exc c h1=>exact λρ1 H1 C l1 w1 m=>p ρ1 H1 σ C l1 w1 (re.mono l1) m
 |stuck=>exact p
def gj(p:PostS K mg ρ H De ES (.nx a_ h))(w:Wd K mg ρ h H)(re:RelE K mg ρ H a_ σ):De.nx σ H:=p ρ H σ Le.refl w re
def A1(p:PostS K mg ρ H De ES (r.then f))(i:∀ae1 h1 ρ1 H1 σ1,Le ρ H ρ1 H1->Wd K mg ρ1 h1 H1->RelE K mg ρ1 H1 ae1 σ1->PostS K mg ρ1 H1 De ES (f ae1 h1)->N σ1 H1):PostS K mg ρ H { De with nx:=N } ES r:=by
 cases r with
 |nx ae1 h1=>exact λρ1 H1 σ1 l1 w1 re1=>i ae1 h1 ρ1 H1 σ1 l1 w1 re1 (PostS.mono l1 p)
 |rt d h1=>exact p
 |bk ae1 h1=>exact p
 |ct ae1 h1=>exact p
 |exc c ae1 h1=>exact p
 |stuck=>exact p
end
section
variable{K:W.Frag}{mg:Ra}{X:Cx}{ES:St->XK}{e a b c o i:Expr}{es:List Expr}{st:Stmt}{sts sts':List Stmt}{F G:ME}{A:MA}{cf:MT}{U V':MS}{g:MG}{gs:MGs}{pos:Pos}
def EM:DSs K mg X ES [] sNx:=PSs.imp Ek λD σ H q_=>q_.el λρ h ae w re p=>gj p w re
def uA(h1:DS K mg X ES st U):DSs K mg X ES [st] U:=Fj h1
def lO(h1:DS K mg X ES st U)(h2:DSs K mg X ES sts V'):DSs K mg X ES (st::sts) (gK U V'):=PSs.imp (Au h1 h2) λD σ H q_=>q_.el λρ h ae w re p=>
 ⟨ρ,h,ae,w,re,A1 p λae1 h1 ρ1 H1 σ1 l1 w1 re1 p1=>⟨ρ1,h1,ae1,w1,re1,p1⟩⟩
def FC:DS K mg X ES (.Return none pos) vh:=PS.imp DB λD σ H q_=>q_.el λρ h ae w re p=>p ρ H _ Le.refl w .non
def Jc(he:DE K mg X ES e F):DS K mg X ES (.Return (some e) pos) (BH F):=PS.imp (KI he) λD σ H q_=>q_.el λρ h ae w re p=>
 ⟨ρ,h,ae,w,re,bR p re λd h1 ρ1 H1 l1 w1 re1 p1 v rv=>p1 ρ1 H1 v Le.refl w1 rv⟩
def ue(he:DE K mg X ES e F)(hs:swapsWith e none pos.line X.env=pure false):DS K mg X ES (.Expr e pos) (gk F):=PS.imp (Eu he hs) λD σ H q_=>q_.el λρ h ae w re p=>
 ⟨ρ,h,ae,w,re,bR p re λd h1 ρ1 H1 l1 w1 re1 p1 v rv=>gj p1 w1 re1⟩
def NB(hc:DT K mg X ES c cf)(ha:DSs K mg X ES sts U)(hb:DSs K mg X ES sts' V'):DS K mg X ES (.If c sts sts' pos) (sIf cf U V'):=PS.imp (Li hc ha hb) λD σ H q_=>q_.el λρ h ae w re p=>
 ⟨ρ,h,ae,w,re,bR p re λb h1 ρ1 H1 l1 w1 re1 p1=>by
  cases b with
  |true=>exact⟨ρ1,h1,ae,w1,re1,p1⟩
  |false=>exact⟨ρ1,h1,ae,w1,re1,p1⟩⟩
def DK{i:Nat}{x:Str}(hN:X.N.Nodup)(hi:X.N[i]?=some x)(hx:Loc X.env.scope x)(hf:X.fn x=true\/X.env.scope.names.lookup x=some .local):DG K mg X ES (.Name x pos) (gN i):=
 PG.imp (Dw hN hi hx hf) λv σ H Q q_=>q_.el λρ h ae d w re rd p=>p ρ H Le.refl w _ (re.set i rd)
def E9:DGs K mg X ES [] gsN:=PGs.imp Dm λvs σ H Q q_=>q_.el λρ h ae ds w re rd p=>by
 cases rd with
 |nil=>exact⟨rfl,p ρ H Le.refl w _ re⟩
 |cons r rr=>exact p.elim
def Av(h1:DG K mg X (λ_=>E0) e g)(h2:DGs K mg X (λ_=>E0) es gs)
 (hs:(assignEach (e::es) X.env).map (·.2)=assign e X.env::(assignEach es X.env).map (·.2)):DGs K mg X (λ_=>E0) (e::es) (gsC g gs):=PGs.imp (BR h1 h2 hs) λvs σ H Q q_=>q_.el λρ h ae ds w re rd p=>by
 cases rd with
 |nil=>exact p.elim
 |cons r rr=>exact⟨_,_,rfl,ρ,h,ae,_,w,re,r,p.bind.imp λae1 h1 ρ1 H1 l1 w1 p1 σ1 re1=>⟨ρ1,h1,ae1,_,w1,re1,rr.mono l1,p1⟩⟩
def KN{k n:Nat}(hK:X.K=K)(hc:X.calm=true)(h:DGs K mg X (λ_=>E0) es gs)
 (hn:(assignEach es X.env).length=n) (hst:(assignEach es X.env).findIdx? (·.1)=none):DG K mg X (λ_=>E0) (.Tuple es k pos) (gT λds ae h=>if ds.length=n then gs ds ae h else .stuck):=by
 subst hK
 refine PG.imp (K2 hc h hn hst) λv σ H Q q_=>q_.el λρ h ae d w re rd p=>?_
 unfold gT at p
 cases rd with
 |
  tup q rs=>
  dsimp only at p
  split at p
  ·rename_i hl
   exact⟨_,_,rfl,q,by rw[<- rs.len];exact hl,ρ,h,ae,_,w,re,rs,p⟩
  ·exact p.elim
 |_=>exact p.elim
noncomputable def noX{α:Type}(r:R α):R α:=match r with
 |.exc _ _=>.stuck
 |.ok a h=>.ok a h
 |.stuck=>.stuck
def DG.weak(hg:DG K mg X (λ_=>E0) e g):DG K mg X ES e (λd ae h=>noX (g d ae h)):=PG.imp hg λv σ H Q q_=>q_.el λρ h ae d w re rd p=>by
 refine⟨ρ,h,ae,d,w,re,rd,?_⟩
 try dsimp only at p
 cases q:g d ae h with
 |ok a h1=>rw[q] at p;exact p
 |exc c h1=>rw[q] at p;exact p.elim
 |stuck=>rw[q] at p;exact p.elim
def nU(K:W.Frag)(mg:Ra)(r:uY)(f:D->D->D->AH->R Unit):Prop:=∀ρ h H do_ di dv o i v (Q:Hp->Prop) E,Wd K mg ρ h H->RelD K mg ρ H do_ o->RelD K mg ρ H di i->RelD K mg ρ H dv v->PostG K mg ρ H E (λ_ _ _ H'=>Q H') (f do_ di dv h)->r o i v H Q
def xF(he:DE K mg X ES e F)(hg:DG K mg X ES a g)(hs:swapsWithSole [a] e pos.line X.env=pure false)(hw:swappedStores [a] e X.env=pure none)
 (h1:(assignEach [a] X.env).map (·.2)=[assign a X.env]):DS K mg X ES (.Assign [a] e pos) (f6 F g):=PS.imp (JD he hg hs hw h1) λD σ H q_=>q_.el λρ h ae w re p=>
 ⟨ρ,h,ae,w,re,bR p re λd h1 ρ1 H1 l1 w1 re1 p1 v rv=>⟨ρ1,h1,ae,d,w1,re1,rv,bR p1 re1 λae2 h2 ρ2 H2 l2 w2 re2 p2 σ' re'=>gj p2 w2 re'⟩⟩
def KC{i:Nat}{x:Str}{h_:Pos}(hN:X.N.Nodup)(hi:X.N[i]?=some x)(hx:Loc X.env.scope x)(he:DE K mg X ES e F)(hs:swapsWith e (some (.Name x h_)) pos.line X.env=pure false)(hf:X.fn x=true\/X.env.scope.names.lookup x=some .local):
 DS K mg X ES (.Assign [.Name x h_] e pos) (f6 F (gN i)):=PS.imp (Hb hN hi hx he hs hf) λD σ H q_=>q_.el λρ h ae w re p=>
 ⟨ρ,h,ae,w,re,bR p re λd h1 ρ1 H1 l1 w1 re1 p1 v rv=>gj p1 w1 (re1.set i rv)⟩
def KH{i j:Nat}{x y:Str}{px py pt:Pos}{kt k2 pt2}(hc:X.calm=true)(hN:X.N.Nodup)(hi:X.N[i]?=some x)(hj:X.N[j]?=some y)(hij:i≠j)
 (hx:X.env.scope.names.lookup x=some .local) (hy:X.env.scope.names.lookup y=some .local) (ha:DA K mg X ES [a,b] A)
 (hw:swappedStores [.Tuple [.Name x px,.Name y py] kt pt] (.Tuple [a,b] k2 pt2) X.env=pure (some [x,y]))
 (hs:swapsWithSole [.Tuple [.Name x px,.Name y py] kt pt] (.Tuple [a,b] k2 pt2) pos.line X.env=pure false):
 DS K mg X ES (.Assign [.Tuple [.Name x px,.Name y py] kt pt] (.Tuple [a,b] k2 pt2) pos) (Af i j A):=PS.imp (Hc hc hN hi hj hij hx hy ha hw hs) λD σ H q_=>q_.el λρ h ae w re p=>
 ⟨ρ,h,ae,w,re,bR p re λds h1 ρ1 H1 l1 w1 re1 p1 vs rs=>by
  split at p1
  ·cases rs with
   |
    cons r1 rs=>
    cases rs with
    |
     cons r2 rs=>
     cases rs
     exact⟨_,_,rfl,gj p1 w1 ((re1.set i r1).set j r2)⟩
  ·exact p1.elim⟩
def IpD(K:W.Frag)(mg:Ra)(r:TIp)(g:D->D->AH->R D):Prop:=∀ρ h H dx dy x y Q E,Wd K mg ρ h H->RelD K mg ρ H dx x->RelD K mg ρ H dy y->dE K mg ρ H Q E (g dx dy h)->r x y H Q
def JA{i:Nat}{x:Str}{op:Operator}{ti:TIp}{h_:Pos}{gg:D->D->AH->R D}(hN:X.N.Nodup)(hi:X.N[i]?=some x)(hx:Loc X.env.scope x)(he:DE K mg X ES e F)(ho:PIp X op ti)(hd:IpD K mg ti gg)(hf:X.fn x=true\/X.env.scope.names.lookup x=some .local):
 DS K mg X ES (.AugAssign (.Name x h_) op e pos) (pW i gg F):=PS.imp (Kd hN hi hx he ho hf) λD σ H q_=>q_.el λρ h ae w re p=>by
 unfold pW at p
 split at p
 ·rename_i d ed
  obtain⟨v,e1,r⟩:=re.at_ i d ed
  exact⟨v,e1,ρ,h,ae,w,re,bR p re λdy h1 ρ1 H1 l1 w1 re1 p1 y ry=>hd ρ1 h1 H1 d dy v y _ _ w1 (r.mono l1) ry (bR p1 re1 λdz h2 ρ2 H2 l2 w2 re2 p2 z rz=>gj p2 w2 (re2.set i rz))⟩
 ·exact p.elim
def BV(hc:X.calm=true)(hR:Rz X E)(hg:Gl X x)(hm:mg x=some (.ref C))(hq:W.excIn X.K C lA "ValueError.__new__"=true)(ha:DA K mg X (λ_=>E) (e::es) A)(hk:X.mg=mg)
 (he:starEach (e::es) X.env=(false,eval e X.env)::starEach es X.env) (bn:(backTo cpos (starEach es X.env)).any (·.1)=false) (hd:(x==("__debug__" : Str))=false):
 DS K mg X (λ_=>E) (.Raise (some (.Call (.Name x np) (e::es) [] cpos)) none pos) (qE x A):=by
 subst hk
 exact
  PS.imp (Bb hc hR hg hm hq ha he bn hd) λD σ H q_=>q_.el λρ h ae w re p=>
  ⟨ρ,
   h,ae,w,re,bR p re λds h1 ρ1 H1 l1 w1 re1 p1 vs rs=>by
   split at p1
   ·rename_i hl
    exact⟨by rw[<- rs.len];exact hl,p1 ρ1 H1 σ C Le.refl w1 re1 hm⟩
   ·exact p1.elim⟩
def Ea(C:Callee X.prog X.w X.K X.mg X.base x k ps (spD K mg n S))(hr:Room k X.A)(hg:Gl X x)(hx:fR X ES)(ha:DA K mg X ES (e::es) A)
 (hdb:(x==("__debug__" : Str))=false) (he:starEach (e::es) X.env=(false,eval e X.env)::starEach es X.env) (hpl:(backTo pos (starEach es X.env)).any (·.1)=false):
 DE K mg X ES (.Call (.Name x p) (e::es) [] pos) (eFn (λds h=>if ds.length=n then S ds h else .stuck) A):=by
 obtain⟨f,fd,F',m,kp,bb,_⟩:=C.ex
 intro pins s σ H Q I hh
 refine Qi (nS I hg m ?_ hdb)
 have rd:rdA K mg ES A σ H (λvs H1=>spD K mg n S vs H1 Q (ES σ)):=by
  obtain⟨ρ,h,ae,w,re,p⟩:=hh
  refine⟨ρ,h,ae,w,re,p.bind.imp λds h1 ρ1 H1 l1 w1 p1 vs rs=>?_⟩
  split at p1
  ·rename_i hl
   exact⟨ρ1,h1,ds,w1,rs,hl,p1⟩
  ·exact p1.elim
 refine W.callWith_K (h₀:=X.base) I.ok.mod.kin kp (Ox (ha pos pins s σ H _ I rd) (λus s1 ⟨vs,H1,I1,r,q⟩=>⟨I1.kIn,?_⟩) λ_ _ z=>z) he hpl
 have hl:(us++[]).length=ps.length:=by rw[OB,<- r.length];exact F'.len _ _ _ _ q
 refine wpAny_call (codeAny_mono (F'.run X.A X.stack s1 H1 ⟨us,[]⟩ us vs Q (ES σ) hr I1.env0 (by simpa using bb s1 us I1.kIn hl) r q) λr s' hq=>?_)
 cases r with
 |error ex=>exact hx pins σ H1 s1 ex s' I1 hq
 |
  ok fl=>
  cases fl with
  |ret u=>exact I1.after hq
  |next=>exact False.elim hq
  |brk=>exact False.elim hq
  |cont=>exact False.elim hq
noncomputable def fnD(n:Nat)(F:MS):Fn:=λds h=>match F (ds.map some++List.replicate (n-ds.length) none) h with
 |.nx _ h'=>.ok .non h'
 |.rt d h'=>.ok d h'
 |.exc c _ h'=>.exc c h'
 |_=>.stuck
def tD(hp:sf (CX1 X.prog X.w) X E):fR X (λ_=>E):=λpins σ H s e s' I h=>hp pins σ H s e s' I h
def AI:fR X (λ_=>E0):=λpins σ H s e s' I h=>M4 pins σ H s e s' I h
end
section
variable{P:Program}{w:World}{K:W.Frag}{mg:Ra}{base:Heap}{x:Str}{st:Stmt}{k:Nat}{ps N:List Str}{F:MS}
def vk(rs:RelDs K mg ρ H ds vs):RelE K mg ρ H (ds.map some++List.replicate (N.length-ds.length) none) (fg N vs):=by
 unfold fg
 refine⟨by rw[l_,l_,j_,j_,Oh,Oh,rs.len],λi d e=>?_⟩
 by_cases hi:i<ds.length
 ·rw[J_ (by rw[j_];exact hi),E_] at e
  have e':ds[i]?=some d:=by
   cases q:ds[i]? with
   |none=>rw[q] at e;cases e
   |some z=>rw[q] at e;cases e;rfl
  obtain⟨v,h1,h2⟩:=rs.getD e'
  refine⟨v,?_,h2⟩
  rw[J_ (by rw[j_,<- rs.len];exact hi),E_,h1];rfl
 ·rw[I_ (by rw[j_];omega),OK] at e
  split at e <;> cases e
def Def.okD(D:Def K mg x st)(S:FnScope N ps (ao st))
 (hb:∀(kV doc pm:Value) (an:Option Addr) (cdv ct:Value) (us:List Value),us.length=ps.length->bindArgs (W.fnOf x x (cB st) (aX st) (ao st) .none kV doc pm an cdv ct) ⟨us,[]⟩=pure (ps.zip us))
 (f_:∀(f:Addr) (cdv:Value) (A:Around) (outer:List Env) (s:Shared) (H:Hp) (E:XK),Room k (A.deeper (envOfC x (ao st) s.heap.objs.size f cdv))->
  DSs K mg (dD (CX1 P w) P w K mg base N x (ao st) f cdv A outer s H E) (λ_=>E) (aX st) F):Callee P w K mg base x (k+1) ps (spD K mg ps.length (fnD N.length F)):=by
 refine D.okR S hb (λvs H Q E ⟨ρ,h,ds,w,rs,hl,p⟩=>by rw[<- rs.len];exact hl) λf cdv A outer s H vs Q E hr ⟨ρ,h,ds,w',rs,hl,p⟩=>?_
 refine⟨_,f_ f cdv A outer s H E hr,ρ,h,_,w',vk rs,?_⟩
 unfold fnD at p
 split at p
 ·rename_i e;rw[e];exact λρ1 H1 σ1 l1 w1 re1=>p ρ1 H1 l1 w1 _ .non
 ·rename_i e;rw[e];exact λρ1 H1 v l1 w1 rv=>p ρ1 H1 l1 w1 v rv
 ·rename_i e;rw[e];exact λρ1 H1 σ1 C l1 w1 re1 m=>p ρ1 H1 C l1 w1 m
 ·exact p.elim
end
noncomputable def aP(h:AH)(n:Nat):Option (List D):=match h[n]? with
 |some (.lst xs)=>some xs
 |some (.fz xs)=>some xs
 |_=>none
noncomputable def cI(h:AH):D->Option (List D)
 |.tup xs=>some xs
 |.ref n=>aP h n
 |.kl xs=>some xs
 |_=>none
section
variable{K:W.Frag}{mg:Ra}{ρ:List Addr}{H:Hp}{h:AH}
def bE(w:Wd K mg ρ h H)(ea:ρ[n]?=some a)(e:aP h n=some xs):∃vs,SqL K H a vs/\RelDs K mg ρ H xs vs:=by
 unfold aP at e
 split at e
 ·rename_i ys eo
  cases e
  obtain⟨vs,h1,h2⟩:=w.ob n a _ ea eo
  exact⟨vs,SqL.of h1,h2⟩
 ·rename_i ys eo
  cases e
  obtain⟨o,vs,h1,h2⟩:=w.ob n a _ ea eo
  exact⟨vs,.inl (.inr ⟨o,h1⟩),h2⟩
 ·cases e
def dg(w:Wd K mg ρ h H)(r:RelD K mg ρ H d v)(e:cI h d=some xs):∃p vs,v=.ref p/\(SqL K H p vs\/SqT K H p vs)/\RelDs K mg ρ H xs vs:=by
 cases r with
 |
  tup q rs=>
  have e':some _=some xs:=e
  cases e'
  exact⟨_,_,rfl,.inr q,rs⟩
 |
  ref ea=>
  obtain⟨vs,h1,h2⟩:=bE w ea e
  exact⟨_,vs,rfl,.inl h1,h2⟩
 |
  kl q rs=>
  have e':some _=some xs:=e
  cases e'
  exact⟨_,_,rfl,.inl (.inr q),rs⟩
 |_=>cases e
end
noncomputable def g2(f:Int->Int->R D)(x y:D):R D:=match x,y with
 |.int i,.int j=>f i j
 |_,_=>.stuck
noncomputable def gI(f:Int->Int->D):D->D->AH->R D:=λx y h=>match x,y with
 |.int i,.int j=>.ok (f i j) h
 |_,_=>.stuck
open Classical in
def gIc(C:Int->Int->Prop)(f:Int->Int->D):D->D->AH->R D:=λx y h=>match x,y with
 |.int i,.int j=>if C i j then .ok (f i j) h else .stuck
 |_,_=>.stuck
section
variable{K:W.Frag}{mg:Ra}{X:Cx}
def jG(hr:∀i j ρ H,RelD K mg ρ H (g i j) (f i j)):OpD K mg (rI0 f) (gI g):=λρ h H dx dy x y Q E w rx ry p=>by
 unfold gI at p
 split at p
 ·cases rx;cases ry;exact⟨_,_,rfl,rfl,aw w (hr _ _ ρ H) p⟩
 ·exact p.elim
def pG(hr:∀i j ρ H,RelD K mg ρ H (g i j) (f i j)):OpD K mg (rI C f) (gIc C g):=λρ h H dx dy x y Q E w rx ry p=>by
 unfold gIc at p
 split at p
 ·cases rx;cases ry
  split at p
  ·rename_i hc;exact⟨_,_,rfl,rfl,hc,aw w (hr _ _ ρ H) p⟩
  ·exact p.elim
 ·exact p.elim
noncomputable def gOr(g g':D->D->AH->R D):D->D->AH->R D:=λx y h=>match g x y h with
 |.stuck=>g' x y h
 |r=>r
def OpD.or(a:OpD K mg r g)(b:OpD K mg r' g'):OpD K mg (λx y H Q=>r x y H Q\/r' x y H Q) (gOr g g'):=λρ h H dx dy x y Q E w rx ry p=>by
 unfold gOr at p
 split at p
 ·exact .inr (b ρ h H dx dy x y Q E w rx ry p)
 ·exact .inl (a ρ h H dx dy x y Q E w rx ry p)
end
noncomputable def kZ:D->D->AH->R D:=λx y h=>match x,y with
 |.ref n,.ref m=>match h[n]?,h[m]? with
  |some (.lst xs),some (.lst ys)=>if xs.length+ys.length<=16777216 then .ok (.ref h.length) (h++[.lst (xs++ys)]) else .stuck
  |_,_=>.stuck
 |.tup xs,.tup ys=>if xs.length+ys.length<=16777216 then .ok (.tup (xs++ys)) h else .stuck
 |_,_=>.stuck
noncomputable def qu:D->D->AH->R D:=λx y h=>match x,y with
 |.ref n,.int k=>match h[n]? with
  |some (.lst xs)=>if -(2^63)<=k/\k<2^63/\xs.length*k.toNat<=16777216 then .ok (.ref h.length) (h++[.lst (List.replicate k.toNat xs).flatten]) else .stuck
  |_=>.stuck
 |_,_=>.stuck
def gIx:D->D->AH->R D:=λx y h=>match cI h x,y with
 |some xs,.int i=>match atI xs i with
  |some d=>.ok d h
  |none=>.stuck
 |_,_=>.stuck
section
variable{K:W.Frag}{mg:Ra}{X:Cx}
def kg(K:W.Frag):R2:=λx y H Q=>∃a b ys,x=.ref a/\y=.ref b/\SqT K H a []/\SqT K H b ys/\Q (.ref b) H
def Dx:OpR X (binaryOp .Add) (kg X.K):=by
 intro pins s σ H x y v u Q I rx ry h
 obtain⟨a,b,ys,rfl,rfl,ha,hb,q⟩:=h
 cases rx
 cases ry
 obtain⟨its,r1,p1,_⟩:=I.tuple ha
 obtain⟨its2,r2,p2,_⟩:=I.tuple hb
 have e:its=[]:=r1.nil_iff.mpr rfl
 subst e
 obtain⟨⟨cls,dd,data,sl⟩,ho,hc,n,hd⟩:=id p1
 obtain⟨⟨cls2,dd2,data2,sl2⟩,ho2,hc2,n2,hd2⟩:=id p2
 simp only at hc hd hc2 hd2
 subst hc hd hc2 hd2
 exact concat_meets ⟨_,ho,rfl⟩ ⟨_,ho2,rfl⟩ noFill_tuple_add seq_tuple_add Qo Qk (Qh _ _)
  (tuple_addW0 _ _ _ _ n n2 dd dd2 sl sl2 rfl) ⟨ho,ho2,⟨.ref b,H,I,rfl,q⟩⟩
def DX:OpD K mg (λx y H Q=>mS x y H Q\/(kr K x y H Q\/kg K x y H Q)) kZ:=λρ h H dx dy x y Q E w rx ry p=>by
 unfold kZ at p
 split at p
 ·cases
   rx with
  |
   ref ea=>
   cases ry with
   |
    ref eb=>
    split at p
    ·rename_i xs ys e1 e2
     split at p
     ·rename_i hl
      obtain⟨vs,q1,r1⟩:=w.ob _ _ _ ea e1
      obtain⟨ws,q2,r2⟩:=w.ob _ _ _ eb e2
      exact .inl ⟨_,_,vs,ws,rfl,rfl,q1,q2,by rw[<- r1.len,<- r2.len];exact hl,λp' hp=>c9 w (r1.append r2) hp p⟩
     ·exact p.elim
    ·exact p.elim
 ·cases
   rx with
  |
   tup q1 r1=>
   cases ry with
   |
    tup q2 r2=>
    split at p
    ·rename_i hl
     cases r1 with
     |nil=>exact .inr (.inr ⟨_,_,_,rfl,rfl,q1,q2,aw w (.tup q2 r2) p⟩)
     |
      cons r0 r1=>
      refine .inr (.inl ⟨_,_,_,_,rfl,rfl,q1,q2,(λz=>nomatch z),by rw[<- (RelDs.cons r0 r1).len,<- r2.len];exact hl,λz=>?_,λ_ p' hp=>jk w ((RelDs.cons r0 r1).append r2) hp p⟩)
      subst z
      cases r2
      rw[OB] at p
      exact aw w (.tup q1 (.cons r0 r1)) p
    ·exact p.elim
 ·exact p.elim
def Ds(r:RelDs K mg ρ H xs vs)(e:atI xs i=some d):∃v,atI vs i=some v/\RelD K mg ρ H d v:=by
 unfold atI at e ⊢
 rw[<- r.len]
 cases q:ixN xs.length i with
 |none=>rw[q] at e;cases e
 |some j=>rw[q] at e;exact r.getD e
def Kj:OpD K mg (λx y H Q=>wG K x y H Q\/vU K x y H Q) gIx:=λρ h H dx dy x y Q E w rx ry p=>by
 unfold gIx at p
 split at p
 ·rename_i xs i e1
  split at p
  ·rename_i d e2
   cases ry
   obtain⟨pa,vs,rfl,hq,rs⟩:=dg w rx e1
   obtain⟨v,e3,rv⟩:=Ds rs e2
   rcases hq with hq |hq
   ·exact .inl ⟨_,_,_,_,rfl,rfl,hq,e3,aw w rv p⟩
   ·exact .inr ⟨_,_,_,_,rfl,rfl,hq,e3,aw w rv p⟩
  ·exact p.elim
 ·exact p.elim
def ixK(h:X.K=K):IxR X (λx y H Q=>wG K x y H Q\/vU K x y H Q):=by subst h;exact ED.or JX
def catK(h:X.K=K):OpR X (binaryOp .Add) (λx y H Q=>mS x y H Q\/(kr K x y H Q\/kg K x y H Q)):=by subst h;exact GU.or (DN.or Dx)
end
noncomputable def cG:Nat->AH->D->Option PyData
 |0,_,_=>none
 |_+1,_,.non=>some .none
 |_+1,_,.bl b=>some (.bool b)
 |_+1,_,.int i=>some (.int i)
 |_+1,_,.str x=>some (.str x)
 |k+1,h,.tup xs=>(xs.mapM (cG k h)).map .tuple
 |k+1,h,.ref n=>match aP h n with
  |some xs=>(xs.mapM (cG k h)).map .list
  |none=>none
 |_+1,_,_=>none
def oJ{K:W.Frag}{mg:Ra}{ρ:List Addr}{H:Hp}{f:D->Option PyData}(hf:∀d v pd,RelD K mg ρ H d v->f d=some pd->Rep K H v pd):∀{xs:List D}{vs:List V}{ps:List PyData},RelDs K mg ρ H xs vs->xs.mapM f=some ps->Reps K H vs ps:=by
 intro xs
 induction xs with
 |
  nil=>
  intro vs ps r e
  cases r
  have e':some []=some _:=e
  cases e';exact .nil
 |
  cons x xs ih=>
  intro vs ps r e
  cases r with
  |
   cons r rr=>
   rw[P0] at e
   cases q:f x with
   |none=>rw[q] at e;cases e
   |
    some pd=>
    rw[q] at e
    cases q2:xs.mapM f with
    |none=>rw[q2] at e;cases e
    |
     some pds=>
     rw[q2] at e
     have e':some (pd::pds)=some ps:=e
     cases e'
     exact .cons (hf _ _ _ r q) (ih rr q2)
theorem eE{K:W.Frag}{mg:Ra}{ρ:List Addr}{H:Hp}{h:AH}(w:Wd K mg ρ h H):∀(k:Nat) {d:D}{v:V}{pd:PyData},RelD K mg ρ H d v->cG k h d=some pd->Rep K H v pd
 |0,_,_,_,_,e=>by cases e
 |
  k+1,d,v,pd,r,e=>by
  cases r with
  |non=>have e':some _=some pd:=e;cases e';exact .non
  |bl b=>have e':some _=some pd:=e;cases e';exact .bl b
  |int b=>have e':some _=some pd:=e;cases e';exact .int b
  |str b=>have e':some _=some pd:=e;cases e';exact .str b
  |
   tup q rs=>
   rename_i ds
   have e':(ds.mapM (cG k h)).map PyData.tuple=some pd:=e
   cases q2:ds.mapM (cG k h) with
   |none=>rw[q2] at e';cases e'
   |
    some ps=>
    rw[q2] at e'
    cases e'
    exact .tup q (oJ (λd v pd r e=>eE w k r e) rs q2)
  |
   ref ea=>
   rename_i n a
   unfold cG at e
   split at e
   ·rename_i xs e1
    obtain⟨vs,h1,h2⟩:=bE w ea e1
    cases q2:xs.mapM (cG k h) with
    |none=>rw[q2] at e;cases e
    |
     some ps=>
     rw[q2] at e
     cases e
     exact .lst h1 (oJ (λd v pd r e=>eE w k r e) h2 q2)
   ·cases e
  |_=>cases e
def jY(h:AH)(x y:D):Option Bool:=match cG 164 h x,cG 164 h y with
 |some a,some b=>if shp a=true/\shp b=true then some (PyData.eqv a b) else none
 |_,_=>none
def gEq(neg:Bool):D->D->AH->R D:=λx y h=>match jY h x y with
 |some b=>.ok (.bl (if neg then !b else b)) h
 |none=>.stuck
section
variable{K:W.Frag}{mg:Ra}{X:Cx}
def ur(w:Wd K mg ρ h H)(rx:RelD K mg ρ H dx x)(ry:RelD K mg ρ H dy y)(e:jY h dx dy=some b):
 ∃a c,Rep K H x a/\Rep K H y c/\shp a=true/\shp c=true/\PyData.eqv a c=b:=by
 unfold jY at e
 split at e
 ·rename_i a c e1 e2
  split at e
  ·rename_i hs
   cases e
   exact⟨a,c,eE w 164 rx e1,eE w 164 ry e2,hs.1,hs.2,rfl⟩
  ·cases e
 ·cases e
def II:OpD K mg (uV K) (gEq false):=λρ h H dx dy x y Q E w rx ry p=>by
 unfold gEq at p
 split at p
 ·rename_i b e
  obtain⟨a,c,h1,h2,h3,h4,rfl⟩:=ur w rx ry e
  exact⟨a,c,h1,h2,h3,h4,aw w (.bl _) p⟩
 ·exact p.elim
def Jw:OpD K mg (vS K) (gEq true):=λρ h H dx dy x y Q E w rx ry p=>by
 unfold gEq at p
 split at p
 ·rename_i b e
  obtain⟨a,c,h1,h2,h3,h4,rfl⟩:=ur w rx ry e
  exact⟨a,c,h1,h2,h3,h4,aw w (.bl _) p⟩
 ·exact p.elim
end
noncomputable def kD:D->Bool
 |.non=>true
 |.bl _=>true
 |.int _=>true
 |.str _=>true
 |_=>false
noncomputable def toV:D->V
 |.bl b=>.bl b
 |.int i=>.int i
 |.str x=>.str x
 |_=>.non
def eqF(x y:D):Bool:=eqV (toV x) (toV y)
def gIn(neg:Bool):D->D->AH->R D:=λx y h=>match cI h y with
 |some xs=>if kD x=true/\xs.all kD=true then .ok (.bl (if neg then !(xs.any λd=>eqF d x) else xs.any λd=>eqF d x)) h else .stuck
 |none=>.stuck
section
variable{K:W.Frag}{mg:Ra}{X:Cx}{ρ:List Addr}{H:Hp}
def qI(r:RelD K mg ρ H d v)(f:kD d=true):v=toV d/\bj v=true:=by
 cases r with
 |non=>exact⟨rfl,rfl⟩
 |bl=>exact⟨rfl,rfl⟩
 |int=>exact⟨rfl,rfl⟩
 |str=>exact⟨rfl,rfl⟩
 |_=>cases f
def xS:∀{ds:List D}{vs:List V},RelDs K mg ρ H ds vs->ds.all kD=true->vs=ds.map toV/\vs.all bj=true:=by
 intro ds
 induction ds with
 |
  nil=>
  intro vs r f
  cases r
  exact⟨rfl,rfl⟩
 |
  cons d0 ds ih=>
  intro vs r f
  cases r with
  |
   cons r rr=>
   rw[P9,n_] at f
   obtain⟨rfl,h1⟩:=qI r f.1
   obtain⟨rfl,h2⟩:=ih rr f.2
   exact⟨rfl,by rw[P9,h1,h2];rfl⟩
def xZ(neg:Bool):OpD K mg (rIn K neg) (gIn neg):=λρ h H dx dy x y Q E w rx ry p=>by
 unfold gIn at p
 split at p
 ·rename_i xs e
  split at p
  ·rename_i hf
   obtain⟨pa,vs,rfl,hq,rs⟩:=dg w ry e
   obtain⟨rfl,f1⟩:=qI rx hf.1
   obtain⟨rfl,f2⟩:=xS rs hf.2
   refine⟨pa,_,rfl,hq,f1,f2,?_⟩
   have e2:inV (toV dx) (xs.map toV)=xs.any λd=>eqF d dx:=by
    unfold inV eqF
    rw[List.any_map];rfl
   rw[e2]
   exact aw w (.bl _) p
  ·exact p.elim
 ·exact p.elim
noncomputable def qZ(neg:Bool):D->D->AH->R D:=λx y h=>match x,y with
 |.non,.non=>.ok (.bl (!neg)) h
 |_,.non=>.ok (.bl neg) h
 |_,_=>.stuck
def Eg:OpD K mg (λx y H Q=>y=.non/\Q (.bl (decide (x=.non))) H) (qZ false):=λρ h H dx dy x y Q E w rx ry p=>by
 unfold qZ at p
 split at p
 ·cases rx;cases ry;exact⟨rfl,aw w (.bl _) p⟩
 ·rename_i hne
  cases ry
  refine⟨rfl,?_⟩
  have e:decide (x=V.non)=false:=by
   rw[decide_eq_false_iff_not]
   rintro rfl
   cases rx
   exact hne rfl
  rw[e]
  exact aw w (.bl _) p
 ·exact p.elim
end
inductive AIt where
 |lst (n:Nat) (xs:List D) |tup (xs:List D) |rng (lo:Int) (k:Nat) |enm (s:AIt) |zip (s t:AIt)
noncomputable def iC:Nat->List D->List D
 |_,[]=>[]
 |i,d::ds=>.tup [.int (i:Nat),d]::iC (i+1) ds
def AIt.items:AIt->List D
 |.lst _ xs=>xs
 |.tup xs=>xs
 |.rng lo k=>(List.range k).map λi=>D.int (lo+(i:Nat))
 |.enm s=>iC 0 s.items
 |.zip s t=>List.zipWith (λx y=>.tup [x,y]) s.items t.items
def AIt.guard:AIt->AH->Prop
 |.lst n xs,h=>aP h n=some xs
 |.enm s,h=>s.guard h
 |.zip s t,h=>s.guard h/\t.guard h
 |_,_=>True
def SrcR(K:W.Frag)(mg:Ra)(ρ:List Addr)(H:Hp):AIt->Bool->Addr->Prop
 |.lst n _,true,a=>ρ[n]?=some a
 |.tup xs,false,p=>∃vs,SqT K H p vs/\RelDs K mg ρ H xs vs
 |_,_,_=>False
def ItR(K:W.Frag)(mg:Ra)(ρ:List Addr)(H:Hp):AIt->It->Prop
 |.lst n _,J=>∃a,ρ[n]?=some a/\J=Itl K a
 |.tup xs,J=>∃p vs,SqT K H p vs/\RelDs K mg ρ H xs vs/\J=Itt K p
 |.rng lo k,J=>J=Itr lo k
 |.enm s,J=>∃b a,SrcR K mg ρ H s b a/\J=IteE K b a
 |.zip s t,J=>∃b c a d,SrcR K mg ρ H s b a/\SrcR K mg ρ H t c d/\J=ItZ K b c a d
theorem sI:∀{ds:List D}{k i:Nat}{e:D},(iC k ds)[i]?=some e->∃d,ds[i]?=some d/\e=.tup [.int ((k+i:Nat):Int),d]
 | [],_,_,_,q=>by simp [iC] at q
 |d::ds,k,0,e,q=>⟨d,rfl,by simpa [iC] using q.symm⟩
 |
  d::ds,k,i+1,e,q=>by
  obtain⟨d',q1,q2⟩:=sI (ds:=ds) (k:=k+1) (i:=i) (e:=e) (by simpa [iC] using q)
  refine⟨d',by simpa using q1,?_⟩
  rw[q2]
  congr 4
  omega
theorem pY:∀(ds:List D) (k:Nat),(iC k ds).length=ds.length
 | [],_=>rfl
 |_::ds,k=>by show (iC (k+1) ds).length+1=ds.length+1;rw[pY ds]
section
variable{K:W.Frag}{mg:Ra}{ρ ρ1:List Addr}{H H1:Hp}{h h1:AH}
def SrcR.at_(r:SrcR K mg ρ H s b a)(l:Le ρ H ρ1 H1)(w:Wd K mg ρ1 h1 H1)(g:s.guard h1):∃vs,SqB K b H1 a vs/\RelDs K mg ρ1 H1 s.items vs:=by
 cases s with
 |
  lst n xs=>
  cases b with
  |true=>exact bE w (l.pre _ _ r) g
  |false=>exact r.elim
 |
  tup xs=>
  cases b with
  |true=>exact r.elim
  |false=>obtain⟨vs,q,rs⟩:=r;exact⟨vs,l.sqT q,rs.mono l⟩
 |rng _ _=>cases b <;> exact r.elim
 |enm _=>cases b <;> exact r.elim
 |zip _ _=>cases b <;> exact r.elim
def ItR.step(hJ:ItR K mg ρ H it J)(l:Le ρ H ρ1 H1)(w:Wd K mg ρ1 h1 H1)(g:it.guard h1):
 (∀(i:Nat) (d:D),it.items[i]?=some d->J.go i H1/\∀x H',J.yld i H1 x H'->Le ρ1 H1 ρ1 H'/\Wd K mg ρ1 h1 H'/\RelD K mg ρ1 H' d x)/\J.stop it.items.length H1:=by
 cases it with
 |
  lst n xs=>
  obtain⟨a,ea,rfl⟩:=hJ
  obtain⟨vs,q,rs⟩:=bE w (l.pre _ _ ea) g
  refine⟨λi d e=>?_,vs,q,by rw[<- rs.len];exact p_ _⟩
  obtain⟨v,ev,rv⟩:=rs.getD e
  refine⟨⟨vs,v,q,ev⟩,λx H' ⟨e1,y⟩=>?_⟩
  subst e1
  have:=(y vs q).symm.trans ev
  cases this
  exact⟨Le.refl,w,rv⟩
 |
  tup xs=>
  obtain⟨p,vs,q,rs,rfl⟩:=hJ
  have q1:=l.sqT q
  have rs1:=rs.mono l
  refine⟨λi d e=>?_,vs,q1,by rw[<- rs1.len];exact p_ _⟩
  obtain⟨v,ev,rv⟩:=rs1.getD e
  refine⟨⟨vs,v,q1,ev⟩,λx H' ⟨e1,y⟩=>?_⟩
  subst e1
  have:=(y vs q1).symm.trans ev
  cases this
  exact⟨Le.refl,w,rv⟩
 |
  rng lo k=>
  cases hJ
  refine⟨λi d e=>?_,?_⟩
  ·have e':((List.range k).map λi=>D.int (lo+(i:Nat)))[i]?=some d:=e
   rw[E_] at e'
   cases q:(List.range k)[i]? with
   |none=>rw[q] at e';cases e'
   |
    some j=>
    rw[q] at e'
    have hj:=k_.mp q
    have e2:=hj.2
    rw[List.getElem_range] at e2
    subst e2
    cases e'
    refine⟨show i<k by simpa using hj.1,λx H' ⟨e1,e2⟩=>?_⟩
    subst e1 e2
    exact⟨Le.refl,w,.int _⟩
  ·show k<=((List.range k).map λi=>D.int (lo+(i:Nat))).length
   simp
 |
  enm s=>
  obtain⟨b,a,r,rfl⟩:=hJ
  obtain⟨vs,q,rs⟩:=r.at_ l w g
  refine⟨λi d e=>?_,vs,q,by show vs.length=(iC 0 s.items).length;rw[pY,rs.len]⟩
  obtain⟨d',q1,rfl⟩:=sI (show (iC 0 s.items)[i]?=some d from e)
  obtain⟨v,ev,rv⟩:=rs.getD q1
  refine⟨⟨vs,v,q,ev⟩,λx H' ⟨p,u,e1,hp,e2,hu⟩=>?_⟩
  subst e1 e2
  have:=(hu vs q).symm.trans ev
  cases this
  rw[Nat.zero_add]
  exact⟨cJ hp,w.tuple hp,.tup (SqT.of bB) (.cons (.int _) (.cons (rv.mono (cJ hp)) .nil))⟩
 |
  zip s t=>
  obtain⟨b,c,a,d,r1,r2,rfl⟩:=hJ
  obtain⟨vs,q,rs⟩:=r1.at_ l w g.1
  obtain⟨us,q',rs'⟩:=r2.at_ l w g.2
  refine⟨λi e ei=>?_,vs,us,q,q',?_⟩
  ·have ei':(List.zipWith (λx y=>D.tup [x,y]) s.items t.items)[i]?=some e:=ei
   rw[Pn] at ei'
   cases k1:s.items[i]? with
   |none=>rw[k1] at ei';cases ei'
   |
    some d1=>
    cases k2:t.items[i]? with
    |none=>rw[k1,k2] at ei';cases ei'
    |
     some d2=>
     rw[k1,k2] at ei'
     cases ei'
     obtain⟨v,ev,rv⟩:=rs.getD k1
     obtain⟨v',ev',rv'⟩:=rs'.getD k2
     refine⟨⟨vs,us,v,v',q,q',ev,ev'⟩,λx H' ⟨p,u,u',e1,hp,e2,hu,hu'⟩=>?_⟩
     subst e1 e2
     have:=(hu vs q).symm.trans ev
     cases this
     have:=(hu' us q').symm.trans ev'
     cases this
     exact⟨cJ hp,w.tuple hp,.tup (SqT.of bB) (.cons (rv.mono (cJ hp)) (.cons (rv'.mono (cJ hp)) .nil))⟩
  ·have hl:(AIt.zip s t).items.length=min s.items.length t.items.length:=Pz ..
   rw[hl,rs.len,rs'.len]
   rcases Nat.le_total vs.length us.length with z |z
   ·left;rw[QB z];exact List.getElem?_eq_none (p_ _)
   ·right;rw[Nat.min_eq_right z];exact List.getElem?_eq_none (p_ _)
end
def SR.loop(r:SR)(f:AE->AH->SR):SR:=match r with
 |.nx ae h=>f ae h
 |.ct ae h=>f ae h
 |.bk ae h=>.nx ae h
 |.rt d h=>.rt d h
 |.exc c ae h=>.exc c ae h
 |.stuck=>.stuck
open Classical in
def fE(G:AH->Prop)(g:MG)(B:MS):List D->MS
 | [],ae,h=>if G h then .nx ae h else .stuck
 |d::ds,ae,h=>if G h then (g d ae h).toS ae λae1 h1=>(B ae1 h1).loop (fE G g B ds) else .stuck
abbrev MI:=AE->AH->R AIt
def nj(I:MI)(g:MG)(B:MS):MS:=λae h=>(I ae h).toS ae λit h1=>fE it.guard g B it.items ae h1
open Classical in
def lcL(G:AH->Prop)(g:MG)(c:MT)(F:ME):List D->List D->AE->AH->R (List D)
 | [],acc,_,h=>if G h then .ok acc h else .stuck
 |d::ds,acc,ae,h=>if G h/\acc.length<16777216 then (g d ae h).bind λae1 h1=>(c ae1 h1).bind λb h2=>if b=true then (F ae1 h2).bind λy h3=>lcL G g c F ds (acc++[y]) ae1 h3 else lcL G g c F ds acc ae1 h2 else .stuck
noncomputable def jo(sub:Rh)(ae:AE):AE:=sub.map λo=>o.bind λi=>(ae[i]?).bind id
def eLC(I:MI)(sub:Rh)(g:MG)(c:MT)(F:ME):ME:=λae h=>(I ae h).bind λit h1=>(noX (lcL it.guard g c F it.items [] (jo sub ae) h1)).bind bN
noncomputable def tY:MT:=λ_ h=>.ok true h
section
variable(K:W.Frag)(mg:Ra)
def rdI(ES:St->XK)(F:MI):TI:=λσ H R'=>∃ρ h ae,Wd K mg ρ h H/\RelE K mg ρ H ae σ/\PostG K mg ρ H (ES σ) (λit _ ρ' H'=>∀J,ItR K mg ρ' H' it J->R' J H') (F ae h)
def DI(X:Cx)(ES:St->XK)(tg am:Expr)(F:MI):Prop:=PI X tg am (rdI K mg ES F)
end
noncomputable def B7(F:ME):MI:=λae h=>(F ae h).bind λd h1=>match d with
 |.tup xs=>.ok (.tup xs) h1
 |.ref n=>match aP h1 n with
  |some xs=>.ok (.lst n xs) h1
  |none=>.stuck
 |_=>.stuck
noncomputable def B6(A:MA):MI:=λae h=>(A ae h).bind λds h1=>match ds with
 | [.int j]=>if -(2^62)<=j/\j<2^62 then .ok (.rng 0 j.toNat) h1 else .stuck
 |_=>.stuck
noncomputable def gp(d:D)(h:AH):Option AIt:=match d with
 |.tup xs=>some (.tup xs)
 |.ref n=>(aP h n).map (.lst n)
 |_=>none
noncomputable def Aa(A:MA):MI:=λae h=>(A ae h).bind λds h1=>match ds with
 | [d,e]=>(match gp d h1,gp e h1 with
  |some s,some t=>.ok (.zip s t) h1
  |_,_=>.stuck)
 |_=>.stuck
section
variable{K:W.Frag}{mg:Ra}{X:Cx}{ES:St->XK}{tg am e a b c ge:Expr}{F:ME}{A:MA}{I:MI}{g:MG}{cf:MT}{U:MS}{sts:List Stmt}{pos:Pos}
def PI.imp(h:PI X tg am t)(k:∀σ H Q,t' σ H Q->t σ H Q):PI X tg am t':=λpins s σ H Q I w=>h pins s σ H Q I (k σ H Q w)
def GS(hl:PE X l tl):PI X tg l (λσ H R=>tl σ H λx H1=>(∃a,x=.ref a/\(∃xs,SqL X.K H1 a xs)/\R (Itl X.K a) H1)\/(∃a,x=.ref a/\(∃xs,SqT X.K H1 a xs)/\R (Itt X.K a) H1)):=by
 intro pins s σ H R I h
 refine thn (hl pins s σ H _ I h) λv s1 ⟨x,H1,I1,r1,q1⟩=>?_
 rcases q1 with ⟨a,e,⟨xs,hq⟩,q⟩ |⟨a,e,⟨xs,hq⟩,q⟩
 ·subst e
  cases r1
  obtain⟨its,rv,p,hz⟩:=I1.list hq
  refine Ql p.isList ?_
  refine⟨s1.heap.objs.size,[s1.heap.objs.size],_,_,H1,rfl,I1.kept (t':=s1.toks) λb o e=>v_ _ e,yI a _,⟨_,Em _ rfl,rfl,rfl⟩,λb hb=>?_,q⟩
  have e:b=s1.heap.objs.size:=by simpa using hb
  subst e
  exact I1.fpOk (p_ _) (I1.hok.fresh (p_ _))
 ·subst e
  cases r1
  obtain⟨its,rv,p,hz⟩:=I1.tuple hq
  refine wpAny_pyIter_tuple (show s1.heap.IsTuple a its.toArray from p) ?_
  refine⟨s1.heap.objs.size,[s1.heap.objs.size],_,_,H1,rfl,I1.kept (t':=s1.toks) λb o e=>v_ _ e,vN a _,⟨_,Em _ rfl,rfl,rfl⟩,λb hb=>?_,q⟩
  have e:b=s1.heap.objs.size:=by simpa using hb
  subst e
  exact I1.fpOk (p_ _) (I1.hok.fresh (p_ _))
def Gi(hK:X.K=K)(he:DE K mg X ES e F):DI K mg X ES tg e (B7 F):=by
 subst hK
 refine PI.imp (GS he) λσ H R ⟨ρ,h,ae,w,re,p⟩=>⟨ρ,h,ae,w,re,p.bind.imp λd h1 ρ1 H1 l1 w1 p1 v rv=>?_⟩
 cases rv with
 |tup q rs=>exact .inr ⟨_,rfl,⟨_,q⟩,p1 ρ1 H1 Le.refl w1 _ ⟨_,_,q,rs,rfl⟩⟩
 |
  ref ea=>
  dsimp only at p1
  split at p1
  ·rename_i xs e1
   obtain⟨vs,q,rs⟩:=bE w1 ea e1
   exact .inl ⟨_,rfl,⟨_,q⟩,p1 ρ1 H1 Le.refl w1 _ ⟨_,ea,rfl⟩⟩
  ·exact p1.elim
 |_=>exact p1.elim
def xt(hg:Gl X "range")(hm:mg "range"=none)(ha:DA K mg X ES [a] A)(hk:X.mg=mg)(hs:starEach [a] X.env=[(false,eval a X.env)]):DI K mg X ES tg (.Call (.Name "range" p) [a] [] pos) (B6 A):=by
 subst hk
 refine PI.imp (wI hg hm ha hs) λσ H R ⟨ρ,h,ae,w,re,p⟩=>⟨ρ,h,ae,w,re,p.bind.imp λds h1 ρ1 H1 l1 w1 p1 vs rs=>?_⟩
 split at p1
 ·cases rs with
  |
   cons r rs=>
   cases r;cases rs
   split at p1
   ·rename_i hb
    exact⟨_,rfl,hb.1,hb.2,p1 ρ1 H1 Le.refl w1 _ rfl⟩
   ·exact p1.elim
 ·exact p1.elim
def n8(w:Wd K mg ρ h H)(r:RelD K mg ρ H d v)(q:gp d h=some s):∃b p,v=.ref p/\SrcR K mg ρ H s b p/\∃vs,SqB K b H p vs:=by
 cases r with
 |tup hq rs=>cases q;exact⟨false,_,rfl,⟨_,hq,rs⟩,_,hq⟩
 |
  ref ea=>
  obtain⟨xs,q1,rfl⟩:=D_.mp q
  obtain⟨vs,h1,h2⟩:=bE w ea q1
  exact⟨true,_,rfl,ea,vs,h1⟩
 |_=>cases q
def JL(hK:X.K=K)(hg:Gl X "zip")(hm:mg "zip"=none)(ha:DA K mg X ES [a,b] A)(hk:X.mg=mg)(hs:starEach [a,b] X.env=[(false,eval a X.env),(false,eval b X.env)])(hs2:starEach [b] X.env=[(false,eval b X.env)]):DI K mg X ES (.Tuple elts x1 tp) (.Call (.Name "zip" p) [a,b] [] pos) (Aa A):=by
 subst hk hK
 refine PI.imp (HF hg hm ha hs hs2) λσ H R ⟨ρ,h,ae,w,re,p⟩=>⟨ρ,h,ae,w,re,p.bind.imp λds h1 ρ1 H1 l1 w1 p1 vs rs=>?_⟩
 split at p1
 ·cases
   rs with
  |
   cons r rs=>
   cases rs with
   |
    cons r' rs=>
    cases rs
    split at p1
    ·rename_i s t q q'
     obtain⟨b,pa,rfl,sr,xs,hx⟩:=n8 w1 r q
     obtain⟨c,pd,rfl,sr',ys,hy⟩:=n8 w1 r' q'
     exact⟨b,c,pa,pd,xs,ys,rfl,hx,hy,p1 ρ1 H1 Le.refl w1 _ ⟨b,c,pa,pd,sr,sr',rfl⟩⟩
    ·exact p1.elim
 ·exact p1.elim
def qW(p:PostS K mg ρ H De ES (r.loop f))(i:∀ae1 h1 ρ1 H1 σ1,Le ρ H ρ1 H1->Wd K mg ρ1 h1 H1->RelE K mg ρ1 H1 ae1 σ1->PostS K mg ρ1 H1 De ES (f ae1 h1)->N σ1 H1):
 PostS K mg ρ H { De with nx:=N,ct:=N,bk:=De.nx } ES r:=by
 cases r with
 |nx ae1 h1=>exact λρ1 H1 σ1 l1 w1 re1=>i ae1 h1 ρ1 H1 σ1 l1 w1 re1 (PostS.mono l1 p)
 |rt d h1=>exact p
 |bk ae1 h1=>exact p
 |ct ae1 h1=>exact λρ1 H1 σ1 l1 w1 re1=>i ae1 h1 ρ1 H1 σ1 l1 w1 re1 (PostS.mono l1 p)
 |exc c ae1 h1=>exact p
 |stuck=>exact p
def yc(hp:PassesOwn (model X.prog X.w) X.A X.env X.xe)(hc:X.calm=true)(hi:DI K mg X ES tg am I)(hg:DG K mg X ES tg g)(hb:DSs K mg X ES sts U)
 (hs:∀x,foldedSetIterable am X.env x=pure x):DS K mg X ES (.For tg am sts [] pos) (nj I g U):=by
 refine PS.imp (K4 hp hc hi hg hb hs) λDe σ H q_=>q_.el λρ h ae w re p=>⟨ρ,h,ae,w,re,bR p re λit h1 ρ1 H1 l1 w1 re1 p1 J hJ=>?_⟩
 refine⟨λi m σ2 H2=>m=it.items.length-i/\i<=it.items.length/\∃ρ2 h2 ae2,Le ρ1 H1 ρ2 H2/\Wd K mg ρ2 h2 H2/\RelE K mg ρ2 H2 ae2 σ2/\PostS K mg ρ2 H2 De ES (fE it.guard g U (it.items.drop i) ae2 h2),⟨_,rfl,Oq _,ρ1,h1,ae,Le.refl,w1,re1,p1⟩,?_⟩
 rintro i m σ2 H2 ⟨rfl,hi',ρ2,h2,ae2,l2,w2,re2,p2⟩
 by_cases hlt:i<it.items.length
 ·have hd:it.items.drop i=it.items[i]::it.items.drop (i+1):=List.drop_eq_getElem_cons hlt
  rw[hd] at p2
  unfold fE at p2
  split at p2
  ·rename_i hG
   obtain⟨st,_⟩:=hJ.step l2 w2 hG
   obtain⟨go,yl⟩:=st i it.items[i] (z_ hlt)
   refine .inr ⟨go,λσ' H'=>∃ρ3 h3 ae3,Le ρ1 H1 ρ3 H'/\Wd K mg ρ3 h3 H'/\RelE K mg ρ3 H' ae3 σ'/\PostS K mg ρ3 H' De ES (fE it.guard g U (it.items.drop (i+1)) ae3 h3),
    λσ' H' ⟨ρ3,h3,ae3,q⟩=>⟨_,by omega,rfl,hlt,ρ3,h3,ae3,q⟩,λx H' hy=>?_⟩
   obtain⟨ly,wy,rx⟩:=yl x H' hy
   refine⟨ρ2,h2,ae2,_,wy,re2.mono ly,rx,bR (PostS.mono ly p2) (re2.mono ly) λae3 h3 ρ3 H3 l3 w3 re3 p3 σ' re'=>⟨ρ3,h3,ae3,w3,re',qW p3 λae4 h4 ρ4 H4 σ4 l4 w4 re4 p4=>⟨ρ4,h4,ae4,((l2.trans ly).trans l3).trans l4,w4,re4,p4⟩⟩⟩
  ·exact p2.elim
 ·have hi2:i=it.items.length:=by omega
  subst hi2
  rw[List.drop_length] at p2
  unfold fE at p2
  split at p2
  ·rename_i hG
   exact .inl ⟨(hJ.step l2 w2 hG).2,gj p2 w2 re2⟩
  ·exact p2.elim
def AZ(re:RelE K mg ρ H ae σ)(sub:Rh):RelE K mg ρ H (jo sub ae) (fN sub σ):=by
 unfold jo fN
 refine⟨by rw[j_,j_],λj d e=>?_⟩
 rw[E_] at e ⊢
 cases q:sub[j]? with
 |none=>rw[q] at e;cases e
 |
  some o=>
  rw[q] at e
  cases o with
  |none=>cases e
  |
   some i=>
   have e':(ae[i]?).bind id=some d:=G_ e
   cases q2:ae[i]? with
   |none=>rw[q2] at e';cases e'
   |
    some z=>
    rw[q2] at e'
    have e3:z=some d:=e'
    subst e3
    obtain⟨v,h1,h2⟩:=re.at_ i d q2
    refine⟨v,?_,h2⟩
    show some ((σ[i]?).bind id)=some (some v)
    rw[h1];rfl
def kR(p:PostG K mg ρ H E k ((noX (r.bind f)).bind m)):
 PostG K mg ρ H E0 (λa h1 ρ' H'=>PostG K mg ρ' H' E k ((noX (f a h1)).bind m)) r:=by
 cases r with
 |ok a h1=>exact λρ1 H1 l1 w1=>PostG.mono l1 p
 |exc c h1=>exact p.elim
 |stuck=>exact p.elim
def CY(σ:St)(H:Hp)(Q:VK)(q:rdE K mg ES (eLC I sub g cf F) σ H Q):jl (rdI K mg ES I) sub (rdG K mg (λ_=>E0) g) (rdT K mg (λ_=>E0) cf) (rdE K mg (λ_=>E0) F) σ H Q:=by
 obtain⟨ρ,h,ae,w,re,p⟩:=q
 refine⟨ρ,h,ae,w,re,p.bind.imp λit h1 ρ1 H1 l1 w1 p1 J hJ=>?_⟩
 have re1:=AZ (re.mono l1) sub
 refine⟨λi m ys σ2 H2=>m=it.items.length-i/\i<=it.items.length/\∃ρ2 h2 ae2 acc,Le ρ1 H1 ρ2 H2/\Wd K mg ρ2 h2 H2/\RelE K mg ρ2 H2 ae2 σ2/\RelDs K mg ρ2 H2 acc ys/\
  PostG K mg ρ2 H2 (ES σ) (λd _ ρ' H'=>∀v,RelD K mg ρ' H' d v->Q v H') ((noX (lcL it.guard g cf F (it.items.drop i) acc ae2 h2)).bind bN),
  ⟨_,rfl,Oq _,ρ1,h1,jo sub ae,[],Le.refl,w1,re1,.nil,p1⟩,?_⟩
 rintro i m ys σ2 H2 ⟨rfl,hi',ρ2,h2,ae2,acc,l2,w2,re2,rs,p2⟩
 by_cases hlt:i<it.items.length
 ·have hd:it.items.drop i=it.items[i]::it.items.drop (i+1):=List.drop_eq_getElem_cons hlt
  rw[hd] at p2
  unfold lcL at p2
  split at p2
  ·rename_i hG
   obtain⟨st,_⟩:=hJ.step l2 w2 hG.1
   obtain⟨go,yl⟩:=st i it.items[i] (z_ hlt)
   refine .inr ⟨go,by rw[<- rs.len];exact hG.2,λys' σ' H'=>∃ρ3 h3 ae3 acc3,Le ρ1 H1 ρ3 H'/\Wd K mg ρ3 h3 H'/\RelE K mg ρ3 H' ae3 σ'/\RelDs K mg ρ3 H' acc3 ys'/\
    PostG K mg ρ3 H' (ES σ) (λd _ ρ' H'=>∀v,RelD K mg ρ' H' d v->Q v H') ((noX (lcL it.guard g cf F (it.items.drop (i+1)) acc3 ae3 h3)).bind bN),
    λys' σ' H' ⟨ρ3,h3,ae3,acc3,q⟩=>⟨_,by omega,rfl,hlt,ρ3,h3,ae3,acc3,q⟩,λx H' hy=>?_⟩
   obtain⟨ly,wy,rx⟩:=yl x H' hy
   refine⟨ρ2,h2,ae2,_,wy,re2.mono ly,rx,(kR (PostG.mono ly p2)).imp λae3 h3 ρ3 H3 l3 w3 p3 σ3 re3=>⟨ρ3,h3,ae3,w3,re3,(kR p3).imp λb h4 ρ4 H4 l4 w4 p4=>?_⟩⟩
   cases b with
   |true=>exact⟨ρ4,h4,ae3,w4,re3.mono l4,(kR p4).imp λy h5 ρ5 H5 l5 w5 p5 v rv=>⟨ρ5,h5,ae3,acc++[y],(((l2.trans ly).trans l3).trans l4).trans l5,w5,(re3.mono l4).mono l5,((((rs.mono ly).mono l3).mono l4).mono l5).append (.cons rv .nil),p5⟩⟩
   |false=>exact⟨ρ4,h4,ae3,acc,((l2.trans ly).trans l3).trans l4,w4,re3.mono l4,((rs.mono ly).mono l3).mono l4,p4⟩
  ·exact p2.elim
 ·have hi2:i=it.items.length:=by omega
  subst hi2
  rw[List.drop_length] at p2
  unfold lcL at p2
  split at p2
  ·rename_i hG
   refine .inl ⟨(hJ.step l2 w2 hG).2,?_⟩
   have p3:PostG K mg ρ2 H2 (ES σ) (λd _ ρ' H'=>∀v,RelD K mg ρ' H' d v->Q v H') (bN acc h2):=p2
   unfold bN at p3
   split at p3
   ·rename_i hl
    exact⟨by rw[<- rs.len];exact hl,λq hq=>c9 w2 rs hq p3⟩
   ·exact p3.elim
  ·exact p2.elim
def LO(M:List Str)(kn:List (Str×NameKind))(N:List Str)(sub:Rh)
 (hc:X.calm=true) (hi:DI K mg X ES tg am I)
 (hg:∀cl C s₂ H fp,DG K mg (aQ X N scope cl C s₂ H fp) (λ_=>E0) tg g) (he:∀cl C s₂ H fp,DE K mg (aQ X N scope cl C s₂ H fp) (λ_=>E0) ge F)
 (hM:X.N=M) (hkn:X.env.scope.names=kn) (d_:fM M scope.names sub N=true)
 (hk:scope.kind=.function) (hnc:∀x∈scope.names,x.2 ≠ .cell) (be:∀x∈scope.names,x.2=.local->scope.names.lookup x.1=some .local)
 (hfr:ik kn scope.names=true)
 (hsl:sub.length=N.length) (hs:∀x,foldedSetIterable am X.env x=pure x):
 DE K mg X ES (.ListComp ge [⟨tg,am,[],0⟩] scope pos) (eLC I sub g tY F):=
 PE.imp (Mo M kn N sub hc hi hg he hM hkn d_ hk hnc be hfr hsl hs) λσ H Q q=>by
  have:=CY (cf:=tY) σ H Q q
  obtain⟨ρ,h,ae,w,re,p⟩:=this
  refine⟨ρ,h,ae,w,re,p.imp λit h1 ρ1 H1 l1 w1 k J hJ=>?_⟩
  obtain⟨W,w0,tn⟩:=k J hJ
  refine⟨W,w0,λi m ys σ2 H2 hW=>?_⟩
  rcases tn i m ys σ2 H2 hW with z |⟨go,hl,Nx,hN,st⟩
  ·exact .inl z
  ·refine .inr ⟨go,hl,Nx,hN,λx H' hy=>?_⟩
   obtain⟨ρ3,h3,ae3,d3,w3,re3,rd3,p3⟩:=st x H' hy
   refine⟨ρ3,h3,ae3,d3,w3,re3,rd3,p3.imp λae4 h4 ρ4 H4 l4 w4 k4 σ4 re4=>?_⟩
   obtain⟨ρ5,h5,ae5,w5,re5,p5⟩:=k4 σ4 re4
   exact p5 ρ5 _ Le.refl w5
def JM(σ:St)(H:Hp)(Q:VK)(q:rdE K mg ES (eLC I sub g tY F) σ H Q):jl (rdI K mg ES I) sub (rdG K mg (λ_=>E0) g) Bo (rdE K mg (λ_=>E0) F) σ H Q:=by
 have:=CY (cf:=tY) σ H Q q
 obtain⟨ρ,h,ae,w,re,p⟩:=this
 refine⟨ρ,h,ae,w,re,p.imp λit h1 ρ1 H1 l1 w1 k J hJ=>?_⟩
 obtain⟨W,w0,tn⟩:=k J hJ
 refine⟨W,w0,λi m ys σ2 H2 hW=>?_⟩
 rcases tn i m ys σ2 H2 hW with z |⟨go,hl,Nx,hN,st⟩
 ·exact .inl z
 ·refine .inr ⟨go,hl,Nx,hN,λx H' hy=>?_⟩
  obtain⟨ρ3,h3,ae3,d3,w3,re3,rd3,p3⟩:=st x H' hy
  refine⟨ρ3,h3,ae3,d3,w3,re3,rd3,p3.imp λae4 h4 ρ4 H4 l4 w4 k4 σ4 re4=>?_⟩
  obtain⟨ρ5,h5,ae5,w5,re5,p5⟩:=k4 σ4 re4
  exact p5 ρ5 _ Le.refl w5
def C9(ht:∀σ H Q,rdE K mg ES F σ H Q->t σ H Q)(De:Ends)(σ:St)(H:Hp)(q:rdS K mg ES (f6 F (gN i)) De σ H):pQ t (mD i) De σ H:=by
 obtain⟨ρ,h,ae,w,re,p⟩:=q
 exact ht σ H _ ⟨ρ,h,ae,w,re,bR p re λd h1 ρ1 H1 l1 w1 re1 p1 v rv=>gj p1 w1 (re1.set i rv)⟩
def Mp(M:List Str)(kn:List (Str×NameKind))(N:List Str)(sub:Rh)
 (hc:X.calm=true) (hN:X.N.Nodup) (hix:X.N[iT]?=some xT) (hxl:Loc X.env.scope xT) (hi:DI K mg X ES tg am I)
 (hg:∀cl C s₂ H fp,DG K mg (aQ X N scope cl C s₂ H fp) (λ_=>E0) tg g) (he:∀cl C s₂ H fp,DE K mg (aQ X N scope cl C s₂ H fp) (λ_=>E0) ge F)
 (hsw:swapsWith (.ListComp ge [⟨tg,am,[],0⟩] scope pos) (some (.Name xT px)) spos.line X.env=pure true)
 (hM:X.N=M) (hkn:X.env.scope.names=kn) (d_:fM M scope.names sub N=true)
 (hk:scope.kind=.function) (hnc:∀x∈scope.names,x.2 ≠ .cell) (be:∀x∈scope.names,x.2=.local->scope.names.lookup x.1=some .local)
 (hfr:ik kn scope.names=true)
 (hsl:sub.length=N.length) (hs:∀x,foldedSetIterable am X.env x=pure x) (hf:X.fn xT=true\/X.env.scope.names.lookup xT=some .local):
 DS K mg X ES (.Assign [.Name xT px] (.ListComp ge [⟨tg,am,[],0⟩] scope pos) spos) (f6 (eLC I sub g tY F) (gN iT)):=
 PS.imp (LP M kn N sub hc hN hix hxl hi hg he hsw hM hkn d_ hk hnc be hfr hsl hs hf) (C9 JM)
end
noncomputable def whN(c:MT)(B:MS):Nat->MS
 |0,_,_=>.stuck
 |k+1,ae,h=>(c ae h).toS ae λb h1=>if b=true then (B ae h1).loop (whN c B k) else .nx ae h1
open Classical in
def sWh(c:MT)(B:MS):MS:=λae h=>if q:∃k,whN c B k ae h ≠ .stuck then whN c B q.choose ae h else .stuck
theorem kQ:∀{k:Nat}{ae:AE}{h:AH},whN c B k ae h ≠ .stuck->whN c B (k+1) ae h=whN c B k ae h
 |0,_,_,q=>absurd rfl q
 |
  k+1,ae,h,q=>by
  have e1:whN c B (k+2) ae h=(c ae h).toS ae λb h1=>if b=true then (B ae h1).loop (whN c B (k+1)) else .nx ae h1:=rfl
  have e2:whN c B (k+1) ae h=(c ae h).toS ae λb h1=>if b=true then (B ae h1).loop (whN c B k) else .nx ae h1:=rfl
  rw[e2] at q
  rw[e1,e2]
  cases r:c ae h with
  |exc _ _=>rfl
  |stuck=>rfl
  |
   ok b h1=>
   rw[r] at q
   cases b with
   |false=>rfl
   |
    true=>
    have q':(B ae h1).loop (whN c B k) ≠ .stuck:=q
    show (B ae h1).loop (whN c B (k+1))=(B ae h1).loop (whN c B k)
    cases s:B ae h1 with
    |nx a2 h2=>rw[s] at q';exact kQ q'
    |ct a2 h2=>rw[s] at q';exact kQ q'
    |_=>rfl
def yH(q:whN c B k ae h ≠ .stuck)(hj:k<=j):whN c B j ae h=whN c B k ae h:=by
 induction hj with
 |refl=>rfl
 |step _ ih=>rw[kQ (by rw[ih];exact q),ih]
def xj(q:whN c B k ae h ≠ .stuck):sWh c B ae h=whN c B k ae h:=by
 have hq:∃k,whN c B k ae h ≠ .stuck:=⟨k,q⟩
 unfold sWh
 rw[dif_pos hq]
 rcases Nat.le_total hq.choose k with z |z
 ·exact (yH hq.choose_spec z).symm
 ·exact yH q z
section
variable{K:W.Frag}{mg:Ra}{X:Cx}{ES:St->XK}{c:Expr}{cf:MT}{U:MS}{sts:List Stmt}{pos:Pos}
def Ar(hp:PassesOwn (model X.prog X.w) X.A X.env X.xe)(hc:DT K mg X ES c cf)(hb:DSs K mg X ES sts U):DS K mg X ES (.While c sts [] pos) (sWh cf U):=by
 refine PS.imp (zx hp hc hb) λDe σ H q_=>q_.el λρ h ae w re p=>?_
 have hx:∃k,whN cf U k ae h ≠ .stuck:=Qb λz=>by
  unfold sWh at p
  rw[dif_neg z] at p
  exact p.elim
 obtain⟨k,hk⟩:=hx
 rw[xj hk] at p
 refine⟨λm σ2 H2=>∃ρ2 h2 ae2,Wd K mg ρ2 h2 H2/\RelE K mg ρ2 H2 ae2 σ2/\PostS K mg ρ2 H2 De ES (whN cf U m ae2 h2),⟨k,ρ,h,ae,w,re,p⟩,?_⟩
 rintro m σ2 H2 ⟨ρ2,h2,ae2,w2,re2,p2⟩
 cases m with
 |zero=>exact p2.elim
 |
  succ m=>
  refine⟨ρ2,h2,ae2,w2,re2,bR p2 re2 λb h3 ρ3 H3 l3 w3 re3 p3=>?_⟩
  cases b with
  |true=>exact⟨λσ' H'=>∃ρ4 h4 ae4,Wd K mg ρ4 h4 H'/\RelE K mg ρ4 H' ae4 σ'/\PostS K mg ρ4 H' De ES (whN cf U m ae4 h4),λσ' H' q=>⟨m,Nat.lt_succ_self _,q⟩,ρ3,h3,ae2,w3,re3,qW p3 λae4 h4 ρ4 H4 σ4 l4 w4 re4 p4=>⟨ρ4,h4,ae4,w4,re4,p4⟩⟩
  |false=>exact gj p3 w3 re3
end
noncomputable def qU:Fn:=λds h=>match ds with
 | [d]=>match cI h d with
  |some xs=>.ok (.int xs.length) h
  |none=>match d with
   |.str z=>if z.length<=16777216 then .ok (.int z.length) h else .stuck
   |_=>.stuck
 |_=>.stuck
noncomputable def vT:Fn:=λds h=>match ds with
 | [.int i]=>.ok (.int (if i<0 then -i else i)) h
 |_=>.stuck
noncomputable def pL:Fn:=λds h=>match ds with
 | [.int i,.int j]=>.ok (.int (if j>i then j else i)) h
 |_=>.stuck
noncomputable def pb:Fn:=λds h=>match ds with
 | [.int i,.int j]=>.ok (.int (if j<i then j else i)) h
 |_=>.stuck
noncomputable def gX:List D->Option (List Bool)
 | []=>some []
 |.bl b::r=>(gX r).map (b :: ·)
 |_=>none
noncomputable def fT:List D->Option (List Int)
 | []=>some []
 |.int b::r=>(fT r).map (b :: ·)
 |_=>none
theorem qH:∀{ds:List D}{bs:List Bool},gX ds=some bs->ds=bs.map D.bl
 | [],bs,e=>by cases e;rfl
 |
  .bl b::r,bs,e=>by
  have e':(gX r).map (b :: ·)=some bs:=e
  cases q:gX r with
  |none=>rw[q] at e';cases e'
  |some z=>rw[q] at e';cases e';rw[qH q];rfl
theorem oE:∀{ds:List D}{bs:List Int},fT ds=some bs->ds=bs.map D.int
 | [],bs,e=>by cases e;rfl
 |
  .int b::r,bs,e=>by
  have e':(fT r).map (b :: ·)=some bs:=e
  cases q:fT r with
  |none=>rw[q] at e';cases e'
  |some z=>rw[q] at e';cases e';rw[oE q];rfl
def qc:Fn:=λds h=>match ds with
 | [.ref n]=>match (aP h n).bind gX with
  |some bs=>.ok (.bl (bs.all id)) h
  |none=>.stuck
 |_=>.stuck
def pP:Fn:=λds h=>match ds with
 | [.ref n]=>match (aP h n).bind fT with
  |some ns=>.ok (.int ns.sum) h
  |none=>.stuck
 |_=>.stuck
noncomputable def lZ:Fn:=λds h=>match ds with
 | [d]=>match cI h d with
  |some xs=>.ok (.ref h.length) (h++[.lst xs])
  |none=>.stuck
 |_=>.stuck
noncomputable def jX:Fn:=λds h=>match ds with
 | [d]=>match cI h d with
  |some xs=>.ok (.tup xs) h
  |none=>.stuck
 |_=>.stuck
noncomputable def wB:Fn:=λds h=>match ds with
 | [.int i]=>.ok (.int i) h
 | [.bl b]=>.ok (.int (if b then 1 else 0)) h
 |_=>.stuck
section
variable{K:W.Frag}{mg:Ra}{X:Cx}
def Kb:aT K mg (λxs H Q=>(∃p ys,xs=[.ref p]/\(SqL K H p ys\/SqT K H p ys)/\Q (.int ys.length) H)\/(∃z,xs=[.str z]/\z.length<=sizeLine/\Q (.int z.length) H)) qU:=λρ h H ds vs Q E w rs p=>by
 unfold qU at p
 split at p
 ·cases
   rs with
  |
   cons r rs=>
   cases rs
   split at p
   ·rename_i xs e
    obtain⟨pa,vs,rfl,hq,rs⟩:=dg w r e
    exact .inl ⟨_,_,rfl,hq,by rw[<- rs.len];exact aw w (.int _) p⟩
   ·split at p
    ·cases r
     split at p
     ·rename_i hl;exact .inr ⟨_,rfl,hl,aw w (.int _) p⟩
     ·exact p.elim
    ·exact p.elim
 ·exact p.elim
def NH(h:X.K=K):CallR X (.builtin "len") (λxs H Q=>(∃p ys,xs=[.ref p]/\(SqL K H p ys\/SqT K H p ys)/\Q (.int ys.length) H)\/(∃z,xs=[.str z]/\z.length<=sizeLine/\Q (.int z.length) H)):=by subst h;exact qr.or qw
def Jn:aT K mg (λxs H Q=>∃i,xs=[.int i]/\Q (.int (if i<0 then -i else i)) H) vT:=λρ h H ds vs Q E w rs p=>by
 unfold vT at p
 split at p
 ·cases rs with
  |cons r rs=>cases r;cases rs;exact⟨_,rfl,aw w (.int _) p⟩
 ·exact p.elim
def EZ:aT K mg (λxs H Q=>∃i j,xs=[.int i,.int j]/\Q (.int (if j>i then j else i)) H) pL:=λρ h H ds vs Q E w rs p=>by
 unfold pL at p
 split at p
 ·cases rs with
  |cons r rs=>cases rs with |cons r2 rs=>cases r;cases r2;cases rs;exact⟨_,_,rfl,aw w (.int _) p⟩
 ·exact p.elim
def EA:aT K mg (λxs H Q=>∃i j,xs=[.int i,.int j]/\Q (.int (if j<i then j else i)) H) pb:=λρ h H ds vs Q E w rs p=>by
 unfold pb at p
 split at p
 ·cases rs with
  |cons r rs=>cases rs with |cons r2 rs=>cases r;cases r2;cases rs;exact⟨_,_,rfl,aw w (.int _) p⟩
 ·exact p.elim
def Ib:aT K mg (λxs H Q=>∃(a:Addr) (bs:List Bool),xs=[.ref a]/\SqL K H a (bs.map V.bl)/\Q (.bl (bs.all id)) H) qc:=λρ h H ds vs Q E w rs p=>by
 unfold qc at p
 split at p
 ·cases
   rs with
  |
   cons r rs=>
   cases r with
   |
    ref ea=>
    cases rs
    split at p
    ·rename_i bs e
     obtain⟨xs,q,e2⟩:=Oj.mp e
     ·obtain⟨vs,h1,h2⟩:=bE w ea q
      rw[qH e2] at h2
      rw[h2.bls] at h1
      exact⟨_,bs,rfl,h1,aw w (.bl _) p⟩
    ·exact p.elim
 ·exact p.elim
def Gq:aT K mg (λxs H Q=>∃(a:Addr) (ns:List Int),xs=[.ref a]/\SqL K H a (ns.map V.int)/\Q (.int ns.sum) H) pP:=λρ h H ds vs Q E w rs p=>by
 unfold pP at p
 split at p
 ·cases
   rs with
  |
   cons r rs=>
   cases r with
   |
    ref ea=>
    cases rs
    split at p
    ·rename_i bs e
     obtain⟨xs,q,e2⟩:=Oj.mp e
     ·obtain⟨vs,h1,h2⟩:=bE w ea q
      rw[oE e2] at h2
      rw[h2.ints] at h1
      exact⟨_,bs,rfl,h1,aw w (.int _) p⟩
    ·exact p.elim
 ·exact p.elim
def DY:aT K mg (λxs H Q=>∃p ys,xs=[.ref p]/\(SqL K H p ys\/SqT K H p ys)/\∀l,H l=none->Q (.ref l) (upd H l (.lst ys))) lZ:=λρ h H ds vs Q E w rs p=>by
 unfold lZ at p
 split at p
 ·cases rs with
  |
   cons r rs=>
   cases rs
   split at p
   ·rename_i xs e
    obtain⟨pa,vs,rfl,hq,rs⟩:=dg w r e
    exact⟨_,_,rfl,hq,λl hl=>c9 w rs hl p⟩
   ·exact p.elim
 ·exact p.elim
def Am:aT K mg (λxs H Q=>∃p ys,xs=[.ref p]/\((SqL K H p ys/\∀l,H l=none->Q (.ref l) (upd H l (.tup ys)))\/(SqT K H p ys/\Q (.ref p) H))) jX:=λρ h H ds vs Q E w rs p=>by
 unfold jX at p
 split at p
 ·cases rs with
  |
   cons r rs=>
   cases rs
   split at p
   ·rename_i xs e
    obtain⟨pa,vs,rfl,hq,rs⟩:=dg w r e
    rcases hq with hq |hq
    ·exact⟨_,_,rfl,.inl ⟨hq,λl hl=>jk w rs hl p⟩⟩
    ·exact⟨_,_,rfl,.inr ⟨hq,aw w (.tup hq rs) p⟩⟩
   ·exact p.elim
 ·exact p.elim
def IG:aT K mg (λxs H Q=>(∃i,xs=[.int i]/\Q (.int i) H)\/∃k,xs=[.bl k]/\Q (.int (if k then 1 else 0)) H) wB:=λρ h H ds vs Q E w rs p=>by
 unfold wB at p
 split at p
 ·cases rs with
  |cons r rs=>cases r;cases rs;exact .inl ⟨_,rfl,aw w (.int _) p⟩
 ·cases rs with
  |cons r rs=>cases r;cases rs;exact .inr ⟨_,rfl,aw w (.int _) p⟩
 ·exact p.elim
def JH(h:X.K=K):CallR X (.type "list") (λxs H Q=>∃p ys,xs=[.ref p]/\(SqL K H p ys\/SqT K H p ys)/\∀l,H l=none->Q (.ref l) (upd H l (.lst ys))):=by subst h;exact rf
def uC(h:X.K=K):CallR X (.type "tuple") (λxs H Q=>∃p ys,xs=[.ref p]/\((SqL K H p ys/\∀l,H l=none->Q (.ref l) (upd H l (.tup ys)))\/(SqT K H p ys/\Q (.ref p) H))):=by subst h;exact oU
end
inductive Cl where
 |b (n:String) |o (x:Str)
 deriving DecidableEq
noncomputable def tyD(h:AH):D->Option Cl
 |.non=>some (.b "NoneType")
 |.bl _=>some (.b "bool")
 |.int _=>some (.b "int")
 |.str _=>some (.b "str")
 |.tup _=>some (.b "tuple")
 |.exc x=>some (.o x)
 |.ref n=>match h[n]? with
  |some (.lst _)=>some (.b "list")
  |some (.fz _)=>some (.b "list")
  |some (.dct _)=>some (.b "dict")
  |_=>none
 |_=>none
noncomputable def clD:D->Option Cl
 |.ty n=>some (.b n)
 |.glb x=>some (.o x)
 |_=>none
def ClV(mg:Ra):Cl->Value->Prop
 |.b n,v=>v=.type n
 |.o x,v=>∃a,v=.ref a/\mg x=some (.ref a)
abbrev i9:=List (Cl×Cl×Bool)
structure KitsOk(K:W.Frag)(mg:Ra)(kt:i9):Prop where
 one:∀p∈kt,∀t v,ClV mg p.1 t->ClV mg p.2.1 v->W.kitOne K t v=some p.2.2
 xc:∀p∈kt,∀x C,p.1=.o x->mg x=some (.ref C)->XCls K C
noncomputable def kit(kt:i9)(t c:Cl):Option Bool:=(kt.find? λp=>decide (p.1=t)&&decide (p.2.1=c)).map (·.2.2)
noncomputable def fF(kt:i9)(t:Cl):List Cl->Option Bool
 | []=>some false
 |c::r=>match kit kt t c with
  |some true=>some true
  |some false=>fF kt t r
  |none=>none
def qN(kt:i9):Fn:=λds h=>match ds with
 | [d,c]=>match tyD h d with
  |some t=>match c with
   |.tup cs=>match cs.mapM clD with
    |some (c0::cr)=>match fF kt t (c0::cr),kit kt t c0 with
     |some b,some _=>.ok (.bl b) h
     |_,_=>.stuck
    |_=>.stuck
   |c=>match clD c with
    |some cl=>match kit kt t cl with
     |some b=>.ok (.bl b) h
     |none=>.stuck
    |none=>.stuck
  |none=>.stuck
 |_=>.stuck
def mT(e:kit kt t c=some b):(t,c,b)∈kt:=by
 unfold kit at e
 cases q:kt.find? (λp=>decide (p.1=t)&&decide (p.2.1=c)) with
 |none=>rw[q] at e;cases e
 |
  some p=>
  rw[q] at e
  have h1:=List.find?_some q
  have h2:=List.mem_of_find?_eq_some q
  simp only[n_,O9] at h1
  obtain⟨p1,p2,p3⟩:=p
  have e3:p3=b:=G_ e
  obtain⟨rfl,rfl⟩:=h1
  subst e3
  exact h2
section
variable{K:W.Frag}{mg:Ra}{X:Cx}{ρ:List Addr}{H:Hp}{h:AH}
def uk(ok:KitsOk K mg kt)(w:Wd K mg ρ h H)(r:RelD K mg ρ H d v)(e:tyD h d=some t)(k:kit kt t c=some b):∃tv,TyX K H v tv/\ClV mg t tv:=by
 cases r with
 |non=>cases e;exact⟨_,.of .non,rfl⟩
 |bl=>cases e;exact⟨_,.of (.bl _),rfl⟩
 |int=>cases e;exact⟨_,.of (.int _),rfl⟩
 |str=>cases e;exact⟨_,.of (.str _),rfl⟩
 |tup q rs=>cases e;exact⟨_,.sqT q,rfl⟩
 |
  exc m ex=>
  cases e
  exact⟨_,.exc ex (ok.xc _ (mT k) _ _ rfl m),_,rfl,m⟩
 |
  ref ea=>
  unfold tyD at e
  dsimp only at e
  split at e
  ·rename_i e1;cases e;obtain⟨vs,h1,h2⟩:=w.ob _ _ _ ea e1;exact⟨_,.of (.lst h1),rfl⟩
  ·rename_i e1;cases e;obtain⟨o,vs,h1,h2⟩:=w.ob _ _ _ ea e1;exact⟨_,.of (.frz h1),rfl⟩
  ·rename_i e1;cases e;obtain⟨ws,h1,_⟩:=w.ob _ _ _ ea e1;exact⟨_,.of (.dK h1),rfl⟩
  ·cases e
 |_=>cases e
def uF(r:RelD K mg ρ H d v)(e:clD d=some c):∃cv,eW v=some cv/\ClV mg c cv:=by
 cases r with
 |ty n=>cases e;exact⟨_,rfl,rfl⟩
 |glb m=>cases e;exact⟨_,rfl,_,rfl,m⟩
 |_=>cases e
def z9:∀{ds:List D}{vs:List V}{cs:List Cl},RelDs K mg ρ H ds vs->ds.mapM clD=some cs->∃cvs,vs.mapM eW=some cvs/\Paired (ClV mg) cs cvs:=by
 intro ds
 induction ds with
 |
  nil=>
  intro vs cs r e
  cases r
  have e':some ([]:List Cl)=some cs:=e
  cases e';exact⟨[],rfl,.nil⟩
 |
  cons d ds ih=>
  intro vs cs r e
  cases r with
  |
   cons r rr=>
   rw[P0] at e
   cases q:clD d with
   |none=>rw[q] at e;cases e
   |
    some c=>
    rw[q] at e
    cases q2:ds.mapM clD with
    |none=>rw[q2] at e;cases e
    |
     some cs'=>
     rw[q2] at e
     have e':some (c::cs')=some cs:=e
     cases e'
     obtain⟨cv,h1,h2⟩:=uF r q
     obtain⟨cvs,h3,h4⟩:=ih rr q2
     refine⟨cv::cvs,?_,.cons h2 h4⟩
     rw[P0,h1,h3];rfl
def wW(ok:KitsOk K mg kt)(ht:ClV mg t tv):∀{cs:List Cl}{cvs:List Value}{b:Bool},Paired (ClV mg) cs cvs->fF kt t cs=some b->W.kitAny K tv cvs=some b:=by
 intro cs
 induction cs with
 |
  nil=>
  intro cvs b r e
  cases r
  cases e;rfl
 |
  cons c cs ih=>
  intro cvs b r e
  cases r with
  |
   cons r rr=>
   unfold fF at e
   unfold W.kitAny
   cases q:kit kt t c with
   |none=>rw[q] at e;cases e
   |
    some z=>
    rw[q] at e
    rw[ok.one _ (mT q) _ _ ht r]
    cases z with
    |true=>exact e
    |false=>exact ih rr e
def yZ:CallR X (.builtin "isinstance") (λxs H Q=>∃x tp cs t vs b,xs=[x,.ref tp]/\SqT X.K H tp cs/\TyX X.K H x t/\cs.mapM eW=some vs/\W.kitAny X.K t vs=some b/\Q (.bl b) H):=by
 intro pins s σ H xs us Q I r h
 obtain⟨x,tp,cs,t,vs,b,rfl,ht,ty,hc,hk,q⟩:=h
 obtain⟨u,w',rfl,rx,rc⟩:=j9 r
 cases rc
 obtain⟨its,rv,⟨o,e,c,n,d⟩,_⟩:=I.tuple ht
 obtain rfl:=n5 hc rv
 obtain⟨Hh,Z,p,hne⟩:=tZ I rx ty
 obtain⟨oc,od,odt,osl⟩:=o
 have c':oc=.type "tuple":=c
 have d':odt=.seq its.toArray n:=d
 subst c' d'
 exact W.kia_tup Z I.kIn p e hk hne λtk=>⟨.bl b,H,I.tok _,rfl,q⟩
def NT(hK:X.K=K):CallR X (.builtin "isinstance") (λxs H Q=>(∃x c t v b,xs=[x,c]/\TyX K H x t/\eW c=some v/\W.kitOne K t v=some b/\Q (.bl b) H)\/
 (∃x tp cs t vs b,xs=[x,.ref tp]/\SqT K H tp cs/\TyX K H x t/\cs.mapM eW=some vs/\W.kitAny K t vs=some b/\Q (.bl b) H)):=by subst hK;exact Ca.or yZ
def IU(ok:KitsOk K mg kt):aT K mg (λxs H Q=>(∃x c t v b,xs=[x,c]/\TyX K H x t/\eW c=some v/\W.kitOne K t v=some b/\Q (.bl b) H)\/
 (∃x tp cs t vs b,xs=[x,.ref tp]/\SqT K H tp cs/\TyX K H x t/\cs.mapM eW=some vs/\W.kitAny K t vs=some b/\Q (.bl b) H)) (qN kt):=λρ h H ds vs Q E w rs p=>by
 unfold qN at p
 split at p
 ·cases
   rs with
  |
   cons r rs=>
   cases rs with
   |
    cons r2 rs=>
    cases rs
    split at p
    ·rename_i t e1
     split at p
     ·split
       at p
      ·rename_i cs c0 cr e2
       split at p
       ·rename_i b b' e3 e4
        cases r2 with
        |
         tup q rs2=>
         obtain⟨tv,h1,h2⟩:=uk ok w r e1 e4
         obtain⟨cvs,h3,h4⟩:=z9 rs2 e2
         exact .inr ⟨_,_,_,tv,cvs,b,rfl,q,h1,h3,wW ok h2 h4 e3,aw w (.bl _) p⟩
       ·exact p.elim
      ·exact p.elim
     ·split at p
      ·rename_i cl e2
       split at p
       ·rename_i b e3
        obtain⟨tv,h1,h2⟩:=uk ok w r e1 e3
        obtain⟨cv,h3,h4⟩:=uF r2 e2
        exact .inl ⟨_,_,tv,cv,b,rfl,h1,h3,ok.one _ (mT e3) _ _ h2 h4,aw w (.bl _) p⟩
       ·exact p.elim
      ·exact p.elim
    ·exact p.elim
 ·exact p.elim
end
def MtD(K:W.Frag)(mg:Ra)(r:V->List V->Hp->VK->Prop)(g:D->List D->AH->R D):Prop:=∀ρ h H dx ds x vs Q E,Wd K mg ρ h H->RelD K mg ρ H dx x->RelDs K mg ρ H ds vs->dE K mg ρ H Q E (g dx ds h)->r x vs H Q
noncomputable def ig(h:AH):D->Bool
 |.ref n=>(aP h n).isSome
 |_=>false
noncomputable def eM(g:D->List D->AH->R D)(F:ME)(A:MA):ME:=λae h=>(F ae h).bind λx h1=>if ig h1 x=true then (A ae h1).bind λds h2=>g x ds h2 else .stuck
noncomputable def eM0(g:D->List D->AH->R D)(F:ME):ME:=λae h=>(F ae h).bind λx h1=>if ig h1 x=true then g x [] h1 else .stuck
section
variable{K:W.Frag}{mg:Ra}{X:Cx}{ES:St->XK}{o e:Expr}{es:List Expr}{F G:ME}{A:MA}{pos:Pos}
def oK(w:Wd K mg ρ h H)(r:RelD K mg ρ H d v)(q:ig h d=true):tyV K "list" v H:=by
 cases r with
 |
  ref ea=>
  obtain⟨xs,e⟩:=OH.mp q
  obtain⟨vs,h1,_⟩:=bE w ea e
  exact .inl ⟨rfl,vs,h1⟩
 |_=>cases q
def Cj{name:Str}{id:String}{apos cpos:Pos}{r:V->List V->Hp->VK->Prop}{g:D->List D->AH->R D}(hK:X.K=K)(slot:Slot "list" name id)(hty:typeOf (.builtin id)=pure (.type "method_descriptor"))(hm:MtM X id r)(hd:MtD K mg r g)(ho:DE K mg X ES o F)(ha:DA K mg X ES (e::es) A)
 (b_:attributeBase o name X.env (eval o X.env)=eval o X.env)
 (hfew:((backTo cpos (starEach (e::es) X.env)).all (λx=>!x.1)&&(backToKw cpos (keywordEach [] X.env)).all (λx=>x.1.isSome)
  && decide ((e::es).length+([]:List Keyword).length+(if ([]:List Keyword).isEmpty then 0 else 1)<30))=true)
 (ci:(apos.endLine==cpos.line)=true) (hs:starEach (e::es) X.env=(false,eval e X.env)::starEach es X.env) (bn:(backTo cpos (starEach es X.env)).any (·.1)=false):
 DE K mg X ES (.Call (.Attribute o name apos) (e::es) [] cpos) (eM g F A):=by
 subst hK
 refine PE.imp (Cz PySem.F.plainAttrs_list slot hty hm ho ha b_ hfew ci hs bn) λσ H Q q_=>q_.el λρ h ae w re p=>⟨ρ,h,ae,w,re,p.bind.imp λdx h1 ρ1 H1 l1 w1 p1 x rx=>?_⟩
 split at p1
 ·rename_i hl
  exact⟨oK w1 rx hl,ρ1,h1,ae,w1,re.mono l1,p1.bind.imp λds h2 ρ2 H2 l2 w2 p2 vs rs=>hd ρ2 h2 H2 dx ds x vs Q _ w2 (rx.mono l2) rs p2⟩
 ·exact p1.elim
def Nl{name:Str}{id:String}{apos cpos:Pos}{r:V->List V->Hp->VK->Prop}{g:D->List D->AH->R D}(hK:X.K=K)(slot:Slot "list" name id)(hty:typeOf (.builtin id)=pure (.type "method_descriptor"))(hm:MtM X id r)(hd:MtD K mg r g)(ho:DE K mg X ES o F)
 (b_:attributeBase o name X.env (eval o X.env)=eval o X.env) (ci:(apos.endLine==cpos.line)=true):DE K mg X ES (.Call (.Attribute o name apos) [] [] cpos) (eM0 g F):=by
 subst hK
 refine PE.imp (J6 PySem.F.plainAttrs_list slot hty hm ho b_ ci) λσ H Q q_=>q_.el λρ h ae w re p=>⟨ρ,h,ae,w,re,p.bind.imp λdx h1 ρ1 H1 l1 w1 p1 x rx=>?_⟩
 split at p1
 ·rename_i hl
  exact⟨oK w1 rx hl,hd ρ1 h1 H1 dx [] x [] Q _ w1 rx .nil p1⟩
 ·exact p1.elim
end
noncomputable def gr(h:AH)(d:D)(f:Nat->List D->R D):R D:=match d with
 |.ref n=>match h[n]? with
  |some (.lst xs)=>f n xs
  |_=>.stuck
 |_=>.stuck
noncomputable def cV:D->List D->AH->R D:=λx ds h=>gr h x λn xs=>match ds with
 | [d]=>if xs.length<16777216 then .ok .non (h.set n (.lst (xs++[d]))) else .stuck
 |_=>.stuck
noncomputable def vb:D->List D->AH->R D:=λx ds h=>gr h x λn xs=>match ds with
 | []=>match xs[xs.length-1]? with
  |some d=>.ok d (h.set n (.lst xs.dropLast))
  |none=>.stuck
 |_=>.stuck
def eR(h:AH)(d:D):List D->Option (List Bool)
 | []=>some []
 |x::r=>match jY h x d,eR h d r with
  |some b,some bs=>some (b::bs)
  |_,_=>none
def jN:D->List D->AH->R D:=λx ds h=>match x,ds with
 |.ref n,[d]=>match (aP h n).bind (eR h d) with
  |some bs=>if bs.idxOf true<bs.length then .ok (.int (bs.idxOf true:Nat)) h else .stuck
  |none=>.stuck
 |_,_=>.stuck
def mO:D->List D->AH->R D:=λx ds h=>match x,ds with
 |.ref n,[d]=>match (aP h n).bind (eR h d) with
  |some bs=>.ok (.int (bs.count true:Nat)) h
  |none=>.stuck
 |_,_=>.stuck
section
variable{K:W.Frag}{mg:Ra}{X:Cx}{ρ:List Addr}{H:Hp}{h:AH}
def gZ(w:Wd K mg ρ h H)(r:RelD K mg ρ H d v)(p:dE K mg ρ H Q E (gr h d f)):
 ∃n xs a vs,d=.ref n/\h[n]?=some (.lst xs)/\ρ[n]?=some a/\v=.ref a/\H a=some (.lst vs)/\RelDs K mg ρ H xs vs/\dE K mg ρ H Q E (f n xs):=by
 unfold gr at p
 split at p
 ·cases r with
  |
   ref ea=>
   split at p
   ·rename_i n xs e
    obtain⟨vs,h1,h2⟩:=w.ob _ _ _ ea e
    exact⟨_,_,_,vs,rfl,e,ea,rfl,h1,h2,p⟩
   ·exact p.elim
 ·exact p.elim
def jd(w:Wd K mg ρ h H)(ea:ρ[n]?=some a)(e:H a=some (.lst vs))(rs:RelDs K mg ρ H ys ws)(rd:RelD K mg ρ H d v)(p:dE K mg ρ H Q E (.ok d (h.set n (.lst ys)))):Q v (upd H a (.lst ws)):=by
 have l:Le ρ H ρ (upd H a (.lst ws)):=lU e pf
 exact p ρ _ l (w.write ea e pf ⟨ws,bB,rs.mono l⟩) v (rd.mono l)
def oF:MtD K mg mZ cV:=λρ h H dx ds x vs Q E w rx rs p=>by
 obtain⟨n,xs,a,us,rfl,e,ea,rfl,h1,h2,p⟩:=gZ w rx p
 split at p
 ·cases rs with
  |
   cons r rs=>
   cases rs
   split at p
   ·rename_i hl
    exact⟨a,us,_,rfl,rfl,h1,by rw[<- h2.len];exact hl,jd w ea h1 (h2.append (.cons r .nil)) .non p⟩
   ·exact p.elim
 ·exact p.elim
def Hg:MtD K mg BZ vb:=λρ h H dx ds x vs Q E w rx rs p=>by
 obtain⟨n,xs,a,us,rfl,e,ea,rfl,h1,h2,p⟩:=gZ w rx p
 split at p
 ·cases rs
  split at p
  ·rename_i d ed
   obtain⟨v,ev,rv⟩:=h2.getD ed
   rw[h2.len] at ev
   refine⟨a,us,v,rfl,rfl,h1,ev,jd w ea h1 ?_ rv p⟩
   rw[PZ,PZ,h2.len]
   exact h2.take _
  ·exact p.elim
 ·exact p.elim
inductive EqsR(K:W.Frag)(H:Hp)(y:V)(pd:PyData):List V->List Bool->Prop where
 |nil:EqsR K H y pd [] []
 |cons {x:V}{px:PyData}{xs:List V}{bs:List Bool} (rx:Rep K H x px) (hx:shp px=true) (r:EqsR K H y pd xs bs):EqsR K H y pd (x::xs) (PyData.eqv px pd::bs)
def rEqs(K:W.Frag)(H:Hp)(l:Addr)(y:V)(bs:List Bool):Prop:=∃xs pd,SqL K H l xs/\Rep K H y pd/\shp pd=true/\EqsR K H y pd xs bs
def uD(w:Wd K mg ρ h H)(ry:RelD K mg ρ H d y)(es:cG 164 h d=some pd):∀{xs:List D}{vs:List V}{bs:List Bool},RelDs K mg ρ H xs vs->eR h d xs=some bs->EqsR K H y pd vs bs:=by
 intro xs
 induction xs with
 |
  nil=>
  intro vs bs r e
  cases r
  have e':some ([]:List Bool)=some bs:=e
  cases e';exact .nil
 |
  cons x xs ih=>
  intro vs bs r e
  cases r with
  |
   cons r rr=>
   unfold eR at e
   split at e
   ·rename_i b bs' e1 e2
    cases e
    unfold jY at e1
    rw[es] at e1
    split at e1
    ·rename_i a c e3 e4
     cases e4
     split at e1
     ·rename_i hs
      cases e1
      exact .cons (eE w 164 r e3) hs.1 (ih rr e2)
     ·cases e1
    ·cases e1
   ·cases e
theorem AL:∀{xs:List D}{bs:List Bool},eR h d xs=some bs->xs=[]\/∃pd,cG 164 h d=some pd/\shp pd=true
 | [],_,_=>.inl rfl
 |
  x::xs,bs,e=>by
  right
  unfold eR at e
  split at e
  ·rename_i b bs' e1 e2
   unfold jY at e1
   split at e1
   ·rename_i a c e3 e4
    split at e1
    ·rename_i hs;exact⟨c,e4,hs.2⟩
    ·cases e1
   ·cases e1
  ·cases e
def qP(I:Inv X pins σ H s)(hu:X.A.units+190<cLine)(ry:Rep X.K H y pd)(rv:RelV y v)(hy:shp pd=true):∃e:Value->Bool,∀{xs:List V}{bs:List Bool}{its:List Value},EqsR X.K H y pd xs bs->Vals xs its->its.map e=bs/\∀u∈its,SeqAt.EqAt X.A.in1 s u v (e u):=by
 classical
 obtain⟨as,q1⟩:=ry.reads I rv
 refine⟨λu=>if q:∃d as,Reads s.heap u d as/\shp d=true then PyData.eqv q.choose pd else false,λ{xs bs its} r rr=>?_⟩
 induction r generalizing its with
 |nil=>cases rr;exact⟨rfl,λu hu=>nomatch hu⟩
 |
  cons rx hx r ih=>
  rename_i x px xs bs
  cases rr with
  |
   cons r1 rr=>
   rename_i u us
   obtain⟨ih1,ih2⟩:=ih rr
   obtain⟨as1,q2⟩:=rx.reads I r1
   have hq:∃d as,Reads s.heap u d as/\shp d=true:=⟨px,as1,q2,hx⟩
   have e1:(if q:∃d as,Reads s.heap u d as/\shp d=true then PyData.eqv q.choose pd else false)=PyData.eqv px pd:=by
    rw[dif_pos hq]
    obtain⟨as2,q3,hs3⟩:=hq.choose_spec
    have:=SeqAt.Reads.unique px hq.choose u _ _ (fm hx) q2 q3
    rw[<- this]
   refine⟨by rw[s_,ih1,e1],λw hw=>?_⟩
   rcases H_.mp hw with rfl |hw
   ·dsimp only
    rw[e1]
    exact SeqAt.eqAt_reads px pd X.A.in1 s _ _ _ _ q2 q1 (fm hx) (fm hy) (lg hx (by
     have:X.A.in1.units=X.A.units+1:=rfl
     rw[this];omega))
   ·exact ih2 w hw
def kc(K:W.Frag):V->List V->Hp->VK->Prop:=λx vs H Q=>∃l y bs,x=.ref l/\vs=[y]/\rEqs K H l y bs/\bs.idxOf true<bs.length/\Q (.int (bs.idxOf true:Nat)) H
def iZ(K:W.Frag):V->List V->Hp->VK->Prop:=λx vs H Q=>∃l y bs,x=.ref l/\vs=[y]/\rEqs K H l y bs/\Q (.int (bs.count true:Nat)) H
def EqsR.len(r:EqsR K H y pd xs bs):xs.length=bs.length:=by
 induction r with
 |nil=>rfl
 |cons _ _ _ ih=>rw[x_,x_,ih]
def zg(hu:X.A.units+190<cLine):MtM X "list.index" (kc X.K):=by
 intro pins s σ H x vs v us Q I rx rv h
 obtain⟨l,y,bs,rfl,rfl,⟨xs,pd,hq,ry,hy,re⟩,hi,q⟩:=h
 cases rx
 obtain⟨u,rfl,ru⟩:=rv.one
 obtain⟨e,he⟩:=qP I hu ry ru hy
 obtain⟨its,r,⟨o,n,eo,hc,hd,hs⟩,hz⟩:=I.list hq
 obtain⟨m1,m2⟩:=he re r
 have bd:=r.length
 have hbl:=re.len
 have hn:=gA
 have hj:bs.idxOf true<its.toArray.size:=by rw[t_];omega
 have eo':s.heap.get? l=some { cls:=.type "list",dict:=o.dict,data:=.seq its.toArray n,slots:=o.slots }:=by
  rw[eo]
  obtain⟨oc,od,odt,osl⟩:=o
  have h1:oc=.type "list":=hc
  have h2:odt=.seq its.toArray n:=hs
  subst h1 h2
  rfl
 have em:∀(m:Nat) (hm:m<its.toArray.size),bs[m]?=some (e its.toArray[m]):=λm hm=>by
  rw[<- m1,E_]
  have:its[m]?=some its.toArray[m]:=by
   rw[z_ (by simpa using hm)]
   rfl
  rw[this];rfl
 refine PK PySem.F.slot_list_index ⟨_,eo',rfl⟩ PySem.F.entry_list_index (PySem.F.args_list_index_2 _ _)
  (SeqAt.list_indexAt l its.toArray n o.dict o.slots u e (bs.idxOf true) hj (by omega) ?_ ?_) ⟨eo',λw hw=>m2 w (by simpa using hw),?_⟩
 ·have:=em _ hj
  rw[z_ hi,List.getElem_idxOf] at this
  exact (G_ this).symm
 ·intro m
   hm hlt
  have:=em m hm
  have hb:m<bs.length:=by omega
  rw[z_ hb] at this
  have h3
   : bs[m]≠true:=λz=>by
   have h4:bs.idxOf true<=m:=by
    have:=List.idxOf_lt_length_iff (l:=bs) (a:=true)
    rcases Nat.lt_or_ge m (bs.idxOf true) with z' |z'
    ·exact absurd z (by
      have h5:=List.not_of_lt_findIdx (xs:=bs) (p:=(· == true)) (i:=m) z'
      simpa using h5)
    ·exact z'
   omega
  have h4:e its.toArray[m]=bs[m]:=(G_ this).symm
  rw[h4]
  exact Bool.eq_false_iff.mpr h3
 ·exact⟨.int _,H,I.tok _,⟨_,rfl⟩,q⟩
def BE(hu:X.A.units+190<cLine):MtM X "list.count" (iZ X.K):=by
 intro pins s σ H x vs v us Q I rx rv h
 obtain⟨l,y,bs,rfl,rfl,⟨xs,pd,hq,ry,hy,re⟩,q⟩:=h
 cases rx
 obtain⟨u,rfl,ru⟩:=rv.one
 obtain⟨e,he⟩:=qP I hu ry ru hy
 obtain⟨its,r,⟨o,n,eo,hc,hd,hs⟩,hz⟩:=I.list hq
 obtain⟨m1,m2⟩:=he re r
 have eo':s.heap.get? l=some { cls:=.type "list",dict:=o.dict,data:=.seq its.toArray n,slots:=o.slots }:=by
  rw[eo]
  obtain⟨oc,od,odt,osl⟩:=o
  have h1:oc=.type "list":=hc
  have h2:odt=.seq its.toArray n:=hs
  subst h1 h2
  rfl
 refine PK PySem.F.slot_list_count ⟨_,eo',rfl⟩ PySem.F.entry_list_count (PySem.F.args_list_count_2 _ _)
  (SeqAt.list_countAt l its.toArray n o.dict o.slots u e) ⟨eo',λw hw=>m2 w (by simpa using hw),?_⟩
 have ec:its.countP e=bs.count true:=by
  rw[<- m1,List.count,List.countP_map]
  congr 1
  funext w
  simp
 have ec':its.toArray.toList.countP e=bs.count true:=ec
 rw[ec']
 exact⟨.int _,H,I.tok _,⟨_,rfl⟩,q⟩
def BC:MtD K mg (kc K) jN:=λρ h H dx ds x vs Q E w rx rs p=>by
 unfold jN at p
 split at p
 ·cases
   rx with
  |
   ref ea=>
   cases rs with
   |
    cons r rs=>
    cases rs
    split at p
    ·rename_i bs e
     split at p
     ·rename_i hl
      obtain⟨xs,q,e2⟩:=Oj.mp e
      obtain⟨vs,h1,h2⟩:=bE w ea q
      rcases AL e2 with rfl |⟨pd,h3,h4⟩
      ·have e3:some ([]:List Bool)=some bs:=e2
       cases e3
       exact absurd hl (by simp)
      ·exact⟨_,_,bs,rfl,rfl,⟨vs,pd,h1,eE w 164 r h3,h4,uD w r h3 h2 e2⟩,hl,aw w (.int _) p⟩
     ·exact p.elim
    ·exact p.elim
 ·exact p.elim
def BN:MtD K mg (iZ K) (λx ds h=>match ds with | [d]=>if (cG 164 h d).isSome=true/\((cG 164 h d).map shp)=some true then mO x ds h else .stuck |_=>.stuck):=λρ h H dx ds x vs Q E w rx rs p=>by
 dsimp only at p
 split at p
 ·split
   at p
  ·rename_i d hs
   obtain⟨pd,h3⟩:=OH.mp hs.1
   have h4:shp pd=true:=by
    have:=hs.2
    rw[h3] at this
    exact G_ this
   unfold mO at p
   split at p
   ·rename_i ed
    cases ed
    cases rx with
    |
     ref ea=>
     cases rs with
     |
      cons r rs=>
      cases rs
      split at p
      ·rename_i bs e
       obtain⟨xs,q,e2⟩:=Oj.mp e
       obtain⟨vs,h1,h2⟩:=bE w ea q
       exact⟨_,_,bs,rfl,rfl,⟨vs,pd,h1,eE w 164 r h3,h4,uD w r h3 h2 e2⟩,aw w (.int _) p⟩
      ·exact p.elim
   ·exact p.elim
  ·exact p.elim
 ·exact p.elim
def Kf(h:X.K=K)(hu:X.A.units+190<cLine):MtM X "list.index" (kc K):=by subst h;exact zg hu
def HS(h:X.K=K)(hu:X.A.units+190<cLine):MtM X "list.count" (iZ K):=by subst h;exact BE hu
def Room.u100(r:Room k A):A.units+190<cLine:=by have:=r.un;omega
end
def wL(o i v:D)(h:AH):R Unit:=match o,i with
 |.ref n,.int k=>match h[n]? with
  |some (.lst xs)=>match ixN xs.length k with
   |some j=>.ok () (h.set n (.lst (xs.set j v)))
   |none=>.stuck
  |_=>.stuck
 |_,_=>.stuck
section
variable{K:W.Frag}{mg:Ra}{X:Cx}{ES:St->XK}{o i:Expr}{F G:ME}{pos:Pos}
def Ew:nU K mg wb wL:=λρ h H do_ di dv o i v Q E w ro ri rv p=>by
 unfold wL at p
 split at p
 ·cases
   ro with
  |
   ref ea=>
   cases ri
   split at p
   ·rename_i n k xs e
    split at p
    ·rename_i j ej
     obtain⟨vs,h1,h2⟩:=w.ob _ _ _ ea e
     have l:Le ρ H ρ (upd H _ (.lst (vs.set j v))):=lU h1 pf
     exact⟨_,vs,_,j,rfl,rfl,h1,by rw[<- h2.len];exact ej,p ρ _ l (w.write ea h1 pf ⟨_,bB,(h2.set rv j).mono l⟩)⟩
    ·exact p.elim
   ·exact p.elim
 ·exact p.elim
def GI(ho:DE K mg X ES o F)(hi:DE K mg X ES i G)(hs:pS X t)(hd:nU K mg t f)
 (ha:∀v,assign (.Subscript o i pos) X.env v=(do
  let ov <- holding [v] (eval o X.env)
  let iv <- holding [v,ov] (eval i X.env)
  standAt pos
  holding [v,ov,iv] (setItem ov iv v)
  release [v,ov,iv] [])):DG K mg X ES (.Subscript o i pos) (gS F G f):=
 PG.imp (Jh ho hi hs ha) λv σ H Q q_=>q_.el λρ h ae d w re rd p=>
  ⟨ρ,h,ae,w,re,p.bind.imp λdo_ h1 ρ1 H1 l1 w1 p1 o' ro=>⟨ρ1,h1,ae,w1,re.mono l1,p1.bind.imp λdi h2 ρ2 H2 l2 w2 p2 i' ri=>
   hd ρ2 h2 H2 do_ di d o' i' v _ _ w2 (ro.mono l2) ri ((rd.mono l1).mono l2) (p2.bind.imp λ_ h3 ρ3 H3 l3 w3 p3=>p3 ρ3 H3 Le.refl w3 σ (((re.mono l1).mono l2).mono l3))⟩⟩
end
def cutD(xs:List D)(lo hi:Option Int):List D:=(xs.drop (HT.sIx xs.length 0 lo)).take (HT.sIx xs.length xs.length hi-HT.sIx xs.length 0 lo)
abbrev MO:=AE->AH->R (Option Int)
noncomputable def vG:MO:=λ_ h=>.ok none h
noncomputable def vM(F:ME):MO:=λae h=>(F ae h).bind λd h1=>match d with
 |.int i=>.ok (some i) h1
 |_=>.stuck
def gSl(x:D)(lo hi:Option Int)(h:AH):R D:=match x with
 |.tup xs=>if HT.sIx xs.length 0 lo=0/\HT.sIx xs.length xs.length hi=xs.length then .stuck else .ok (.tup (cutD xs lo hi)) h
 |.ref n=>match aP h n with
  |some xs=>.ok (.ref h.length) (h++[.lst (cutD xs lo hi)])
  |none=>.stuck
 |.kl xs=>.ok (.ref h.length) (h++[.lst (cutD xs lo hi)])
 |_=>.stuck
def eSl(F:ME)(L U:MO):ME:=λae h=>(F ae h).bind λx h1=>(L ae h1).bind λlo h2=>(U ae h2).bind λhi h3=>gSl x lo hi h3
section
variable{K:W.Frag}{mg:Ra}{X:Cx}{ES:St->XK}{e:Expr}{F:ME}{L U:MO}{lo hi:Option Expr}{pos p2:Pos}
def rdO(K:W.Frag)(mg:Ra)(ES:St->XK)(F:MO):TO:=λσ H Q=>∃ρ h ae,Wd K mg ρ h H/\RelE K mg ρ H ae σ/\PostG K mg ρ H (ES σ) (λo _ ρ' H'=>Q o H') (F ae h)
def DO(K:W.Frag)(mg:Ra)(X:Cx)(ES:St->XK)(e:Option Expr)(F:MO):Prop:=PO X e (rdO K mg ES F)
def Di:DO K mg X ES none vG:=PO.imp C7 λσ H Q ⟨ρ,h,ae,w,re,p⟩=>p ρ H Le.refl w
def Fg(he:DE K mg X ES e F):DO K mg X ES (some e) (vM F):=PO.imp (Eo he) λσ H Q ⟨ρ,h,ae,w,re,p⟩=>⟨ρ,h,ae,w,re,p.bind.imp λd h1 ρ1 H1 l1 w1 p1 v rv=>by
 split at p1
 ·cases rv;exact⟨_,rfl,p1 ρ1 H1 Le.refl w1⟩
 ·exact p1.elim⟩
def nL(r:RelDs K mg ρ H xs vs)(lo hi:Option Int):RelDs K mg ρ H (cutD xs lo hi) (jU vs lo hi):=by
 unfold cutD jU
 rw[<- r.len]
 exact (r.drop _).take _
def slK(h:X.K=K):SlR X (λx lo hi H Q=>rSlL K x lo hi H Q\/rSlT K x lo hi H Q):=by subst h;exact DF.or Kg
def A8(hK:X.K=K)(he:DE K mg X ES e F)(hl:DO K mg X ES lo L)(hu:DO K mg X ES hi U):DE K mg X ES (.Subscript e (.Slice lo hi none p2) pos) (eSl F L U):=
 PE.imp (
  Cb (slK hK) he hl hu) λσ H Q q_=>q_.el λρ h ae w re p=>⟨ρ,h,ae,w,re,p.bind.imp λd h1 ρ1 H1 l1 w1 p1 x rx=>⟨ρ1,h1,ae,w1,re.mono l1,p1.bind.imp λlo h2 ρ2 H2 l2 w2 p2=>⟨ρ2,h2,ae,w2,(re.mono l1).mono l2,p2.bind.imp λhi h3 ρ3 H3 l3 w3 p3=>by
  have rx3:=(rx.mono l2).mono l3
  unfold gSl at p3
  split at p3
  ·split at p3
   ·exact p3.elim
   ·rename_i hn
    cases rx3 with
    |tup q rs=>exact .inr ⟨_,_,rfl,q,by rw[<- rs.len];exact hn,λl hl=>jk w3 (nL rs lo hi) hl p3⟩
  ·split at p3
   ·rename_i xs e1
    cases rx3 with
    |
     ref ea=>
     obtain⟨vs,q,rs⟩:=bE w3 ea e1
     exact .inl ⟨_,_,rfl,q,λl hl=>c9 w3 (nL rs lo hi) hl p3⟩
   ·exact p3.elim
  ·cases rx3 with
   |kl q rs=>exact .inl ⟨_,_,rfl,.inr q,λl hl=>c9 w3 (nL rs lo hi) hl p3⟩
  ·exact p3.elim⟩⟩⟩
end
noncomputable def sA(d:D)(h:AH):R Bool:=match d with
 |.non=>.ok false h
 |.bl b=>.ok b h
 |.int i=>.ok (i != 0) h
 |d=>match cI h d with
  |some xs=>.ok (!xs.isEmpty) h
  |none=>.stuck
noncomputable def tTr(F:ME):MT:=λae h=>(F ae h).bind sA
section
variable{K:W.Frag}{mg:Ra}{X:Cx}{ES:St->XK}{a:Expr}{F:ME}
def Bl(hK:X.K=K)(ha:DE K mg X ES a F)(he:∀c_,isTrue a X.env c_=(do let v <- c_;standAt a.pos;holding [v] (truthy v))):DT K mg X ES a (tTr F):=by
 subst hK
 refine PT.imp (AY ha he) λσ H Q q_=>q_.el λρ h ae w re p=>⟨ρ,h,ae,w,re,p.bind.imp λd h1 ρ1 H1 l1 w1 p1 x rx=>?_⟩
 have items:∀{xs:List D},cI h1 d=some xs->Q (!xs.isEmpty) H1->∃k,AW X.K x H1 k/\Q k H1:=λ{xs} e q=>by
  obtain⟨pa,vs,rfl,hq,rs⟩:=dg w1 rx e
  have ee:xs.isEmpty=vs.isEmpty:=by cases rs <;> rfl
  rw[ee] at q
  rcases hq with hq |hq
  ·exact⟨_,.inl ⟨vs,hq,rfl⟩,q⟩
  ·exact⟨_,.inr (.inl ⟨vs,hq,rfl⟩),q⟩
 unfold sA at p1
 split at p1
 ·cases rx;exact⟨_,rfl,p1 ρ1 H1 Le.refl w1⟩
 ·cases rx;exact⟨_,rfl,p1 ρ1 H1 Le.refl w1⟩
 ·cases rx;exact⟨_,rfl,p1 ρ1 H1 Le.refl w1⟩
 ·split at p1
  ·rename_i xs e1;exact items e1 (p1 ρ1 H1 Le.refl w1)
  ·exact p1.elim
end
abbrev cxT(X:Cx)(pn:Rb)(xe:Rg):Cx:={ X with pn:=pn,xe:=xe }
section
variable{X:Cx}{pins pins2 pn:Rb}{σ:St}{H:Hp}{s:Shared}{xe:Rg}
def Inv.toT(I:Inv X pins σ H s):Inv (cxT X (X.pn++pins) xe) [] σ H s:=
 ⟨⟨I.ok.mod,I.ok.kind,I.ok.glob,I.ok.blt,I.ok.above,I.ok.inj,I.ok.has,I.ok.cab,I.ok.hd,I.ok.frames,I.ok.stk,I.ok.exf,I.ok.bs,I.ok.bsz,I.ok.noex,I.ok.exfs,I.ok.funs,I.ok.frf⟩,I.os,I.bare,I.base,I.loc,I.cell,I.free,I.freeC,λp hp=>I.pin p (by simpa using hp),I.hok,I.len⟩
def Inv.ofT(I:Inv (cxT X (X.pn++pins) xe) pins2 σ H s):Inv X pins σ H s:=
 ⟨⟨I.ok.mod,I.ok.kind,I.ok.glob,I.ok.blt,I.ok.above,I.ok.inj,I.ok.has,I.ok.cab,I.ok.hd,I.ok.frames,I.ok.stk,I.ok.exf,I.ok.bs,I.ok.bsz,I.ok.noex,I.ok.exfs,I.ok.funs,I.ok.frf⟩,I.os,I.bare,I.base,I.loc,I.cell,I.free,I.freeC,λp hp=>I.pin p (OX _ hp),I.hok,I.len⟩
end
noncomputable def qg(mro:List Str)(i:Nat)(B U:MS):MS:=λae h=>match B ae h with
 |
  .exc c ae1 h1=>if c∈mro then match U (ae1.set i (some (.exc c))) h1 with
   |.nx ae2 h2=>.nx (ae2.set i none) h2
   |.bk ae2 h2=>.bk (ae2.set i none) h2
   |.ct ae2 h2=>.ct (ae2.set i none) h2
   |.rt d h2=>.rt d h2
   |_=>.stuck
  else .stuck
 |r=>r
section
variable{K:W.Frag}{mg:Ra}{X:Cx}{ES:St->XK}{x n:Str}{C:Addr}{i:Nat}{body suite:List Stmt}{b₀:Stmt}{B U:MS}{np hpos pos:Pos}{mro:List Str}
def DC(hb:∀(pn:Rb) (xe:Rg) (ES':St->XK),fR (cxT X pn xe) ES'->DSs K mg (cxT X pn xe) ES' body B):PSsx X body (λDe E σ H=>∃ρ h ae,Wd K mg ρ h H/\RelE K mg ρ H ae σ/\PostS K mg ρ H De E (B ae h)):=by
 intro pins s σ H De E I hh
 let xe:Value->Shared->Prop:=λe s'=>∃pins2 σ1 H1 s1,Inv (cxT X (X.pn++pins) (λ_ _=>False)) pins2 σ1 H1 s1/\CX1 X.prog X.w X.stack H1 s1 (E σ1) e s'
 have hx:fR (cxT X (X.pn++pins) xe) E:=λpins2 σ1 H1 s1 e s' I1 q=>⟨pins2,σ1,H1,s1,⟨⟨I1.ok.mod,I1.ok.kind,I1.ok.glob,I1.ok.blt,I1.ok.above,I1.ok.inj,I1.ok.has,I1.ok.cab,I1.ok.hd,I1.ok.frames,I1.ok.stk,I1.ok.exf,I1.ok.bs,I1.ok.bsz,I1.ok.noex,I1.ok.exfs,I1.ok.funs,I1.ok.frf⟩,I1.os,I1.bare,I1.base,I1.loc,I1.cell,I1.free,I1.freeC,I1.pin,I1.hok,I1.len⟩,q⟩
 refine Ox (hb (X.pn++pins) xe E hx [] s σ H De I.toT hh) (λf s' q=>?_) λe s' q=>?_
 ·cases f with
  |next=>obtain⟨σ1,H1,I1,q1⟩:=q;exact⟨σ1,H1,I1.ofT,q1⟩
  |brk=>obtain⟨σ1,H1,I1,q1⟩:=q;exact⟨σ1,H1,I1.ofT,q1⟩
  |cont=>obtain⟨σ1,H1,I1,q1⟩:=q;exact⟨σ1,H1,I1.ofT,q1⟩
  |ret u=>obtain⟨v,σ1,H1,I1,r1,q1⟩:=q;exact⟨v,σ1,H1,I1.ofT,r1,q1⟩
 ·obtain⟨pins2,σ1,H1,s1,I1,q1⟩:=q
  exact⟨σ1,H1,s1,I1.ofT,q1⟩
def Ks(T:X.Top)(hN:X.N.Nodup)(hi:X.N[i]?=some n)(hl:X.env.kindOf n=some .local)(hg:Gl X x)(hm:mg x=some (.ref C))(hh:XHand K C)(hmro:∀c∈mro,∀Ce,mg c=some (.ref Ce)->W.mroIn K Ce (.ref C)=some true)
 (hb:∀(pn:Rb) (xe:Rg) (ES':St->XK),fR (cxT X pn xe) ES'->DSs K mg (cxT X pn xe) ES' body B) (hs:∀ea,DSs K mg (gw X ea) (λ_=>E0) (b₀::suite) U)
 (hK:X.K=K) (hk:X.mg=mg) (hd:(x==("__debug__" : Str))=false):DS K mg X ES (.Try body [.ExceptHandler (some (.Name x np)) (some n) (b₀::suite) hpos] [] [] pos) (qg mro i B U):=by
 subst hK hk
 refine PS.imp (GG T hN hi hl hg hm hh (DC hb) hs hd) λDe σ H q_=>q_.el λρ h ae w re p=>⟨ρ,h,ae,w,re,?_⟩
 unfold qg at p
 cases q:B ae h with
 |nx a1 h1=>rw[q] at p;exact p
 |rt a1 h1=>rw[q] at p;exact p
 |bk a1 h1=>rw[q] at p;exact p
 |ct a1 h1=>rw[q] at p;exact p
 |stuck=>rw[q] at p;exact p
 |
  exc c ae1 h1=>
  rw[q] at p
  dsimp only at p
  split at p
  ·rename_i hc
   intro ρ1 H1 σ1 Ce l1 w1 re1 mc
   refine⟨Ce,rfl,hmro c hc Ce mc,λea hn=>⟨ρ1,h1,ae1.set i (some (.exc c)),w1.tuple hn,(re1.mono (cJ hn)).set i (.exc mc bB),?_⟩⟩
   have p':=PostS.mono (l1.trans (cJ (o:=.ext (nX ea Ce)) hn)) p
   cases q2:U (ae1.set i (some (.exc c))) h1 with
   |nx a2 h2=>rw[q2] at p';exact λρ2 H2 σ2 l2 w2 re2=>p' ρ2 H2 _ l2 w2 (re2.unset i)
   |bk a2 h2=>rw[q2] at p';exact λρ2 H2 σ2 l2 w2 re2=>p' ρ2 H2 _ l2 w2 (re2.unset i)
   |ct a2 h2=>rw[q2] at p';exact λρ2 H2 σ2 l2 w2 re2=>p' ρ2 H2 _ l2 w2 (re2.unset i)
   |rt d h2=>rw[q2] at p';exact p'
   |exc c2 a2 h2=>rw[q2] at p';exact p'.elim
   |stuck=>rw[q2] at p';exact p'.elim
  ·exact p.elim
end
structure Script(h:AH)(d:D)(ns:List Int):Prop where
 form:(∃n,d=.ref n/\h[n]?=some (.fz (ns.map D.int)))\/d=.kl (ns.map D.int)
theorem jc{K:W.Frag}{mg:Ra}{ρ:List Addr}{H:Hp}:∀(ns:List Int),RelDs K mg ρ H (ns.map D.int) (ns.map V.int)
 | []=>.nil
 |_::r=>.cons (.int _) (jc r)
def AX{P:Program}{w:World}{K:W.Frag}{mg:Ra}{base:Heap}{x y:Str}{k:Nat}{S:Fn}(C:Callee P w K mg base x k [y] (spD K mg 1 S))
 (hS:∀(d:D) (h:AH) (ns:List Int),ns.length<=63->Script h d ns->∃h',S [d] h=.ok (.bl true) h'):Callee P w K mg base x k [y] (λvs H Q _=>∃(a:Addr) (ns:List Int),vs=[.ref a]/\nM H/\SqL K H a (ns.map V.int)/\ns.length<=63/\∀H',Q (.bl true) H'):=by
 refine C.imp λvs H Q E ⟨a,ns,e,hO,hq,hl,q⟩=>?_
 subst e
 rcases hq with (hq |⟨o,hq⟩) |hq
 ·rcases hO a with z |⟨o,xs,z⟩ <;> rw[hq] at z <;> cases z
 ·obtain⟨h',e⟩:=hS (.ref 0) [.fz (ns.map D.int)] ns hl ⟨.inl ⟨0,rfl,rfl⟩⟩
  refine⟨[a],[.fz (ns.map D.int)],[.ref 0],⟨rfl,by simp,λn b ob e1 e2=>?_⟩,.cons (.ref rfl) .nil,rfl,?_⟩
  ·cases n with
   |zero=>cases e1;cases e2;exact⟨o,_,hq,jc ns⟩
   |succ n=>simp at e1
  ·rw[e]
   exact λρ' H' l' w' v rv=>by cases rv;exact q H'
 ·obtain⟨h',e⟩:=hS (.kl (ns.map D.int)) [] ns hl ⟨.inr rfl⟩
  refine⟨[],[],[.kl (ns.map D.int)],⟨rfl,by simp,λn b ob e1 e2=>by simp at e1⟩,.cons (.kl hq (jc ns)) .nil,rfl,?_⟩
  rw[e]
  exact λρ' H' l' w' v rv=>by cases rv;exact q H'
def walk_lawD{l:W.OpenLaw}{q:Program}{loose:List Str}{XP:(Str->Option Value)->Heap->Prop}{YP:World->Heap->Prop}{d:DefRec}{K:Params->W.Frag}{x:Str}{k:Nat}(hn:l.most=some 63)(hdf:d.params.defaults=[])(hr:Room k callerA)
 (hY:∀(w:World) (h:Heap),YP w h->(K w.params).In h)
 (F:∀(w:World) (mg:Ra) (h:Heap),(K w.params).In h->h.Ns mainGlobals mg->∀base:Heap,(K w.params).In base->base.Ns mainGlobals mg->Callee l.prog w (K w.params) mg base d.name k [x] (λvs H Q _=>∃(a:Addr) (ns:List Int),vs=[.ref a]/\nM H/\SqL (K w.params) H a (ns.map V.int)/\ns.length<=63/\∀H',Q (.bl true) H'))
 (D:∀(w:World) (mg:Ra) (h:Heap),(K w.params).In h->h.Ns mainGlobals mg->∃st,Def (K w.params) mg d.name st/\∀(kV doc pm:Value) (an:Option Addr) (cdv ct:Value) (us:List Value),us.length=1->bindArgs (W.fnOf d.name d.name (cB st) (aX st) (ao st) .none kV doc pm an cdv ct) ⟨us,[]⟩=pure ([x].zip us)):
 W.WalkO q loose XP YP l.row.toRowW d [] (λf vs=>PySem.call f vs):=by
 refine L2.walk_of (n:=63) (k:=k) (x:=x) (CX:=λw=>CX1 l.prog w) (sp:=λw=>λvs H Q _=>∃(a:Addr) (ns:List Int),vs=[.ref a]/\nM H/\SqL (K w.params) H a (ns.map V.int)/\ns.length<=63/\∀H',Q (.bl true) H') hn (by decide) hdf hr hY (λw mg fa h KX G hmg=>?_) (λ_ _ a ns hl hO hS=>⟨a,ns,rfl,hO,hS,hl,λ_=>rfl⟩) λ_ _ _ _ _ ⟨_,_,_,_,_,_,_,_,_,z⟩=>z
 obtain⟨st,Dd,hbind⟩:=D w mg h KX G
 obtain⟨f,fd,Ff,m⟩:=Dd.ex
 have e:=hmg.symm.trans m
 cases e
 obtain⟨oc,od,kV,doc,pm,an,cdv,ct,osl,rfl,lk,hcd⟩:=Ff.ex
 refine⟨_,λs u=>.of_eq (hbind kV doc pm an cdv ct [u] rfl),λbase kb nb=>?_⟩
 obtain⟨f',fd',F',m',kp',b',oc',od',osl',lk'⟩:=(F w mg h KX G base kb nb).ex
 rw[m] at m'
 cases m'
 rw[lk] at lk'
 cases lk'
 exact F'
mutual
inductive Bel(N:Nat):D->Prop where
 |non:Bel N .non
 |bl (b:Bool):Bel N (.bl b)
 |int (i:Int):Bel N (.int i)
 |str (x:Str):Bel N (.str x)
 |ty (n:String):Bel N (.ty n)
 |glb (x:Str):Bel N (.glb x)
 |exc (x:Str):Bel N (.exc x)
 |tup {ds:List D} (r:Bels N ds):Bel N (.tup ds)
 |ref {n:Nat} (h:n<N):Bel N (.ref n)
 |kl {ds:List D} (r:Bels N ds):Bel N (.kl ds)
inductive Bels(N:Nat):List D->Prop where
 |nil:Bels N []
 |cons {d:D}{ds:List D} (r:Bel N d) (rr:Bels N ds):Bels N (d::ds)
end
def zR(N:Nat):Ob->Prop
 |.lst xs=>Bels N xs
 |.fz xs=>Bels N xs
 |.dct kvs=>Bels N (kvs.map (·.2))
 |_=>True
section
variable{K:W.Frag}{mg:Ra}{ρ ρ1 ρ2:List Addr}{H H1:Hp}{h:AH}
end
inductive Rf(h:AH):R D->R D->Prop where
 |stuck (r:R D):Rf h r .stuck
 |eq (r:R D):Rf h r r
 |val {d:D}{h2 g:AH} (hl:h2.length=h.length) (ho:∀(n:Nat) (o:Ob),h2[n]?=some o->h[n]?=some o\/zR h.length o) (hd:Bel h.length d):Rf h (.ok d (h2++g)) (.ok d h2)
 |exc {c:Str}{h2 g:AH} (hl:h2.length=h.length) (ho:∀(n:Nat) (o:Ob),h2[n]?=some o->h[n]?=some o\/zR h.length o):Rf h (.exc c (h2++g)) (.exc c h2)
 |lst {m:Nat}{h1 h2:AH}{ys:List D} (hl:h2.length=h.length) (ho:∀(n:Nat) (o:Ob),h2[n]?=some o->h[n]?=some o\/zR h.length o) (hs:∀(n:Nat) (o:Ob),h2[n]?=some o->h1[n]?=some o) (em:h1[m]?=some (.lst ys)) (hm:h.length<=m) (hy:Bels h.length ys):Rf h (.ok (.ref m) h1) (.ok (.ref h.length) (h2++[.lst ys]))
section
variable{K:W.Frag}{mg:Ra}{ρ:List Addr}{H:Hp}{h:AH}
end
noncomputable def uW:D->D->AH->R D:=gOr (gI λi j=>.int (i+j)) kZ
noncomputable def zT:D->D->AH->R D:=gI λi j=>.int (i-j)
def CMulA(i j:Int):Prop:=CI i j\/CMul i j
def Ac:D->D->AH->R D:=gIc CMulA λi j=>.int (i*j)
def A4:D->D->AH->R D:=gIc CDivB λi j=>.int (i.fdiv j)
def Bm:D->D->AH->R D:=gIc (λ_ j=>j≠0) λi j=>.int (i.fmod j)
def BU:D->D->AH->R D:=gIc ng λi j=>.int (i^j.toNat)
noncomputable def gLt:D->D->AH->R D:=gI λi j=>.bl (decide (i<j))
noncomputable def gGt:D->D->AH->R D:=gI λi j=>.bl (decide (j<i))
noncomputable def gGe:D->D->AH->R D:=gI λi j=>.bl (decide (j<=i))
noncomputable def vP:D->AH->R D:=λx h=>match x with
 |.int i=>.ok (.int (-i)) h
 |_=>.stuck
noncomputable def uX(n:Nat)(S:Fn)(A:MA):ME:=eFn (λds h=>if ds.length=n then S ds h else .stuck) A
def j7:D->List D->AH->R D:=λx ds h=>match ds with
 | [d]=>if (cG 164 h d).isSome=true/\((cG 164 h d).map shp)=some true then mO x ds h else .stuck
 |_=>.stuck
section
variable{K:W.Frag}{mg:Ra}{X:Cx}
def Hi(h:X.K=K):OpR X (binaryOp .Add) (λx y H Q=>rI0 (λi j=>.int (i+j)) x y H Q\/(mS x y H Q\/(kr K x y H Q\/kg K x y H Q))):=IA.or (catK h)
def Ir:OpD K mg (λx y H Q=>rI0 (λi j=>.int (i+j)) x y H Q\/(mS x y H Q\/(kr K x y H Q\/kg K x y H Q))) uW:=(jG λ_ _ _ _=>.int _).or DX
def Gx:OpD K mg (rI0 λi j=>.int (i-j)) zT:=jG λ_ _ _ _=>.int _
def Ge:OpR X (binaryOp .Mult) (rI CMulA λi j=>.int (i*j)):=by
 intro pins s σ H x y v u Q I rx ry h
 obtain⟨i,j,e1,e2,hc,q⟩:=h
 rcases hc with hc |hc
 ·exact Dy pins s σ H x y v u Q I rx ry ⟨i,j,e1,e2,hc,q⟩
 ·exact K1 pins s σ H x y v u Q I rx ry ⟨i,j,e1,e2,hc,q⟩
def J1:OpD K mg (rI CMulA λi j=>.int (i*j)) Ac:=pG λ_ _ _ _=>.int _
def Il:OpD K mg (rI CDivB λi j=>.int (i.fdiv j)) A4:=pG λ_ _ _ _=>.int _
def Kc:OpD K mg (rI (λ_ j=>j≠0) λi j=>.int (i.fmod j)) Bm:=pG λ_ _ _ _=>.int _
def Je:OpD K mg (rI ng λi j=>.int (i^j.toNat)) BU:=pG λ_ _ _ _=>.int _
def Nj:OpD K mg (rI0 λi j=>.bl (decide (i<j))) gLt:=jG λ_ _ _ _=>.bl _
def LW:OpD K mg (rI0 λi j=>.bl (decide (j<i))) gGt:=jG λ_ _ _ _=>.bl _
def Mq:OpD K mg (rI0 λi j=>.bl (decide (j<=i))) gGe:=jG λ_ _ _ _=>.bl _
def Kk:UnD K mg (rU λi=>.int (-i)) vP:=λρ h H dx x Q E w rx p=>by
 unfold vP at p
 split at p
 ·cases rx;exact⟨_,rfl,aw w (.int _) p⟩
 ·exact p.elim
def E5:IpD K mg (ipI λi j=>i+j) (gI λi j=>.int (i+j)):=λρ h H dx dy x y Q E w rx ry p=>by
 unfold gI at p
 split at p
 ·cases rx;cases ry;exact⟨_,_,rfl,rfl,aw w (.int _) p⟩
 ·exact p.elim
def xV:MtD K mg (iZ K) j7:=BN
variable{ES:St->XK}{e:Expr}{es:List Expr}{A:MA}{pos:Pos}
def zY(C:Callee X.prog X.w X.K X.mg X.base x k ps (spD K mg n S))(hr:Room k X.A)(hg:Gl X x)(hx:fR X ES)(ha:DA K mg X ES (e::es) A)
 (hdb:(x==("__debug__" : Str))=false) (he:starEach (e::es) X.env=(false,eval e X.env)::starEach es X.env) (hpl:(backTo pos (starEach es X.env)).any (·.1)=false):
 DE K mg X ES (.Call (.Name x p) (e::es) [] pos) (uX n S A):=Ea C hr hg hx ha hdb he hpl
end
section
variable{ae:AE}{h:AH}
@[simp] theorem fu(a:α)(h:AH)(f:α->AH->R β):(R.ok a h).bind f=f a h:=rfl
end
def g9(h1:pd.canLay0=true)(h2:pd.depth<=160):shp pd=true:=by
 unfold shp
 rw[h1,F_ h2];rfl
def Sm(n:Nat)(x:Int):Prop:=x.natAbs<2^n
noncomputable def Sm.mono(h:Sm n x)(l:n<=m):Sm m x:=B_ h (P4 (by omega) l)
noncomputable def Sm.mul(h:Sm n x)(k:Sm m y):Sm (n+m) (x*y):=by
 unfold Sm at *
 rw[OO,Qa]
 exact Nat.mul_lt_mul'' h k
noncomputable def Sm.bits(h:Sm n x):Builtin.Int.intBits x<=n:=intBits_le_iff.mpr h
noncomputable def Sm.of_le(h:Sm n y)(l:x.natAbs<=y.natAbs):Sm n x:=PJ l h
def CMulA.of(h:Sm n x)(k:Sm m y)(hn:n<=100000)(hm:m<=100000):CMulA x y:=.inl ⟨y_ h.bits hn,y_ k.bits hm⟩
noncomputable def CMulA.left(h:-(2^64)<x)(k:x<2^64):CMulA x y:=.inr (.inl ⟨h,k⟩)
noncomputable def CMulA.right(h:-(2^64)<y)(k:y<2^64):CMulA x y:=.inr (.inr ⟨h,k⟩)
def CDivB.of(h0:y≠0)(h:Sm 8000 y):CDivB x y:=⟨h0,h.bits⟩
structure Sz(n:Nat)(q:Rat):Prop where
 top:Sm n q.num
 bot:Sm n (q.den:Int)
def xf{a b:Int}(hb:b≠0):((a:Rat)/(b:Rat)).num*b=a*((a:Rat)/(b:Rat)).den:=by
 have h2:=Rat.num_divInt_den ((a:Rat)/(b:Rat))
 have h3:Rat.divInt ((a:Rat)/(b:Rat)).num (((a:Rat)/(b:Rat)).den:Int)=Rat.divInt a b:=by rw[h2,Rat.divInt_eq_div]
 exact (Rat.divInt_eq_divInt_iff (by have:=((a:Rat)/(b:Rat)).den_nz;omega) hb).mp h3
def uG(q:Rat):Int.gcd q.num q.den=1:=by
 have:=q.reduced
 exact this
def pB(hb:b≠0):Fr.T a b=((a:Rat)/(b:Rat)).num/\Fr.B a b=(((a:Rat)/(b:Rat)).den:Int):=by
 refine Fr.uniq (Fr.B_pos hb) (by have:=((a:Rat)/(b:Rat)).den_pos;omega) (Fr.low hb) (uG _) ?_
 have h1:=Fr.cross (a:=a) hb
 have h2:=xf (a:=a) hb
 generalize ((a:Rat)/(b:Rat)).num=n at *
 generalize (((a:Rat)/(b:Rat)).den:Int)=d at *
 generalize Fr.T a b=x at *
 generalize Fr.B a b=y at *
 have h3:(x*d)*b=(n*y)*b:=by
  calc x*d*b=(x*b)*d:=by rw[Qe]
   _=a*y*d:=by rw[h1]
   _=(a*d)*y:=by rw[Qe]
   _=n*b*y:=by rw[h2]
   _=n*y*b:=by rw[Qe]
 exact P8 hb h3
def wa{a b:Int}(hb:b≠0):((a:Rat)/(b:Rat)).num.natAbs<=a.natAbs:=by
 have h:=(pB (a:=a) hb).1
 rw[<- h]
 have h1:=Fr.T_mul (a:=a) hb
 have h2:=Fr.dv_ne (a:=a) hb
 have h3:(Fr.T a b).natAbs*(Fr.dv a b).natAbs=a.natAbs:=by rw[<- OO,h1]
 have h4:1<=(Fr.dv a b).natAbs:=by omega
 calc (Fr.T a b).natAbs=(Fr.T a b).natAbs*1:=by omega
  _<=(Fr.T a b).natAbs*(Fr.dv a b).natAbs:=PC _ h4
  _=a.natAbs:=h3
def vt{a b:Int}(hb:b≠0):((((a:Rat)/(b:Rat)).den:Int)).natAbs<=b.natAbs:=by
 have h:=(pB (a:=a) hb).2
 rw[<- h]
 have h1:=Fr.B_mul (a:=a) hb
 have h2:=Fr.dv_ne (a:=a) hb
 have h3:(Fr.B a b).natAbs*(Fr.dv a b).natAbs=b.natAbs:=by rw[<- OO,h1]
 have h4:1<=(Fr.dv a b).natAbs:=by omega
 calc (Fr.B a b).natAbs=(Fr.B a b).natAbs*1:=by omega
  _<=(Fr.B a b).natAbs*(Fr.dv a b).natAbs:=PC _ h4
  _=b.natAbs:=h3
def Sz.div(hb:b≠0)(ha:Sm n a)(hb':Sm m b)(k:Nat)(h1:n<=k)(h2:m<=k):Sz k ((a:Rat)/(b:Rat)):=
 ⟨(ha.of_le (wa hb)).mono h1,(hb'.of_le (vt hb)).mono h2⟩
def ef(q:Rat):(q.den:Int)≠0:=by have:=q.den_nz;omega
def i0(q:Rat):q=(q.num:Rat)/((q.den:Int):Rat):=by
 have:=Rat.num_divInt_den q
 rw[Rat.divInt_eq_div] at this
 exact this.symm
def my{b:Int}(h:b≠0):(b:Rat)≠0:=by
 intro z
 exact h (by exact_mod_cast z)
def FJ(p q:Rat):p+q=((p.num*q.den+q.num*p.den:Int):Rat)/((p.den*q.den:Int):Rat):=by
 have h1:=my (ef p)
 have h2:=my (ef q)
 conv=>lhs;rw[i0 p,i0 q]
 simp only[Rat.intCast_add,OZ]
 grind
def uH(p q:Rat):p*q=((p.num*q.num:Int):Rat)/((p.den*q.den:Int):Rat):=by
 have h1:=my (ef p)
 have h2:=my (ef q)
 conv=>lhs;rw[i0 p,i0 q]
 simp only[OZ]
 grind
def Sz.mul(hp:Sz n p)(hq:Sz m q):Sz (n+m) (p*q):=by
 rw[uH]
 exact Sz.div (by have:=ef p;have:=ef q;exact Qw ‹_› ‹_›) (hp.top.mul hq.top) (hp.bot.mul hq.bot) _ (by omega) (by omega)
def uK{q:Rat}:0<q.num ↔ 0<q:=by
 have h1:=Rat.num_nonneg (q:=q)
 have h2:=Rat.num_eq_zero (q:=q)
 constructor
 ·intro h
  refine Rat.lt_of_le_of_ne (h1.mp (by omega)) λz=>?_
  have:=h2.mpr z.symm
  omega
 ·intro h
  have h3:=h1.mpr (Rat.le_of_lt h)
  have h4:q.num≠0:=λz=>(Rat.ne_of_lt h) (h2.mp z).symm
  omega
section
variable(ae:AE)(h:AH)
end
theorem lV:∀{ws:List Int},(∀w∈ws,0<=w)->0<=ws.sum
 | [],_=>Int.le_refl _
 |
  w::ws,h=>by
  have:=h w (o_ ..)
  have:=lV (ws:=ws) λv hv=>h v (m_ _ hv)
  rw[Ov];omega
def IS{K:W.Frag}{h:Heap}{mg:Ra}{x:Str}{a:Addr}{dd:Option Addr}{its:Array Value}{n:Nat}{sl:Array (Option Value)}{vs:List V}{ds:List D}(X:K.In h)(G:h.Ns mainGlobals mg)(e:W.nsIn K mainGlobals x=some (some (.ref a)))
 (l:K.lookup a=some ⟨.type "tuple",dd,.seq its n,sl⟩) (hs:its.size<=sizeLine) (hv:Vals vs its.toList) (hr:∀ρ H,RelDs K mg ρ H ds vs):GC K mg x (.tup ds):=
 ⟨_,.ref a,W.mg_of X G e,rfl,λρ H=>.tup (.inr ⟨_,its,n,l,rfl,rfl,hs,hv⟩) (hr ρ H)⟩
def Bn{P:Program}{w:World}{H:Hp}(h:Heap)(hb:sysModules<h.objs.size):ObjOk P w H (h.push { cls:=.type "dict",data:=.dict #[] }) h.objs.size (.dK []):=
 ⟨Oq _,M_.mpr (Ne.symm (L_ hb)),[],.nil,Heap.DictOf.new h⟩
def Inv.big{X:Cx}{pins:Rb}{σ:St}{H:Hp}{s:Shared}(I:Inv X pins σ H s):sysModules<s.heap.objs.size:=by
 have h:mainGlobals<s.heap.objs.size:=(I.mod.glob.keeps I.bk).lt
 exact QA (by decide) h
def Kx:TE:=λ_ H Q=>∀p,H p=none->Q (.ref p) (upd H p (.dK []))
noncomputable def eD0:ME:=λ_ h=>.ok (.ref h.length) (h++[.dct []])
section
variable{K:W.Frag}{mg:Ra}{X:Cx}{ES:St->XK}{pos:Pos}
def BF:PE X (.Dict [] [] pos) Kx:=λpins s σ H Q I h=>
 wpAny_Dict_empty ⟨.ref s.heap.objs.size,_,I.laid (a:=s.heap.objs.size) (o:=.dK []) (t':=s.toks) (λ_ _ q=>v_ _ q) (p_ _) (Bn s.heap I.big),rfl,h _ (I.hok.fresh (p_ _))⟩
def MB:DE K mg X ES (.Dict [] [] pos) eD0:=PE.imp BF λσ H Q ⟨ρ,h,ae,w,re,q⟩ p hp=>by
 have l:Le ρ H (ρ++[p]) (upd H p (.dK [])):=(cJ hp).trans ko
 refine q (ρ++[p]) _ l (w.alloc hp ⟨[],bB,rfl,.nil⟩) _ (.ref ?_)
 rw[<- w.len,I_ (p_ _),Py]
 rfl
end
variable{K:W.Frag}{mg:Ra}
theorem sV{ρ:List Addr}{H:Hp}{xs:List D}{vs:List V}(r:RelDs K mg ρ H xs vs):∀n:Nat,RelDs K mg ρ H (List.replicate n xs).flatten (List.replicate n vs).flatten
 |0=>.nil
 |
  n+1=>by
  rw[Oz,Oz,Ot,Ot]
  exact r.append (sV r n)
def Ei:OpD K mg zi qu:=λρ h H dx dy x y Q E w rx ry p=>by
 unfold qu at p
 split at p
 ·cases
   rx with
  |
   ref ea=>
   cases ry with
   |
    int=>
    split at p
    ·rename_i xs e1
     split at p
     ·rename_i hl
      obtain⟨vs,q1,r1⟩:=w.ob _ _ _ ea e1
      exact⟨_,_,vs,rfl,rfl,q1,hl.1,hl.2.1,by rw[<- r1.len];exact hl.2.2,λp' hp=>c9 w (sV r1 _) hp p⟩
     ·exact p.elim
    ·exact p.elim
 ·exact p.elim
end L2
namespace L2
open PySem PySem.Spec PyProof.Rows
section
variable{K:W.Frag}{mg:Ra}{X:Cx}{ES:St->XK}{e:Expr}{es:List Expr}{A:MA}{pos:Pos}
end
section
variable{K:W.Frag}{mg:Ra}{X:Cx}{ES:St->XK}{e a b c o lo hi:Expr}{F G L U:ME}{pos p2:Pos}{ρ:List Addr}{H:Hp}{h:AH}{ae:AE}
end
section
variable{κ:Type}[DecidableEq κ]
noncomputable def fA(kvs:List (κ×V))(k:κ):Option V:=(kvs.find? λkv=>decide (kv.1=k)).map (·.2)
noncomputable def eB(kvs:List (κ×V))(k:κ)(v:V):List (κ×V):=
 if (kvs.any λkv=>decide (kv.1=k))=true then kvs.map (λkv=>if kv.1=k then (kv.1,v) else kv) else kvs++[(k,v)]
def kM{p:κ×V}{r:List (κ×V)}{k:κ}(e:p.1=k):fA (p::r) k=some p.2:=by simp [fA,OE,e]
def kT{p:κ×V}{r:List (κ×V)}{k:κ}(e:¬ p.1=k):fA (p::r) k=fA r k:=by simp [fA,OE,e]
theorem rC(k:κ):∀kvs:List (κ×V),(kvs.any λkv=>decide (kv.1=k))=(fA kvs k).isSome
 | []=>rfl
 |
  p::r=>by
  rw[OV]
  by_cases e:p.1=k
  ·simp only[kM e,F_ e,Bool.true_or,Option.isSome_some]
  ·rw[kT e,A_ e,Bool.false_or];exact rC k r
def kK(kvs:List (κ×V))(k:κ)(v:V):(eB kvs k v).length<=kvs.length+1:=by
 unfold eB
 split
 ·rw[j_];omega
 ·rw[l_,x_,Ol];omega
def RelO.isSome_eq(r:RelO o u):o.isSome=u.isSome:=by
 cases o with
 |none=>cases u with
  |none=>rfl
  |some _=>exact (show False from r).elim
 |some _=>cases u with
  |none=>exact (show False from r).elim
  |some _=>rfl
def KV.val(r:KV kvs vs)(k:κ):RelO (fA kvs k) (valueAt vs k):=by
 unfold KV at r
 induction r with
 |nil=>exact True.intro
 |
  @cons p q ps qs h t ih=>
  obtain⟨h1,h2⟩:=h
  by_cases e:p.1=k
  ·have e':q.1=k:=h1.symm.trans e
   have b:valueAt (q::qs) k=some q.2:=by simp [valueAt,OE,e']
   rw[kM e,b];exact h2
  ·have e':¬ q.1=k:=λz=>e (h1.trans z)
   have b:valueAt (q::qs) k=valueAt qs k:=by simp [valueAt,OE,e']
   rw[kT e,b];exact ih
def KV.any(r:KV kvs vs)(k:κ):(kvs.any λkv=>decide (kv.1=k))=vs.any λkv=>decide (kv.1=k):=by
 unfold KV at r
 induction r with
 |nil=>rfl
 |cons h t ih=>rw[OV,OV,ih,h.1]
def KV.repl(r:KV kvs vs)(k:κ)(ry:RelV y u):
 KV (kvs.map λkv=>if kv.1=k then (kv.1,y) else kv) (vs.map λkv=>if kv.1=k then (kv.1,u) else kv):=by
 unfold KV at r ⊢
 induction r with
 |nil=>exact .nil
 |
  @cons p q ps qs h t ih=>
  rw[s_,s_]
  refine .cons ?_ ih
  obtain⟨h1,h2⟩:=h
  by_cases e:p.1=k
  ·rw[if_pos e,if_pos (h1.symm.trans e)];exact⟨h1,ry⟩
  ·rw[if_neg e,if_neg (λz=>e (h1.trans z))];exact⟨h1,h2⟩
def KV.put(r:KV kvs vs)(k:κ)(ry:RelV y u):KV (eB kvs k y) (stored vs k u):=by
 unfold eB stored
 rw[r.any k]
 by_cases e:(vs.any λkv=>decide (kv.1=k))=true
 ·rw[if_pos e,if_pos e];exact r.repl k ry
 ·rw[if_neg e,if_neg e];exact Paired.snoc r ⟨rfl,ry⟩
def KV.length(r:KV kvs vs):kvs.length=vs.length:=QJ r
end
def vF(r:RelV (kV k) u):(bT P w).is k u=true:=by
 cases k with
 |inl i=>obtain⟨t,e⟩:=(show ∃t,u=Value.int i t from r);subst e;exact sZ P w i t
 |inr x=>obtain⟨t,e⟩:=(show ∃t,u=Value.str x t from r);subst e;exact tf P w x t
theorem n6:∀{ks:List Key}{us:List Value},Vals (ks.map kV) us->ItemsAre (bT P w) ks us
 | [],_,r=>by rw[OF] at r;cases r;exact .nil
 |
  k::ks,_,r=>by
  rw[s_] at r
  cases r with
  |cons h t=>exact .cons (vF h) (n6 t)
abbrev KT(H:Hp):List (List Key×V)->List (List Key×Addr×Value)->Prop:=Paired λp q=>p.1=q.1/\H q.2.1=some (.tup (p.1.map kV))/\RelV p.2 q.2.2
def KT.val(r:KT H kvs xs)(k:List Key):RelO (fA kvs k) ((atKey xs k).map (·.2)):=by
 induction r with
 |nil=>exact True.intro
 |
  @cons p q ps qs h t ih=>
  obtain⟨h1,_,h2⟩:=h
  by_cases e:p.1=k
  ·have e':q.1=k:=h1.symm.trans e
   have b:atKey (q::qs) k=some q.2:=by simp [atKey,OE,e']
   rw[kM e,b];exact h2
  ·have e':¬ q.1=k:=λz=>e (h1.trans z)
   have b:atKey (q::qs) k=atKey qs k:=by simp [atKey,OE,e']
   rw[kT e,b];exact ih
def KT.repl(r:KT H kvs xs)(k:List Key)(ry:RelV y u):
 KT H (kvs.map λkv=>if kv.1=k then (kv.1,y) else kv) (xs.map (putAt k u)):=by
 induction r with
 |nil=>exact .nil
 |
  @cons p q ps qs h t ih=>
  rw[s_,s_]
  refine .cons ?_ ih
  obtain⟨h1,h2,h3⟩:=h
  unfold putAt
  by_cases e:p.1=k
  ·rw[if_pos e,if_pos (h1.symm.trans e)];exact⟨h1,h2,ry⟩
  ·rw[if_neg e,if_neg (λz=>e (h1.trans z))];exact⟨h1,h2,h3⟩
def KT.put(r:KT H kvs xs)(k:List Key)(hb:H b=some (.tup (k.map kV)))(ry:RelV y u):
 KT H (eB kvs k y) (storedH xs k b u):=by
 have e:(kvs.any λkv=>decide (kv.1=k))=(atKey xs k).isSome:=by
  rw[rC,(r.val k).isSome_eq,Option.isSome_map]
 unfold eB storedH
 rw[e]
 by_cases q:(atKey xs k).isSome=true
 ·rw[if_pos q,if_pos q];exact r.repl k ry
 ·rw[if_neg q,if_neg q];exact Paired.snoc r ⟨rfl,hb,ry⟩
noncomputable def KT.keeps(r:KT H kvs xs)(ht:∀b ys,H b=some (.tup ys)->H' b=some (.tup ys)):KT H' kvs xs:=
 Paired.mapP r λ_ _ z=>⟨z.1,ht _ _ z.2.1,z.2.2⟩
section
variable{P:Program}{w:World}{H:Hp}{h:Heap}{a:Addr}
def Cw(ok:HOk P w H h)(e:Rd H a u):ObjOk P w H h a u:=e.ok ok
def v9(ok:HOk P w H h)(e:Rd H a (.dK kvs)):kvs.length<=sizeLine/\(a==sysModules)=false/\∃vs,KV kvs vs/\h.DictOf (bT P w) a vs:=
 show ObjOk P w H h a (.dK kvs) from Cw ok e
def MV(ok:HOk P w H h)(e:H a=some (.dK kvs)):kvs.length<=sizeLine/\(a==sysModules)=false/\∃vs,KV kvs vs/\h.DictOf (bT P w) a vs:=v9 ok (.inl e)
def qz(ok:HOk P w H h)(e:H a=some (.tup (ks.map kV))):(tupleKind (bT P w)).is h ks a:=by
 obtain⟨_,its,r,o,h1,h2,n,h3⟩:=(show ObjOk P w H h a (.tup (ks.map kV)) from ok a _ e)
 exact⟨o,its.toArray,n,h1,h2,h3,by simpa using n6 r⟩
def u6(ok:HOk P w H h)(e:Rd H a (.dT kvs)):kvs.length<=sizeLine/\(a==sysModules)=false/\
 ∃xs,KT H kvs xs/\h.DictOfH (tupleKind (bT P w)) a xs:=by
 obtain⟨z,y,xs,r,o,es,ep,h1,h2,h3,h4,h5⟩:=(show ObjOk P w H h a (.dT kvs) from Cw ok e)
 refine⟨z,y,xs,r,o,es,ep,h1,h2,h3,h4,λx hx=>?_,h5⟩
 have all:∀{l:List (List Key×V)}{m:List (List Key×Addr×Value)},KT H l m->∀x∈m,(tupleKind (bT P w)).is h x.1 x.2.1:=by
  intro l m q
  induction q with
  |nil=>intro x hx;exact nomatch hx
  |
   @cons p q ps qs hq t ih=>
   intro x hx
   rcases H_.mp hx with e |hx
   ·subst e
    exact qz ok (by rw[<- hq.1];exact hq.2.1)
   ·exact ih x hx
 exact all r x hx
def Od(ok:HOk P w H h)(e:H a=some (.dT kvs)):kvs.length<=sizeLine/\(a==sysModules)=false/\
 ∃xs,KT H kvs xs/\h.DictOfH (tupleKind (bT P w)) a xs:=u6 ok (.inl e)
end
def DGet(H:Hp)(a:Addr)(y:V)(r:Option V):Prop:=
 (∃kvs k,Rd H a (.dK kvs)/\y=kV k/\r=fA kvs k)\/∃kvs k b,Rd H a (.dT kvs)/\y=.ref b/\H b=some (.tup (k.map kV))/\r=fA kvs k
def DPut(H:Hp)(a:Addr)(y v:V)(H':Hp):Prop:=
 (∃kvs k,H a=some (.dK kvs)/\y=kV k/\kvs.length<sizeLine/\H'=upd H a (.dK (eB kvs k v)))\/
 ∃kvs k b,H a=some (.dT kvs)/\y=.ref b/\H b=some (.tup (k.map kV))/\kvs.length<sizeLine/\H'=upd H a (.dT (eB kvs k v))
def DGet.k{H:Hp}{a:Addr}{kvs:List (Key×V)}{k:Key}(e:H a=some (.dK kvs)):DGet H a (kV k) (fA kvs k):=.inl ⟨kvs,k,.inl e,rfl,rfl⟩
def DPut.k{H:Hp}{a:Addr}{kvs:List (Key×V)}{k:Key}{v:V}(e:H a=some (.dK kvs))(hl:kvs.length<sizeLine):DPut H a (kV k) v (upd H a (.dK (eB kvs k v))):=.inl ⟨kvs,k,e,rfl,hl,rfl⟩
section
variable{X:Cx}{pins:Rb}{σ:St}{H:Hp}{s:Shared}{a:Addr}{y v:V}{u r:Value}{o:Option V}{A:Around}{E:Rg}
def yS(hu:A.units+1<cLine)(I:Inv X pins σ H s)(g:DGet H a y (some v))(ry:RelV y u)(h:∀w' s',Inv X pins σ H s'->RelV v w'->Q w' s'):
 wpAny (model X.prog X.w) A (getItem (.ref a) u) Q E s:=by
 rcases g with ⟨kvs,k,e,ey,l⟩ |⟨kvs,k,b,e,ey,eb,l⟩
 ·subst ey
  obtain⟨z,hd,vs,rel,dd⟩:=v9 I.hok e
  obtain⟨w',hw,rw'⟩:=RelO.some_of (v:=v) (o:=valueAt vs k) (by rw[l];exact rel.val k)
  exact wpAny_getItem_of (vF ry) dd.mapOf hw (h w' _ (I.tok _) rw')
 ·subst ey
  cases (show u=Value.ref b from ry)
  obtain⟨z,hd,xs,rel,dd⟩:=u6 I.hok e
  obtain⟨w',hw,rw'⟩:=RelO.some_of (v:=v) (o:=(atKey xs k).map (·.2)) (by rw[l];exact rel.val k)
  obtain⟨p,hp,hp2⟩:=D_.mp hw
  refine wpAny_getItem_heap (tupleKind_room_in1 hu) (qz I.hok eb) dd hp ?_
  rw[hp2]
  exact h w' _ (I.tok _) rw'
def uI(I:Inv X pins σ H s)(mu:Mut (H a))(hs:Heap.SameBut a s.heap h')(he:∃q,h'.get? a=some q)(new:ObjOk X.prog X.w (upd H a ob) h' a ob):
 Inv X pins σ (upd H a ob) { s with heap:=h',toks:=t' }:=
 I.write (x:=a) (e:=a) mu (.inl rfl) (λb q hb z=>(hs.2 b hb).trans z) he new
def JI(z:kvs.length<=sizeLine)(hd:(a==sysModules)=false)(rel:KV kvs vs)(dd:h'.DictOf (bT P w) a vs):
 ObjOk P w H' h' a (.dK kvs):=⟨z,hd,vs,rel,dd⟩
def xN(hu:A.units+1<cLine)(I:Inv X pins σ H s)(g:DPut H a y v H')(ry:RelV y u)(rv:RelV v r)(h:∀s',Inv X pins σ H' s'->Q () s'):
 wpAny (model X.prog X.w) A (setItem (.ref a) u r) Q E s:=by
 rcases g with ⟨kvs,k,e,ey,l,eH⟩ |⟨kvs,k,b,e,ey,eb,l,eH⟩
 ·subst ey eH
  obtain⟨z,hd,vs,rel,dd⟩:=MV I.hok e
  have hz:vs.length<=sizeLine:=by rw[<- rel.length];exact z
  have hl:(eB kvs k v).length<=sizeLine:=by have:=kK kvs k v;omega
  refine wpAny_setItem_pairs (hsz:=hz) (vF ry) dd λh' dd' hs=>h _ ?_
  have he:∃q,h'.get? a=some q:=let ⟨q,_,_,hq,_⟩:=dd';⟨q,hq⟩
  exact uI I (by rw[e];exact True.intro) hs he (JI hl hd (rel.put k rv) dd')
 ·subst ey eH
  cases (show u=Value.ref b from ry)
  obtain⟨z,hd,xs,rel,dd⟩:=Od I.hok e
  have hz:xs.length<=sizeLine:=by rw[<- QJ rel];exact z
  have hl:(eB kvs k v).length<=sizeLine:=by have:=kK kvs k v;omega
  refine wpAny_setItem_heap (hsz:=hz) (tupleKind_room_in1 hu) (qz I.hok eb) dd λh' dd' hs=>h _ ?_
  obtain⟨q,es,ep,hq,h2,h3,h4,_,h5⟩:=dd'
  refine uI I (by rw[e];exact True.intro) hs ⟨q,hq⟩ ⟨hl,hd,_,(rel.put k eb rv).keeps λc ys ec=>?_,q,es,ep,hq,h2,h3,h4,h5⟩
  rw[aF (LS ec e (λz=>nomatch z))]
  exact ec
end
section
variable{X:Cx}{pins:Rb}{σ:St}{H:Hp}{s:Shared}{a:Addr}{kvs:List (Key×V)}{k:Key}{u:Value}{A:Around}{E:Rg}
end
def vR(i:Expr):Prop:=∀ov iv,subscripted i false ov iv=operate [ov,iv] (getItem ov iv)
def FG{prog:Program}{w:World}{A:Around}{E:Rg}{s:Shared}{env:Env}{value gl:Expr}{pos:Pos}{T id:String}{Q:Rg}
 (hl:typeLookup (.type T) "__getitem__"=pure (some (.builtin id))) (hs:vR gl)
 (h:wpAny (model prog w) A (eval value env) (λo s₁=>wpAny (model prog w) A (eval gl env) (λi s₂=>s₂.TypeIs o T/\wpAny (model prog w) A (getItem o i) Q E s₂) E s₁) E s):
 wpAny (model prog w) A (eval (.Subscript value gl pos) env) Q E s:=by
 refine Subscript_ (Ox h (λo s₁ h₁=>Ox h₁ (λi s₂ h₂=>?_) λ_ _ x=>x) λ_ _ x=>x)
 obtain⟨hT,h₂⟩:=h₂
 unfold subscriptTail
 refine i_ ?_
 rw[getitemInPython_of_ne hT.not_modules]
 refine i_ (wpAny_specialOf hT hl ?_)
 have g_:wpAny (model prog w) A (subscripted gl false o i) (λr s₃=>wpAny (model prog w) A (letTemporaryGo value o r >>= λ_=>pure r) Q E s₃) E s₂:=by
  rw[hs o i]
  exact wpAny_operating (Ox h₂ (λr s₃ h₃=>i_ (wpAny_letTemporaryGo (u_ h₃))) λ_ _ x=>x)
 first
  |exact u_ (i_ g_)
  |exact i_ (u_ (i_ g_))
  |exact i_ g_
def tu(I:Inv X pins σ H s)(g:DGet H a y o):s.TypeIs (.ref a) "dict":=by
 rcases g with ⟨kvs,k,e,_,_⟩ |⟨kvs,k,b,e,_,_,_⟩
 ·obtain⟨_,_,vs,_,dd⟩:=v9 I.hok e
  exact dd.typeIs
 ·obtain⟨_,_,xs,_,dd⟩:=u6 I.hok e
  exact dd.typeIs
def Og(td ty:TE):TE:=λσ H Q=>td σ H λx H1=>ty σ H1 λy H2=>∃a v,x=.ref a/\DGet H2 a y (some v)/\Q v H2
section
variable{X:Cx}{o i e value:Expr}{pos h_ tpos:Pos}{td ty tv:TE}
def E4(hu:X.A.units+1<cLine)(ho:PE X o td)(hi:PE X i ty)(hs:vR i):PE X (.Subscript o i pos) (Og td ty):=by
 intro pins s σ H Q I h
 refine FG PySem.F.slot_dict_getitem.lookup hs (thn (ho pins s σ H _ I h) λu s1 ⟨x,H1,I1,rx,q1⟩=>thn (hi pins s1 σ H1 _ I1 q1) λiv s2 ⟨y,H2,I2,ry,a,v,ex,g,q2⟩=>?_)
 subst ex
 obtain rfl:u=Value.ref a:=rx
 exact⟨tu I2 g,yS hu I2 g ry λw' s3 I3 rw'=>⟨v,H2,I3,rw',q2⟩⟩
end
section
variable{X:Cx}{pos:Pos}
end
structure M1(X:Cx)(o:Expr)(m:Str)(apos:Pos)(e:Expr)(cpos:Pos):Prop where
 base:attributeBase o m X.env (eval o X.env)=eval o X.env
 few:((backTo cpos (starEach [e] X.env)).all (λx=>!x.1)&&(backToKw cpos (keywordEach [] X.env)).all (λx=>x.1.isSome)
  && decide (([e]:List Expr).length+([]:List Keyword).length+(if ([]:List Keyword).isEmpty then 0 else 1)<30))=true
 line:(apos.endLine==cpos.line)=true
 trees:backTo cpos (starEach [e] X.env)=[(false,eval e X.env)]
structure M2(X:Cx)(o:Expr)(m:Str)(apos:Pos)(e f:Expr)(cpos:Pos):Prop where
 base:attributeBase o m X.env (eval o X.env)=eval o X.env
 few:((backTo cpos (starEach [e,f] X.env)).all (λx=>!x.1)&&(backToKw cpos (keywordEach [] X.env)).all (λx=>x.1.isSome)
  && decide (([e,f]:List Expr).length+([]:List Keyword).length+(if ([]:List Keyword).isEmpty then 0 else 1)<30))=true
 line:(apos.endLine==cpos.line)=true
 trees:backTo cpos (starEach [e,f] X.env)=[(false,eval e X.env),(false,eval f X.env)]
section
variable{X:Cx}{pins:Rb}{σ:St}{H:Hp}{s:Shared}{a:Addr}{y d:V}{u r:Value}{o:Option V}{A:Around}{E:Rg}
end
section
variable{X:Cx}{o e f:Expr}{apos cpos:Pos}{td ty tx:TE}
end
section
variable{X:Cx}{pins:Rb}{σ:St}{H:Hp}{s:Shared}{a:Addr}{kvs:List (Key×V)}{A:Around}{E:Rg}
end
section
variable{X:Cx}{pins:Rb}{σ:St}{H:Hp}{s:Shared}{a:Addr}{y:V}{u:Value}{A:Around}{E:Rg}
end
section
variable{prog:Program}{w:World}{A:Around}{E:Rg}{s:Shared}
end
section
variable[DecidableEq κ]
noncomputable def lkD(kvs:List (κ×α))(k:κ):Option α:=(kvs.find? λkv=>decide (kv.1=k)).map (·.2)
noncomputable def cW(kvs:List (κ×α))(k:κ)(v:α):List (κ×α):=if (kvs.any λkv=>decide (kv.1=k))=true then kvs.map λkv=>if kv.1=k then (kv.1,v) else kv else kvs++[(k,v)]
end
section
variable{K:W.Frag}{mg:Ra}{ρ:List Addr}{H:Hp}
def Dz:∀{kvs:List (Key×D)}{ws:List (Key×V)},ws.map (·.1)=kvs.map (·.1)->RelDs K mg ρ H (kvs.map (·.2)) (ws.map (·.2))->lkD kvs k=some d->∃v,fA ws k=some v/\RelD K mg ρ H d v:=by
 intro kvs
 induction kvs with
 |nil=>intro ws e r q;cases q
 |
  cons p kvs ih=>
  intro ws e r q
  cases ws with
  |nil=>cases e
  |
   cons w ws=>
   obtain⟨k1,d1⟩:=p
   obtain⟨k2,v2⟩:=w
   rw[s_,s_] at e
   injection e with e1 e2
   dsimp only at e1
   subst e1
   cases r with
   |
    cons r rr=>
    unfold lkD at q
    unfold fA
    rw[OE] at q ⊢
    dsimp only at q ⊢
    by_cases hk:k2=k
    ·rw[F_ hk] at q ⊢
     cases q
     exact⟨v2,rfl,r⟩
    ·rw[A_ hk] at q ⊢
     exact ih e2 rr q
def qL[DecidableEq κ]:∀{kvs:List (κ×α)}{ws:List (κ×β)},ws.map (·.1)=kvs.map (·.1)->(ws.any λkv=>decide (kv.1=k))=kvs.any λkv=>decide (kv.1=k):=by
 intro kvs
 induction kvs with
 |
  nil=>
  intro ws e
  cases ws with
  |nil=>rfl
  |cons _ _=>cases e
 |
  cons p kvs ih=>
  intro ws e
  cases ws with
  |nil=>cases e
  |
   cons w ws=>
   rw[s_,s_] at e
   injection e with e1 e2
   rw[OV,OV,ih e2,e1]
def BO{k:Key}{d:D}{v:V}(rd:RelD K mg ρ H d v){kvs:List (Key×D)}{ws:List (Key×V)}(e:ws.map (·.1)=kvs.map (·.1))(r:RelDs K mg ρ H (kvs.map (·.2)) (ws.map (·.2))):(eB ws k v).map (·.1)=(cW kvs k d).map (·.1)/\RelDs K mg ρ H ((cW kvs k d).map (·.2)) ((eB ws k v).map (·.2)):=by
 unfold eB cW
 rw[qL e]
 by_cases hc:(kvs.any λkv=>decide (kv.1=k))=true
 ·rw[if_pos hc,if_pos hc]
  clear hc
  induction kvs generalizing ws with
  |
   nil=>
   cases ws with
   |nil=>exact⟨rfl,.nil⟩
   |cons _ _=>cases e
  |
   cons p kvs ih=>
   cases ws with
   |nil=>cases e
   |
    cons w ws=>
    obtain⟨k1,d1⟩:=p
    obtain⟨k2,v2⟩:=w
    rw[s_,s_] at e
    injection e with e1 e2
    dsimp only at e1
    subst e1
    cases r with
    |
     cons r rr=>
     obtain⟨h1,h2⟩:=ih e2 rr
     simp only[s_]
     by_cases hk:k2=k
     ·rw[if_pos hk,if_pos hk]
      exact⟨by rw[h1],.cons rd h2⟩
     ·rw[if_neg hk,if_neg hk]
      exact⟨by rw[h1],.cons r h2⟩
 ·rw[if_neg hc,if_neg hc,Oo,Oo,Oo,Oo,e]
  exact⟨rfl,r.append (.cons rd .nil)⟩
def u5:uY:=λo i v H Q=>∃a H4,o=.ref a/\DPut H a i v H4/\Q H4
variable{X:Cx}{ES:St->XK}{a b:Expr}{F G:ME}{pos:Pos}
def zC(hu:X.A.units+1<cLine):pS X u5:=λpins s σ H o i v ov iv u Q I ro ri rv ⟨a,H4,eo,g,q⟩=>by
 subst eo
 obtain rfl:ov=Value.ref a:=ro
 exact xN hu I g ri rv λs4 I4=>⟨H4,I4,q⟩
end
section
variable{X:Cx}
end
section
variable{K:W.Frag}{mg:Ra}
end
section
variable{K:W.Frag}{mg:Ra}{X:Cx}{ES:St->XK}{o:Expr}{F:ME}{pos p2:Pos}
end
end L2
namespace L2
open PySem PySem.Spec PySem.Calls PyProof.Rows
section
variable{X:Cx}{K:W.Frag}{mg:Ra}{ES:St->XK}{es:List Expr}{gs:MGs}{pos:Pos}
end
section
variable{X:Cx}{K:W.Frag}{mg:Ra}{ES:St->XK}{a:Expr}{A:MA}{pos q2 p1 p2:Pos}
end
inductive EntOk(w:World):List DictEntry->List (Str×Int)->Prop
 |nil:EntOk w [] []
 |cons {e:DictEntry}{es:List DictEntry}{k:Str}{i:Int}{t t':Tok}{kvs:List (Str×Int)} (h:e.hash=hashStr w k) (hk:e.key=.str k t) (hv:e.val=.int i t') (r:EntOk w es kvs):EntOk w (e::es) ((k,i)::kvs)
section
variable{X:Cx}{K:W.Frag}{mg:Ra}{w:World}{n:Str}{kvs:List (Str×Int)}
end
end L2
namespace L2
open PySem
end L2
namespace L2
open PySem PySem.Spec PySem.Calls PyProof.Rows
section
variable{X:Cx}{K:W.Frag}{mg:Ra}
end
structure RoomU(k:Nat)(A:Around):Prop where
 dp:A.depth+3*k+5<recursionLimit
 un:A.units+16*k+200<cLine
structure FnOkU(P:Program)(w:World)(K:W.Frag)(mg:Ra)(base:Heap)(CX:CXT)(k:Nat)(f:Addr)(fd:FuncData)(ps:List Str)(sp:Sp):Prop where
 len:∀vs H Q E,sp vs H Q E->vs.length=ps.length
 run:∀(A:Around) (outer:List Env) (s:Shared) (H:Hp) (args:Args) (us:List Value) (vs:List V) (Q:VK) (E:XK),RoomU k A->Env0 P w K mg base A outer s H->BindsTo s fd args (ps.zip us)->Vals vs us->sp vs H Q E->
  codeAny (model P w) A (.call (.ref f) args) (CR CX outer P w H s Q E) s
section
variable{P:Program}{w:World}{K:W.Frag}{mg:Ra}{base:Heap}{x:Str}{st:Stmt}{k:Nat}{ps N:List Str}{sp:Sp}
structure CalleeU(P:Program)(w:World)(K:W.Frag)(mg:Ra)(base:Heap)(x:Str)(k:Nat)(ps:List Str)(sp:Sp):Prop where
 ex:∃f fd,FnOkU P w K mg base (CX1 P w) k f fd ps sp/\mg x=some (.ref f)/\W.keepIn K (.ref f)=true/\Binds K fd ps []/\∃oc od osl,K.lookup f=some ⟨oc,od,.func fd,osl⟩
variable{F:MS}
end
section
variable{X:Cx}{K:W.Frag}{mg:Ra}{ES:St->XK}{e:Expr}{es:List Expr}{A:MA}{pos:Pos}
end
end L2
namespace L2
open PySem PySem.Spec PyProof.Rows
section
variable{X:Cx}
def m9:V->List V->Hp->VK->Prop:=λx vs H Q=>∃l xs i y,x=.ref l/\vs=[.int i,y]/\H l=some (.lst xs)/\0<=i/\i<=(xs.length:Nat)/\xs.length<sizeLine/\Q .non (upd H l (.lst (xs.take i.toNat++y::xs.drop i.toNat)))
def yW:MtM X "list.insert" m9:=by
 intro pins s σ H x vs v us Q I rx rv h
 obtain⟨l,xs,i,y,rfl,rfl,hH,h0,h1,hz,q⟩:=h
 cases rx
 obtain⟨u1,u2,rfl,ru1,ru2⟩:=j9 rv
 obtain⟨t,rfl⟩:=ru1
 obtain⟨z,its,n,r,hl,e⟩:=I.lstM hH
 have hs:sizeLine=16777216:=rfl
 have hf:Builtin.List.listFitsIndex i=true:=fitsIndex_both (by omega) (by omega)
 refine PK PySem.F.slot_list_insert ⟨_,e,rfl⟩ PySem.F.entry_list_insert (PySem.F.args_list_insert_3 _ _ _) (AutoSeq1.list_insert_list_int_val_1 l its.toArray n i t u2 (by rw[hf];decide) (by rw[t_];omega)) ⟨e,?_⟩
 refine⟨.non,_,I.lset (its':=its.take i.toNat++u2::its.drop i.toNat) hH e ?_ ((r.take _).append (.cons ru2 (r.drop _))) ?_,rfl,q⟩
 ·show (have k:=if i<0 then (i+(its.toArray.size:Int)).toNat else min i.toNat its.toArray.size;(its.toArray.extract 0 k).push u2++its.toArray.extract k)=_
  rw[if_neg (by omega),t_,QB (by omega)]
  apply Array.ext'
  simp [Pf]
 ·simp only[l_,x_,OM,Px]
  omega
def yi{prog:Program}{w:World}{A:Around}{R:Result->Shared->Prop}{I ax S:Addr}{items:Array Value}{lists:List (List Value)}{h0:Heap}(hh:A.in1.handled=none)(hIS:I≠S)(hI:h0.objs.size<=I)(hS0:h0.objs.size<=S)
 (hax:h0.IsList ax items) (hn:items.size=lists.length) (hit:∀(i:Nat) (l:List Value),lists[i]?=some l->∃c m,items[i]?=some (Value.ref c)/\PySem.IsL h0 c l.toArray m):
 ∀(bp:List (List Value)) (i:Nat) (s:Shared) (T:Addr) (acc:List Value) (c m:Nat),lists.drop i=bp->i<=lists.length->s.heap.IsListIter I ax i->PySem.IsL s.heap S #[Value.ref T] c->PySem.IsL s.heap T acc.toArray m->T≠S->T≠I->h0.objs.size<=s.heap.objs.size->
 (∀b o,h0.get? b=some o->s.heap.get? b=some o)->acc.length+bp.flatten.length<=sizeLine->
 (∀h' T' m',(∀b o,h0.get? b=some o->h'.get? b=some o)->PySem.IsL h' T' (acc++bp.flatten).toArray m'->(bp=[]->T'=T)->(bp≠[]->h0.objs.size<=T')->R (.ok (.ret (.ref T'))) { s with heap:=h' })->
 codeAny (model prog w) A (.builtin "sum.loop" ⟨[.ref I,.ref S,rawInt 2,rawInt 0],[]⟩) R s:=by
 intro bp
 induction bp with
 |
  nil=>
  intro i s T acc c m hd hi st zS hT hTS hTI hsz hk hz hR
  have hi':lists.length<=i:=List.drop_eq_nil_iff.mp hd
  refine codeAny_builtin PySem.F.entry_sum_loop ?_
  rw[Around.under_plainId PL _]
  show wpAny _ A.in1 (PySem.seqItems? (.ref S) >>= _) _ _ s
  refine i_ (OY zS rfl ?_)
  show wpAny _ A.in1 (tryCatch (PySem.pyNext (.ref I)) _ >>= _) _ _ s
  refine i_ (wpAny_tryCatch (wpAny_pyNext_list_end hh st (hax.at λo e=>hk _ o e) (by rw[Array.getElem?_eq_none_iff];omega) λh' xb=>?_))
  refine u_ (hR h' T m (λb o e=>xb b o (λz=>?_) (hk b o e)) ?_ (λ_=>rfl) λz=>absurd rfl z)
  ·exact absurd (z ▸ w_ e:I<h0.objs.size) (Nat.not_lt.mpr hI)
  ·rw[List.flatten_nil,OB]
   exact xb T _ hTI hT
 |
  cons l bp ih=>
  intro i s T acc c m hd hi st zS hT hTS hTI hsz hk hz hR
  have hli:lists[i]?=some l:=by
   have:=OI (λq=>q[0]?) hd
   simpa using this
  obtain⟨cc,mm,hx,hc⟩:=hit i l hli
  have hilt:i<lists.length:=(k_.mp hli).1
  rw[Ot,l_] at hz
  refine codeAny_builtin PySem.F.entry_sum_loop ?_
  rw[Around.under_plainId PL _]
  show wpAny _ A.in1 (PySem.seqItems? (.ref S) >>= _) _ _ s
  refine i_ (OY zS rfl ?_)
  show wpAny _ A.in1 (tryCatch (PySem.pyNext (.ref I)) _ >>= _) _ _ s
  refine i_ (wpAny_tryCatch (wpAny_pyNext_list_item st (hax.at λo e=>hk _ o e) hx λh' st' sb=>?_))
  have hold:∀b o,h0.get? b=some o->h'.get? b=some o:=λb o e=>by
   rw[sb.2 b (λz=>absurd (z ▸ w_ e:I<h0.objs.size) (Nat.not_lt.mpr hI))]
   exact hk b o e
  have hT':PySem.IsL h' T acc.toArray m:=(sb.2 T hTI).trans hT
  have zS':PySem.IsL h' S #[.ref T] c:=(sb.2 S (Ne.symm hIS)).trans zS
  have eS:=w_ zS'
  have eI:I<h'.objs.size:=by obtain⟨o,e,_⟩:=st';exact w_ e
  show wpAny _ A.in1 ((PySem.holding [Value.ref cc] (binaryOp .Add (.ref T) (.ref cc))).attempt >>= _) _ _ _
  refine i_ (Qp (PF (PySem.P.add_list hT' (hold _ _ hc) ?_ (by rw[t_,t_];omega))))
  have ea:acc.toArray++l.toArray=(acc++l).toArray:=by simp
  rw[ea]
  have hB:h0.objs.size<=h'.objs.size:=y_ hS0 (Qg eS)
  generalize hb:h'.objs.size=B at *
  have zB:PySem.IsL (h'.push { cls:=.type "list",data:=.seq (acc++l).toArray }) B (acc++l).toArray 0:=by rw[<- hb];exact Em _ rfl
  have old2:∀b o,h'.get? b=some o->(h'.push { cls:=.type "list",data:=.seq (acc++l).toArray }).get? b=some o:=λb o e=>v_ _ e
  have szp:(h'.push { cls:=.type "list",data:=.seq (acc++l).toArray }).objs.size=B+1:=by rw[<- hb];exact Pb ..
  generalize h'.push { cls:=.type "list",data:=.seq (acc++l).toArray }=h2 at *
  show wpAny _ A.in1 (PySem.updateSeq S (λ_=>#[.ref B]) >>= _) _ _ _
  refine i_ ?_
  have zS2:=old2 _ _ zS'
  refine wpAny_updateSeq zS2 rfl ?_
  have zS3:=PY (Obj.mapSeq λ_=>#[Value.ref B]) zS2 rfl
  refine i_ (wpAny_letGo ?_)
  refine i_ ?_
  refine wpAny_updateSeq zS3 rfl (u_ ⟨plainId_quiet PL _,ih (i+1) _ B (acc++l) _ 0 ?_ (by omega) ?_ (PY _ zS3 rfl) ?_ (Ph eS) (Ph eI) ?_ ?_ (by rw[l_];omega) ?_⟩)
  ·rw[<- List.tail_drop,hd];rfl
  ·exact st'.at λo e=>(OA _ _ (Ne.symm hIS)).trans ((OA _ _ (Ne.symm hIS)).trans (old2 _ _ e))
  ·exact (OA _ _ (L_ eS)).trans ((OA _ _ (L_ eS)).trans zB)
  ·show _<=((h2.update _ _).update _ _).objs.size
   rw[Heap.size_update,Heap.size_update,szp]
   exact Nat.le_succ_of_le hB
  ·intro b o e
   have nb:S≠b:=Ph (B_ (w_ e) hS0)
   exact (OA _ _ nb).trans ((OA _ _ nb).trans (old2 _ _ (hold b o e)))
  ·intro h3 T' m' k3 e3 e4 e5
   refine hR h3 T' m' k3 (by rw[Ot,<- OD];exact e3) (λz=>nomatch z) λ_=>?_
   by_cases hr:bp=[]
   ·rw[e4 hr];exact hB
   ·exact e5 hr
noncomputable def yY(a b:Value):argsOk "sum" ⟨[a,b],[]⟩:=by unfold argsOk;kernel_rfl
inductive Lsts(H:Hp):List V->List (List V)->Prop where
 |nil:Lsts H [] []
 |cons {a:Addr}{xs:List V}{vs:List V}{xss:List (List V)} (e:H a=some (.lst xs)) (r:Lsts H vs xss):Lsts H (.ref a::vs) (xs::xss)
def Lsts.out(I:Inv X pins σ H s)(r:Lsts H vs xss):∀{us:List Value},Vals vs us->∃lists:List (List Value),us.length=lists.length/\Vals xss.flatten lists.flatten/\xss.length=lists.length/\∀(i:Nat) (l:List Value),lists[i]?=some l->∃c m,us[i]?=some (Value.ref c)/\PySem.IsL s.heap c l.toArray m:=by
 induction r with
 |nil=>intro us rv;cases rv;exact⟨[],rfl,.nil,rfl,λi l e=>by rw[PR] at e;cases e⟩
 |
  cons e r ih=>
  intro us rv
  cases rv with
  |
   cons ru rv=>
   cases ru
   obtain⟨lists,h1,h2,h3,h4⟩:=ih rv
   obtain⟨z,its,n,r,hl,e⟩:=I.lstM e
   refine⟨its::lists,OI (· + 1) h1,r.append h2,OI (· + 1) h3,λi l q=>?_⟩
   cases i with
   |zero=>cases q;exact⟨_,n,rfl,e⟩
   |succ i=>exact h4 i l q
def vY:List V->Hp->VK->Prop:=λxs H Q=>∃a b vs ys xss,xs=[.ref a,.ref b]/\H a=some (.lst vs)/\H b=some (.lst ys)/\Lsts H vs xss/\xss≠[]/\ys.length+xss.flatten.length<=sizeLine/\∀l,H l=none->Q (.ref l) (upd H l (.lst (ys++xss.flatten)))
def vL(hc:X.calm=true):CallR X (.builtin "sum") vY:=by
 intro pins s σ H xs us Q I r h
 obtain⟨a,b,vs,ys,xss,rfl,hA,hB,hL,hne,hz,q⟩:=h
 obtain⟨u1,u2,rfl,r1,r2⟩:=j9 r
 cases r1
 cases r2
 obtain⟨_,its,n,rv,hl,e⟩:=I.lstM hA
 obtain⟨_,its2,n2,rv2,hl2,e2⟩:=I.lstM hB
 obtain⟨lists,g1,g2,g3,g4⟩:=Lsts.out I hL rv
 have la:s.heap.IsList a its.toArray:=⟨_,e,rfl,_,rfl⟩
 have al:=w_ e
 have bl:=w_ e2
 refine call_function_tree PySem.F.kind_sum PySem.F.plain_sum PySem.F.entry_sum (yY _ _) ?_
 unfold PySem.Builtin.«sum»
 simp only[x_,Ol]
 rw[if_neg (by decide)]
 refine i_ (wpAny_of_eq (show Builtin.Builtins.bindParams "sum" ["start"] 0 { pos:=[.ref b] }=pure [some (.ref b)] from rfl) ?_)
 refine i_ (Ql la ?_)
 have q1:∀c o,s.heap.get? c=some o->(s.heap.push { cls:=.type "list_iterator",data:=.fields #[.ref a,.int 0 0] }).get? c=some o:=λc o z=>v_ _ z
 have q2:(s.heap.push { cls:=.type "list_iterator",data:=.fields #[.ref a,.int 0 0] }).IsListIter s.heap.objs.size a 0:=⟨_,Em _ rfl,rfl,rfl⟩
 have q3:(s.heap.push { cls:=.type "list_iterator",data:=.fields #[.ref a,.int 0 0] }).objs.size=s.heap.objs.size+1:=Pb ..
 generalize s.heap.push { cls:=.type "list_iterator",data:=.fields #[.ref a,.int 0 0] }=h1 at *
 refine i_ (u_ ?_)
 simp only[PH,Qj]
 have ty:({ s with heap:=h1 }:Shared).TypeIs (.ref b) "list":=⟨_,q1 _ _ e2,rfl⟩
 refine i_ (i_ (i_ (Qs (b:=false) ty PySem.F.sub_list_str ?_)))
 simp only[OT,PM]
 refine u_ (i_ (i_ (Qs (b:=false) ty PySem.F.sub_list_bytes ?_)))
 simp only[OT,PM]
 refine u_ (i_ (i_ (Qs (b:=false) ty PySem.F.sub_list_bytearray ?_)))
 simp only[OT,PM]
 refine u_ (u_ ?_)
 refine i_ (OQ ?_)
 have p1:∀c o,h1.get? c=some o->(h1.push { cls:=.type "list",data:=.seq #[.ref b] }).get? c=some o:=λc o z=>v_ _ z
 have p2:PySem.IsL (h1.push { cls:=.type "list",data:=.seq #[.ref b] }) h1.objs.size #[.ref b] 0:=Em _ rfl
 have p3:(h1.push { cls:=.type "list",data:=.seq #[.ref b] }).objs.size=h1.objs.size+1:=Pb ..
 refine u_ ⟨plainId_quiet PL _,yi (h0:=s.heap) (items:=its.toArray) (lists:=lists) (I.ok.hd hc) ?_ (p_ _) ?_ la (by rw[t_];exact g1) (λi l z=>?_) lists 0 _ b its2 0 n2 rfl (Oq _) ?_ p2 (p1 _ _ (q1 _ _ e2)) ?_ (L_ bl) ?_ (λc o z=>p1 _ _ (q1 _ _ z)) ?_ λh' T' m' k' e' _ f'=>?_⟩
 ·rw[q3];exact L_ (Nat.lt_succ_self _)
 ·rw[q3];exact Nat.le_succ _
 ·obtain⟨c,m,y1,y2⟩:=g4 i l z
  exact⟨c,m,by simpa using y1,y2⟩
 ·exact q2.at λo z=>p1 _ _ z
 ·rw[q3];exact L_ (Nat.lt_succ_of_lt bl)
 ·show _<=(h1.push _).objs.size
  rw[p3,q3]
  omega
 ·rw[<- hl2,<- g2.length];exact hz
 ·have hne':lists≠[]:=λz=>by rw[z] at g3;exact hne (OL.mp g3)
  have fr:=f' hne'
  exact⟨.ref T',_,I.laid (t':=s.toks) k' fr (show ObjOk X.prog X.w _ h' _ (.lst (ys++xss.flatten)) from ⟨by rw[l_];exact hz,_,m',rv2.append g2,e'⟩),rfl,q _ (I.hok.fresh fr)⟩
end
section
variable{K:W.Frag}{mg:Ra}
noncomputable def kF:D->List D->AH->R D:=λx ds h=>gr h x λn xs=>match ds with
 | [.int i,d]=>if 0<=i/\i<=(xs.length:Nat)/\xs.length<16777216 then .ok .non (h.set n (.lst (xs.take i.toNat++d::xs.drop i.toNat))) else .stuck
 |_=>.stuck
def yO:MtD K mg m9 kF:=λρ h H dx ds x vs Q E w rx rs p=>by
 obtain⟨n,xs,a,us,rfl,e,ea,rfl,h1,h2,p⟩:=gZ w rx p
 split at p
 ·cases
   rs with
  |
   cons r rs=>
   cases rs with
   |
    cons r2 rs=>
    cases rs
    cases r
    split at p
    ·rename_i hb
     rw[h2.len] at hb
     exact⟨a,us,_,_,rfl,rfl,h1,hb.1,hb.2.1,hb.2.2,jd w ea h1 ((h2.take _).append (.cons r2 (h2.drop _))) .non p⟩
    ·exact p.elim
 ·exact p.elim
noncomputable def iK(h:AH):List D->Option (List (List D))
 | []=>some []
 |.ref n::ds=>match h[n]?,iK h ds with
  |some (.lst xs),some xss=>some (xs::xss)
  |_,_=>none
 |_::_=>none
noncomputable def mB:Fn:=λds h=>match ds with
 | [.ref a,.ref b]=>match h[a]?,h[b]? with
  |some (.lst vs),some (.lst ys)=>match iK h vs with
   |some xss=>if xss≠[]/\ys.length+xss.flatten.length<=16777216 then .ok (.ref h.length) (h++[.lst (ys++xss.flatten)]) else .stuck
   |none=>.stuck
  |_,_=>.stuck
 |_=>.stuck
def eN{ρ:List Addr}{h:AH}{H:Hp}(w:Wd K mg ρ h H){n:Nat}{a:Addr}{xs:List D}(ea:ρ[n]?=some a)(e:h[n]?=some (.lst xs)):∃vs,H a=some (.lst vs)/\RelDs K mg ρ H xs vs:=by
 obtain⟨vs,h1,h2⟩:=w.ob _ _ _ ea e
 exact⟨vs,h1,h2⟩
def vc(w:Wd K mg ρ h H):∀{ds:List D}{vs:List V}{xss:List (List D)},RelDs K mg ρ H ds vs->iK h ds=some xss->∃yss,Lsts H vs yss/\RelDs K mg ρ H xss.flatten yss.flatten/\xss.length=yss.length:=by
 intro ds
 induction ds with
 |nil=>intro vs xss r e;cases r;cases e;exact⟨[],.nil,.nil,rfl⟩
 |
  cons d ds ih=>
  intro vs xss r e
  cases r with
  |
   cons r rr=>
   cases r with
   |
    ref ea=>
    unfold iK at e
    split at e
    ·rename_i xs xss' q1 q2
     cases e
     obtain⟨yss,g1,g2,g3⟩:=ih rr q2
     obtain⟨ys,g4,g5⟩:=eN w ea q1
     exact⟨ys::yss,.cons g4 g1,g5.append g2,OI (· + 1) g3⟩
    ·cases e
   |_=>cases e
def DQ:aT K mg vY mB:=λρ h H ds vs Q E w rs p=>by
 unfold mB at p
 split at p
 ·cases
   rs with
  |
   cons r1 rs=>
   cases rs with
   |
    cons r2 rs=>
    cases rs
    cases r1 with
    |
     ref ea=>
     cases r2 with
     |
      ref eb=>
      split at p
      ·rename_i vs ys q1 q2
       split at p
       ·rename_i xss q3
        split at p
        ·rename_i hb
         obtain⟨vs',g1,g2⟩:=eN w ea q1
         obtain⟨ys',g3,g4⟩:=eN w eb q2
         obtain⟨yss,g5,g6,g7⟩:=vc w g2 q3
         refine⟨_,_,_,_,yss,rfl,g1,g3,g5,λz=>hb.1 ?_,by rw[<- g4.len,<- g6.len];exact hb.2,λl hl=>c9 w (g4.append g6) hl p⟩
         rw[z] at g7
         exact OL.mp g7
        ·exact p.elim
       ·exact p.elim
      ·exact p.elim
 ·exact p.elim
end
section
variable{X:Cx}{K:W.Frag}{mg:Ra}
end
section
variable{X:Cx}
def MN:List V->Hp->VK->Prop:=λxs H Q=>xs=[]/\∀l,H l=none->Q (.ref l) (upd H l (.set (λ_=>false) 0))
def rS:R2:=λx y H Q=>∃i a S n,x=.int i/\y=.ref a/\H a=some (.set S n)/\Q (.bl (S i)) H
def Br:OpR X (compareOp .In) rS:=by
 intro pins s σ H x y v u Q I rx ry h
 obtain⟨i,a,S,n,rfl,rfl,hH,q⟩:=h
 obtain⟨t,rfl⟩:=rx
 cases ry
 have hS:s.heap.SetOf (intKind X.prog X.w) a S n:=I.hok a _ hH
 exact wpAny_inSet_of (intKind_is _ _ i t) rfl hS ⟨.bl (S i),H,I.tok _,rfl,q⟩
def uf:V->List V->Hp->VK->Prop:=λx vs H Q=>∃a i S n,x=.ref a/\vs=[.int i]/\H a=some (.set S n)/\n<4000/\Q .non (upd H a (.set (λk=>S k || decide (k=i)) (if S i then n else n+1)))
def xK:MtM X "set.add" uf:=by
 intro pins s σ H x vs v us Q I rx rv h
 obtain⟨a,i,S,n,rfl,rfl,hH,hn,q⟩:=h
 cases rx
 obtain⟨u,rfl,ru⟩:=rv.one
 obtain⟨t,rfl⟩:=ru
 have hS:s.heap.SetOf (intKind X.prog X.w) a S n:=I.hok a _ hH
 refine call_set_add (intKind_is _ _ i t) rfl hS (by unfold scanBound;omega) λh' sb hS'=>?_
 refine⟨.non,_,I.write (x:=a) (e:=a) (by rw[hH];exact trivial) (.inl rfl) (λb o hb e=>(sb.2 b hb).trans e) ?_ (show ObjOk X.prog X.w _ h' a (.set (λk=>S k || decide (k=i)) (if S i then n else n+1)) from hS'),rfl,q⟩
 obtain⟨o,_,_,_,e,_⟩:=hS'
 exact⟨o,e⟩
def tH:CallR X (.builtin "len") (λxs H Q=>∃a S n,xs=[.ref a]/\H a=some (.set S n)/\Q (.int (n:Nat)) H):=by
 intro pins s σ H xs us Q I r h
 obtain⟨a,S,n,rfl,hH,q⟩:=h
 obtain⟨u,rfl,ru⟩:=fb r
 cases ru
 have hS:s.heap.SetOf (intKind X.prog X.w) a S n:=I.hok a _ hH
 obtain⟨o,es,ep,t,e,hex,hd,_,_,hb,hf,rfl⟩:=hS
 refine call_len_set e hex hd hf (by unfold scanBound at hb;omega) ⟨.int (es.size:Nat),H,I.tok _,⟨_,rfl⟩,q⟩
def yk:CallR X (.type "set") MN:=by
 intro pins s σ H xs us Q I r h
 obtain⟨rfl,q⟩:=h
 cases r
 refine call_set_0 λled=>?_
 refine⟨.ref s.heap.objs.size,_,I.laid (t':=s.toks) (λb o e=>v_ _ e) (p_ _) (show ObjOk X.prog X.w _ _ _ (.set (λ_=>false) 0) from ?_),rfl,q _ (I.hok.fresh (p_ _))⟩
 obtain⟨h1,es,ep,tt,h2,h3,h4,h5,h6⟩:=setObjOf_fresh (knd:=intKind X.prog X.w) led
 exact⟨_,es,ep,tt,Em _ rfl,h1,h2,h3,h4,by rw[h5];decide,h6,h5⟩
end
section
variable{K:W.Frag}{mg:Ra}{X:Cx}{ES:St->XK}{o e:Expr}{es:List Expr}{F:ME}{A:MA}{pos:Pos}
noncomputable def vB:ME:=λ_ h=>.ok (.ref h.length) (h++[.set []])
noncomputable def rD:D->D->AH->R D:=λx y h=>match x,y with
 |.int i,.ref n=>match h[n]? with
  |some (.set xs)=>.ok (.bl (decide (i∈xs))) h
  |_=>.stuck
 |_,_=>.stuck
noncomputable def mj:Fn:=λds h=>match ds with
 | [.ref n]=>match h[n]? with
  |some (.set xs)=>.ok (.int (xs.length:Nat)) h
  |_=>.stuck
 |_=>.stuck
noncomputable def fG(xs:List Int)(i:Int):List Int:=if i∈xs then xs else i::xs
noncomputable def pO:D->List D->AH->R D:=λx ds h=>match x,ds with
 |.ref n,[.int i]=>match h[n]? with
  |some (.set xs)=>if xs.length<4000 then .ok .non (h.set n (.set (fG xs i))) else .stuck
  |_=>.stuck
 |_,_=>.stuck
noncomputable def u4(h:AH):D->Bool
 |.ref n=>match h[n]? with
  |some (.set _)=>true
  |_=>false
 |_=>false
noncomputable def eMS(F:ME)(A:MA):ME:=λae h=>(F ae h).bind λx h1=>if u4 h1 x=true then (A ae h1).bind λds h2=>pO x ds h2 else .stuck
def FF:OpD K mg rS rD:=λρ h H dx dy x y Q E w rx ry p=>by
 unfold rD at p
 split at p
 ·cases rx
  cases ry with
  |
   ref ea=>
   split at p
   ·rename_i xs e
    obtain⟨_,h1⟩:=w.ob _ _ _ ea e
    exact⟨_,_,_,_,rfl,rfl,h1,aw w (.bl _) p⟩
   ·exact p.elim
 ·exact p.elim
def FQ:aT K mg (λxs H Q=>∃a S n,xs=[.ref a]/\H a=some (.set S n)/\Q (.int (n:Nat)) H) mj:=λρ h H ds vs Q E w rs p=>by
 unfold mj at p
 split at p
 ·cases
   rs with
  |
   cons r rs=>
   cases rs
   cases r with
   |
    ref ea=>
    split at p
    ·rename_i xs e
     obtain⟨_,h1⟩:=w.ob _ _ _ ea e
     exact⟨_,_,_,rfl,h1,aw w (.int _) p⟩
    ·exact p.elim
 ·exact p.elim
def KP:MtD K mg uf pO:=λρ h H dx ds x vs Q E w rx rs p=>by
 unfold pO at p
 split at p
 ·rename_i n i
  cases rx with
  |
   ref ea=>
   cases rs with
   |
    cons r rs=>
    cases rs
    cases r
    split at p
    ·rename_i xs e
     split at p
     ·rename_i hl
      obtain⟨nd,h1⟩:=w.ob _ _ _ ea e
      refine⟨_,_,_,_,rfl,rfl,h1,hl,?_⟩
      have e2:HO.set (λk=>decide (k∈xs) || decide (k=i)) (if decide (i∈xs)=true then xs.length else xs.length+1)=.set (λk=>decide (k∈fG xs i)) (fG xs i).length:=by
       unfold fG
       by_cases hi:i∈xs
       ·rw[if_pos (F_ hi),if_pos hi]
        congr 1
        funext k
        by_cases hk:k∈xs
        ·rw[F_ hk];rfl
        ·rw[A_ hk,A_ (show ¬ k=i from λz=>hk (by rw[z];exact hi))];rfl
       ·rw[if_neg (by rw[A_ hi];exact r_),if_neg hi]
        congr 1
        funext k
        rw[Pl,Qt,Pj,Pj,Pj,H_]
        exact Or.comm
      rw[e2]
      have l:Le ρ H ρ (upd H _ (.set (λk=>decide (k∈fG xs i)) (fG xs i).length)):=lU h1 CD
      refine p ρ _ l (w.write ea h1 CD ⟨?_,bB⟩) .non .non
      unfold fG
      split
      ·exact nd
      ·rename_i hi;exact O8.mpr ⟨hi,nd⟩
     ·exact p.elim
    ·exact p.elim
 ·exact p.elim
def Dt(hg:Gl X x)(hm:mg x=none)(hv:bootBuiltins x=some (.type "set"))(hk:X.mg=mg)(hn:x ≠ "__name__")(hdb:(x==("__debug__" : Str))=false):DE K mg X ES (.Call (.Name x p0) [] [] pos) vB:=by
 subst hk
 refine PE.imp (wF yk hg hm hv hn hdb) λσ H Q q_=>q_.el λρ h ae w re p=>⟨rfl,λl hl=>?_⟩
 have le:Le ρ H (ρ++[l]) (upd H l (.set (λ_=>false) 0)):=(cJ hl).trans ko
 refine p (ρ++[l]) _ le (w.alloc hl ⟨List.nodup_nil,?_⟩) _ (.ref ?_)
 ·rw[bB]
  congr 1
 ·rw[<- w.len,I_ (p_ _),Py]
  rfl
def MH(hK:X.K=K)(ho:DE K mg X ES o F)(ha:DA K mg X ES (e::es) A)
 (b_:attributeBase o "add" X.env (eval o X.env)=eval o X.env)
 (hfew:((backTo cpos (starEach (e::es) X.env)).all (λx=>!x.1)&&(backToKw cpos (keywordEach [] X.env)).all (λx=>x.1.isSome)
  && decide ((e::es).length+([]:List Keyword).length+(if ([]:List Keyword).isEmpty then 0 else 1)<30))=true)
 (ci:(apos.endLine==cpos.line)=true) (hs:starEach (e::es) X.env=(false,eval e X.env)::starEach es X.env) (bn:(backTo cpos (starEach es X.env)).any (·.1)=false):
 DE K mg X ES (.Call (.Attribute o "add" apos) (e::es) [] cpos) (eMS F A):=by
 subst hK
 refine PE.imp (Cz PySem.F.plainAttrs_set PySem.F.slot_set_add PySem.F.type_set_add xK ho ha b_ hfew ci hs bn) λσ H Q q_=>q_.el λρ h ae w re p=>⟨ρ,h,ae,w,re,p.bind.imp λdx h1 ρ1 H1 l1 w1 p1 x rx=>?_⟩
 split at p1
 ·rename_i hl
  have ty:tyV X.K "set" x H1:=by
   cases rx with
   |
    ref ea=>
    unfold u4 at hl
    dsimp only at hl
    split at hl
    ·rename_i xs q
     obtain⟨_,hh⟩:=w1.ob _ _ _ ea q
     exact .inr (.inr (.inr ⟨rfl,_,_,hh⟩))
    ·cases hl
   |_=>cases hl
  exact⟨ty,ρ1,h1,ae,w1,re.mono l1,p1.bind.imp λds h2 ρ2 H2 l2 w2 p2 vs rs=>KP ρ2 h2 H2 dx ds x vs Q _ w2 (rx.mono l2) rs p2⟩
 ·exact p1.elim
end
section
variable{K:W.Frag}{mg:Ra}
noncomputable def sF:D->D->AH->R D:=λx y h=>match x with
 |.ref n=>(match y with
  |.int k=>(match h[n]? with
   |some (.dct kvs)=>(match lkD kvs (.inl k) with
    |some d=>.ok d h
    |none=>.stuck)
   |_=>.stuck)
  |_=>.stuck)
 |_=>.stuck
noncomputable def wDI(o i v:D)(h:AH):R Unit:=match o with
 |.ref n=>(match i with
  |.int k=>(match h[n]? with
   |some (.dct kvs)=>if kvs.length<16777216 then .ok () (h.set n (.dct (cW kvs (.inl k) v))) else .stuck
   |_=>.stuck)
  |_=>.stuck)
 |_=>.stuck
variable{X:Cx}{ES:St->XK}{a b:Expr}{F G:ME}{pos:Pos}
def zD:nU K mg u5 wDI:=λρ h H do_ di dv o i v Q E w ro ri rv p=>by
 unfold wDI at p
 split at p
 ·split
   at p
  ·split
    at p
   ·rename_i n k _ kvs e
    split at p
    ·rename_i hl
     cases ro with
     |
      ref ea=>
      cases ri
      obtain⟨ws,h1,h2,h3⟩:=w.ob _ _ _ ea e
      have bd:ws.length=kvs.length:=by have:=OI List.length h2;simpa using this
      have l:Le ρ H ρ (upd H _ (.dK (eB ws (.inl k) v))):=lU h1 dKNo
      obtain⟨k1,k2⟩:=BO (k:=.inl k) rv h2 h3
      exact⟨_,_,rfl,DPut.k (k:=.inl k) h1 (by rw[bd];exact hl),p ρ _ l (w.write ea h1 dKNo ⟨_,bB,k1,k2.mono l⟩)⟩
    ·exact p.elim
   ·exact p.elim
  ·exact p.elim
 ·exact p.elim
def BG(hu:X.A.units+1<cLine)(ha:DE K mg X ES a F)(hb:DE K mg X ES b G)(hs:vR b):DE K mg X ES (.Subscript a b pos) (eOp sF F G):=PE.imp (E4 hu ha hb hs) λσ H Q q_=>q_.el λρ h ae w re p=>⟨ρ,h,ae,w,re,p.bind.imp λdx h1 ρ1 H1 l1 w1 p1 x rx=>⟨ρ1,h1,ae,w1,re.mono l1,p1.bind.imp λdy h2 ρ2 H2 l2 w2 p2 y ry=>by
 have rx2:=rx.mono l2
 unfold sF at p2
 split at p2
 ·split
   at p2
  ·split
    at p2
   ·rename_i n k _ kvs e
    split at p2
    ·rename_i d q
     cases rx2 with
     |
      ref ea=>
      cases ry
      obtain⟨ws,k1,k2,k3⟩:=w2.ob _ _ _ ea e
      obtain⟨v,q1,rv⟩:=Dz k2 k3 q
      refine⟨_,v,rfl,?_,aw w2 rv p2⟩
      rw[<- q1]
      exact DGet.k (k:=.inl k) k1
    ·exact p2.elim
   ·exact p2.elim
  ·exact p2.elim
 ·exact p2.elim⟩⟩
end
section
variable{X:Cx}{K:W.Frag}{mg:Ra}
def lB(K:W.Frag):V->List V->Hp->VK->Prop:=λx vs H Q=>∃l b xs zs,x=.ref l/\vs=[.ref b]/\H l=some (.lst xs)/\SqT K H b zs/\xs.length+zs.length<=sizeLine/\Q .non (upd H l (.lst (xs++zs)))
def FK(l:Addr)(xs:Array Value)(n:Nat)(b:Addr)(ys:Array Value)(n2:Nat)(dd:Option Addr)(ss:Array (Option Value))(z0:¬(!xs.isEmpty&&Builtin.List.listTooLong (xs.size+ys.size))=true)(z1:xs.size<=sizeLine)(z2:xs.size+ys.size<=sizeLine+1):
 Meets (Builtin.«list.extend» ⟨[.ref l,.ref b],[]⟩) (λ_ R s=>s.heap.get? l=some { cls:=.type "list",dict:=none,data:=.seq xs n,slots:=#[] }/\s.heap.get? b=some { cls:=.type "tuple",dict:=dd,data:=.seq ys n2,slots:=ss }/\R (.ok (.ret Value.none)) { s with heap:=s.heap.update l (Obj.mapSeq λx=>x++ys),toks:=s.toks }):=
 .of_wp λprog w A R s h=>by
  obtain⟨hp,g,d,tk,os⟩:=s
  obtain⟨el,eb,h⟩:=h
  have e1:=PySem.AutoSeq1.idx_int
  have e2:=PySem.F.sub_tuple_tuple
  have e3:=PySem.F.sub_list_list
  have e4:=PySem.F.sub_tuple_list
  have e5:=PySem.F.sub_list_tuple
  have zz:(xs++ys).size<=sizeLine+1:=by rw[Array.size_append];exact z2
  wp_walk using (wpAny_updateSeq el rfl (hz:=z1) (_hz':=zz)),wpAny_loadPart' el,wpAny_loadPart' eb
  exact⟨_,rfl,h⟩
def vZ(hK:X.K=K):MtM X "list.extend" (lB K):=by
 subst hK
 intro pins s σ H x vs v us Q I rx rv h
 obtain⟨l,b,xs,zs,rfl,rfl,hH,hB,hz,q⟩:=h
 cases rx
 obtain⟨u,rfl,ru⟩:=rv.one
 cases ru
 obtain⟨z,its,n,r,hl,e⟩:=I.lstM hH
 obtain⟨its2,r2,⟨⟨oc,od,oda,os⟩,e2,ec,n2,ed⟩,z2⟩:=I.tuple hB
 dsimp only at ec ed
 subst ec ed
 have hl2:=r2.length
 have hsz:its.toArray.size+its2.toArray.size<=sizeLine:=by rw[t_,t_];omega
 have hlong:¬ (!its.toArray.isEmpty&&Builtin.List.listTooLong (its.toArray.size+its2.toArray.size))=true:=by
  rw[pV hsz,Bool.and_false]
  exact r_
 refine PK PySem.F.slot_list_extend ⟨_,e,rfl⟩ PySem.F.entry_list_extend (PySem.F.args_list_extend_2 _ _)
  (FK l its.toArray n b its2.toArray n2 od os hlong (by rw[t_];omega) (by omega)) ⟨e,e2,?_⟩
 refine⟨.non,_,I.lset (its':=its++its2) hH e (by simp) (r.append r2) ?_,rfl,q⟩
 rw[l_]
 omega
noncomputable def jq:D->List D->AH->R D:=λx ds h=>gr h x λn xs=>match ds with
 | [.tup ys]=>if xs.length+ys.length<=16777216 then .ok .non (h.set n (.lst (xs++ys))) else .stuck
 |_=>.stuck
def wg:MtD K mg (lB K) jq:=λρ h H dx ds x vs Q E w rx rs p=>by
 obtain⟨n,xs,a,us,rfl,e,ea,rfl,h1,h2,p⟩:=gZ w rx p
 split at p
 ·cases rs with
  |
   cons r rs=>
   cases rs
   split at p
   ·rename_i hb
    cases r with
    |tup hq rr=>exact⟨a,_,us,_,rfl,rfl,h1,hq,by rw[<- h2.len,<- rr.len];exact hb,jd w ea h1 (h2.append rr) .non p⟩
   ·exact p.elim
 ·exact p.elim
end
section
variable{X:Cx}{e st:Expr}{te tst:TE}{pos p2:Pos}
end
section
variable{K:W.Frag}{mg:Ra}{X:Cx}{ES:St->XK}{e st:Expr}{F G:ME}{pos p2:Pos}
end
section
variable{X:Cx}{K:W.Frag}{mg:Ra}
end
section
variable{K:W.Frag}{mg:Ra}{X:Cx}
end
noncomputable def srI(ns:List Int):List Int:=ns.mergeSort
theorem tL:∀{a b:List Int},a.Perm b->a.Pairwise (·<=·)->b.Pairwise (·<=·)->a=b
 | [],b,p,_,_=>(List.Perm.nil_eq p)
 |x::a,[],p,_,_=>(List.Perm.eq_nil p)
 |
  x::a,y::b,p,h,k=>by
  rw[List.pairwise_cons] at h k
  have h1:y<=x:=by
   rcases H_.mp (p.mem_iff.mp (o_ ..)) with e |e
   ·omega
   ·exact k.1 x e
  have h2:x<=y:=by
   rcases H_.mp (p.mem_iff.mpr (o_ ..)) with e |e
   ·omega
   ·exact h.1 y e
  obtain rfl:x=y:=by omega
  rw[tL p.cons_inv h.2 k.2]
def lq(ns:List Int):(srI ns).Perm ns:=List.mergeSort_perm ..
def Ha(ns:List Int):(srI ns).Pairwise (·<=·):=by
 have:=List.pairwise_mergeSort (le:=λa b:Int=>decide (a<=b)) (λa b c=>by simp;omega) (λa b=>by simp;omega) ns
 simpa [srI] using this
def xX{a b:List Int}(p:a.Perm b)(s:a.Pairwise (·<=·)):a=srI b:=tL (p.trans (lq b).symm) s (Ha b)
section
variable{X:Cx}
def nJ:List V->Hp->VK->Prop:=λxs H Q=>∃a ns,xs=[.ref a]/\H a=some (.lst (ns.map V.int))/\ns.length<64/\∀l,H l=none->Q (.ref l) (upd H l (.lst ((srI ns).map V.int)))
def rq:CallR X (.builtin "sorted") nJ:=by
 intro pins s σ H xs us Q I r h
 obtain⟨a,ns,rfl,hA,hz,q⟩:=h
 obtain⟨u,rfl,ru⟩:=fb r
 cases ru
 obtain⟨_,its,n,rv,hl,e⟩:=I.lstM hA
 have la:s.heap.IsList a its.toArray:=⟨_,e,rfl,_,rfl⟩
 have len:its.length=ns.length:=by rw[<- rv.length,j_]
 refine sorted_ints la (nT rv) (by omega) λout ns' a1 a2 a3=>?_
 obtain⟨m',he⟩:=sortedAll_at s.heap its out
 have en:=xX a2 a3
 subst en
 have rv':=jT a1
 have l2:(srI ns).length=ns.length:=(lq ns).length_eq
 have fr:s.heap.objs.size<=s.heap.objs.size+1:=Nat.le_succ _
 have hsz:sizeLine=16777216:=rfl
 exact⟨.ref (s.heap.objs.size+1),_,I.laid (t':=s.toks) (λb o z=>sortedAll_old z) fr (show ObjOk X.prog X.w _ _ _ (.lst ((srI ns).map V.int)) from ⟨by rw[j_];omega,_,m',rv',he⟩),rfl,q _ (I.hok.fresh fr)⟩
end
section
variable{K:W.Frag}{mg:Ra}
noncomputable def mG:List D->Option (List Int)
 | []=>some []
 |.int i::ds=>(mG ds).map (i :: ·)
 |_::_=>none
theorem oO{ρ:List Addr}{H:Hp}:∀{ds:List D}{vs:List V}{ns:List Int},RelDs K mg ρ H ds vs->mG ds=some ns->vs=ns.map V.int
 | [],_,_,r,e=>by cases r;cases e;rfl
 |
  d::ds,_,ns,r,e=>by
  cases r with
  |
   cons r rr=>
   cases d with
   |
    int i=>
    obtain⟨ms,e1,rfl⟩:=D_.mp e
    cases r
    rw[oO rr e1]
    rfl
   |_=>cases e
theorem r9{ρ:List Addr}{H:Hp}:∀ns:List Int,RelDs K mg ρ H (ns.map D.int) (ns.map V.int)
 | []=>.nil
 |i::ns=>.cons (.int i) (r9 ns)
def i5:Fn:=λds h=>match ds with
 | [.ref a]=>match h[a]? with
  |some (.lst xs)=>match mG xs with
   |some ns=>if ns.length<64 then .ok (.ref h.length) (h++[.lst ((srI ns).map D.int)]) else .stuck
   |none=>.stuck
  |_=>.stuck
 |_=>.stuck
def yp:aT K mg nJ i5:=λρ h H ds vs Q E w rs p=>by
 unfold i5 at p
 split at p
 ·cases
   rs with
  |
   cons r1 rs=>
   cases rs
   cases r1 with
   |
    ref ea=>
    split at p
    ·rename_i xs q1
     split at p
     ·rename_i ns q2
      split at p
      ·rename_i hb
       obtain⟨vs',g1,g2⟩:=eN w ea q1
       rw[oO g2 q2] at g1
       exact⟨_,ns,rfl,g1,hb,λl hl=>c9 w (r9 _) hl p⟩
      ·exact p.elim
     ·exact p.elim
    ·exact p.elim
 ·exact p.elim
end
def Bj:R2:=λx y H Q=>∃a b xs,x=.ref a/\y=.ref b/\H a=some (.lst xs)/\H b=some (.lst [])/\Q (.bl (!xs.isEmpty)) H
section
variable{K:W.Frag}{mg:Ra}{X:Cx}
def Ig(hu:X.A.units+1<cLine):OpR X (compareOp .NotEq) Bj:=by
 intro pins s σ H x y v u Q I rx ry ⟨a,b,xs,e1,e2,hA,hB,q⟩
 subst e1 e2
 obtain rfl:v=Value.ref a:=rx
 obtain rfl:u=Value.ref b:=ry
 obtain⟨_,its,n,rv,hl,e⟩:=I.lstM hA
 obtain⟨_,its2,n2,rv2,hl2,e2⟩:=I.lstM hB
 cases rv2
 have la:s.heap.IsList a its.toArray:=⟨_,e,rfl,_,rfl⟩
 have lb:s.heap.IsList b ([]:List Value).toArray:=⟨_,e2,rfl,_,rfl⟩
 have len:=rv.length
 cases xs with
 |
  nil=>
  cases rv
  exact SeqAt.RcNeAt.lists (e:=λ_=>true) la lb rfl (by omega) (λj h1 h2=>absurd h1 (Pp _)) _ _ _ _ (iV I q rfl)
 |
  cons z zs=>
  cases its with
  |nil=>cases rv
  |cons i is=>exact SeqAt.RcNeAt.lists_lengths la lb rfl (by omega) _ _ _ _ (iV I q rfl)
noncomputable def qa:D->D->AH->R D:=λx y h=>match x,y with
 |.ref a,.ref b=>match h[a]?,h[b]? with
  |some (.lst xs),some (.lst [])=>.ok (.bl (!xs.isEmpty)) h
  |_,_=>.stuck
 |_,_=>.stuck
def Dn:OpD K mg Bj qa:=λρ h H dx dy x y Q E w rx ry p=>by
 unfold qa at p
 split at p
 ·cases
   rx with
  |
   ref ea=>
   cases ry with
   |
    ref eb=>
    split at p
    ·rename_i xs q1 q2
     obtain⟨vs,g1,g2⟩:=eN w ea q1
     obtain⟨ys,g3,g4⟩:=eN w eb q2
     cases g4
     refine⟨_,_,vs,rfl,rfl,g1,g3,?_⟩
     rw[show vs.isEmpty=xs.isEmpty from by cases g2 <;> rfl]
     exact aw w (.bl _) p
    ·exact p.elim
 ·exact p.elim
end
def Ad:R2:=λx y H Q=>∃a b,x=.bl a/\y=.bl b/\Q (.bl (a != b)) H
section
variable{K:W.Frag}{mg:Ra}{X:Cx}
def Ka:OpR X (compareOp .IsNot) Ad:=by
 intro pins s σ H x y v u Q I rx ry ⟨a,b,e1,e2,q⟩
 subst e1 e2
 cases rx
 cases ry
 exact isnot_bool (iV I q rfl)
noncomputable def uZ:D->D->AH->R D:=λx y h=>match x,y with
 |.bl a,.bl b=>.ok (.bl (a != b)) h
 |_,_=>.stuck
def E1:OpD K mg Ad uZ:=λρ h H dx dy x y Q E w rx ry p=>by
 unfold uZ at p
 split at p
 ·cases rx
  cases ry
  exact⟨_,_,rfl,rfl,aw w (.bl _) p⟩
 ·exact p.elim
end
end L2
namespace L3
open PySem PySem.Spec PyProof.Rows L2
set_option genInjectivity true in
inductive Val where
 |non |bl (b:Bool) |int (i:Int) |str (x:Str) |ty (n:String) |glb (x:Str) |exc (x:Str)
 |tup (xs:List Val) |lst (xs:List Val) |kl (xs:List Val) |dct (kvs:List (Key×Val)) |set (xs:List Int)
 deriving Inhabited
mutual
inductive Rd(P:Nat->Prop)(h:AH):D->Val->Prop where
 |non:Rd P h .non .non
 |bl (b:Bool):Rd P h (.bl b) (.bl b)
 |int (i:Int):Rd P h (.int i) (.int i)
 |str (x:Str):Rd P h (.str x) (.str x)
 |ty (n:String):Rd P h (.ty n) (.ty n)
 |glb (x:Str):Rd P h (.glb x) (.glb x)
 |exc (x:Str):Rd P h (.exc x) (.exc x)
 |tup {ds:List D}{vs:List Val} (r:Rds P h ds vs):Rd P h (.tup ds) (.tup vs)
 |kl {ds:List D}{vs:List Val} (r:Rds P h ds vs):Rd P h (.kl ds) (.kl vs)
 |cell {n:Nat}{o:Ob}{v:Val} (p:P n) (e:h[n]?=some o) (r:Rc P h o v):Rd P h (.ref n) v
inductive Rc(P:Nat->Prop)(h:AH):Ob->Val->Prop where
 |lst {ds:List D}{vs:List Val} (r:Rds P h ds vs):Rc P h (.lst ds) (.lst vs)
 |fz {ds:List D}{vs:List Val} (r:Rds P h ds vs):Rc P h (.fz ds) (.kl vs)
 |dct {ws:List (Key×D)}{us:List (Key×Val)} (r:Rk P h ws us):Rc P h (.dct ws) (.dct us)
 |set (xs:List Int):Rc P h (.set xs) (.set xs)
inductive Rds(P:Nat->Prop)(h:AH):List D->List Val->Prop where
 |nil:Rds P h [] []
 |cons {d:D}{v:Val}{ds:List D}{vs:List Val} (r:Rd P h d v) (rr:Rds P h ds vs):Rds P h (d::ds) (v::vs)
inductive Rk(P:Nat->Prop)(h:AH):List (Key×D)->List (Key×Val)->Prop where
 |nil:Rk P h [] []
 |cons {k:Key}{d:D}{v:Val}{ds:List (Key×D)}{vs:List (Key×Val)} (r:Rd P h d v) (rr:Rk P h ds vs):Rk P h ((k,d)::ds) ((k,v)::vs)
end
section
variable{P P':Nat->Prop}{h h':AH}
abbrev Mov(P P':Nat->Prop)(h h':AH):Prop:=∀n o,P n->h[n]?=some o->P' n/\h'[n]?=some o
def Rd.mono(m:Mov P P' h h')(r:Rd P h d v):Rd P' h' d v:=@Rd.rec P h (λd v _=>Rd P' h' d v) (λo v _=>Rc P' h' o v) (λds vs _=>Rds P' h' ds vs) (λws us _=>Rk P' h' ws us) .non (λb=>.bl b) (λi=>.int i) (λx=>.str x) (λn=>.ty n) (λx=>.glb x) (λx=>.exc x) (λ_ ih=>.tup ih) (λ_ ih=>.kl ih) (λp e _ ih=>.cell (m _ _ p e).1 (m _ _ p e).2 ih) (λ_ ih=>.lst ih) (λ_ ih=>.fz ih) (λ_ ih=>.dct ih) (λxs=>.set xs) .nil (λ_ _ a b=>.cons a b) .nil (λ_ _ a b=>.cons a b) d v r
def Rds.ind{M:List D->List Val->Prop}(h0:M [] [])(h1:∀{d v ds vs},Rd P h d v->Rds P h ds vs->M ds vs->M (d::ds) (v::vs)){ds:List D}{vs:List Val}(r:Rds P h ds vs):M ds vs:=by
 induction ds generalizing vs with
 |nil=>cases r;exact h0
 |
  cons d ds ih=>
  cases r with
  |cons r rr=>exact h1 r rr (ih rr)
def Rk.ind{M:List (Key×D)->List (Key×Val)->Prop}(h0:M [] [])(h1:∀{k d v ds vs},Rd P h d v->Rk P h ds vs->M ds vs->M ((k,d)::ds) ((k,v)::vs)){ds:List (Key×D)}{vs:List (Key×Val)}(r:Rk P h ds vs):M ds vs:=by
 induction ds generalizing vs with
 |nil=>cases r;exact h0
 |
  cons d ds ih=>
  cases r with
  |cons r rr=>exact h1 r rr (ih rr)
def Rds.mono(m:Mov P P' h h'){d:List D}{v:List Val}(r:Rds P h d v):Rds P' h' d v:=r.ind .nil λr _ ih=>.cons (r.mono m) ih
def Rk.mono(m:Mov P P' h h'){d:List (Key×D)}{v:List (Key×Val)}(r:Rk P h d v):Rk P' h' d v:=r.ind .nil λr _ ih=>.cons (r.mono m) ih
def Rc.mono(m:Mov P P' h h')(r:Rc P h d v):Rc P' h' d v:=by
 cases r with
 |lst r=>exact .lst (r.mono m)
 |fz r=>exact .fz (r.mono m)
 |dct r=>exact .dct (r.mono m)
 |set xs=>exact .set xs
def Rds.len{ds:List D}{vs:List Val}(r:Rds P h ds vs):ds.length=vs.length:=r.ind (M:=λds vs=>ds.length=vs.length) rfl λ_ _ ih=>OI (· + 1) ih
def Rds.get{ds:List D}{vs:List Val}{i:Nat}{v:Val}(r:Rds P h ds vs)(e:vs[i]?=some v):∃d,ds[i]?=some d/\Rd P h d v:=
 r.ind (M:=λds vs=>∀i,vs[i]?=some v->∃d,ds[i]?=some d/\Rd P h d v) (λ_ e=>by rw[PR] at e;cases e) (λr _ ih i e=>match i,e with
  |0,e=>by cases e;exact⟨_,rfl,r⟩
  |i+1,e=>ih i e) i e
def Rds.append{ds es:List D}{vs ws:List Val}(r:Rds P h ds vs)(q:Rds P h es ws):Rds P h (ds++es) (vs++ws):=r.ind (M:=λds vs=>Rds P h (ds++es) (vs++ws)) q λr _ ih=>.cons r ih
def Rds.take{ds:List D}{vs:List Val}(n:Nat)(r:Rds P h ds vs):Rds P h (ds.take n) (vs.take n):=
 r.ind (M:=λds vs=>∀n:Nat,Rds P h (ds.take n) (vs.take n)) (λn=>by rw[PD,PD];exact .nil) (λr _ ih n=>by cases n with |zero=>exact .nil |succ n=>exact .cons r (ih n)) n
def Rds.drop{ds:List D}{vs:List Val}(n:Nat)(r:Rds P h ds vs):Rds P h (ds.drop n) (vs.drop n):=
 r.ind (M:=λds vs=>∀n:Nat,Rds P h (ds.drop n) (vs.drop n)) (λn=>by rw[P_,P_];exact .nil) (λr rr ih n=>by cases n with |zero=>exact .cons r rr |succ n=>exact ih n) n
def Rds.set{d:D}{v:Val}(r:Rd P h d v){ds:List D}{vs:List Val}(i:Nat)(q:Rds P h ds vs):Rds P h (ds.set i d) (vs.set i v):=
 q.ind (M:=λds vs=>∀i:Nat,Rds P h (ds.set i d) (vs.set i v)) (λ_=>.nil) (λq qq ih i=>by cases i with |zero=>exact .cons r qq |succ i=>exact .cons q (ih i)) i
theorem Rds.rep(r:Rds P h xs vs):∀n:Nat,Rds P h (List.replicate n xs).flatten (List.replicate n vs).flatten
 |0=>.nil
 |
  n+1=>by
  rw[Oz,Oz,Ot,Ot]
  exact r.append (Rds.rep r n)
def ShR(P:Nat->Prop)(h:AH)(d:D)(v:Val):Prop:=Rd P h d v\/∃n o,d=.ref n/\h[n]?=some o/\Rc P h o v
inductive ShRs(P:Nat->Prop)(h:AH):List D->List Val->Prop where
 |nil:ShRs P h [] []
 |cons {d:D}{v:Val}{ds:List D}{vs:List Val} (r:ShR P h d v) (rr:ShRs P h ds vs):ShRs P h (d::ds) (v::vs)
def Val.items:Val->Option (List Val)
 |.tup xs=>some xs
 |.lst xs=>some xs
 |.kl xs=>some xs
 |_=>none
def ShR.int(r:ShR P h d (.int i)):d=.int i:=by
 rcases r with r |⟨n,o,rfl,e,r⟩
 ·cases r with
  |int=>rfl
  |cell p e r=>cases r
 ·cases r
def ShR.str(r:ShR P h d (.str i)):d=.str i:=by
 rcases r with r |⟨n,o,rfl,e,r⟩
 ·cases r with
  |str=>rfl
  |cell p e r=>cases r
 ·cases r
def ShR.bl(r:ShR P h d (.bl i)):d=.bl i:=by
 rcases r with r |⟨n,o,rfl,e,r⟩
 ·cases r with
  |bl=>rfl
  |cell p e r=>cases r
 ·cases r
def ShR.non(r:ShR P h d .non):d=.non:=by
 rcases r with r |⟨n,o,rfl,e,r⟩
 ·cases r with
  |non=>rfl
  |cell p e r=>cases r
 ·cases r
def ShR.exc(r:ShR P h d (.exc x)):d=.exc x:=by
 rcases r with r |⟨n,o,rfl,e,r⟩
 ·cases r with
  |exc=>rfl
  |cell p e r=>cases r
 ·cases r
def ShR.ty(r:ShR P h d (.ty x)):d=.ty x:=by
 rcases r with r |⟨n,o,rfl,e,r⟩
 ·cases r with
  |ty=>rfl
  |cell p e r=>cases r
 ·cases r
def ShR.glb(r:ShR P h d (.glb x)):d=.glb x:=by
 rcases r with r |⟨n,o,rfl,e,r⟩
 ·cases r with
  |glb=>rfl
  |cell p e r=>cases r
 ·cases r
def ShR.tup(r:ShR P h d (.tup vs)):∃ds,d=.tup ds/\Rds P h ds vs:=by
 rcases r with r |⟨n,o,rfl,e,r⟩
 ·cases r with
  |tup r=>exact⟨_,rfl,r⟩
  |cell p e r=>cases r
 ·cases r
def Rc.seq(e:h[n]?=some o)(r:Rc P h o (.lst vs)):∃ds,h[n]?=some (.lst ds)/\aP h n=some ds/\Rds P h ds vs:=by
 cases r with
 |lst r=>exact⟨_,e,by unfold aP;rw[e],r⟩
def ShR.lst(r:ShR P h d (.lst vs)):∃n ds,d=.ref n/\h[n]?=some (.lst ds)/\aP h n=some ds/\Rds P h ds vs:=by
 rcases r with r |⟨n,o,rfl,e,r⟩
 ·cases r with
  |
   cell p e r=>
   obtain⟨ds,q,r⟩:=Rc.seq e r
   exact⟨_,ds,rfl,q,r⟩
 ·obtain⟨ds,q,r⟩:=Rc.seq e r
  exact⟨_,ds,rfl,q,r⟩
def ShR.kl(r:ShR P h d (.kl vs)):∃ds,Rds P h ds vs/\(d=.kl ds\/∃n,d=.ref n/\aP h n=some ds):=by
 rcases r with r |⟨n,o,rfl,e,r⟩
 ·cases r with
  |kl r=>exact⟨_,r,.inl rfl⟩
  |cell p e r=>cases r with |fz r=>exact⟨_,r,.inr ⟨_,rfl,by unfold aP;rw[e]⟩⟩
 ·cases r with |fz r=>exact⟨_,r,.inr ⟨_,rfl,by unfold aP;rw[e]⟩⟩
def ShR.set(r:ShR P h d (.set xs)):∃n,d=.ref n/\h[n]?=some (.set xs):=by
 rcases r with r |⟨n,o,rfl,e,r⟩
 ·cases r with
  |cell p e r=>cases r;exact⟨_,rfl,e⟩
 ·cases r;exact⟨_,rfl,e⟩
def ShR.dct(r:ShR P h d (.dct us)):∃n ws,d=.ref n/\h[n]?=some (.dct ws)/\Rk P h ws us:=by
 rcases r with r |⟨n,o,rfl,e,r⟩
 ·cases r with
  |cell p e r=>cases r with |dct r=>exact⟨_,_,rfl,e,r⟩
 ·cases r with |dct r=>exact⟨_,_,rfl,e,r⟩
def ShR.items(r:ShR P h d v)(e:v.items=some vs):∃ds,cI h d=some ds/\Rds P h ds vs:=by
 cases v with
 |tup xs=>cases e;obtain⟨ds,rfl,q⟩:=r.tup;exact⟨ds,rfl,q⟩
 |lst xs=>cases e;obtain⟨n,ds,rfl,_,e,q⟩:=r.lst;exact⟨ds,e,q⟩
 |
  kl xs=>
  cases e
  obtain⟨ds,q,rfl |⟨n,rfl,e⟩⟩:=r.kl
  ·exact⟨ds,rfl,q⟩
  ·exact⟨ds,e,q⟩
 |_=>cases e
end
inductive Sl where
 |no |sh (v:Val) |ow (v:Val) |mu (v:Val) |lo (v:Val) |lm (v:Val)
 deriving Inhabited
abbrev E3:=List Sl
noncomputable def Sl.val:Sl->Option Val
 |.no=>none
 |.sh v=>some v
 |.ow v=>some v
 |.mu v=>some v
 |.lo v=>some v
 |.lm v=>some v
noncomputable def Sl.mt:Sl->Bool
 |.ow _=>true
 |.mu _=>true
 |_=>false
noncomputable def Sl.lk:Sl->Bool
 |.lo _=>true
 |.lm _=>true
 |_=>false
abbrev Ns:=List (Option Nat)
def Oc(X:Nat->Prop)(ns:Ns)(n:Nat):Prop:=¬ X n/\some n∉ns
noncomputable def bQ:Ob->Prop
 |.fz _=>False
 |.any=>False
 |_=>True
def SlR(P:Nat->Prop)(h0:Nat)(n:Option (Option Nat))(d:Option (Option D))(h:AH):Sl->Prop
 |.no=>n=some none
 |.sh v=>n=some none/\∃x,d=some (some x)/\Rd P h x v
 |.ow v=>∃m o,n=some (some m)/\d=some (some (.ref m))/\h0<=m/\h[m]?=some o/\bQ o/\Rc P h o v
 |.lo v=>∃m o,n=some (some m)/\d=some (some (.ref m))/\h0<=m/\h[m]?=some o/\bQ o/\Rc P h o v
 |.mu v=>∃m o,n=some (some m)/\d=some (some (.ref m))/\h[m]?=some o/\bQ o/\Rc P h o v
 |.lm v=>∃m o,n=some (some m)/\d=some (some (.ref m))/\h[m]?=some o/\bQ o/\Rc P h o v
structure Sat(X:Nat->Prop)(h0:Nat)(ns:Ns)(e:E3)(ae:AE)(h:AH):Prop where
 l1:ae.length=e.length
 l2:ns.length=e.length
 lh:h0<=h.length
 xl:∀(n:Nat),X n->n<h.length
 inj:∀(i j n:Nat),ns[i]?=some (some n)->ns[j]?=some (some n)->i=j
 nx:∀(i n:Nat),ns[i]?=some (some n)->¬ X n
 sl:∀(i:Nat) (s:Sl),e[i]?=some s->SlR (Oc X ns) h0 (ns[i]?) (ae[i]?) h s
def Mt(ns:Ns)(e:E3)(n:Nat):Prop:=∃(i:Nat) (s:Sl),ns[i]?=some (some n)/\e[i]?=some s/\s.mt=true
structure Stp(ns:Ns)(e:E3)(h:AH)(ns':Ns)(e':E3)(h':AH):Prop where
 len:h.length<=h'.length
 keep:∀(m:Nat) (o:Ob),h[m]?=some o->¬ Mt ns e m->h'[m]?=some o
 nw:∀(i n:Nat),ns'[i]?=some (some n)->ns[i]?=some (some n)\/h.length<=n
 lk:∀(i:Nat) (s:Sl),e[i]?=some s->s.lk=true->e'[i]?=some s/\ns'[i]?=ns[i]?
 lk':∀(i:Nat) (s:Sl),e'[i]?=some s->s.lk=true->e[i]?=some s/\ns'[i]?=ns[i]?
 mu:∀(i:Nat) (v:Val),e'[i]?=some (.mu v)->∃u,e[i]?=some (.mu u)/\ns'[i]?=ns[i]?
 mu':∀(i:Nat) (u:Val),e[i]?=some (.mu u)->∃v,e'[i]?=some (.mu v)/\ns'[i]?=ns[i]?
section
variable{X:Nat->Prop}{h0:Nat}{ns ns' ns1 e_:Ns}{e e' e1 e2:E3}{ae:AE}{h h' h1 h2:AH}
def aU:some n∈ns ↔ ∃i:Nat,ns[i]?=some (some n):=by
 constructor
 ·intro m;exact Qy m
 ·rintro⟨i,e⟩;exact ON e
def Sat.own(S:Sat X h0 ns e ae h){i n:Nat}(q:ns[i]?=some (some n)):∃s v o,e[i]?=some s/\(s.mt=true\/s.lk=true)/\s.val=some v/\ae[i]?=some (some (.ref n))/\h[n]?=some o/\bQ o/\Rc (Oc X ns) h o v:=by
 have hi:i<e.length:=by rw[<- S.l2];exact (k_.mp q).1
 have hs:=S.sl i e[i] (z_ hi)
 refine⟨e[i],?_⟩
 have he:=z_ hi
 generalize e[i]=s at *
 rw[q] at hs
 cases s with
 |no=>cases hs
 |sh v=>cases hs.1
 |ow v=>obtain⟨m,o,e1,e2,_,e3,e4,e5⟩:=hs;cases e1;exact⟨v,o,he,.inl rfl,rfl,e2,e3,e4,e5⟩
 |lo v=>obtain⟨m,o,e1,e2,_,e3,e4,e5⟩:=hs;cases e1;exact⟨v,o,he,.inr rfl,rfl,e2,e3,e4,e5⟩
 |mu v=>obtain⟨m,o,e1,e2,e3,e4,e5⟩:=hs;cases e1;exact⟨v,o,he,.inl rfl,rfl,e2,e3,e4,e5⟩
 |lm v=>obtain⟨m,o,e1,e2,e3,e4,e5⟩:=hs;cases e1;exact⟨v,o,he,.inr rfl,rfl,e2,e3,e4,e5⟩
noncomputable def Stp.refl:Stp ns e h ns e h:=⟨p_ _,λ_ _ q _=>q,λ_ _ q=>.inl q,λ_ _ q _=>⟨q,rfl⟩,λ_ _ q _=>⟨q,rfl⟩,λ_ _ q=>⟨_,q,rfl⟩,λ_ _ q=>⟨_,q,rfl⟩⟩
def Stp.trans(S:Sat X h0 ns e ae h)(a:Stp ns e h ns1 e1 h1)(b:Stp ns1 e1 h1 e_ e2 h2):Stp ns e h e_ e2 h2:=by
 refine⟨y_ a.len b.len,λm o q hm=>?_,λi n q=>?_,λi s q hl=>?_,λi s q hl=>?_,λi v q=>?_,λi v q=>?_⟩
 ·refine b.keep m o (a.keep m o q hm) λ⟨i,s,z1,z2,z3⟩=>hm ?_
  have hlt:=(k_.mp q).1
  rcases a.nw i m z1 with z |z
  ·obtain⟨s0,v,o',q1,q2,_⟩:=S.own z
   rcases q2 with q2 |q2
   ·exact⟨i,s0,z,q1,q2⟩
   ·have:=(a.lk i s0 q1 q2).1
    rw[z2] at this
    cases this
    exfalso
    cases s <;> first |cases z3;done |cases q2;done
  ·omega
 ·rcases b.nw i n q with z |z
  ·exact a.nw i n z
  ·exact .inr (y_ a.len z)
 ·obtain⟨q1,q2⟩:=a.lk i s q hl
  obtain⟨q3,q4⟩:=b.lk i s q1 hl
  exact⟨q3,q4.trans q2⟩
 ·obtain⟨q1,q2⟩:=b.lk' i s q hl
  obtain⟨q3,q4⟩:=a.lk' i s q1 hl
  exact⟨q3,q2.trans q4⟩
 ·obtain⟨u,q1,q2⟩:=b.mu i v q
  obtain⟨u',q3,q4⟩:=a.mu i u q1
  exact⟨u',q3,q2.trans q4⟩
 ·obtain⟨u,q1,q2⟩:=a.mu' i v q
  obtain⟨u',q3,q4⟩:=b.mu' i u q1
  exact⟨u',q3,q4.trans q2⟩
noncomputable def Stp.mov(S:Sat X h0 ns e ae h)(a:Stp ns e h ns1 e1 h1):Mov (Oc X ns) (Oc X ns1) h h1:=λn o p q=>by
 have hlt:=(k_.mp q).1
 have hm:¬ Mt ns e n:=λ⟨i,s,z,_⟩=>p.2 (aU.mpr ⟨i,z⟩)
 refine⟨⟨p.1,λz=>?_⟩,a.keep n o q hm⟩
 obtain⟨i,z⟩:=aU.mp z
 rcases a.nw i n z with z |z
 ·exact p.2 (aU.mpr ⟨i,z⟩)
 ·omega
def bH(q:h[n]?=some o):n<h.length:=(k_.mp q).1
def eO{n:Nat}{o:Ob}{g:AH}(q:h[n]?=some o):(h++g)[n]?=some o:=by rw[J_ (bH q)];exact q
def FL:(h++[o])[h.length]?=some o:=by rw[I_ (p_ _),Py];rfl
def SlR.mono(m:Mov P P' h h')(k:∀j o,n=some (some j)->h[j]?=some o->h'[j]?=some o)(r:SlR P h0 n d h s):SlR P' h0 n d h' s:=by
 cases s with
 |no=>exact r
 |sh v=>obtain⟨q,x,q1,q2⟩:=r;exact⟨q,x,q1,q2.mono m⟩
 |ow v=>obtain⟨j,o,q1,q2,q3,q4,q5,q6⟩:=r;exact⟨j,o,q1,q2,q3,k j o q1 q4,q5,q6.mono m⟩
 |lo v=>obtain⟨j,o,q1,q2,q3,q4,q5,q6⟩:=r;exact⟨j,o,q1,q2,q3,k j o q1 q4,q5,q6.mono m⟩
 |mu v=>obtain⟨j,o,q1,q2,q4,q5,q6⟩:=r;exact⟨j,o,q1,q2,k j o q1 q4,q5,q6.mono m⟩
 |lm v=>obtain⟨j,o,q1,q2,q4,q5,q6⟩:=r;exact⟨j,o,q1,q2,k j o q1 q4,q5,q6.mono m⟩
def Xn(X:Nat->Prop)(n:Nat):Nat->Prop:=λm=>X m\/m=n
def Sat.grow(S:Sat X h0 ns e ae h)(o:Ob):Sat (Xn X h.length) h0 ns e ae (h++[o]):=by
 have mv:Mov (Oc X ns) (Oc (Xn X h.length) ns) h (h++[o]):=λn o' p q=>⟨⟨λz=>by
  rcases z with z |z
  ·exact p.1 z
  ·have:=bH q;omega,p.2⟩,eO q⟩
 refine⟨S.l1,S.l2,by rw[l_];have:=S.lh;omega,λn z=>?_,S.inj,λi n q z=>?_,λi s q=>(S.sl i s q).mono mv λj o' _ q'=>eO q'⟩
 ·rw[l_]
  rcases z with z |z
  ·have:=S.xl n z;omega
  ·subst z;show h.length<h.length+1;omega
 ·rcases z with z |z
  ·exact S.nx i n q z
  ·obtain⟨_,_,_,_,_,_,_,q',_⟩:=S.own q
   have:=bH q';omega
def Sat.weak(S:Sat Y h0 ns e ae h)(hx:∀n,X n->Y n):Sat X h0 ns e ae h:=
 ⟨S.l1,S.l2,S.lh,λn z=>S.xl n (hx n z),S.inj,λi n q z=>S.nx i n q (hx n z),λi s q=>(S.sl i s q).mono (λn o p q=>⟨⟨λz=>p.1 (hx n z),p.2⟩,q⟩) λ_ _ _ q=>q⟩
def Stp.grow(o:Ob):Stp ns e h ns e (h++[o]):=⟨by rw[l_];omega,λ_ _ q _=>eO q,λ_ _ q=>.inl q,λ_ _ q _=>⟨q,rfl⟩,λ_ _ q _=>⟨q,rfl⟩,λ_ _ q=>⟨_,q,rfl⟩,λ_ _ q=>⟨_,q,rfl⟩⟩
end
section
variable{X:Nat->Prop}{h0:Nat}{ns ns':Ns}{e e':E3}{ae:AE}{h h' hs:AH}
def bg{α:Type}{l:List α}{i j:Nat}{a b:α}(hi:i<l.length)(q:(l.set i a)[j]?=some b):(j=i/\b=a)\/(j≠i/\l[j]?=some b):=by
 rw[PU] at q
 by_cases z:i=j
 ·subst z
  rw[if_pos rfl,if_pos hi] at q
  exact .inl ⟨rfl,(G_ q).symm⟩
 ·rw[if_neg z] at q
  exact .inr ⟨λy=>z y.symm,q⟩
def bC{α:Type}{l:List α}{i:Nat}{a:α}(hi:i<l.length):(l.set i a)[i]?=some a:=by rw[PU,if_pos rfl,if_pos hi]
def aY{α:Type}{l:List α}{i j:Nat}{a:α}(hi:j≠i):(l.set i a)[j]?=l[j]?:=by rw[Pu (λy=>hi y.symm)]
def dZ(p:Oc X ns n):Oc X (ns.set i none) n:=⟨p.1,λz=>by
 rcases O6 z with z |z
 ·exact p.2 z
 ·cases z⟩
def Sat.putN(S:Sat X h0 ns e ae h)(hi:i<e.length)(q:SlR (Oc X (ns.set i none)) h0 (some none) (some d) h s):Sat X h0 (ns.set i none) (e.set i s) (ae.set i d) h:=by
 have hn:i<ns.length:=by rw[S.l2];exact hi
 have ha:i<ae.length:=by rw[S.l1];exact hi
 refine⟨by rw[C_,C_];exact S.l1,by rw[C_,C_];exact S.l2,S.lh,S.xl,λj k n q1 q2=>?_,λj n q1=>?_,λj s' q1=>?_⟩
 ·rcases bg hn q1 with ⟨_,z⟩ |⟨_,z⟩
  ·cases z
  rcases bg hn q2 with ⟨_,y⟩ |⟨_,y⟩
  ·cases y
  exact S.inj j k n z y
 ·rcases bg hn q1 with ⟨_,z⟩ |⟨_,z⟩
  ·cases z
  exact S.nx j n z
 ·rcases bg hi q1 with ⟨rfl,rfl⟩ |⟨z,q2⟩
  ·rw[bC hn,bC ha];exact q
  ·rw[aY z,aY z]
   exact (S.sl j s' q2).mono (λn o p q=>⟨dZ p,q⟩) λ_ _ _ q=>q
def Sat.putN'(S:Sat X h0 ns e ae h)(hi:i<e.length)(q:SlR (Oc X (ns.set i none)) h0 (some none) (ae[i]?) h s):Sat X h0 (ns.set i none) (e.set i s) ae h:=by
 have ha:i<ae.length:=by rw[S.l1];exact hi
 have:=S.putN hi (s:=s) (d:=ae[i]) (by rw[z_ ha] at q;exact q)
 rw[List.set_getElem_self] at this
 exact this
def Sat.putO(S:Sat (Xn X n) h0 ns e ae h)(hx:¬ X n)(hi:i<e.length)(hn0:h0<=n)(eo:h[n]?=some o)(hf:bQ o)(r:Rc (Oc (Xn X n) ns) h o v):Sat X h0 (ns.set i (some n)) (e.set i (.ow v)) (ae.set i (some (.ref n))) h:=by
 have hn:i<ns.length:=by rw[S.l2];exact hi
 have ha:i<ae.length:=by rw[S.l1];exact hi
 have nn:∀j:Nat,ns[j]?≠some (some n):=λj q=>S.nx j n q (.inr rfl)
 have mv:Mov (Oc (Xn X n) ns) (Oc X (ns.set i (some n))) h h:=λm o' p q=>⟨⟨λz=>p.1 (.inl z),λz=>by
  rcases O6 z with z |z
  ·exact p.2 z
  ·cases z;exact p.1 (.inr rfl)⟩,q⟩
 refine⟨by rw[C_,C_];exact S.l1,by rw[C_,C_];exact S.l2,S.lh,λm z=>S.xl m (.inl z),λj k m q1 q2=>?_,λj m q1 z=>?_,λj s' q1=>?_⟩
 ·rcases bg hn q1 with ⟨z1,z⟩ |⟨z1,z⟩ <;> rcases bg hn q2 with ⟨y1,y⟩ |⟨y1,y⟩
  ·rw[z1,y1]
  ·cases z;exact absurd y (nn k)
  ·cases y;exact absurd z (nn j)
  ·exact S.inj j k m z y
 ·rcases bg hn q1 with ⟨_,y⟩ |⟨_,y⟩
  ·cases y;exact hx z
  ·exact S.nx j m y (.inl z)
 ·rcases bg hi q1 with ⟨rfl,rfl⟩ |⟨z,q2⟩
  ·rw[bC hn,bC ha];exact⟨n,o,rfl,rfl,hn0,eo,hf,r.mono mv⟩
  ·rw[aY z,aY z]
   exact (S.sl j s' q2).mono mv λ_ _ _ q=>q
noncomputable def Sl.pl:Sl->Bool
 |.no=>true
 |.sh _=>true
 |.ow _=>true
 |_=>false
def Stp.put(A:Stp ns0 e0 hs ns e h)(hi:i<e.length)(hx:∀n,x=some n->hs.length<=n)(q0:e[i]?=some s0)(p0:s0.pl=true)(p:s.pl=true)(l2:ns.length=e.length):Stp ns0 e0 hs (ns.set i x) (e.set i s) h:=by
 have hn:i<ns.length:=by rw[l2];exact hi
 refine⟨A.len,A.keep,λj n q=>?_,λj s' q hl=>?_,λj s' q hl=>?_,λj v q=>?_,λj v q=>?_⟩
 ·rcases bg hn q with ⟨_,z⟩ |⟨_,z⟩
  ·exact .inr (hx n z.symm)
  ·exact A.nw j n z
 ·obtain⟨q1,q2⟩:=A.lk j s' q hl
  have z:j≠i:=λz=>by
   subst z
   rw[q0] at q1;cases q1
   cases s0 <;> first |cases p0;done |cases hl;done
  rw[aY z,aY z];exact⟨q1,q2⟩
 ·rcases bg hi q with ⟨_,z⟩ |⟨z,q1⟩
  ·subst z;cases s' <;> first |cases p;done |cases hl;done
  ·rw[aY z];exact A.lk' j s' q1 hl
 ·rcases bg hi q with ⟨_,z⟩ |⟨z,q1⟩
  ·subst z;cases p
  ·rw[aY z];exact A.mu j v q1
 ·obtain⟨u,q1,q2⟩:=A.mu' j v q
  have z:j≠i:=λz=>by
   subst z
   rw[q0] at q1;cases q1;cases p0
  exact⟨u,by rw[aY z];exact q1,by rw[aY z];exact q2⟩
end
inductive Tm where
 |val (v:Val) |new (v:Val) |bor (i:Nat)
inductive R3(α:Type) where
 |ok (a:α) (e:E3) |exc (c:Str) (e:E3) |stuck
def R3.bind{α β:Type}(r:R3 α)(f:α->E3->R3 β):R3 β:=match r with
 |.ok a e=>f a e
 |.exc c e=>.exc c e
 |.stuck=>.stuck
abbrev ME3:=E3->R3 Tm
abbrev MT3:=E3->R3 Bool
abbrev MA3:=E3->R3 (List Tm)
def Po{δ α:Type}(X:Nat->Prop)(h0:Nat)(ns:Ns)(e:E3)(ae:AE)(h:AH)(rel:Ns->E3->AH->δ->α->Prop)(r2:R δ):R3 α->Prop
 |.stuck=>True
 |.ok t e'=>∃d h' ns',r2=.ok d h'/\Stp ns e h ns' e' h'/\Sat X h0 ns' e' ae h'/\rel ns' e' h' d t
 |.exc c e'=>∃h' ns',r2=.exc c h'/\Stp ns e h ns' e' h'/\Sat X h0 ns' e' ae h'
def relE(X:Nat->Prop)(h0 L:Nat)(ae:AE)(ns:Ns)(e:E3)(h:AH)(d:D):Tm->Prop
 |.val v=>Rd (Oc X ns) h d v
 |.new v=>∃n o,d=.ref n/\L<=n/\¬ X n/\h[n]?=some o/\bQ o/\Sat (Xn X n) h0 ns e ae h/\Rc (Oc (Xn X n) ns) h o v
 |.bor i=>ae[i]?=some (some d)
def relT(_:Ns)(_:E3)(_:AH)(b c:Bool):Prop:=b=c
inductive TsR(X:Nat->Prop)(ns:Ns)(ae:AE)(h:AH):List D->List Tm->Prop where
 |nil:TsR X ns ae h [] []
 |val {d:D}{v:Val}{ds:List D}{ts:List Tm} (r:Rd (Oc X ns) h d v) (rr:TsR X ns ae h ds ts):TsR X ns ae h (d::ds) (.val v::ts)
 |bor {d:D}{i:Nat}{ds:List D}{ts:List Tm} (q:ae[i]?=some (some d)) (rr:TsR X ns ae h ds ts):TsR X ns ae h (d::ds) (.bor i::ts)
def relA(X:Nat->Prop)(ae:AE)(ns:Ns)(_:E3)(h:AH)(ds:List D)(ts:List Tm):Prop:=TsR X ns ae h ds ts
def RE(F:ME)(G:ME3):Prop:=∀X h0 L ns e ae h,Sat X h0 ns e ae h->L<=h.length->Po X h0 ns e ae h (relE X h0 L ae) (F ae h) (G e)
def RT(F:MT)(G:MT3):Prop:=∀X h0 ns e ae h,Sat X h0 ns e ae h->Po X h0 ns e ae h relT (F ae h) (G e)
def RA(F:MA)(G:MA3):Prop:=∀X h0 ns e ae h,Sat X h0 ns e ae h->Po X h0 ns e ae h (relA X ae) (F ae h) (G e)
section
variable{X:Nat->Prop}{h0 L:Nat}{ns ns':Ns}{e e':E3}{ae:AE}{h h':AH}
def Po.bind(S:Sat X h0 ns e ae h)(p:Po X h0 ns e ae h rel r2 r3)
 (k:∀d t h' ns' e',Stp ns e h ns' e' h'->Sat X h0 ns' e' ae h'->rel ns' e' h' d t->Po X h0 ns' e' ae h' rel' (f2 d h') (f3 t e')):Po X h0 ns e ae h rel' (r2.bind f2) (r3.bind f3):=by
 cases r3 with
 |stuck=>trivial
 |exc c e'=>obtain⟨h',ns',q,q1,q2⟩:=p;subst q;exact⟨h',ns',rfl,q1,q2⟩
 |
  ok t e'=>
  obtain⟨d,h',ns',q,q1,q2,q3⟩:=p
  subst q
  have:=k d t h' ns' e' q1 q2 q3
  show Po X h0 ns e ae h rel' (f2 d h') (f3 t e')
  generalize f3 t e'=r at *
  cases r with
  |stuck=>trivial
  |exc c e2=>obtain⟨h2,e_,y,y1,y2⟩:=this;exact⟨h2,e_,y,q1.trans S y1,y2⟩
  |ok t2 e2=>obtain⟨d2,h2,e_,y,y1,y2,y3⟩:=this;exact⟨d2,h2,e_,y,q1.trans S y1,y2,y3⟩
def Po.ret(S:Sat X h0 ns e ae h)(q:rel ns e h d t):Po X h0 ns e ae h rel (.ok d h) (.ok t e):=⟨d,h,ns,rfl,.refl,S,q⟩
def TsR.stp(S:Sat X h0 ns e ae h)(a:Stp ns e h ns' e' h')(r:TsR X ns ae h ds ts):TsR X ns' ae h' ds ts:=by
 induction r with
 |nil=>exact .nil
 |val r _ ih=>exact .val (r.mono (a.mov S)) ih
 |bor q _ ih=>exact .bor q ih
def rs(e:E3):Tm->Option Val
 |.val v=>some v
 |.new v=>some v
 |.bor i=>(e[i]?).bind Sl.val
def Sat.bor(S:Sat X h0 ns e ae h){i:Nat}{d:D}{v:Val}(q:ae[i]?=some (some d))(r:(e[i]?).bind Sl.val=some v):ShR (Oc X ns) h d v:=by
 cases z:e[i]? with
 |none=>rw[z] at r;cases r
 |
  some s=>
  rw[z] at r
  have y:=S.sl i s z
  rw[q] at y
  have r':s.val=some v:=r
  cases s with
  |no=>cases r'
  |sh u=>cases r';obtain⟨_,x,e1,e2⟩:=y;cases e1;exact .inl e2
  |ow u=>cases r';obtain⟨m,o,_,e2,_,e3,_,e4⟩:=y;cases e2;exact .inr ⟨m,o,rfl,e3,e4⟩
  |lo u=>cases r';obtain⟨m,o,_,e2,_,e3,_,e4⟩:=y;cases e2;exact .inr ⟨m,o,rfl,e3,e4⟩
  |mu u=>cases r';obtain⟨m,o,_,e2,e3,_,e4⟩:=y;cases e2;exact .inr ⟨m,o,rfl,e3,e4⟩
  |lm u=>cases r';obtain⟨m,o,_,e2,e3,_,e4⟩:=y;cases e2;exact .inr ⟨m,o,rfl,e3,e4⟩
def relE.new(r:relE X h0 L ae ns e h d (.new v)):Rd (Oc X ns) h d v:=by
 obtain⟨n,o,rfl,_,hx,eo,_,S,rc⟩:=r
 exact .cell ⟨hx,λz=>by obtain⟨i,z⟩:=aU.mp z;exact S.nx i n z (.inr rfl)⟩ eo (rc.mono λm o p q=>⟨⟨λz=>p.1 (.inl z),p.2⟩,q⟩)
def relE.sh{d:D}{t:Tm}{v:Val}(S:Sat X h0 ns e ae h)(r:relE X h0 L ae ns e h d t)(q:rs e t=some v):ShR (Oc X ns) h d v:=by
 cases t with
 |val u=>cases q;exact .inl r
 |new u=>cases q;exact .inl r.new
 |bor i=>exact S.bor r q
def relE.stp(S:Sat X h0 ns e ae h)(a:Stp ns e h ns' e' h')(r:relE X h0 L ae ns e h d t)(hn:∀v,t ≠ .new v):relE X h0 L ae ns' e' h' d t:=by
 cases t with
 |val u=>exact Rd.mono (a.mov S) r
 |new u=>exact absurd rfl (hn u)
 |bor i=>exact r
def Tm.drop:Tm->Tm
 |.new v=>.val v
 |t=>t
def relE.drop(r:relE X h0 L ae ns e h d t):relE X h0 L ae ns e h d t.drop/\∀v,t.drop ≠ .new v:=by
 cases t with
 |val u=>exact⟨r,λ_ z=>nomatch z⟩
 |new u=>exact⟨r.new,λ_ z=>nomatch z⟩
 |bor i=>exact⟨r,λ_ z=>nomatch z⟩
def rss(e:E3):List Tm->Option (List Val)
 | []=>some []
 |t::ts=>match rs e t,rss e ts with
  |some v,some vs=>some (v::vs)
  |_,_=>none
def TsR.sh{ds:List D}{ts:List Tm}{vs:List Val}(S:Sat X h0 ns e ae h)(r:TsR X ns ae h ds ts)(q:rss e ts=some vs):ShRs (Oc X ns) h ds vs:=by
 induction r generalizing vs with
 |nil=>cases q;exact .nil
 |
  val r _ ih=>
  unfold rss at q
  split at q
  ·rename_i e1 e2;cases q;cases e1;exact .cons (.inl r) (ih e2)
  ·cases q
 |
  bor q' _ ih=>
  unfold rss at q
  split at q
  ·rename_i e1 e2;cases q;exact .cons (S.bor q' e1) (ih e2)
  ·cases q
end
inductive Bv where
 |val (v:Val) |new (v:Val) |stuck
def BvR(P:Nat->Prop)(h:AH)(r:R D):Bv->Prop
 |.val v=>∃d,r=.ok d h/\Rd P h d v
 |.new v=>∃o,r=.ok (.ref h.length) (h++[o])/\bQ o/\Rc P h o v
 |.stuck=>True
def Bv.at(b:Bv)(e:E3):R3 Tm:=match b with
 |.val v=>.ok (.val v) e
 |.new v=>.ok (.new v) e
 |.stuck=>.stuck
def BvR.po(S:Sat X h0 ns e ae h)(hl:L<=h.length)(q:BvR (Oc X ns) h r b):Po X h0 ns e ae h (relE X h0 L ae) r (b.at e):=by
 cases b with
 |stuck=>trivial
 |val v=>obtain⟨d,rfl,r⟩:=q;exact Po.ret S r
 |
  new v=>
  obtain⟨o,rfl,hf,r⟩:=q
  have S':=S.grow o
  refine⟨_,_,ns,rfl,.grow o,S'.weak λn z=>.inl z,h.length,o,rfl,hl,λz=>?_,FL,hf,S',r.mono λn o' p q=>⟨⟨λz=>?_,p.2⟩,eO q⟩⟩
  ·have:=S.xl _ z;omega
  ·rcases z with z |z
   ·exact p.1 z
   ·have:=bH q;omega
def RU(g2:D->AH->R D)(g3:Val->Bv):Prop:=∀P h d v,ShR P h d v->BvR P h (g2 d h) (g3 v)
def RO(g2:D->D->AH->R D)(g3:Val->Val->Bv):Prop:=∀P h d1 d2 v1 v2,ShR P h d1 v1->ShR P h d2 v2->BvR P h (g2 d1 d2 h) (g3 v1 v2)
def RFn(g2:Fn)(g3:List Val->Bv):Prop:=∀P h ds vs,ShRs P h ds vs->BvR P h (g2 ds h) (g3 vs)
noncomputable def AB(i:Nat):ME3:=λe=>match e[i]? with
 |some (.sh v)=>.ok (.val v) e
 |some .no=>.stuck
 |some _=>.ok (.bor i) e
 |none=>.stuck
noncomputable def vC(v:Val):ME3:=λe=>.ok (.val v) e
def vUn(g:Val->Bv)(F:ME3):ME3:=λe=>(F e).bind λt e1=>match rs e1 t with
 |some v=>(g v).at e1
 |none=>.stuck
def vOp(g:Val->Val->Bv)(F G:ME3):ME3:=λe=>(F e).bind λt1 e1=>(G e1).bind λt2 e2=>match rs e2 t1.drop,rs e2 t2 with
 |some v1,some v2=>(g v1 v2).at e2
 |_,_=>.stuck
noncomputable def nA:MA3:=λe=>.ok [] e
noncomputable def CU(F:ME3)(A:MA3):MA3:=λe=>(F e).bind λt e1=>(A e1).bind λts e2=>.ok (t.drop::ts) e2
def vFn(g:List Val->Bv)(A:MA3):ME3:=λe=>(A e).bind λts e1=>match rss e1 ts with
 |some vs=>(g vs).at e1
 |none=>.stuck
noncomputable def cH(e:E3):Tm->Option (E3×Val)
 |.val v=>some (e,v)
 |.new v=>some (e,v)
 |.bor i=>match e[i]? with
  |some (.sh v)=>some (e,v)
  |some (.ow v)=>some (e.set i (.sh v),v)
  |_=>none
noncomputable def dem(e:E3):List Tm->Option (E3×List Val)
 | []=>some (e,[])
 |t::ts=>match cH e t with
  |some (e1,v)=>match dem e1 ts with
   |some (e2,vs)=>some (e2,v::vs)
   |none=>none
  |none=>none
noncomputable def vTup(A:MA3):ME3:=λe=>(A e).bind λts e1=>match dem e1 ts with
 |some (e2,vs)=>if vs.length<=16777216 then .ok (.val (.tup vs)) e2 else .stuck
 |none=>.stuck
noncomputable def vLst(A:MA3):ME3:=λe=>(A e).bind λts e1=>match dem e1 ts with
 |some (e2,vs)=>if vs.length<=16777216 then .ok (.new (.lst vs)) e2 else .stuck
 |none=>.stuck
noncomputable def bOf:Option Val->Option Bool
 |some (.bl b)=>some b
 |_=>none
def vAnd(F G:ME3):ME3:=λe=>(F e).bind λt e1=>match bOf (rs e1 t) with
 |some true=>G e1
 |some false=>.ok (.val (.bl false)) e1
 |none=>.stuck
def vNot(F:ME3):ME3:=λe=>(F e).bind λt e1=>match bOf (rs e1 t) with
 |some b=>.ok (.val (.bl (!b))) e1
 |none=>.stuck
noncomputable def vIf(c:MT3)(F G:ME3):ME3:=λe=>(c e).bind λb e1=>if b=true then F e1 else G e1
def cOf(F:ME3):MT3:=λe=>(F e).bind λt e1=>match bOf (rs e1 t) with
 |some b=>.ok b e1
 |none=>.stuck
noncomputable def cAn(c d:MT3):MT3:=λe=>(c e).bind λb e1=>if b=true then d e1 else .ok false e1
noncomputable def cO(c d:MT3):MT3:=λe=>(c e).bind λb e1=>if b=true then .ok true e1 else d e1
noncomputable def cNo(c:MT3):MT3:=λe=>(c e).bind λb e1=>.ok (!b) e1
noncomputable def cY:MT3:=λe=>.ok true e
noncomputable def kS:Val->Option Bool
 |.non=>some false
 |.bl b=>some b
 |.int i=>some (i != 0)
 |.tup xs=>some (!xs.isEmpty)
 |.lst xs=>some (!xs.isEmpty)
 |.kl xs=>some (!xs.isEmpty)
 |_=>none
def cTr(F:ME3):MT3:=λe=>(F e).bind λt e1=>match (rs e1 t).bind kS with
 |some b=>.ok b e1
 |none=>.stuck
section
variable{F G:ME}{F3 G3:ME3}{A:MA}{A3:MA3}{c d:MT}{c3 d3:MT3}
def Ke(i:Nat):RE (aO i) (AB i):=λX h0 L ns e ae h S hl=>by
 unfold AB
 cases q:e[i]? with
 |none=>trivial
 |
  some s=>
  have y:=S.sl i s q
  cases s with
  |no=>trivial
  |sh v=>obtain⟨_,x,e1,e2⟩:=y;unfold aO;rw[e1];exact Po.ret S e2
  |ow v=>obtain⟨m,o,_,e2,_⟩:=y;unfold aO;rw[e2];exact Po.ret S e2
  |lo v=>obtain⟨m,o,_,e2,_⟩:=y;unfold aO;rw[e2];exact Po.ret S e2
  |mu v=>obtain⟨m,o,_,e2,_⟩:=y;unfold aO;rw[e2];exact Po.ret S e2
  |lm v=>obtain⟨m,o,_,e2,_⟩:=y;unfold aO;rw[e2];exact Po.ret S e2
def lF{d:D}{v:Val}(r:∀P h,Rd P h d v):RE (eC d) (vC v):=λX h0 L ns e ae h S hl=>Po.ret S (r _ _)
def M5(hg:RU g g3)(hF:RE F F3):RE (eUn g F) (vUn g3 F3):=λX h0 L ns e ae h S hl=>
 Po.bind S (hF X h0 L ns e ae h S hl) λd t h1 ns1 e1 a1 S1 r1=>by
  try dsimp only
  split
  ·rename_i v q
   exact BvR.po S1 (y_ hl a1.len) (hg _ _ _ _ (r1.sh S1 q))
  ·trivial
def Ms(hg:RO g g3)(hF:RE F F3)(hG:RE G G3):RE (eOp g F G) (vOp g3 F3 G3):=λX h0 L ns e ae h S hl=>
 Po.bind S (hF X h0 L ns e ae h S hl) λd1 t1 h1 ns1 e1 a1 S1 r1=>Po.bind S1 (hG X h0 L ns1 e1 ae h1 S1 (y_ hl a1.len)) λd2 t2 h2 e_ e2 a2 S2 r2=>by
  try dsimp only
  split
  ·rename_i v1 v2 q1 q2
   obtain⟨r1',hn⟩:=r1.drop
   exact BvR.po S2 (y_ hl (y_ a1.len a2.len)) (hg _ _ _ _ _ _ ((r1'.stp S1 a2 hn).sh S2 q1) (r2.sh S2 q2))
  ·trivial
def yD:RA eA nA:=λX h0 ns e ae h S=>Po.ret S .nil
def Fs(hF:RE F F3)(hA:RA A A3):RA (dX F A) (CU F3 A3):=λX h0 ns e ae h S=>
 Po.bind S (hF X h0 0 ns e ae h S (Oq _)) λd1 t1 h1 ns1 e1 a1 S1 r1=>Po.bind S1 (hA X h0 ns1 e1 ae h1 S1) λds ts h2 e_ e2 a2 S2 r2=>by
  obtain⟨r1',hn⟩:=r1.drop
  have r3:=r1'.stp S1 a2 hn
  refine Po.ret S2 ?_
  show TsR X e_ ae h2 (d1::ds) (t1.drop::ts)
  generalize t1.drop=t at *
  cases t with
  |val v=>exact .val r3 r2
  |new v=>exact absurd rfl (hn v)
  |bor i=>exact .bor r3 r2
def MK(hg:RFn g g3)(hA:RA A A3):RE (eFn g A) (vFn g3 A3):=λX h0 L ns e ae h S hl=>
 Po.bind S (hA X h0 ns e ae h S) λds ts h1 ns1 e1 a1 S1 r1=>by
  try dsimp only
  split
  ·rename_i vs q
   exact BvR.po S1 (y_ hl a1.len) (hg _ _ _ _ (TsR.sh S1 r1 q))
  ·trivial
def Kz(S:Sat X h0 ns e ae h)(q:e[i]?=some (.ow v)):∃n,ae[i]?=some (some (.ref n))/\Sat X h0 (ns.set i none) (e.set i (.sh v)) ae h/\Stp ns e h (ns.set i none) (e.set i (.sh v)) h/\Rd (Oc X (ns.set i none)) h (.ref n) v:=by
 obtain⟨n,o,q1,q2,_,q3,_,q4⟩:=S.sl i _ q
 have hi:=(k_.mp q).1
 have hn:i<ns.length:=by rw[S.l2];exact hi
 have r:Rd (Oc X (ns.set i none)) h (.ref n) v:=.cell ⟨S.nx i n q1,λz=>by
  obtain⟨j,z⟩:=aU.mp z
  rcases bg hn z with ⟨_,y⟩ |⟨y,z⟩
  ·cases y
  ·exact y (S.inj j i n z q1)⟩ q3 (q4.mono λm o p q=>⟨dZ p,q⟩)
 exact⟨n,q2,S.putN' hi ⟨rfl,_,q2,r⟩,Stp.refl.put (x:=none) hi (λ_ z=>by cases z) q rfl rfl S.l2,r⟩
def fI{X:Nat->Prop}{h0 L:Nat}{ns:Ns}{e e':E3}{ae:AE}{h:AH}{d:D}{t:Tm}{v:Val}(S:Sat X h0 ns e ae h)(r:relE X h0 L ae ns e h d t)(q:cH e t=some (e',v)):∃ns',Sat X h0 ns' e' ae h/\Stp ns e h ns' e' h/\Rd (Oc X ns') h d v:=by
 cases t with
 |val u=>cases q;exact⟨ns,S,.refl,r⟩
 |new u=>cases q;exact⟨ns,S,.refl,r.new⟩
 |
  bor i=>
  unfold cH at q
  dsimp only at q
  have r':ae[i]?=some (some d):=r
  split at q
  ·rename_i u q1;cases q
   obtain⟨_,x,e1,e2⟩:=S.sl i _ q1
   rw[r'] at e1;cases e1
   exact⟨ns,S,.refl,e2⟩
  ·rename_i u q1;cases q
   obtain⟨n,e1,S',a',e2⟩:=Kz S q1
   rw[r'] at e1;cases e1
   exact⟨_,S',a',e2⟩
  ·cases q
def iM:∀{ds:List D}{vs:List Val}{ns:Ns}{e e':E3},Sat X h0 ns e ae h->TsR X ns ae h ds ts->dem e ts=some (e',vs)->∃ns',Sat X h0 ns' e' ae h/\Stp ns e h ns' e' h/\Rds (Oc X ns') h ds vs:=by
 induction ts with
 |nil=>intro ds vs ns e e' S r q;cases r;cases q;exact⟨ns,S,.refl,.nil⟩
 |
  cons t ts ih=>
  intro ds vs ns e e' S r q
  unfold dem at q
  split at q
  ·rename_i e1 v q1
   split at q
   ·rename_i e2 vs' q2
    cases q
    have hr:∃d ds',ds=d::ds'/\relE X h0 0 ae ns e h d t/\TsR X ns ae h ds' ts:=by
     cases r with
     |val r rr=>exact⟨_,_,rfl,r,rr⟩
     |bor r rr=>exact⟨_,_,rfl,r,rr⟩
    obtain⟨d,ds',rfl,hr⟩:=hr
    obtain⟨ns1,S1,a1,r1⟩:=fI S hr.1 q1
    obtain⟨e_,S2,a2,r2⟩:=ih S1 (hr.2.stp S a1) q2
    exact⟨e_,S2,a1.trans S a2,.cons (r1.mono (a2.mov S1)) r2⟩
   ·cases q
  ·cases q
def IK(hA:RA A A3):RE (eFn mh A) (vTup A3):=λX h0 L ns e ae h S hl=>
 Po.bind S (hA X h0 ns e ae h S) λds ts h1 ns1 e1 a1 S1 r1=>by
  try dsimp only
  split
  ·rename_i e2 vs q
   split
   ·rename_i hv
    obtain⟨e_,S2,a2,r2⟩:=iM S1 r1 q
    exact⟨.tup ds,h1,e_,by unfold mh;rw[if_pos (by rw[r2.len];exact hv)],a2,S2,.tup r2⟩
   ·trivial
  ·trivial
def GF(hA:RA A A3):RE (eFn bN A) (vLst A3):=λX h0 L ns e ae h S hl=>
 Po.bind S (hA X h0 ns e ae h S) λds ts h1 ns1 e1 a1 S1 r1=>by
  try dsimp only
  split
  ·rename_i e2 vs q
   split
   ·rename_i hv
    obtain⟨e_,S2,a2,r2⟩:=iM S1 r1 q
    have p:=BvR.po (r:=bN ds h1) (b:=.new (.lst vs)) S2 (y_ hl a1.len) ⟨.lst ds,by unfold bN;rw[if_pos (by rw[r2.len];exact hv)],trivial,.lst r2⟩
    obtain⟨d,h',ns',y,y1,y2,y3⟩:=p
    exact⟨d,h',ns',y,a2.trans S1 y1,y2,y3⟩
   ·trivial
  ·trivial
def mI(S1:Sat X h0 ns1 e1 ae h1)(r1:relE X h0 L ae ns1 e1 h1 d1 t1)(q:bOf (rs e1 t1)=some b):d1=.bl b:=by
 unfold bOf at q
 split at q
 ·rename_i b' q';cases q;exact (r1.sh S1 q').bl
 ·cases q
def FW(hF:RE F F3)(hG:RE G G3):RE (Ag F G) (vAnd F3 G3):=λX h0 L ns e ae h S hl=>
 Po.bind S (hF X h0 L ns e ae h S hl) λd1 t1 h1 ns1 e1 a1 S1 r1=>by
  try dsimp only
  split
  ·rename_i q;rw[mI S1 r1 q];exact hG X h0 L ns1 e1 ae h1 S1 (y_ hl a1.len)
  ·rename_i q;rw[mI S1 r1 q];exact Po.ret S1 (.bl false)
  ·trivial
def JR(hF:RE F F3):RE (BS F) (vNot F3):=λX h0 L ns e ae h S hl=>
 Po.bind S (hF X h0 L ns e ae h S hl) λd1 t1 h1 ns1 e1 a1 S1 r1=>by
  try dsimp only
  split
  ·rename_i q;rw[mI S1 r1 q];exact Po.ret S1 (.bl _)
  ·trivial
def LA(hc:RT c c3)(hF:RE F F3)(hG:RE G G3):RE (eIf c F G) (vIf c3 F3 G3):=λX h0 L ns e ae h S hl=>
 Po.bind S (hc X h0 ns e ae h S) λb b' h1 ns1 e1 a1 S1 r1=>by
  cases r1
  try dsimp only
  split
  ·exact hF X h0 L ns1 e1 ae h1 S1 (y_ hl a1.len)
  ·exact hG X h0 L ns1 e1 ae h1 S1 (y_ hl a1.len)
def Lv(hF:RE F F3):RT (tOf F) (cOf F3):=λX h0 ns e ae h S=>
 Po.bind S (hF X h0 0 ns e ae h S (Oq _)) λd1 t1 h1 ns1 e1 a1 S1 r1=>by
  try dsimp only
  split
  ·rename_i q;rw[mI S1 r1 q];exact Po.ret S1 rfl
  ·trivial
def MR(hc:RT c c3)(hd:RT d d3):RT (tAn c d) (cAn c3 d3):=λX h0 ns e ae h S=>
 Po.bind S (hc X h0 ns e ae h S) λb b' h1 ns1 e1 a1 S1 r1=>by
  cases r1
  try dsimp only
  split
  ·exact hd X h0 ns1 e1 ae h1 S1
  ·exact Po.ret S1 rfl
def rt_o(hc:RT c c3)(hd:RT d d3):RT (tO c d) (cO c3 d3):=λX h0 ns e ae h S=>
 Po.bind S (hc X h0 ns e ae h S) λb b' h1 ns1 e1 a1 S1 r1=>by
  cases r1
  try dsimp only
  split
  ·exact Po.ret S1 rfl
  ·exact hd X h0 ns1 e1 ae h1 S1
def Nq(hc:RT c c3):RT (tNo c) (cNo c3):=λX h0 ns e ae h S=>
 Po.bind S (hc X h0 ns e ae h S) λb b' h1 ns1 e1 a1 S1 r1=>by
  cases r1
  exact Po.ret S1 rfl
def rt_y:RT tY cY:=λX h0 ns e ae h S=>Po.ret S rfl
def EO{P:Nat->Prop}{h:AH}{d:D}{v:Val}{b:Bool}(r:ShR P h d v)(q:kS v=some b):sA d h=.ok b h:=by
 have emp:∀{ds:List D}{vs:List Val},Rds P h ds vs->ds.isEmpty=vs.isEmpty:=λr=>by cases r <;> rfl
 cases v with
 |non=>cases q;rw[r.non];rfl
 |bl b=>cases q;rw[r.bl];rfl
 |int i=>cases q;rw[r.int];rfl
 |tup xs=>cases q;obtain⟨ds,rfl,r2⟩:=r.tup;show R.ok (!ds.isEmpty) h=_;rw[emp r2]
 |
  lst xs=>
  cases q
  obtain⟨n,ds,rfl,_,e1,r1⟩:=r.lst
  rw[<- emp r1]
  unfold sA cI;dsimp only;rw[e1]
 |
  kl xs=>
  cases q
  obtain⟨ds,r2,rfl |⟨n,rfl,e1⟩⟩:=r.kl
  ·show R.ok (!ds.isEmpty) h=_;rw[emp r2]
  ·rw[<- emp r2]
   unfold sA cI;dsimp only;rw[e1]
 |_=>cases q
def LD(hF:RE F F3):RT (tTr F) (cTr F3):=λX h0 ns e ae h S=>
 Po.bind S (hF X h0 0 ns e ae h S (Oq _)) λd1 t1 h1 ns1 e1 a1 S1 r1=>by
  try dsimp only
  split
  ·rename_i b q
   obtain⟨v,q1,q2⟩:=Oj.mp q
   rw[EO (r1.sh S1 q1) q2]
   exact Po.ret S1 rfl
  ·trivial
end
inductive Rt where
 |val (v:Val) |new (v:Val) |par (i:Nat)
inductive SR3 where
 |nx (e:E3) |rt (r:Rt) (e:E3) |bk (e:E3) |ct (e:E3) |exc (c:Str) (e:E3) |stuck
abbrev MS3:=E3->SR3
def RtR(X:Nat->Prop)(h0:Nat)(ns:Ns)(e:E3)(ae:AE)(h:AH)(d:D):Rt->Prop
 |.val v=>Sat X h0 ns e ae h/\Rd (Oc X ns) h d v
 |.new v=>∃n o,d=.ref n/\h0<=n/\¬ X n/\h[n]?=some o/\bQ o/\Sat (Xn X n) h0 ns e ae h/\Rc (Oc (Xn X n) ns) h o v
 |.par i=>Sat X h0 ns e ae h/\ae[i]?=some (some d)/\∃v,e[i]?=some (.mu v)
def PoS(X:Nat->Prop)(h0:Nat)(ns:Ns)(e:E3)(h:AH)(r2:SR):SR3->Prop
 |.stuck=>True
 |.nx e'=>∃a_ h' ns',r2=.nx a_ h'/\Stp ns e h ns' e' h'/\Sat X h0 ns' e' a_ h'
 |.bk e'=>∃a_ h' ns',r2=.bk a_ h'/\Stp ns e h ns' e' h'/\Sat X h0 ns' e' a_ h'
 |.ct e'=>∃a_ h' ns',r2=.ct a_ h'/\Stp ns e h ns' e' h'/\Sat X h0 ns' e' a_ h'
 |.exc c e'=>∃a_ h' ns',r2=.exc c a_ h'/\Stp ns e h ns' e' h'/\Sat X h0 ns' e' a_ h'
 |.rt r e'=>∃d a_ h' ns',r2=.rt d h'/\Stp ns e h ns' e' h'/\RtR X h0 ns' e' a_ h' d r
def RS(F:MS)(G:MS3):Prop:=∀X h0 ns e ae h,Sat X h0 ns e ae h->PoS X h0 ns e h (F ae h) (G e)
def R3.toS{α:Type}(r:R3 α)(f:α->E3->SR3):SR3:=match r with
 |.ok a e=>f a e
 |.exc c e=>.exc c e
 |.stuck=>.stuck
def SR3.then(r:SR3)(f:E3->SR3):SR3:=match r with
 |.nx e=>f e
 |r=>r
section
variable{X:Nat->Prop}{h0 L:Nat}{ns ns1 ns':Ns}{e e1 e':E3}{ae:AE}{h h1 h':AH}
def PoS.after(S:Sat X h0 ns e ae h)(a:Stp ns e h ns1 e1 h1)(p:PoS X h0 ns1 e1 h1 r2 r3):PoS X h0 ns e h r2 r3:=by
 cases r3 with
 |stuck=>trivial
 |nx e'=>obtain⟨a_,h',ns',q,q1,q2⟩:=p;exact⟨a_,h',ns',q,a.trans S q1,q2⟩
 |bk e'=>obtain⟨a_,h',ns',q,q1,q2⟩:=p;exact⟨a_,h',ns',q,a.trans S q1,q2⟩
 |ct e'=>obtain⟨a_,h',ns',q,q1,q2⟩:=p;exact⟨a_,h',ns',q,a.trans S q1,q2⟩
 |exc c e'=>obtain⟨a_,h',ns',q,q1,q2⟩:=p;exact⟨a_,h',ns',q,a.trans S q1,q2⟩
 |rt r e'=>obtain⟨d,a_,h',ns',q,q1,q2⟩:=p;exact⟨d,a_,h',ns',q,a.trans S q1,q2⟩
def PoS.toS(p:Po X h0 ns e ae h rel r2 r3)
 (k:∀d t h' ns' e',Stp ns e h ns' e' h'->Sat X h0 ns' e' ae h'->rel ns' e' h' d t->PoS X h0 ns e h (f2 d h') (f3 t e')):PoS X h0 ns e h (r2.toS ae f2) (r3.toS f3):=by
 cases r3 with
 |stuck=>trivial
 |exc c e'=>obtain⟨h',ns',rfl,q1,q2⟩:=p;exact⟨ae,h',ns',rfl,q1,q2⟩
 |ok t e'=>obtain⟨d,h',ns',rfl,q1,q2,q3⟩:=p;exact k d t h' ns' e' q1 q2 q3
def PoS.nx(a:Stp ns e h ns' e' h')(S:Sat X h0 ns' e' a_ h'):PoS X h0 ns e h (.nx a_ h') (.nx e'):=⟨a_,h',ns',rfl,a,S⟩
end
noncomputable def wNx:MS3:=λe=>.nx e
noncomputable def C5:MS3:=λe=>.rt (.val .non) e
noncomputable def wSeq(F G:MS3):MS3:=λe=>(F e).then G
noncomputable def CP(F:ME3):MS3:=λe=>(F e).toS λ_ e1=>.nx e1
noncomputable def wIf(c:MT3)(F G:MS3):MS3:=λe=>(c e).toS λb e1=>if b=true then F e1 else G e1
noncomputable def nH(t:Tm)(e:E3):SR3:=match t with
 |.val v=>.rt (.val v) e
 |.new v=>.rt (.new v) e
 |.bor i=>match e[i]? with
  |some (.sh v)=>.rt (.val v) e
  |some (.ow v)=>.rt (.new v) (e.set i .no)
  |some (.mu _)=>.rt (.par i) e
  |_=>.stuck
noncomputable def wRet(F:ME3):MS3:=λe=>(F e).toS nH
def iq(o:Bool)(i:Nat)(t:Tm)(e:E3):SR3:=match e[i]? with
 |some s0=>if s0.pl=true then (match t with
  |.val v=>.nx (e.set i (.sh v))
  |.new v=>.nx (e.set i (if o=true then .ow v else .sh v))
  |.bor j=>match cH e (.bor j) with
   |some (e2,v)=>.nx (e2.set i (.sh v))
   |none=>.stuck) else .stuck
 |none=>.stuck
def wAsg(o:Bool)(i:Nat)(F:ME3):MS3:=λe=>(F e).toS (iq o i)
abbrev MG3:=Val->E3->Option E3
abbrev jO:=List Val->E3->Option E3
def pN(i:Nat):MG3:=λv e=>match e[i]? with
 |some s=>if s.pl=true then some (e.set i (.sh v)) else none
 |none=>none
noncomputable def psN:jO:=λvs e=>match vs with
 | []=>some e
 |_=>none
noncomputable def psC(g:MG3)(u:jO):jO:=λvs e=>match vs with
 |v::r=>(g v e).bind λe1=>u r e1
 | []=>none
noncomputable def pT(n:Nat)(u:jO):MG3:=λv e=>match v with
 |.tup vs=>if vs.length=n then u vs e else none
 |_=>none
noncomputable def CH(F:ME3)(g:MG3):MS3:=λe=>(F e).toS λt e1=>match cH e1 t with
 |some (e2,v)=>match g v e2 with
  |some e3=>.nx e3
  |none=>.stuck
 |none=>.stuck
def wPar(i j:Nat)(A:MA3):MS3:=λe=>(A e).toS λts e1=>match dem e1 ts with
 |some (e2,[v,u])=>match (pN i v e2).bind (pN j u) with
  |some e3=>.nx e3
  |none=>.stuck
 |_=>.stuck
def Bg(i:Nat)(g:Val->Val->Bv)(F:ME3):MS3:=λe=>match e[i]? with
 |some (.sh x)=>(F e).toS λt e1=>match rs e1 t with
  |some y=>match g x y with
   |.val z=>match pN i z e1 with
    |some e2=>.nx e2
    |none=>.stuck
   |_=>.stuck
  |none=>.stuck
 |_=>.stuck
noncomputable def xQ(c:Str)(A:MA3):MS3:=λe=>(A e).toS λts e1=>if ts.length<=16777216 then .exc c e1 else .stuck
def RG(g2:MG)(g3:MG3):Prop:=∀X h0 ns e ae h d v e',Sat X h0 ns e ae h->Rd (Oc X ns) h d v->g3 v e=some e'->∃a_ ns',g2 d ae h=.ok a_ h/\Sat X h0 ns' e' a_ h/\Stp ns e h ns' e' h
def RGs(g2:MGs)(g3:jO):Prop:=∀X h0 ns e ae h ds vs e',Sat X h0 ns e ae h->Rds (Oc X ns) h ds vs->g3 vs e=some e'->∃a_ ns',g2 ds ae h=.ok a_ h/\Sat X h0 ns' e' a_ h/\Stp ns e h ns' e' h
section
variable{F G:ME}{F3 G3:ME3}{A:MA}{A3:MA3}{c d:MT}{c3 d3:MT3}{U V:MS}{U3 V3:MS3}{g:MG}{g3:MG3}{gs:MGs}{gs3:jO}
def NK:RS sNx wNx:=λX h0 ns e ae h S=>.nx .refl S
def DV:RS vh C5:=λX h0 ns e ae h S=>⟨.non,ae,h,ns,rfl,.refl,S,.non⟩
def GW(hU:RS U U3)(hV:RS V V3):RS (gK U V) (wSeq U3 V3):=λX h0 ns e ae h S=>by
 have p:=hU X h0 ns e ae h S
 show PoS X h0 ns e h ((U ae h).then V) ((U3 e).then V3)
 generalize U3 e=r at *
 cases r with
 |stuck=>trivial
 |nx e'=>obtain⟨a_,h',ns',q,q1,q2⟩:=p;rw[q];exact PoS.after S q1 (hV X h0 ns' e' a_ h' q2)
 |bk e'=>obtain⟨a_,h',ns',q,q1,q2⟩:=p;rw[q];exact⟨a_,h',ns',rfl,q1,q2⟩
 |ct e'=>obtain⟨a_,h',ns',q,q1,q2⟩:=p;rw[q];exact⟨a_,h',ns',rfl,q1,q2⟩
 |exc c e'=>obtain⟨a_,h',ns',q,q1,q2⟩:=p;rw[q];exact⟨a_,h',ns',rfl,q1,q2⟩
 |rt r e'=>obtain⟨d,a_,h',ns',q,q1,q2⟩:=p;rw[q];exact⟨d,a_,h',ns',rfl,q1,q2⟩
def FO(hF:RE F F3):RS (gk F) (CP F3):=λX h0 ns e ae h S=>PoS.toS (hF X h0 0 ns e ae h S (Oq _)) λd t h1 ns1 e1 a1 S1 r1=>.nx a1 S1
def Lx(hc:RT c c3)(hU:RS U U3)(hV:RS V V3):RS (sIf c U V) (wIf c3 U3 V3):=λX h0 ns e ae h S=>PoS.toS (hc X h0 ns e ae h S) λb b' h1 ns1 e1 a1 S1 r1=>by
 cases r1
 try dsimp only
 split
 ·exact PoS.after S a1 (hU X h0 ns1 e1 ae h1 S1)
 ·exact PoS.after S a1 (hV X h0 ns1 e1 ae h1 S1)
def FV(hF:RE F F3):RS (BH F) (wRet F3):=λX h0 ns e ae h S=>PoS.toS (hF X h0 h0 ns e ae h S S.lh) λd t h1 ns1 e1 a1 S1 r1=>by
 cases t with
 |val v=>exact⟨d,ae,h1,ns1,rfl,a1,S1,r1⟩
 |new v=>obtain⟨n,o,q⟩:=r1;exact⟨d,ae,h1,ns1,rfl,a1,n,o,q⟩
 |
  bor i=>
  unfold nH
  dsimp only
  have r':ae[i]?=some (some d):=r1
  split
  ·rename_i v q
   obtain⟨_,x,e1',e2⟩:=S1.sl i _ q
   rw[r'] at e1';cases e1'
   exact⟨d,ae,h1,ns1,rfl,a1,S1,e2⟩
  ·rename_i v q
   obtain⟨n,o,q1,q2,q3,q4,q5,q6⟩:=S1.sl i _ q
   rw[r'] at q2;cases q2
   have hi:=(k_.mp q).1
   have hn:i<ns1.length:=by rw[S1.l2];exact hi
   have mv:Mov (Oc X ns1) (Oc (Xn X n) (ns1.set i none)) h1 h1:=λm o' p q'=>⟨⟨λz=>by
    rcases z with z |rfl
    ·exact p.1 z
    ·exact p.2 (aU.mpr ⟨i,q1⟩),(dZ p).2⟩,q'⟩
   have S2:=S1.putN' hi (s:=.no) rfl
   refine⟨.ref n,ae,h1,ns1.set i none,rfl,a1.put (x:=none) hi (λ_ z=>by cases z) q rfl rfl S1.l2,n,o,rfl,q3,S1.nx i n q1,q4,q5,⟨S2.l1,S2.l2,S2.lh,λm z=>?_,S2.inj,λj m qj z=>?_,λj s qj=>?_⟩,q6.mono mv⟩
   ·rcases z with z |rfl
    ·exact S2.xl m z
    ·exact bH q4
   ·rcases z with z |rfl
    ·exact S2.nx j m qj z
    ·rcases bg hn qj with ⟨_,y⟩ |⟨y,z⟩
     ·cases y
     ·exact y (S1.inj j i _ z q1)
   ·rcases bg hi qj with ⟨rfl,rfl⟩ |⟨z,qj'⟩
    ·rw[bC hn];rfl
    ·rw[aY z]
     exact (S1.sl j s qj').mono mv λ_ _ _ q=>q
  ·rename_i v q
   exact⟨d,ae,h1,ns1,rfl,a1,S1,r',v,q⟩
  ·trivial
def F7(o:Bool)(i:Nat)(hF:RE F F3):RS (f6 F (gN i)) (wAsg o i F3):=λX h0 ns e ae h S=>PoS.toS (hF X h0 h.length ns e ae h S (p_ _)) λd t h1 ns1 e1 a1 S1 r1=>by
 show PoS X h0 ns e h (.nx (ae.set i (some d)) h1) (iq o i t e1)
 unfold iq
 split
 ·rename_i s0 q0
  split
  ·rename_i p0
   have hi:=(k_.mp q0).1
   cases t with
   |val v=>exact .nx (a1.put (x:=none) (s:=.sh v) hi (λ_ z=>by cases z) q0 p0 rfl S1.l2) (S1.putN hi ⟨rfl,d,rfl,Rd.mono (λm o p q=>⟨dZ p,q⟩) r1⟩)
   |
    new v=>
    try dsimp only
    split
    ·obtain⟨n,ob,rfl,q1,q2,q3,q4,q5,q6⟩:=r1
     exact .nx (a1.put (x:=some n) (s:=.ow v) hi (λm z=>by cases z;exact q1) q0 p0 rfl S1.l2) (Sat.putO q5 q2 hi (y_ S.lh q1) q3 q4 q6)
    ·exact .nx (a1.put (x:=none) (s:=.sh v) hi (λ_ z=>by cases z) q0 p0 rfl S1.l2) (S1.putN hi ⟨rfl,d,rfl,Rd.mono (λm o p q=>⟨dZ p,q⟩) r1.new⟩)
   |
    bor j=>
    try dsimp only
    split
    ·rename_i e2 v q2
     obtain⟨e_,S2,a2,r2⟩:=fI S1 r1 q2
     have hq:∃s2,e2[i]?=some s2/\s2.pl=true:=by
      unfold cH at q2
      dsimp only at q2
      split at q2
      ·cases q2;exact⟨s0,q0,p0⟩
      ·rename_i u q3
       cases q2
       by_cases z:i=j
       ·subst z;exact⟨_,bC hi,rfl⟩
       ·exact⟨s0,by rw[aY z];exact q0,p0⟩
      ·cases q2
     obtain⟨s2,hq1,hq2⟩:=hq
     have hi2:=(k_.mp hq1).1
     exact .nx ((a1.trans S a2).put (x:=none) (s:=.sh v) hi2 (λ_ z=>by cases z) hq1 hq2 rfl S2.l2) (S2.putN hi2 ⟨rfl,d,rfl,Rd.mono (λm o p q=>⟨dZ p,q⟩) r2⟩)
    ·trivial
  ·trivial
 ·trivial
def sC(i:Nat):RG (gN i) (pN i):=λX h0 ns e ae h d v e' S r q=>by
 unfold pN at q
 split at q
 ·rename_i s q0
  split at q
  ·rename_i p0
   cases q
   have hi:=(k_.mp q0).1
   exact⟨_,ns.set i none,rfl,S.putN hi ⟨rfl,d,rfl,Rd.mono (λm o p q=>⟨dZ p,q⟩) r⟩,Stp.refl.put (x:=none) (s:=.sh v) hi (λ_ z=>by cases z) q0 p0 rfl S.l2⟩
  ·cases q
 ·cases q
def NQ:RGs gsN psN:=λX h0 ns e ae h ds vs e' S r q=>by
 cases r with
 |nil=>cases q;exact⟨ae,ns,rfl,S,.refl⟩
 |cons _ _=>cases q
def Lm(hg:RG g g3)(hs:RGs gs gs3):RGs (gsC g gs) (psC g3 gs3):=λX h0 ns e ae h ds vs e' S r q=>by
 cases r with
 |nil=>cases q
 |
  cons r rr=>
  obtain⟨e1,q1,q2⟩:=Oj.mp q
  obtain⟨ae1,ns1,p1,S1,a1⟩:=hg _ _ _ _ _ _ _ _ _ S r q1
  obtain⟨ae2,e_,p2,S2,a2⟩:=hs _ _ _ _ _ _ _ _ _ S1 (rr.mono (a1.mov S)) q2
  refine⟨ae2,e_,?_,S2,a1.trans S a2⟩
  unfold gsC;dsimp only;rw[p1];exact p2
def rg_t(n:Nat)(hs:RGs gs gs3):RG (gT λds ae h=>if ds.length=n then gs ds ae h else .stuck) (pT n gs3):=λX h0 ns e ae h d v e' S r q=>by
 unfold pT at q
 split at q
 ·split at q
  ·rename_i hn
   obtain⟨ds,rfl,r2⟩:=ShR.tup (.inl r)
   obtain⟨ae1,ns1,p1,S1,a1⟩:=hs _ _ _ _ _ _ _ _ _ S r2 q
   refine⟨ae1,ns1,?_,S1,a1⟩
   unfold gT;dsimp only;rw[if_pos (by rw[r2.len];exact hn)];exact p1
  ·cases q
 ·cases q
def Gv(hg:RG g g3):RG (λd ae h=>noX (g d ae h)) g3:=λX h0 ns e ae h d v e' S r q=>by
 obtain⟨ae1,ns1,p1,S1,a1⟩:=hg _ _ _ _ _ _ _ _ _ S r q
 exact⟨ae1,ns1,by dsimp only;rw[p1];rfl,S1,a1⟩
def ER(hF:RE F F3)(hg:RG g g3):RS (f6 F g) (CH F3 g3):=λX h0 ns e ae h S=>PoS.toS (hF X h0 0 ns e ae h S (Oq _)) λd t h1 ns1 e1 a1 S1 r1=>by
 try dsimp only
 split
 ·rename_i e2 v q
  obtain⟨e_,S2,a2,r2⟩:=fI S1 r1 q
  split
  ·rename_i e3 q3
   obtain⟨ae3,ns3,p3,S3,a3⟩:=hg _ _ _ _ _ _ _ _ _ S2 r2 q3
   rw[p3]
   exact .nx ((a1.trans S a2).trans S a3) S3
  ·trivial
 ·trivial
def Kq(i j:Nat)(hA:RA A A3):RS (Af i j A) (wPar i j A3):=λX h0 ns e ae h S=>PoS.toS (hA X h0 ns e ae h S) λds ts h1 ns1 e1 a1 S1 r1=>by
 try dsimp only
 cases q:dem e1 ts with
 |none=>trivial
 |
  some w=>
  obtain⟨e2,vs⟩:=w
  obtain⟨e_,S2,a2,r2⟩:=iM S1 r1 q
  match vs,ds,r2 with
  | [],_,_=>trivial
  | [_],_,_=>trivial
  |_::_::_::_,_,_=>trivial
  |
   [v,u],[d,d'],r2=>
   dsimp only
   split
   ·rename_i e3 q3
    obtain⟨e4,q4,q5⟩:=Oj.mp q3
    cases r2 with
    |
     cons r rr=>
     cases rr with
     |
      cons r' rr=>
      obtain⟨ae3,ns3,p3,S3,a3⟩:=sC i _ _ _ _ _ _ _ _ _ S2 r q4
      obtain⟨ae4,ns4,p4,S4,a4⟩:=sC j _ _ _ _ _ _ _ _ _ S3 (r'.mono (a3.mov S2)) q5
      have z3:ae3=ae.set i (some d):=by have:=p3;unfold gN at this;cases this;rfl
      have z4:ae4=ae3.set j (some d'):=by have:=p4;unfold gN at this;cases this;rfl
      subst z4 z3
      exact .nx (((a1.trans S a2).trans S a3).trans S a4) S4
   ·trivial
def F6(i:Nat)(hg:RO gg gg3)(hF:RE F F3):RS (pW i gg F) (Bg i gg3 F3):=λX h0 ns e ae h S=>by
 unfold Bg
 split
 ·rename_i x q0
  obtain⟨_,dx,e1,r0⟩:=S.sl i _ q0
  unfold pW
  rw[e1]
  refine PoS.toS (hF X h0 0 ns e ae h S (Oq _)) λd t h1 ns1 e1 a1 S1 r1=>?_
  try dsimp only
  split
  ·rename_i y q1
   have b:=hg _ _ _ _ _ _ (.inl (r0.mono (a1.mov S))) (r1.sh S1 q1)
   split
   ·rename_i z q2
    rw[q2] at b
    obtain⟨dz,p1,r2⟩:=b
    split
    ·rename_i e2 q3
     rw[p1]
     obtain⟨ae3,ns3,p3,S3,a3⟩:=sC i _ _ _ _ _ _ _ _ _ S1 r2 q3
     have z3:ae3=ae.set i (some dz):=by have:=p3;unfold gN at this;cases this;rfl
     subst z3
     exact .nx (a1.trans S a3) S3
    ·trivial
   ·trivial
  ·trivial
 ·trivial
def TsR.len(r:TsR X ns ae h ds ts):ds.length=ts.length:=by
 induction r with
 |nil=>rfl
 |val _ _ ih=>rw[x_,x_,ih]
 |bor _ _ ih=>rw[x_,x_,ih]
def zc(x:Str)(hA:RA A A3):RS (qE x A) (xQ x A3):=λX h0 ns e ae h S=>PoS.toS (hA X h0 ns e ae h S) λds ts h1 ns1 e1 a1 S1 r1=>by
 try dsimp only
 by_cases hl:ts.length<=16777216
 ·rw[if_pos hl,if_pos (by rw[TsR.len r1];exact hl)]
  exact⟨ae,h1,ns1,rfl,a1,S1⟩
 ·rw[if_neg hl];trivial
end
noncomputable def Sl.re(s:Sl)(u:Val):Sl:=match s with
 |.ow _=>.ow u
 |.mu _=>.mu u
 |s=>s
noncomputable def Sl.mv:Sl->Option Val
 |.ow v=>some v
 |.mu v=>some v
 |_=>none
section
variable{X:Nat->Prop}{h0 L:Nat}{ns ns1 ns':Ns}{e e1 e':E3}{ae:AE}{h h1 h':AH}
def Sat.write(S:Sat X h0 ns e ae h)(q:e[i]?=some s)(hm:s.mv=some u):∃n o,ae[i]?=some (some (.ref n))/\h[n]?=some o/\bQ o/\Rc (Oc X ns) h o u/\
 ∀o' u',bQ o'->Rc (Oc X ns) h o' u'->Mov (Oc X ns) (Oc X ns) h (h.set n o')/\Sat X h0 ns (e.set i (s.re u')) ae (h.set n o')/\Stp ns e h ns (e.set i (s.re u')) (h.set n o'):=by
 have hi:=(k_.mp q).1
 have key:∃n o,ns[i]?=some (some n)/\ae[i]?=some (some (.ref n))/\h[n]?=some o/\bQ o/\Rc (Oc X ns) h o u/\s.mt=true/\(∀o' u',bQ o'->Rc (Oc X ns) (h.set n o') o' u'->SlR (Oc X ns) h0 (some (some n)) (some (some (.ref n))) (h.set n o') (s.re u')):=by
  have y:=S.sl i s q
  cases s with
  |ow v=>cases hm;obtain⟨n,o,q1,q2,q3,q4,q5,q6⟩:=y;exact⟨n,o,q1,q2,q4,q5,q6,rfl,λo' u' hf r=>⟨n,o',rfl,rfl,q3,bC (bH q4),hf,r⟩⟩
  |mu v=>cases hm;obtain⟨n,o,q1,q2,q4,q5,q6⟩:=y;exact⟨n,o,q1,q2,q4,q5,q6,rfl,λo' u' hf r=>⟨n,o',rfl,rfl,bC (bH q4),hf,r⟩⟩
  |_=>cases hm
 obtain⟨n,o,k1,k2,k3,k4,k5,k6,k7⟩:=key
 refine⟨n,o,k2,k3,k4,k5,λo' u' hf r=>?_⟩
 have mv:Mov (Oc X ns) (Oc X ns) h (h.set n o'):=λm ob p q'=>⟨p,by
  have:m≠n:=λz=>p.2 (aU.mpr ⟨i,by rw[z];exact k1⟩)
  rw[aY this];exact q'⟩
 refine⟨mv,⟨by rw[C_];exact S.l1,by rw[C_];exact S.l2,by rw[C_];exact S.lh,λm z=>by rw[C_];exact S.xl m z,S.inj,S.nx,λj s' qj=>?_⟩,?_⟩
 ·rcases bg hi qj with ⟨rfl,rfl⟩ |⟨z,qj'⟩
  ·rw[k1,k2];exact k7 o' u' hf (r.mono mv)
  ·refine (S.sl j s' qj').mono mv λm ob qm qo=>?_
   have:m≠n:=λy=>by subst y;exact z (S.inj j i m qm k1)
   rw[aY this];exact qo
 ·refine⟨by rw[C_];exact p_ _,λm ob qm hM=>?_,λ_ _ q=>.inl q,λj s' qj hl=>?_,λj s' qj hl=>?_,λj v qj=>?_,λj v qj=>?_⟩
  ·have:m≠n:=λy=>by subst y;exact hM ⟨i,s,k1,q,k6⟩
   rw[aY this];exact qm
  ·have z:j≠i:=λz=>by subst z;rw[q] at qj;cases qj;cases s <;> first |cases hl;done |cases k6;done
   rw[aY z];exact⟨qj,rfl⟩
  ·rcases bg hi qj with ⟨_,y⟩ |⟨z,qj'⟩
   ·subst y;cases s <;> first |cases hl;done |cases k6;done
   ·exact⟨qj',rfl⟩
  ·rcases bg hi qj with ⟨rfl,y⟩ |⟨z,qj'⟩
   ·cases s with
    |mu w=>exact⟨w,q,rfl⟩
    |ow w=>cases y
    |_=>cases k6
   ·exact⟨v,qj',rfl⟩
  ·by_cases z:j=i
   ·subst z;rw[q] at qj;cases qj;exact⟨u',bC hi,rfl⟩
   ·exact⟨v,by rw[aY z];exact qj,rfl⟩
end
def v5(w2:D->D->D->AH->R Unit)(w3:Val->Val->Val->Option Val):Prop:=∀P h n o u di vi d v u',¬ P n->h[n]?=some o->bQ o->Rc P h o u->ShR P h di vi->Rd P h d v->w3 u vi v=some u'->∃o',w2 (.ref n) di d h=.ok () (h.set n o')/\bQ o'/\Rc P h o' u'
def wSet(i:Nat)(G:ME3)(F:ME3)(w:Val->Val->Val->Option Val):MS3:=λe=>(F e).toS λt e1=>match (e1[i]?).bind Sl.mv with
 |none=>.stuck
 |some _=>(G e1).toS λt2 e2=>match rs e2 t2 with
  |none=>.stuck
  |some vi=>match cH e2 t.drop with
   |none=>.stuck
   |some (e3,v)=>match e3[i]? with
    |none=>.stuck
    |some s=>match s.mv with
     |none=>.stuck
     |some u=>match w u vi v with
      |some u'=>.nx (e3.set i (s.re u'))
      |none=>.stuck
def RM(m2:D->List D->AH->R D)(m3:Val->List Val->Option (Val×Val)):Prop:=∀P h n o u ds vs u' v,h[n]?=some o->bQ o->Rc P h o u->Rds P h ds vs->m3 u vs=some (u',v)->ig h (.ref n)=true/\∃o' d,m2 (.ref n) ds h=.ok d (h.set n o')/\bQ o'/\Rc P h o' u'/\Rd P h d v
noncomputable def dP:Val->Bool
 |.lst _=>true
 |_=>false
def kY(i:Nat)(m:Val->List Val->Option (Val×Val))(A:MA3):ME3:=λe=>match e[i]? with
 |some s=>if (s.mv.map dP)=some true then (A e).bind λts e1=>match dem e1 ts with
  |some (e2,vs)=>match e2[i]? with
   |some s2=>match s2.mv with
    |some u=>match m u vs with
     |some (u',v)=>.ok (.val v) (e2.set i (s2.re u'))
     |none=>.stuck
    |none=>.stuck
   |none=>.stuck
  |none=>.stuck else .stuck
 |none=>.stuck
section
variable{F G:ME}{F3 G3:ME3}{A:MA}{A3:MA3}
def Dv{X:Nat->Prop}{h0:Nat}{ns:Ns}{e:E3}{ae:AE}{h:AH}(S:Sat X h0 ns e ae h){i:Nat}{u:Val}(q:(e[i]?).bind Sl.mv=some u):∃n o,ae[i]?=some (some (.ref n))/\h[n]?=some o/\bQ o/\Rc (Oc X ns) h o u:=by
 obtain⟨s,q1,q2⟩:=Oj.mp q
 obtain⟨n,o,k1,k2,k3,k4,_⟩:=S.write q1 q2
 exact⟨n,o,k1,k2,k3,k4⟩
def Kr(i:Nat)(hw:v5 w2 w3)(hG:RE G G3)(hF:RE F F3):RS (f6 F (gS (aO i) G w2)) (wSet i G3 F3 w3):=λX h0 ns e ae h S=>PoS.toS (hF X h0 0 ns e ae h S (Oq _)) λd t h1 ns1 e1 a1 S1 r1=>by
 try dsimp only
 cases qm:(e1[i]?).bind Sl.mv with
 |none=>trivial
 |
  some u0=>
  obtain⟨n0,o0,b1,b2,b3,b4⟩:=Dv S1 qm
  have L2e:∀h',(gS (aO i) G w2 d ae h').toS ae (λa_ h2=>SR.nx a_ h2)=(G ae h').toS ae λdi h2=>(w2 (.ref n0) di d h2).toS ae λ_ h3=>.nx ae h3:=λh'=>by
   unfold gS aO
   rw[b1]
   simp only[fu]
   cases G ae h' with
   |
    ok di h2=>
    simp only[fu]
    show _=(w2 (.ref n0) di d h2).toS ae λ_ h3=>.nx ae h3
    cases w2 (.ref n0) di d h2 <;> rfl
   |exc c h2=>rfl
   |stuck=>rfl
  rw[L2e]
  refine PoS.after S a1 (PoS.toS (hG X h0 0 ns1 e1 ae h1 S1 (Oq _)) λdi t2 h2 e_ e2 a2 S2 r2=>?_)
  try dsimp only
  cases qi:rs e2 t2 with
  |none=>trivial
  |
   some vi=>
   try dsimp only
   cases qd:cH e2 t.drop with
   |none=>trivial
   |
    some w=>
    obtain⟨e3,v⟩:=w
    try dsimp only
    obtain⟨r1',hn⟩:=r1.drop
    have r3:=r1'.stp S1 a2 hn
    have si:=r2.sh S2 qi
    obtain⟨ns3,S3,a3,r4⟩:=fI S2 r3 qd
    have si3:ShR (Oc X ns3) h2 di vi:=by
     rcases si with z |⟨n,o,z1,z2,z3⟩
     ·exact .inl (z.mono (a3.mov S2))
     ·exact .inr ⟨n,o,z1,z2,z3.mono (a3.mov S2)⟩
    cases q3:e3[i]? with
    |none=>trivial
    |
     some s=>
     try dsimp only
     cases q4:s.mv with
     |none=>trivial
     |
      some u=>
      try dsimp only
      cases q5:w3 u vi v with
      |none=>trivial
      |
       some u'=>
       obtain⟨n,o,k1,k2,k3,k4,k5⟩:=S3.write q3 q4
       rw[b1] at k1;cases k1
       have nP:¬ Oc X ns3 n0:=λp=>by
        have z1:=((k5 (.lst []) (.lst []) trivial (.lst .nil)).1 _ _ p k2).2
        have z2:=((k5 (.lst [.non]) (.lst [.non]) trivial (.lst (.cons .non .nil))).1 _ _ p k2).2
        rw[bC (bH k2)] at z1 z2
        rw[<- z2] at z1
        cases z1
       obtain⟨o',p1,p2,p3⟩:=hw _ _ _ _ _ _ _ _ _ _ nP k2 k3 k4 si3 r4 q5
       obtain⟨mv,S4,a4⟩:=k5 o' u' p2 p3
       rw[p1]
       exact .nx ((a2.trans S1 a3).trans S1 a4) S4
def yX(i:Nat)(hm:RM m2 m3)(hA:RA A A3):RE (eM m2 (aO i) A) (kY i m3 A3):=λX h0 L ns e ae h S hl=>by
 unfold kY
 cases q0:e[i]? with
 |none=>trivial
 |
  some s0=>
  dsimp only
  split
  ·rename_i hz
   obtain⟨u0,z1,z2⟩:=D_.mp hz
   obtain⟨n0,o0,b1,b2,b3,b4,_⟩:=S.write q0 z1
   have hL:ig h (.ref n0)=true:=by
    cases u0 with
    |lst xs=>obtain⟨ds,_,e1,_⟩:=Rc.seq b2 b4;show (aP h n0).isSome=true;rw[e1];rfl
    |_=>cases z2
   have L2e:eM m2 (aO i) A ae h=(A ae h).bind λds h2=>m2 (.ref n0) ds h2:=by
    unfold eM aO
    rw[b1]
    simp only[fu,hL,O4]
   rw[L2e]
   refine Po.bind S (hA X h0 ns e ae h S) λds ts h1 ns1 e1 a1 S1 r1=>?_
   try dsimp only
   cases q1:dem e1 ts with
   |none=>trivial
   |
    some w=>
    obtain⟨e2,vs⟩:=w
    try dsimp only
    obtain⟨e_,S2,a2,r2⟩:=iM S1 r1 q1
    cases q2:e2[i]? with
    |none=>trivial
    |
     some s2=>
     try dsimp only
     cases q3:s2.mv with
     |none=>trivial
     |
      some u=>
      try dsimp only
      cases q4:m3 u vs with
      |none=>trivial
      |
       some w=>
       obtain⟨u',v⟩:=w
       obtain⟨n,o,k1,k2,k3,k4,k5⟩:=S2.write q2 q3
       rw[b1] at k1;cases k1
       obtain⟨_,o',d,p1,p2,p3,p4⟩:=hm _ _ _ _ _ _ _ _ _ k2 k3 k4 r2 q4
       obtain⟨mv,S4,a4⟩:=k5 o' u' p2 p3
       exact⟨d,_,e_,p1,a2.trans S1 a4,S4,p4.mono mv⟩
  ·trivial
def DR(i:Nat)(hm:RM m2 m3):RE (eM0 m2 (aO i)) (kY i m3 nA):=by
 have:=yX i hm yD
 intro X h0 L ns e ae h S hl
 have p:=this X h0 L ns e ae h S hl
 have e1:eM m2 (aO i) eA ae h=eM0 m2 (aO i) ae h:=by
  unfold eM eM0 eA
  rfl
 rw[e1] at p
 exact p
end
def nh(mro:List Str)(i:Nat)(B U:MS3):MS3:=λe=>match B e with
 |
  .exc c e1=>if c∈mro then match e1[i]? with
   |
    some s0=>if s0.pl=true then match U (e1.set i (.sh (.exc c))) with
     |.nx e2=>(match e2[i]? with |some s=>if s.pl=true then .nx (e2.set i .no) else .stuck |none=>.stuck)
     |.bk e2=>(match e2[i]? with |some s=>if s.pl=true then .bk (e2.set i .no) else .stuck |none=>.stuck)
     |.ct e2=>(match e2[i]? with |some s=>if s.pl=true then .ct (e2.set i .no) else .stuck |none=>.stuck)
     |.rt d e2=>.rt d e2
     |_=>.stuck
    else .stuck
   |none=>.stuck
  else .stuck
 |r=>r
def Kv(mro:List Str)(i:Nat)(hB:RS B B3)(hU:RS U U3):RS (qg mro i B U) (nh mro i B3 U3):=λX h0 ns e ae h S=>by
 have p:=hB X h0 ns e ae h S
 unfold nh qg
 generalize B3 e=r at *
 cases r with
 |stuck=>trivial
 |nx e'=>obtain⟨a_,h',ns',q,q1,q2⟩:=p;rw[q];exact⟨a_,h',ns',rfl,q1,q2⟩
 |bk e'=>obtain⟨a_,h',ns',q,q1,q2⟩:=p;rw[q];exact⟨a_,h',ns',rfl,q1,q2⟩
 |ct e'=>obtain⟨a_,h',ns',q,q1,q2⟩:=p;rw[q];exact⟨a_,h',ns',rfl,q1,q2⟩
 |rt r e'=>obtain⟨d,a_,h',ns',q,q1,q2⟩:=p;rw[q];exact⟨d,a_,h',ns',rfl,q1,q2⟩
 |
  exc c e1=>
  obtain⟨ae1,h1,ns1,q,a1,S1⟩:=p
  rw[q]
  dsimp only
  by_cases hc:c∈mro
  ·rw[if_pos hc,if_pos hc]
   cases q0:e1[i]? with
   |none=>trivial
   |
    some s0=>
    dsimp only
    by_cases p0:s0.pl=true
    ·rw[if_pos p0]
     have hi:=(k_.mp q0).1
     have S2:Sat X h0 (ns1.set i none) (e1.set i (.sh (.exc c))) (ae1.set i (some (.exc c))) h1:=S1.putN hi ⟨rfl,_,rfl,.exc c⟩
     have a2:Stp ns e h (ns1.set i none) (e1.set i (.sh (.exc c))) h1:=a1.put (x:=none) (s:=.sh (.exc c)) hi (λ_ z=>by cases z) q0 p0 rfl S1.l2
     have p2:=PoS.after S a2 (hU X h0 _ _ _ _ S2)
     generalize U3 (e1.set i (.sh (.exc c)))=r2 at *
     cases r2 with
     |stuck=>trivial
     |exc _ _=>trivial
     |rt r e2=>obtain⟨d,a_,h',ns',q,q1,q2⟩:=p2;rw[q];exact⟨d,a_,h',ns',rfl,q1,q2⟩
     |
      nx e2=>
      obtain⟨a_,h',ns',q,q1,q2⟩:=p2
      rw[q]
      dsimp only
      split
      ·rename_i s qs
       split
       ·rename_i ps
        have hi2:=(k_.mp qs).1
        exact⟨_,h',_,rfl,q1.put (x:=none) (s:=.no) hi2 (λ_ z=>by cases z) qs ps rfl q2.l2,q2.putN hi2 rfl⟩
       ·trivial
      ·trivial
     |
      bk e2=>
      obtain⟨a_,h',ns',q,q1,q2⟩:=p2
      rw[q]
      dsimp only
      split
      ·rename_i s qs
       split
       ·rename_i ps
        have hi2:=(k_.mp qs).1
        exact⟨_,h',_,rfl,q1.put (x:=none) (s:=.no) hi2 (λ_ z=>by cases z) qs ps rfl q2.l2,q2.putN hi2 rfl⟩
       ·trivial
      ·trivial
     |
      ct e2=>
      obtain⟨a_,h',ns',q,q1,q2⟩:=p2
      rw[q]
      dsimp only
      split
      ·rename_i s qs
       split
       ·rename_i ps
        have hi2:=(k_.mp qs).1
        exact⟨_,h',_,rfl,q1.put (x:=none) (s:=.no) hi2 (λ_ z=>by cases z) qs ps rfl q2.l2,q2.putN hi2 rfl⟩
       ·trivial
      ·trivial
    ·rw[if_neg p0];trivial
  ·rw[if_neg hc,if_neg hc];trivial
noncomputable def jh:Sl->Sl
 |.ow v=>.lo v
 |.mu v=>.lm v
 |s=>s
noncomputable def kj:Sl->Sl
 |.lo v=>.ow v
 |.lm v=>.mu v
 |s=>s
def lock(e:E3)(k:Nat):E3:=match e[k]? with
 |some s=>e.set k (jh s)
 |none=>e
def unlock(e:E3)(k:Nat):E3:=match e[k]? with
 |some s=>e.set k (kj s)
 |none=>e
def lockO(e:E3):Option Nat->E3
 |some k=>lock e k
 |none=>e
def eQ(e:E3):Option Nat->E3
 |some k=>unlock e k
 |none=>e
section
variable{X:Nat->Prop}{h0 L:Nat}{ns ns1 ns':Ns}{e e1 e':E3}{ae a_:AE}{h h1 h':AH}
def SlR.lock(r:SlR P h0 n d h s):SlR P h0 n d h (jh s):=by cases s <;> exact r
def SlR.unlock(r:SlR P h0 n d h s):SlR P h0 n d h (kj s):=by cases s <;> exact r
def Sat.lock(S:Sat X h0 ns e ae h)(k:Nat):Sat X h0 ns (lock e k) ae h:=by
 unfold L3.lock
 split
 ·rename_i s q
  have hi:=(k_.mp q).1
  refine⟨by rw[C_];exact S.l1,by rw[C_];exact S.l2,S.lh,S.xl,S.inj,S.nx,λj s' qj=>?_⟩
  rcases bg hi qj with ⟨rfl,rfl⟩ |⟨z,qj'⟩
  ·exact (S.sl j s q).lock
  ·exact S.sl j s' qj'
 ·exact S
def Sat.unlock(S:Sat X h0 ns e ae h)(k:Nat):Sat X h0 ns (unlock e k) ae h:=by
 unfold L3.unlock
 split
 ·rename_i s q
  have hi:=(k_.mp q).1
  refine⟨by rw[C_];exact S.l1,by rw[C_];exact S.l2,S.lh,S.xl,S.inj,S.nx,λj s' qj=>?_⟩
  rcases bg hi qj with ⟨rfl,rfl⟩ |⟨z,qj'⟩
  ·exact (S.sl j s q).unlock
  ·exact S.sl j s' qj'
 ·exact S
def i4(z:j≠k):(lock e k)[j]?=e[j]?:=by
 unfold lock;split
 ·rw[aY z]
 ·rfl
def fW(z:j≠k):(unlock e k)[j]?=e[j]?:=by
 unfold unlock;split
 ·rw[aY z]
 ·rfl
def mU(q:e[k]?=some s):(lock e k)[k]?=some (jh s):=by
 unfold lock;rw[q];exact bC (k_.mp q).1
def hZ(q:e[k]?=some s):(unlock e k)[k]?=some (kj s):=by
 unfold unlock;rw[q];exact bC (k_.mp q).1
def Stp.unlock(q:e[k]?=some s)(hs:s.mt=true)(a:Stp ns (L3.lock e k) h ns' e' h'):Stp ns e h ns' (L3.unlock e' k) h':=by
 have hl:(jh s).lk=true:=by cases s <;> first |rfl |cases hs
 have hu:kj (jh s)=s:=by cases s <;> first |rfl |cases hs
 obtain⟨qk,nk⟩:=a.lk k _ (mU q) hl
 refine⟨a.len,λm o qm hM=>a.keep m o qm λ⟨j,s',z1,z2,z3⟩=>hM ?_,a.nw,λj s' qj hj=>?_,λj s' qj hj=>?_,λj v qj=>?_,λj v qj=>?_⟩
 ·by_cases z:j=k
  ·subst z;exact⟨j,s,z1,q,hs⟩
  ·rw[i4 z] at z2;exact⟨j,s',z1,z2,z3⟩
 ·have z:j≠k:=λz=>by subst z;rw[q] at qj;cases qj;cases s <;> first |cases hs;done |cases hj;done
  rw[fW z]
  exact a.lk j s' (by rw[i4 z];exact qj) hj
 ·have z:j≠k:=λz=>by
   subst z
   rw[hZ qk,hu] at qj;cases qj;cases s <;> first |cases hs;done |cases hj;done
  rw[fW z] at qj
  obtain⟨y1,y2⟩:=a.lk' j s' qj hj
  rw[i4 z] at y1
  exact⟨y1,y2⟩
 ·by_cases z:j=k
  ·subst z;rw[hZ qk,hu] at qj;cases qj;exact⟨v,q,nk⟩
  ·rw[fW z] at qj
   obtain⟨u,y1,y2⟩:=a.mu j v qj
   rw[i4 z] at y1
   exact⟨u,y1,y2⟩
 ·by_cases z:j=k
  ·subst z;rw[q] at qj;cases qj;exact⟨v,by rw[hZ qk,hu],nk⟩
  ·obtain⟨u,y1,y2⟩:=a.mu' j v (by rw[i4 z];exact qj)
   exact⟨u,by rw[fW z];exact y1,y2⟩
end
abbrev MI3:=E3->R3 (List Val×Option Nat)
def Stay(X:Nat->Prop)(ns:Ns)(k:Option Nat)(h h':AH):Prop:=∀(m:Nat) (o:Ob),h[m]?=some o->(Oc X ns m\/∃j:Nat,k=some j/\ns[j]?=some (some m))->h'[m]?=some o
def rl(X:Nat->Prop)(ns:Ns)(e:E3)(h:AH)(it:AIt)(p:List Val×Option Nat):Prop:=
 Rds (Oc X ns) h it.items p.1/\(∀h',Stay X ns p.2 h h'->it.guard h')/\∀k:Nat,p.2=some k->∃s,e[k]?=some s/\s.mt=true
def RI(I:MI)(J:MI3):Prop:=∀X h0 ns e ae h,Sat X h0 ns e ae h->Po X h0 ns e ae h (rl X) (I ae h) (J e)
noncomputable def g0:Val->Option (List Val)
 |.tup xs=>some xs
 |.lst xs=>some xs
 |_=>none
noncomputable def fj(t:Tm)(e:E3):Option (List Val×Option Nat):=match t with
 |.val v=>(g0 v).map λxs=>(xs,none)
 |.new v=>(g0 v).map λxs=>(xs,none)
 |.bor k=>match e[k]? with
  |some (.sh v)=>(g0 v).map λxs=>(xs,none)
  |some (.ow (.lst xs))=>some (xs,some k)
  |some (.mu (.lst xs))=>some (xs,some k)
  |_=>none
noncomputable def CN(F:ME3):MI3:=λe=>(F e).bind λt e1=>match fj t e1 with
 |some p=>.ok p e1
 |none=>.stuck
noncomputable def CQ(A:MA3):MI3:=λe=>(A e).bind λts e1=>match ts with
 | [t,u]=>(match fj t e1,fj u e1 with
  |some (xs,k),some (ys,none)=>.ok (List.zipWith (λx y=>.tup [x,y]) xs ys,k) e1
  |_,_=>.stuck)
 |_=>.stuck
noncomputable def vx(lo:Int)(k:Nat):List Val:=(List.range k).map λi=>Val.int (lo+(i:Nat))
structure RgB(j:Int):Prop where
 lo:-(2^62)<=j
 hi:j<2^62
def gM:List Val->Option (List Val)
 | [.int j]=>@ite _ (RgB j) (Classical.propDecidable _) (some (vx 0 j.toNat)) none
 |_=>none
def Ai(f:List Val->Option (List Val))(A:MA3):MI3:=λe=>(A e).bind λts e1=>match (rss e1 ts).bind f with
 |some xs=>.ok (xs,none) e1
 |none=>.stuck
section
variable{F:ME}{F3:ME3}{A:MA}{A3:MA3}
def uU(S:Sat X h0 ns e ae h)(r:Rd (Oc X ns) h d v)(q:g0 v=some xs):∃it,gp d h=some it/\rl X ns e h it (xs,none):=by
 cases v with
 |
  tup ys=>
  cases q
  obtain⟨ds,rfl,r2⟩:=ShR.tup (.inl r)
  exact⟨_,rfl,r2,λ_ _=>trivial,λ_ z=>nomatch z⟩
 |
  lst ys=>
  cases q
  cases r with
  |
   cell p eo rc=>
   rename_i n o
   obtain⟨ds,_,e1,r1⟩:=Rc.seq eo rc
   refine⟨.lst n ds,by unfold gp;dsimp only;rw[e1];rfl,r1,λh' st=>?_,λ_ z=>nomatch z⟩
   show aP h' n=some ds
   have:=st n o eo (.inl p)
   unfold aP at e1 ⊢
   rw[eo] at e1
   rw[this];exact e1
 |_=>cases q
def sP(S:Sat X h0 ns e ae h)(r:relE X h0 L ae ns e h d t)(q:fj t e=some p):∃it,gp d h=some it/\rl X ns e h it p:=by
 cases t with
 |val v=>obtain⟨xs,q1,rfl⟩:=D_.mp q;exact uU S r q1
 |new v=>obtain⟨xs,q1,rfl⟩:=D_.mp q;exact uU S r.new q1
 |
  bor k=>
  have r':ae[k]?=some (some d):=r
  have own:∀{s xs},e[k]?=some s->s.mv=some (.lst xs)->∃it,gp d h=some it/\rl X ns e h it (xs,some k):=λ{s xs} q qm=>by
   have hns:∃n,ns[k]?=some (some n)/\ae[k]?=some (some (.ref n)):=by
    have y:=S.sl k s q
    cases s with
    |ow v=>obtain⟨n,o,y1,y2,_⟩:=y;exact⟨n,y1,y2⟩
    |mu v=>obtain⟨n,o,y1,y2,_⟩:=y;exact⟨n,y1,y2⟩
    |_=>cases qm
   obtain⟨n,y1,y2⟩:=hns
   obtain⟨n',o,k1,k2,k3,k4,_⟩:=S.write q qm
   rw[y2] at k1;cases k1
   rw[r'] at y2;cases y2
   obtain⟨ds,_,e2,r2⟩:=Rc.seq k2 k4
   refine⟨.lst n ds,by unfold gp;dsimp only;rw[e2];rfl,r2,λh' st=>?_,λj z=>?_⟩
   ·show aP h' n=some ds
    have:=st n o k2 (.inr ⟨k,rfl,y1⟩)
    unfold aP at e2 ⊢
    rw[k2] at e2
    rw[this];exact e2
   ·cases z;exact⟨s,q,by cases s <;> first |rfl |cases qm⟩
  unfold fj at q
  dsimp only at q
  split at q
  ·rename_i v qs
   obtain⟨_,x,e2,r2⟩:=S.sl k _ qs
   rw[r'] at e2;cases e2
   obtain⟨xs,q1,rfl⟩:=D_.mp q
   exact uU S r2 q1
  ·rename_i xs qs;cases q;exact own qs rfl
  ·rename_i xs qs;cases q;exact own qs rfl
  ·cases q
noncomputable def Bs(d:D)(h:AH):R AIt:=match d with
 |.tup xs=>.ok (.tup xs) h
 |.ref n=>match aP h n with
  |some xs=>.ok (.lst n xs) h
  |none=>.stuck
 |_=>.stuck
def FE(q:gp d h=some it):Bs d h=.ok it h:=by
 cases d with
 |tup xs=>cases q;rfl
 |
  ref n=>
  obtain⟨xs,y1,rfl⟩:=D_.mp (show (aP h n).map (AIt.lst n)=some it from q)
  unfold Bs;dsimp only;rw[y1]
 |_=>cases q
def HP(hF:RE F F3):RI (B7 F) (CN F3):=λX h0 ns e ae h S=>
 Po.bind S (hF X h0 0 ns e ae h S (Oq _)) λd t h1 ns1 e1 a1 S1 r1=>by
  show Po X h0 ns1 e1 ae h1 (rl X) (Bs d h1) _
  cases q:fj t e1 with
  |none=>trivial
  |
   some p=>
   dsimp only
   obtain⟨it,q1,q2⟩:=sP S1 r1 q
   exact⟨it,h1,ns1,FE q1,.refl,S1,q2⟩
def Dj(r:Rds P h ds vs)(q:Rds P h es us):Rds P h (List.zipWith (λx y=>D.tup [x,y]) ds es) (List.zipWith (λx y=>Val.tup [x,y]) vs us):=
 r.ind (M:=λds vs=>∀{es:List D}{us:List Val},Rds P h es us->Rds P h (List.zipWith (λx y=>D.tup [x,y]) ds es) (List.zipWith (λx y=>Val.tup [x,y]) vs us)) (λ_=>.nil) (λr _ ih _ _ q=>by
  cases q with
  |nil=>exact .nil
  |cons q qq=>exact .cons (.tup (.cons r (.cons q .nil))) (ih qq)) q
def tsr1(r:TsR X ns ae h ds [t]):∃d,ds=[d]/\relE X h0 0 ae ns e h d t:=by
 cases r with
 |val r rr=>cases rr;exact⟨_,rfl,r⟩
 |bor r rr=>cases rr;exact⟨_,rfl,r⟩
def tsr2(r:TsR X ns ae h ds [t,u]):∃d d',ds=[d,d']/\relE X h0 0 ae ns e h d t/\relE X h0 0 ae ns e h d' u:=by
 cases r with
 |val r rr=>obtain⟨d',rfl,r'⟩:=tsr1 (h0:=h0) (e:=e) rr;exact⟨_,_,rfl,r,r'⟩
 |bor r rr=>obtain⟨d',rfl,r'⟩:=tsr1 (h0:=h0) (e:=e) rr;exact⟨_,_,rfl,r,r'⟩
def IC(hA:RA A A3):RI (Aa A) (CQ A3):=λX h0 ns e ae h S=>
 Po.bind
  S (hA X h0 ns e ae h S) λds ts h1 ns1 e1 a1 S1 r1=>by
  match ts,r1 with
  | [],_=>trivial
  | [_],_=>trivial
  |_::_::_::_,_=>trivial
  |
   [t,u],r1=>
   obtain⟨d,d',rfl,r2,r3⟩:=tsr2 (h0:=h0) (e:=e1) r1
   dsimp only
   cases q:fj t e1 with
   |none=>trivial
   |
    some p=>
    obtain⟨xs,k⟩:=p
    cases q':fj u e1 with
    |none=>trivial
    |
     some p'=>
     obtain⟨ys,k'⟩:=p'
     cases k' with
     |some _=>trivial
     |
      none=>
      obtain⟨it,q1,q2,q3,q4⟩:=sP S1 r2 q
      obtain⟨it',q1',q2',q3',q4'⟩:=sP S1 r3 q'
      rw[q1,q1']
      exact⟨.zip it it',h1,ns1,rfl,.refl,S1,Dj q2 q2',λh' st=>⟨q3 h' st,q3' h' λm o hm hc=>st m o hm (hc.elim .inl λ⟨_,z,_⟩=>nomatch z)⟩,q4⟩
def EV(lo:Int)(k:Nat):Rds P h (AIt.rng lo k).items (vx lo k):=by
 show Rds P h ((List.range k).map λi=>D.int (lo+(i:Nat))) ((List.range k).map λi=>Val.int (lo+(i:Nat)))
 generalize List.range k=l
 induction l with
 |nil=>exact .nil
 |cons i l ih=>exact .cons (.int _) ih
def dG(r:ShRs P h ds [v]):∃d,ds=[d]/\ShR P h d v:=by
 cases r with |cons r rr=>cases rr;exact⟨_,rfl,r⟩
def vo(r:ShRs P h ds [v,u]):∃d d',ds=[d,d']/\ShR P h d v/\ShR P h d' u:=by
 cases r with |cons r rr=>cases rr with |cons r' rr=>cases rr;exact⟨_,_,rfl,r,r'⟩
def Lw(hf:∀P h ds vs xs,ShRs P h ds vs->f3 vs=some xs->∃lo k,f2 ds h=.ok (.rng lo k) h/\xs=vx lo k)(hA:RA A A3):RI (λae h=>(A ae h).bind f2) (Ai f3 A3):=λX h0 ns e ae h S=>
 Po.bind S (hA X h0 ns e ae h S) λds ts h1 ns1 e1 a1 S1 r1=>by
  try dsimp only
  split
  ·rename_i xs q
   obtain⟨vs,q1,q2⟩:=Oj.mp q
   obtain⟨lo,k,p1,rfl⟩:=hf _ _ _ _ _ (TsR.sh S1 r1 q1) q2
   rw[p1]
   exact Po.ret S1 ⟨EV _ _,λ_ _=>trivial,λ_ z=>nomatch z⟩
  ·trivial
def JQ(hA:RA A A3):RI (B6 A) (Ai gM A3):=Lw (f2:=λds h1=>match ds with
 | [.int j]=>if -(2^62)<=j/\j<2^62 then .ok (.rng 0 j.toNat) h1 else .stuck
 |
  _=>.stuck) (λP h ds vs xs r q=>by
  unfold gM at q
  split at q
  ·split at q
   ·rename_i hb
    cases q
    obtain⟨d,rfl,r2⟩:=dG r
    obtain rfl:=r2.int
    exact⟨_,_,by dsimp only;rw[if_pos ⟨hb.lo,hb.hi⟩],rfl⟩
   ·cases q
  ·cases q) hA
end
def SR3.loop(r:SR3)(f:E3->SR3):SR3:=match r with
 |.nx e=>f e
 |.ct e=>f e
 |.bk e=>.nx e
 |.rt d e=>.rt d e
 |.exc c e=>.exc c e
 |.stuck=>.stuck
noncomputable def dC(g:MG3)(B:MS3):List Val->MS3
 | [],e=>.nx e
 |v::vs,e=>match g v e with
  |some e1=>(B e1).loop (dC g B vs)
  |none=>.stuck
def SR3.unl(k:Option Nat)(r:SR3):SR3:=match r with
 |.nx e=>.nx (eQ e k)
 |.ct e=>.ct (eQ e k)
 |.bk e=>.bk (eQ e k)
 |.rt d e=>.rt d (eQ e k)
 |.exc c e=>.exc c (eQ e k)
 |.stuck=>.stuck
def wFor(I:MI3)(g:MG3)(B:MS3):MS3:=λe=>(I e).toS λp e1=>(dC g B p.1 (lockO e1 p.2)).unl p.2
section
variable{I:MI}{I3:MI3}{g:MG}{g3:MG3}{B:MS}{B3:MS3}{c:MT}{c3:MT3}{F:ME}{F3:ME3}
def PoS.loop{X:Nat->Prop}{h0:Nat}{ns:Ns}{e:E3}{ae:AE}{h:AH}{r2:SR}{r3:SR3}{f2:AE->AH->SR}{f3:E3->SR3}(p:PoS X h0 ns e h r2 r3)
 (k:∀a_ h' ns' e',Stp ns e h ns' e' h'->Sat X h0 ns' e' a_ h'->PoS X h0 ns e h (f2 a_ h') (f3 e')):PoS X h0 ns e h (r2.loop f2) (r3.loop f3):=by
 cases r3 with
 |stuck=>trivial
 |nx e'=>obtain⟨a_,h',ns',q,q1,q2⟩:=p;rw[q];exact k a_ h' ns' e' q1 q2
 |ct e'=>obtain⟨a_,h',ns',q,q1,q2⟩:=p;rw[q];exact k a_ h' ns' e' q1 q2
 |bk e'=>obtain⟨a_,h',ns',q,q1,q2⟩:=p;rw[q];exact⟨a_,h',ns',rfl,q1,q2⟩
 |exc c e'=>obtain⟨a_,h',ns',q,q1,q2⟩:=p;rw[q];exact⟨a_,h',ns',rfl,q1,q2⟩
 |rt r e'=>obtain⟨d,a_,h',ns',q,q1,q2⟩:=p;rw[q];exact⟨d,a_,h',ns',rfl,q1,q2⟩
def Fm(S:Sat X h0 ns e ae h)(hk:∀j:Nat,k=some j->∃s,e[j]?=some s/\s.mt=true)(a:Stp ns (lockO e k) h ns' e' h'):Stay X ns k h h':=λm o q hm=>by
 refine a.keep m o q λ⟨i,s,z1,z2,z3⟩=>?_
 rcases hm with hm |⟨j,rfl,hj⟩
 ·exact hm.2 (aU.mpr ⟨i,z1⟩)
 ·have:i=j:=S.inj i j m z1 hj
  subst this
  obtain⟨s',y1,y2⟩:=hk i rfl
  have:(lockO e (some i))[i]?=some (jh s'):=mU y1
  rw[this] at z2;cases z2
  cases s' <;> first |cases y2;done |cases z3;done
def PoS.unl(hk:∀j:Nat,k=some j->∃s,e[j]?=some s/\s.mt=true)(p:PoS X h0 ns (lockO e k) h r2 r3):PoS X h0 ns e h r2 (r3.unl k):=by
 cases k with
 |none=>cases r3 <;> exact p
 |
  some j=>
  obtain⟨s,y1,y2⟩:=hk j rfl
  cases r3 with
  |stuck=>trivial
  |nx e'=>obtain⟨a_,h',ns',q,q1,q2⟩:=p;exact⟨a_,h',ns',q,q1.unlock y1 y2,q2.unlock j⟩
  |ct e'=>obtain⟨a_,h',ns',q,q1,q2⟩:=p;exact⟨a_,h',ns',q,q1.unlock y1 y2,q2.unlock j⟩
  |bk e'=>obtain⟨a_,h',ns',q,q1,q2⟩:=p;exact⟨a_,h',ns',q,q1.unlock y1 y2,q2.unlock j⟩
  |exc c e'=>obtain⟨a_,h',ns',q,q1,q2⟩:=p;exact⟨a_,h',ns',q,q1.unlock y1 y2,q2.unlock j⟩
  |
   rt r e'=>
   obtain⟨d,a_,h',ns',q,q1,q2⟩:=p
   refine⟨d,a_,h',ns',q,q1.unlock y1 y2,?_⟩
   cases r with
   |val v=>exact⟨q2.1.unlock j,q2.2⟩
   |new v=>obtain⟨n,o,z1,z2,z3,z4,z5,z6,z7⟩:=q2;exact⟨n,o,z1,z2,z3,z4,z5,z6.unlock j,z7⟩
   |
    par i=>
    obtain⟨z1,z2,v,z3⟩:=q2
    refine⟨z1.unlock j,z2,v,?_⟩
    by_cases z:i=j
    ·subst z;exact hZ z3
    ·exact (fW z).trans z3
def Sat.lockO(S:Sat X h0 ns e ae h)(k:Option Nat):Sat X h0 ns (lockO e k) ae h:=by
 cases k with
 |none=>exact S
 |some k=>exact S.lock k
def DD{X:Nat->Prop}{h0:Nat}{ns:Ns}{e:E3}{ae:AE}{h:AH}{G:AH->Prop}(S:Sat X h0 ns e ae h)(hg:RG g g3)(hB:RS B B3)(hG:∀ns' e' h',Stp ns e h ns' e' h'->G h'):
 ∀{ds:List D}{vs:List Val},Rds (Oc X ns) h ds vs->∀{ns1:Ns}{e1:E3}{ae1:AE}{h1:AH},Stp ns e h ns1 e1 h1->Sat X h0 ns1 e1 ae1 h1->PoS X h0 ns e h (fE G g B ds ae1 h1) (dC g3 B3 vs e1):=by
 intro ds
 induction ds with
 |
  nil=>
  intro vs r ns1 e1 ae1 h1 a1 S1
  cases r
  unfold fE
  rw[if_pos (hG _ _ _ a1)]
  exact .nx a1 S1
 |
  cons d0 ds ih=>
  intro vs r ns1 e1 ae1 h1 a1 S1
  cases r with
  |
   cons r rr=>
   unfold fE dC
   rw[if_pos (hG _ _ _ a1)]
   split
   ·rename_i e2 q
    obtain⟨ae2,e_,p2,S2,a2⟩:=hg _ _ _ _ _ _ _ _ _ S1 (r.mono (a1.mov S)) q
    rw[p2]
    have a12:=a1.trans S a2
    show PoS X h0 ns e h ((B ae2 h1).loop _) _
    refine PoS.loop (ae:=ae) (PoS.after S a12 (hB X h0 e_ e2 ae2 h1 S2)) λae3 h3 ns3 e3 a3 S3=>ih rr a3 S3
   ·trivial
def GV(hI:RI I I3)(hg:RG g g3)(hB:RS B B3):RS (nj I g B) (wFor I3 g3 B3):=λX h0 ns e ae h S=>PoS.toS (hI X h0 ns e ae h S) λit p h1 ns1 e1 a1 S1 r1=>by
 obtain⟨r2,gd,hk⟩:=r1
 refine PoS.after S a1 (PoS.unl hk ?_)
 have S2:=S1.lockO p.2
 exact DD S2 hg hB (λns' e' h' a=>gd h' (Fm S1 hk a)) r2 .refl S2
noncomputable def whV(c:MT3)(B:MS3):Nat->MS3
 |0,_=>.stuck
 |k+1,e=>(c e).toS λb e1=>if b=true then (B e1).loop (whV c B k) else .nx e1
open Classical in
def wWh(c:MT3)(B:MS3):MS3:=λe=>if q:∃k,whV c B k e ≠ .stuck then whV c B q.choose e else .stuck
theorem lu{c:MT3}{B:MS3}:∀{k:Nat}{e:E3},whV c B k e ≠ .stuck->whV c B (k+1) e=whV c B k e
 |0,_,q=>absurd rfl q
 |
  k+1,e,q=>by
  have e1:whV c B (k+2) e=(c e).toS λb e1=>if b=true then (B e1).loop (whV c B (k+1)) else .nx e1:=rfl
  have e2:whV c B (k+1) e=(c e).toS λb e1=>if b=true then (B e1).loop (whV c B k) else .nx e1:=rfl
  rw[e2] at q
  rw[e1,e2]
  cases r:c e with
  |exc _ _=>rfl
  |stuck=>rfl
  |
   ok b h1=>
   rw[r] at q
   cases b with
   |false=>rfl
   |
    true=>
    have q':(B h1).loop (whV c B k) ≠ .stuck:=q
    show (B h1).loop (whV c B (k+1))=(B h1).loop (whV c B k)
    cases s:B h1 with
    |nx a2=>rw[s] at q';exact lu q'
    |ct a2=>rw[s] at q';exact lu q'
    |_=>rfl
def wM{c:MT3}{B:MS3}{k j:Nat}{e:E3}(q:whV c B k e ≠ .stuck)(hj:k<=j):whV c B j e=whV c B k e:=by
 induction hj with
 |refl=>rfl
 |step _ ih=>rw[lu (by rw[ih];exact q),ih]
def mQ{c:MT3}{B:MS3}{k:Nat}{e:E3}(q:whV c B k e ≠ .stuck):wWh c B e=whV c B k e:=by
 have hq:∃k,whV c B k e ≠ .stuck:=⟨k,q⟩
 unfold wWh
 rw[dif_pos hq]
 rcases Nat.le_total hq.choose k with z |z
 ·exact (wM hq.choose_spec z).symm
 ·exact wM q z
def B5(c:MT3)(B:MS3)(e:E3):wWh c B e=(c e).toS λb e1=>if b=true then (B e1).loop (wWh c B) else .nx e1:=by
 by_cases q:∃k,whV c B k e ≠ .stuck
 ·obtain⟨k,q⟩:=q
  rw[mQ q]
  cases k with
  |zero=>exact absurd rfl q
  |
   succ k=>
   have e2:whV c B (k+1) e=(c e).toS λb e1=>if b=true then (B e1).loop (whV c B k) else .nx e1:=rfl
   rw[e2] at q ⊢
   cases r:c e with
   |exc _ _=>rfl
   |stuck=>rfl
   |
    ok b h1=>
    rw[r] at q
    cases b with
    |false=>rfl
    |
     true=>
     have q':(B h1).loop (whV c B k) ≠ .stuck:=q
     show (B h1).loop (whV c B k)=(B h1).loop (wWh c B)
     cases s:B h1 with
     |nx a2=>rw[s] at q';exact (mQ q').symm
     |ct a2=>rw[s] at q';exact (mQ q').symm
     |_=>rfl
 ·have e0:wWh c B e=.stuck:=by unfold wWh;rw[dif_neg q]
  rw[e0]
  have hs:∀k,whV c B (k+1) e=.stuck:=λk=>Qb λz=>q ⟨_,z⟩
  cases r:c e with
  |stuck=>rfl
  |
   exc c' h'=>
   have:=hs 0
   unfold whV at this
   rw[r] at this
   cases this
  |
   ok b h1=>
   cases b with
   |
    false=>
    have:=hs 0
    unfold whV at this
    rw[r] at this
    cases this
   |
    true=>
    have h2:∀k,(B h1).loop (whV c B k)=.stuck:=λk=>by
     have:=hs k
     unfold whV at this
     rw[r] at this
     exact this
    show SR3.stuck=(B h1).loop (wWh c B)
    have lim:∀a2,(∀k,whV c B k a2=.stuck)->wWh c B a2=.stuck:=λa2 z=>by
     unfold wWh
     rw[dif_neg (λ⟨k,y⟩=>y (z k))]
    cases s:B h1 with
    |nx a2=>rw[s] at h2;exact (lim a2 h2).symm
    |ct a2=>rw[s] at h2;exact (lim a2 h2).symm
    |stuck=>rfl
    |_=>have:=h2 0;rw[s] at this;cases this
def Jo(p:PoS X h0 ns e h r2 r3)(q:r3 ≠ .stuck):r2 ≠ .stuck:=by
 cases r3 with
 |stuck=>exact absurd rfl q
 |nx e'=>obtain⟨a_,h',ns',z,_⟩:=p;rw[z];intro y;cases y
 |ct e'=>obtain⟨a_,h',ns',z,_⟩:=p;rw[z];intro y;cases y
 |bk e'=>obtain⟨a_,h',ns',z,_⟩:=p;rw[z];intro y;cases y
 |exc c e'=>obtain⟨a_,h',ns',z,_⟩:=p;rw[z];intro y;cases y
 |rt r e'=>obtain⟨d,a_,h',ns',z,_⟩:=p;rw[z];intro y;cases y
theorem wZ(hc:RT c c3)(hB:RS B B3):∀(k:Nat) (X:Nat->Prop) (h0:Nat) (ns:Ns) (e:E3) (ae:AE) (h:AH),Sat X h0 ns e ae h->PoS X h0 ns e h (whN c B k ae h) (whV c3 B3 k e)
 |0,_,_,_,_,_,_,_=>trivial
 |
  k+1,X,h0,ns,e,ae,h,S=>by
  refine PoS.toS (hc X h0 ns e ae h S) λb b' h1 ns1 e1 a1 S1 r1=>?_
  cases r1
  try dsimp only
  split
  ·exact PoS.after S a1 (PoS.loop (ae:=ae) (hB X h0 ns1 e1 ae h1 S1) λae2 h2 e_ e2 a2 S2=>PoS.after S1 a2 (wZ hc hB k X h0 e_ e2 ae2 h2 S2))
  ·exact .nx a1 S1
def Mz(hc:RT c c3)(hB:RS B B3):RS (sWh c B) (wWh c3 B3):=λX h0 ns e ae h S=>by
 by_cases q:∃k,whV c3 B3 k e ≠ .stuck
 ·obtain⟨k,q⟩:=q
  rw[mQ q]
  have p:=wZ hc hB k X h0 ns e ae h S
  rw[xj (Jo p q)]
  exact p
 ·unfold wWh;rw[dif_neg q];trivial
end
def fJ(o:Option Nat)(s:Sl)(e:E3):E3:=match o,s with
 |some i,.mu v=>(match e[i]? with
  |some t=>e.set i (t.re v)
  |none=>e)
 |_,_=>e
def ba:List (Option Nat)->E3->E3->E3
 |o::sub,s::inner,e=>ba sub inner (fJ o s e)
 |_,_,e=>e
def uB(hn:∀v,o=some i->s=.mu v->False):(fJ o s e)[i]?=e[i]?:=by
 unfold fJ
 split
 ·rename_i i' v
  split
  ·rename_i t q
   by_cases z:i=i'
   ·subst z;exact (hn v rfl rfl).elim
   ·rw[aY z]
  ·rfl
 ·rfl
theorem nE:∀{sub:Rh}{e2 e:E3}{i:Nat},(∀(j:Nat) v,sub[j]?=some (some i)->e2[j]?=some (.mu v)->False)->(ba sub e2 e)[i]?=e[i]?
 | [],_,_,_,_=>rfl
 |_::_,[],_,_,_=>rfl
 |
  o::sub,s::e2,e,i,hn=>by
  show (ba sub e2 (fJ o s e))[i]?=_
  rw[nE (λj v q1 q2=>hn (j+1) v (by simpa using q1) (by simpa using q2))]
  exact uB λv z1 z2=>hn 0 v (by rw[z1];rfl) (by rw[z2];rfl)
theorem tT:∀{sub:Rh}{e2 e:E3}{i j:Nat}{v:Val},(∀(j k:Nat) i,sub[j]?=some (some i)->sub[k]?=some (some i)->j=k)->sub[j]?=some (some i)->e2[j]?=some (.mu v)->(ba sub e2 e)[i]?=(e[i]?).map (Sl.re · v)
 | [],_,_,_,j,_,_,q,_=>by simp at q
 |_::_,[],_,_,j,_,_,_,q=>by simp at q
 |
  o::sub,s::e2,e,i,0,v,hj,q1,q2=>by
  have z1:o=some i:=by simpa using q1
  have z2:s=.mu v:=by simpa using q2
  subst z1 z2
  show (ba sub e2 (fJ (some i) (.mu v) e))[i]?=_
  rw[nE (λk u y1 _=>by have:=hj 0 (k+1) i rfl (by simpa using y1);omega)]
  unfold fJ
  dsimp only
  split
  ·rename_i t q;rw[bC (k_.mp q).1,q];rfl
  ·rename_i q;rw[q];rfl
 |
  o::sub,s::e2,e,i,j+1,v,hj,q1,q2=>by
  show (ba sub e2 (fJ o s e))[i]?=_
  have q1':sub[j]?=some (some i):=by simpa using q1
  rw[tT (λa b c y1 y2=>by have:=hj (a+1) (b+1) c (by simpa using y1) (by simpa using y2);omega) q1' (by simpa using q2)]
  rw[uB λv z1 _=>by have:=hj 0 (j+1) i (by rw[z1];rfl) q1;omega]
noncomputable def bY(sub:Rh)(ns:Ns):Ns:=sub.map λo=>o.bind λi=>(ns[i]?).bind id
def cD{sub:Rh}{ns:Ns}{j n:Nat}(q:(bY sub ns)[j]?=some (some n)):∃i,sub[j]?=some (some i)/\ns[i]?=some (some n):=by
 unfold bY at q
 rw[E_] at q
 cases z:sub[j]? with
 |none=>rw[z] at q;cases q
 |
  some o=>
  rw[z] at q
  cases o with
  |none=>cases q
  |
   some i=>
   refine⟨i,rfl,?_⟩
   have q':(ns[i]?).bind id=some n:=G_ q
   cases y:ns[i]? with
   |none=>rw[y] at q';cases q'
   |some w=>rw[y] at q';have:w=some n:=q';rw[this]
def E8{sub:Rh}{ns:Ns}{j i:Nat}{w:Option Nat}(q:sub[j]?=some (some i))(q2:ns[i]?=some w):(bY sub ns)[j]?=some w:=by
 unfold bY
 rw[E_,q]
 show some ((ns[i]?).bind id)=some w
 rw[q2];rfl
structure Lnk(sub:Rh)(e ei:E3):Prop where
 inj:∀(j k:Nat) (i:Nat),sub[j]?=some (some i)->sub[k]?=some (some i)->j=k
 mu:∀(j:Nat) (v:Val),ei[j]?=some (.mu v)->∃(i:Nat) (s:Sl),sub[j]?=some (some i)/\e[i]?=some s/\s.mt=true
 mt:∀(j:Nat) (s:Sl),ei[j]?=some s->s.mt=true->∃v,s=.mu v
def Sat.back(S:Sat X h0 ns e ae h)(K:Lnk sub e ei)(a:Stp (bY sub ns) ei h e_ e2 h2)
 (hY:∀n,Y n->n<h2.length/\(X n\/h.length<=n)) (hXY:∀n,X n->Y n)
 (hc:∀(j:Nat) v n,e2[j]?=some (.mu v)->e_[j]?=some (some n)->∃o,h2[n]?=some o/\bQ o/\Rc (Oc Y ns) h2 o v):Sat Y h0 ns (ba sub e2 e) ae h2/\Stp ns e h ns (ba sub e2 e) h2:=by
 have hM:∀n,Mt (bY sub ns) ei n->Mt ns e n:=λn ⟨j,s,z1,z2,z3⟩=>by
  obtain⟨v,rfl⟩:=K.mt j s z2 z3
  obtain⟨i,s',y1,y2,y3⟩:=K.mu j v z2
  obtain⟨i',y4,y5⟩:=cD z1
  rw[y1] at y4;cases y4
  exact⟨i,s',y5,y2,y3⟩
 have mv:Mov (Oc X ns) (Oc Y ns) h h2:=λn o p q=>⟨⟨λz=>by
  rcases (hY n z).2 with z |z
  ·exact p.1 z
  ·have:=bH q;omega,p.2⟩,a.keep n o q λz=>by
   obtain⟨j,s,z1,_⟩:=z
   obtain⟨i,_,y⟩:=cD z1
   exact p.2 (aU.mpr ⟨i,y⟩)⟩
 have key:∀i:Nat,(∃(j:Nat) (v:Val) (s:Sl),sub[j]?=some (some i)/\e2[j]?=some (.mu v)/\e[i]?=some s/\s.mt=true/\(ba sub e2 e)[i]?=some (s.re v)/\e_[j]?=ns[i]?)\/((∀n,ns[i]?=some (some n)->¬ Mt (bY sub ns) ei n)/\(ba sub e2 e)[i]?=e[i]?):=λi=>by
  by_cases hx:∃(j:Nat) (v:Val),sub[j]?=some (some i)/\e2[j]?=some (.mu v)
  ·obtain⟨j,v,q1,q2⟩:=hx
   obtain⟨u,q3,q4⟩:=a.mu j v q2
   obtain⟨i',s,y1,y2,y3⟩:=K.mu j u q3
   rw[q1] at y1;cases y1
   refine .inl ⟨j,v,s,q1,q2,y2,y3,by rw[tT K.inj q1 q2,y2];rfl,?_⟩
   rw[q4]
   have hl:i<ns.length:=by rw[S.l2];exact (k_.mp y2).1
   rw[z_ hl]
   exact E8 q1 (z_ hl)
  ·refine .inr ⟨λn q ⟨j,s,z1,z2,z3⟩=>hx ?_,nE λj v y1 y2=>hx ⟨j,v,y1,y2⟩⟩
   obtain⟨v,rfl⟩:=K.mt j s z2 z3
   obtain⟨i',y4,y5⟩:=cD z1
   have:i'=i:=S.inj i' i n y5 q
   subst this
   obtain⟨v',y6,_⟩:=a.mu' j v z2
   exact⟨j,v',y4,y6⟩
 have lenB:(ba sub e2 e).length=e.length:=by
  clear key hc a K S hY hXY hM mv
  induction sub generalizing e2 e with
  |nil=>rfl
  |
   cons o sub ih=>
   cases e2 with
   |nil=>rfl
   |
    cons s e2=>
    show (ba sub e2 (fJ o s e)).length=_
    rw[ih]
    unfold fJ
    split
    ·split
     ·rw[C_]
     ·rfl
    ·rfl
 refine⟨⟨by rw[lenB];exact S.l1,by rw[lenB];exact S.l2,y_ S.lh a.len,λn z=>(hY n z).1,S.inj,λi n q z=>?_,λi s q=>?_⟩,⟨a.len,λm o q hm=>a.keep m o q λz=>hm (hM m z),λ_ _ q=>.inl q,λi s q hl=>?_,λi s q hl=>?_,λi v q=>?_,λi v q=>?_⟩⟩
 ·rcases (hY n z).2 with z |z
  ·exact S.nx i n q z
  ·obtain⟨_,_,_,_,_,_,_,q',_⟩:=S.own q
   have:=bH q';omega
 ·rcases key i with ⟨j,v,s0,k1,k2,k3,k4,k5,k6⟩ |⟨k1,k2⟩
  ·rw[k5] at q;cases q
   have y:=S.sl i s0 k3
   cases s0 with
   |
    ow u=>
    obtain⟨n,o,y1,y2,y3,_⟩:=y
    obtain⟨o',z1,z2,z3⟩:=hc j v n k2 (by rw[k6];exact y1)
    exact⟨n,o',y1,y2,y3,z1,z2,z3⟩
   |
    mu u=>
    obtain⟨n,o,y1,y2,_⟩:=y
    obtain⟨o',z1,z2,z3⟩:=hc j v n k2 (by rw[k6];exact y1)
    exact⟨n,o',y1,y2,z1,z2,z3⟩
   |_=>cases k4
  ·rw[k2] at q
   exact (S.sl i s q).mono mv λn o q1 q2=>a.keep n o q2 (k1 n q1)
 ·rcases key i with ⟨j,v,s0,k1,k2,k3,k4,k5,k6⟩ |⟨k1,k2⟩
  ·rw[k3] at q;cases q;cases s <;> first |cases hl;done |cases k4;done
  ·rw[k2];exact⟨q,rfl⟩
 ·rcases key i with ⟨j,v,s0,k1,k2,k3,k4,k5,k6⟩ |⟨k1,k2⟩
  ·rw[k5] at q;cases q;cases s0 <;> first |cases hl;done |cases k4;done
  ·rw[k2] at q;exact⟨q,rfl⟩
 ·rcases key i with ⟨j,u,s0,k1,k2,k3,k4,k5,k6⟩ |⟨k1,k2⟩
  ·rw[k5] at q
   cases s0 with
   |mu w=>exact⟨w,k3,rfl⟩
   |ow w=>cases q
   |_=>cases k4
  ·rw[k2] at q;exact⟨v,q,rfl⟩
 ·rcases key i with ⟨j,u,s0,k1,k2,k3,k4,k5,k6⟩ |⟨k1,k2⟩
  ·rw[k3] at q;cases q;exact⟨u,k5,rfl⟩
  ·exact⟨v,by rw[k2];exact q,rfl⟩
noncomputable def inS:Sl->Sl
 |.ow v=>.mu v
 |.lo v=>.lm v
 |s=>s
def cx(sub:Rh)(e:E3):E3:=sub.map λo=>match o with
 |none=>.no
 |some i=>match e[i]? with
  |some s=>inS s
  |none=>.no
noncomputable def lcV(g:MG3)(c:MT3)(F:ME3):List Val->List Val->E3->R3 (List Val)
 | [],acc,e=>.ok acc e
 |v::vs,acc,e=>if acc.length<16777216 then (match g v e with
  |none=>.stuck
  |some e1=>(c e1).bind λb e2=>if b=true then (F e2).bind λt e3=>(match cH e3 t with
   |some (e4,y)=>lcV g c F vs (acc++[y]) e4
   |none=>.stuck) else lcV g c F vs acc e2) else .stuck
def vLC(I:MI3)(sub:Rh)(g:MG3)(c:MT3)(F:ME3):ME3:=λe=>(I e).bind λp e1=>match lcV g c F p.1 [] (cx sub (lockO e1 p.2)) with
 |.ok ys e2=>if ys.length<=16777216 then .ok (.new (.lst ys)) (eQ (ba sub e2 (lockO e1 p.2)) p.2) else .stuck
 |_=>.stuck
def mP(sub:Rh):Prop:=∀(j k:Nat) (i:Nat),sub[j]?=some (some i)->sub[k]?=some (some i)->j=k
def xI(h:(sub.filterMap id).Nodup):mP sub:=by
 induction sub with
 |nil=>intro j k i q;simp at q
 |
  cons o sub ih=>
  have d_:(sub.filterMap id).Nodup:=by
   cases o with
   |none=>simpa using h
   |some i=>rw[Pa] at h;simp at h;exact h.2
  have hno:∀(i k:Nat),o=some i->sub[k]?=some (some i)->False:=λi k z q=>by
   subst z
   rw[Pa] at h
   simp at h
   exact h.1 (ON q)
  intro j k i q1 q2
  cases j with
  |
   zero=>
   cases k with
   |zero=>rfl
   |succ k=>exact (hno i k (by simpa using q1) (by simpa using q2)).elim
  |
   succ j=>
   cases k with
   |zero=>exact (hno i j (by simpa using q2) (by simpa using q1)).elim
   |succ k=>exact OI (· + 1) (ih d_ j k i (by simpa using q1) (by simpa using q2))
def Xin(X:Nat->Prop)(ns:Ns)(sub:Rh)(n:Nat):Prop:=X n\/(some n∈ns/\some n∉bY sub ns)
def lN(q:some n∈bY sub ns):some n∈ns:=by
 obtain⟨j,q⟩:=aU.mp q
 obtain⟨i,_,q2⟩:=cD q
 exact aU.mpr ⟨i,q2⟩
def jj{sub:Rh}{e:E3}{j:Nat}{s:Sl}(q:(cx sub e)[j]?=some s):(sub[j]?=some none/\s=.no)\/(∃i,sub[j]?=some (some i)/\((e[i]?=none/\s=.no)\/∃t,e[i]?=some t/\s=inS t)):=by
 unfold cx at q
 rw[E_] at q
 cases z:sub[j]? with
 |none=>rw[z] at q;cases q
 |
  some o=>
  rw[z] at q
  cases o with
  |none=>cases q;exact .inl ⟨rfl,rfl⟩
  |
   some i=>
   refine .inr ⟨i,rfl,?_⟩
   have q':=G_ q
   dsimp only at q'
   cases y:e[i]? with
   |none=>rw[y] at q';exact .inl ⟨rfl,q'.symm⟩
   |some t=>rw[y] at q';exact .inr ⟨t,rfl,q'.symm⟩
def Sat.inner(S:Sat X h0 ns e ae h)(hs:mP sub):Sat (Xin X ns sub) h0 (bY sub ns) (cx sub e) (jo sub ae) h:=by
 refine⟨by unfold jo cx;rw[j_,j_],by unfold bY cx;rw[j_,j_],S.lh,λn z=>?_,λj k n q1 q2=>?_,λj n q z=>?_,λj s q=>?_⟩
 ·rcases z with z |⟨z,_⟩
  ·exact S.xl n z
  ·obtain⟨i,z⟩:=aU.mp z
   obtain⟨_,_,_,_,_,_,_,q',_⟩:=S.own z
   exact bH q'
 ·obtain⟨i,y1,y2⟩:=cD q1
  obtain⟨i',y3,y4⟩:=cD q2
  have:=S.inj i i' n y2 y4
  subst this
  exact hs j k i y1 y3
 ·rcases z with z |⟨_,z⟩
  ·obtain⟨i,y1,y2⟩:=cD q
   exact S.nx i n y2 z
  ·exact z (aU.mpr ⟨j,q⟩)
 ·have mv:Mov (Oc X ns) (Oc (Xin X ns sub) (bY sub ns)) h h:=λn o p q=>⟨⟨λz=>by
   rcases z with z |⟨z,_⟩
   ·exact p.1 z
   ·exact p.2 z,λz=>p.2 (lN z)⟩,q⟩
  have hj:∀{o},sub[j]?=some o->(bY sub ns)[j]?=some (o.bind λi=>(ns[i]?).bind id)/\(jo sub ae)[j]?=some (o.bind λi=>(ae[i]?).bind id):=λ{o} z=>by
   unfold bY jo
   rw[E_,E_,z]
   exact⟨rfl,rfl⟩
  rcases jj q with ⟨z,rfl⟩ |⟨i,z,⟨y,rfl⟩ |⟨t,y,rfl⟩⟩
  ·rw[(hj z).1];rfl
  ·rw[(hj z).1]
   show some ((ns[i]?).bind id)=some none
   have:ns[i]?=none:=by
    rw[O5] at y ⊢
    rw[S.l2];exact y
   rw[this];rfl
  ·have k:=(S.sl i t y).mono mv λ_ _ _ q=>q
   rw[(hj z).1,(hj z).2]
   show SlR _ h0 (some ((ns[i]?).bind id)) (some ((ae[i]?).bind id)) h (inS t)
   have w1:∀x,ns[i]?=some x->some ((ns[i]?).bind id)=some x:=λx q=>by rw[q];rfl
   have w2:∀x,ae[i]?=some x->some ((ae[i]?).bind id)=some x:=λx q=>by rw[q];rfl
   cases t with
   |no=>rw[w1 _ k];rfl
   |sh v=>obtain⟨k1,x,k2,k3⟩:=k;rw[w1 _ k1,w2 _ k2];exact⟨rfl,x,rfl,k3⟩
   |ow v=>obtain⟨m,o,k1,k2,_,k3⟩:=k;rw[w1 _ k1,w2 _ k2];exact⟨m,o,rfl,rfl,k3⟩
   |lo v=>obtain⟨m,o,k1,k2,_,k3⟩:=k;rw[w1 _ k1,w2 _ k2];exact⟨m,o,rfl,rfl,k3⟩
   |mu v=>obtain⟨m,o,k1,k2,k3⟩:=k;rw[w1 _ k1,w2 _ k2];exact⟨m,o,rfl,rfl,k3⟩
   |lm v=>obtain⟨m,o,k1,k2,k3⟩:=k;rw[w1 _ k1,w2 _ k2];exact⟨m,o,rfl,rfl,k3⟩
def tX(hs:mP sub):Lnk sub e (cx sub e):=by
 refine⟨hs,λj v q=>?_,λj s q hm=>?_⟩
 ·rcases jj q with ⟨_,z⟩ |⟨i,z,⟨_,y⟩ |⟨t,y,y2⟩⟩
  ·cases z
  ·cases y
  ·refine⟨i,t,z,y,?_⟩
   cases t <;> first |rfl |cases y2
 ·rcases jj q with ⟨_,z⟩ |⟨i,z,⟨_,y⟩ |⟨t,y,y2⟩⟩
  ·subst z;cases hm
  ·subst y;cases hm
  ·subst y2
   cases t with
   |ow v=>exact⟨v,rfl⟩
   |mu v=>exact⟨v,rfl⟩
   |_=>cases hm
section
variable{I:MI}{I3:MI3}{g:MG}{g3:MG3}{c:MT}{c3:MT3}{F:ME}{F3:ME3}
def Iy(S:Sat X h0 ns e ae h)(hg:RG g g3)(hc:RT c c3)(hF:RE F F3)(hG:∀ns' e' h',Stp ns e h ns' e' h'->G h'):
 ∀
  {ds:List D}{vs:List Val},Rds (Oc X ns) h ds vs->∀{acc:List D}{accv:List Val}{ns1:Ns}{e1:E3}{ae1:AE}{h1:AH},Stp ns e h ns1 e1 h1->Sat X h0 ns1 e1 ae1 h1->Rds (Oc X ns1) h1 acc accv->lcV g3 c3 F3 vs accv e1=.ok ys e2->
  ∃dy h2 e_ ae2,lcL G g c F ds acc ae1 h1=.ok dy h2/\Stp ns e h e_ e2 h2/\Sat X h0 e_ e2 ae2 h2/\Rds (Oc X e_) h2 dy ys:=by
 intro ds
 induction ds with
 |
  nil=>
  intro vs r acc accv ns1 e1 ae1 h1 a1 S1 ra q
  cases r
  unfold lcL
  rw[if_pos (hG _ _ _ a1)]
  cases q
  exact⟨acc,h1,ns1,ae1,rfl,a1,S1,ra⟩
 |
  cons d0 ds ih=>
  intro vs r acc accv ns1 e1 ae1 h1 a1 S1 ra q
  cases r with
  |
   cons r rr=>
   rename_i v vs
   unfold lcV at q
   unfold lcL
   by_cases hl:accv.length<16777216
   ·rw[if_pos hl] at q
    rw[if_pos ⟨hG _ _ _ a1,by rw[ra.len];exact hl⟩]
    cases q1:g3 v e1 with
    |none=>rw[q1] at q;cases q
    |
     some e3=>
     rw[q1] at q
     dsimp only at q
     obtain⟨ae3,ns3,p3,S3,a3⟩:=hg _ _ _ _ _ _ _ _ _ S1 (r.mono (a1.mov S)) q1
     rw[p3,fu]
     have a13:=a1.trans S a3
     have pc:=hc X h0 ns3 e3 ae3 h1 S3
     cases q4:c3 e3 with
     |stuck=>rw[q4] at q;cases q
     |exc _ _=>rw[q4] at q;cases q
     |
      ok b e4=>
      rw[q4] at q pc
      obtain⟨b',h4,ns4,p4,a4,S4,rfl⟩:=pc
      rw[p4,fu]
      have a14:=a13.trans S a4
      have ra4:=(ra.mono (a3.mov S1)).mono (a4.mov S3)
      have q':(if b'=true then (F3 e4).bind λt e3=>(match cH e3 t with
       |some (e4,y)=>lcV g3 c3 F3 _ (accv++[y]) e4
       |none=>.stuck) else lcV g3 c3 F3 _ accv e4)=.ok ys e2:=q
      by_cases hb:b'=true
      ·rw[if_pos hb] at q' ⊢
       have pF:=hF X h0 0 ns4 e4 ae3 h4 S4 (Oq _)
       cases q5:F3 e4 with
       |stuck=>rw[q5] at q';cases q'
       |exc _ _=>rw[q5] at q';cases q'
       |
        ok t e5=>
        rw[q5] at q' pF
        obtain⟨d5,h5,ns5,p5,a5,S5,r5⟩:=pF
        rw[p5,fu]
        have q'':(match cH e5 t with
         |some (e4,y)=>lcV g3 c3 F3 _ (accv++[y]) e4
         |none=>.stuck)=.ok ys e2:=q'
        cases q6:cH e5 t with
        |none=>rw[q6] at q'';cases q''
        |
         some w=>
         obtain⟨e6,y⟩:=w
         rw[q6] at q''
         obtain⟨ns6,S6,a6,r6⟩:=fI S5 r5 q6
         exact ih rr ((a14.trans S a5).trans S a6) S6 (((ra4.mono (a5.mov S4)).mono (a6.mov S5)).append (.cons r6 .nil)) q''
      ·rw[if_neg hb] at q' ⊢
       exact ih rr a14 S4 ra4 q'
   ·rw[if_neg hl] at q;cases q
def LU(hs:(sub.filterMap id).Nodup)(hI:RI I I3)(hg:RG g g3)(hc:RT c c3)(hF:RE F F3):RE (eLC I sub g c F) (vLC I3 sub g3 c3 F3):=λX h0 L ns e ae h S hl=>
 Po.bind
  S (hI X h0 ns e ae h S) λit p h1 ns1 e1 a1 S1 r1=>by
  try dsimp only
  obtain⟨r2,gd,hk⟩:=r1
  have hs':=xI hs
  have S2:=S1.lockO p.2
  have S3:=S2.inner hs'
  cases q:lcV g3 c3 F3 p.1 [] (cx sub (lockO e1 p.2)) with
  |stuck=>trivial
  |exc _ _=>trivial
  |
   ok ys e2=>
   dsimp only
   split
   ·rename_i hy
    have gd':∀ns' e' h',Stp (bY sub ns1) (cx sub (lockO e1 p.2)) h1 ns' e' h'->it.guard h':=λns' e' h' a=>gd h' λm o qm hm=>a.keep m o qm λ⟨j,s,z1,z2,z3⟩=>by
     obtain⟨i,y1,y2⟩:=cD z1
     rcases hm with hm |⟨k,hk1,hk2⟩
     ·exact hm.2 (aU.mpr ⟨i,y2⟩)
     ·have:i=k:=S1.inj i k m y2 hk2
      subst this
      obtain⟨s',w1,w2⟩:=hk i hk1
      rcases jj z2 with ⟨z,_⟩ |⟨i',z,y⟩
      ·rw[y1] at z;cases z
      ·rw[y1] at z;cases z
       have hl:(lockO e1 p.2)[i]?=some (jh s'):=by rw[hk1];exact mU w1
       rcases y with ⟨y,_⟩ |⟨t,y,rfl⟩
       ·rw[hl] at y;cases y
       ·rw[hl] at y;cases y
        cases s' <;> first |cases w2;done |cases z3;done
    have mvi:Mov (Oc X ns1) (Oc (Xin X ns1 sub) (bY sub ns1)) h1 h1:=λn o p q=>⟨⟨λz=>by
     rcases z with z |⟨z,_⟩
     ·exact p.1 z
     ·exact p.2 z,λz=>p.2 (lN z)⟩,q⟩
    obtain⟨dy,h2,e_,ae2,p2,a2,S4,r4⟩:=Iy (G:=it.guard) S3 hg hc hF gd' (r2.mono mvi) .refl S3 .nil q
    have k3:∀n,Oc (Xin X ns1 sub) e_ n->Oc X ns1 n:=λn z=>⟨λy=>z.1 (.inl y),λy=>by
     by_cases w:some n∈bY sub ns1
     ·obtain⟨j,w⟩:=aU.mp w
      obtain⟨s,v,o,b1,b2,_⟩:=S3.own w
      rcases b2 with b2 |b2
      ·obtain⟨v',rfl⟩:=(tX (e:=lockO e1 p.2) hs').mt j s b1 b2
       obtain⟨u,c1,c2⟩:=a2.mu' j v' b1
       exact z.2 (aU.mpr ⟨j,by rw[c2];exact w⟩)
      ·obtain⟨c1,c2⟩:=a2.lk j s b1 b2
       exact z.2 (aU.mpr ⟨j,by rw[c2];exact w⟩)
     ·exact z.1 (.inr ⟨y,w⟩)⟩
    have bk:=S2.back (Y:=X) (tX hs') a2 (λn z=>⟨B_ (S2.xl n z) a2.len,.inl z⟩) (λ_ z=>z) λj v n q1 q2=>by
     obtain⟨s,u,o,b1,b2,b3,b4,b5,b6,b7⟩:=S4.own q2
     rw[q1] at b1;cases b1
     cases b3
     exact⟨o,b5,b6,b7.mono λm o' z y=>⟨k3 m z,y⟩⟩
    obtain⟨S5,a5⟩:=bk
    have r5:Rds (Oc X ns1) h2 dy ys:=r4.mono λm o' z y=>⟨k3 m z,y⟩
    have g_:∀(e':E3),Sat X h0 ns1 e' ae h2->Stp ns1 e1 h1 ns1 e' h2->Po X h0 ns1 e1 ae h1 (relE X h0 L ae) ((noX (lcL it.guard g c F it.items [] (jo sub ae) h1)).bind bN) (.ok (.new (.lst ys)) e'):=λe' S6 a6=>by
     rw[p2]
     have pp:=BvR.po (L:=L) (r:=bN dy h2) (b:=.new (.lst ys)) S6 (y_ hl (y_ a1.len a6.len)) ⟨.lst dy,by unfold bN;rw[if_pos (by rw[r5.len];exact hy)],trivial,.lst r5⟩
     obtain⟨d,h',ns',y,y1,y2,y3⟩:=pp
     exact⟨d,h',ns',y,a6.trans S1 y1,y2,y3⟩
    cases hp:p.2 with
    |
     none=>
     rw[hp] at S5 a5
     exact g_ _ S5 a5
    |
     some k=>
     rw[hp] at S5 a5
     obtain⟨s,w1,w2⟩:=hk k hp
     exact g_ _ (S5.unlock k) (a5.unlock w1 w2)
   ·trivial
end
inductive R3F where
 |ok (r:Rt) (mv:List Val) |exc (c:Str) (mv:List Val) |stuck
abbrev Fn3:=List Val->R3F
noncomputable def sl1(b:Bool)(v:Val):Sl:=if b=true then .mu v else .sh v
noncomputable def sls(ms:List Bool)(vs:List Val):E3:=List.zipWith sl1 ms vs
noncomputable def aN:List Bool->List Val->E3
 |true::ms,v::vs=>.mu v::aN ms vs
 |true::ms,[]=>.no::aN ms []
 |false::ms,vs=>.no::aN ms vs
 | [],_=>[]
noncomputable def muV:List Bool->E3->Option (List Val)
 |true::ms,.mu v::e=>(muV ms e).map (v :: ·)
 |true::_,_=>none
 |false::ms,_::e=>muV ms e
 |false::_,[]=>none
 | [],_=>some []
def RFp(X:Nat->Prop)(ps:Ns)(ms:List Bool)(vs:List Val)(ds:List D)(h:AH)(r2:R D):R3F->Prop
 |.stuck=>True
 |.ok r mv=>∃d h',r2=.ok d h'/\Stp ps (sls ms vs) h ps (aN ms mv) h'/\RtR X h.length ps (aN ms mv) (ds.map some) h' d r
 |.exc c mv=>∃h',r2=.exc c h'/\Stp ps (sls ms vs) h ps (aN ms mv) h'/\Sat X h.length ps (aN ms mv) (ds.map some) h'
def RF(ms:List Bool)(G2:Fn)(G3:Fn3):Prop:=∀X ps ds vs h,vs.length=ms.length->Sat X h.length ps (sls ms vs) (ds.map some) h->RFp X ps ms vs ds h (G2 ds h) (G3 vs)
noncomputable def fnV(ms:List Bool)(N:Nat)(F:MS3):Fn3:=λvs=>if vs.length=ms.length then (match F (sls ms vs++List.replicate (N-vs.length) .no) with
 |.nx e=>(match muV ms e with |some mv=>.ok (.val .non) mv |none=>.stuck)
 |.rt r e=>(match muV ms e with |some mv=>.ok r mv |none=>.stuck)
 |.exc c e=>(match muV ms e with |some mv=>.exc c mv |none=>.stuck)
 |_=>.stuck) else .stuck
def eK{ms:List Bool}{vs:List Val}{i:Nat}{s:Sl}(q:(sls ms vs)[i]?=some s):∃b v,ms[i]?=some b/\vs[i]?=some v/\s=sl1 b v:=by
 unfold sls at q
 rw[Pn] at q
 cases h1:ms[i]? with
 |none=>rw[h1] at q;cases q
 |
  some b=>
  cases h2:vs[i]? with
  |none=>rw[h1,h2] at q;cases q
  |some v=>rw[h1,h2] at q;cases q;exact⟨b,v,rfl,rfl,rfl⟩
theorem gy:∀{ms:List Bool}{e:E3}{mv:List Val}{i:Nat}{s:Sl},muV ms e=some mv->(aN ms mv)[i]?=some s->(ms[i]?=some false/\s=.no)\/(ms[i]?=some true/\∃v,e[i]?=some (.mu v)/\s=.mu v)
 | [],_,_,_,_,_,q=>by unfold aN at q;simp at q
 |
  true::ms,.mu v::e,mv,i,s,q,q2=>by
  obtain⟨mv',z1,z2⟩:=D_.mp (show (muV ms e).map (v :: ·)=some mv from q)
  subst z2
  cases i with
  |zero=>
   right;have:Sl.mu v=s:=by simpa [aN] using q2
   subst this;exact⟨rfl,v,rfl,rfl⟩
  |
   succ i=>
   have:=gy (i:=i) (s:=s) z1 (by simpa [aN] using q2)
   simpa using this
 |true::ms,[],mv,i,s,q,q2=>by cases q
 |true::ms,.no::e,mv,i,s,q,q2=>by cases q
 |true::ms,.sh v::e,mv,i,s,q,q2=>by cases q
 |true::ms,.ow v::e,mv,i,s,q,q2=>by cases q
 |true::ms,.lo v::e,mv,i,s,q,q2=>by cases q
 |true::ms,.lm v::e,mv,i,s,q,q2=>by cases q
 |false::ms,[],mv,i,s,q,q2=>by cases q
 |
  false::ms,t::e,mv,i,s,q,q2=>by
  cases i with
  |zero=>
   left;have:Sl.no=s:=by simpa [aN] using q2
   exact⟨rfl,this.symm⟩
  |
   succ i=>
   have:=gy (i:=i) (s:=s) (show muV ms e=some mv from q) (by simpa [aN] using q2)
   simpa using this
theorem m8:∀{ms:List Bool}{e:E3}{mv:List Val}{i:Nat},muV ms e=some mv->ms[i]?=some true->∃v,e[i]?=some (.mu v)/\(aN ms mv)[i]?=some (.mu v)
 | [],_,_,i,_,q=>by simp at q
 |
  true::ms,.mu v::e,mv,i,q,q2=>by
  obtain⟨mv',z1,z2⟩:=D_.mp (show (muV ms e).map (v :: ·)=some mv from q)
  subst z2
  cases i with
  |zero=>exact⟨v,rfl,rfl⟩
  |
   succ i=>
   obtain⟨u,y1,y2⟩:=m8 (i:=i) z1 (by simpa using q2)
   exact⟨u,by simpa using y1,by simpa [aN] using y2⟩
 |true::ms,[],mv,i,q,q2=>by cases q
 |true::ms,.no::e,mv,i,q,q2=>by cases q
 |true::ms,.sh v::e,mv,i,q,q2=>by cases q
 |true::ms,.ow v::e,mv,i,q,q2=>by cases q
 |true::ms,.lo v::e,mv,i,q,q2=>by cases q
 |true::ms,.lm v::e,mv,i,q,q2=>by cases q
 |false::ms,[],mv,i,q,q2=>by cases q
 |
  false::ms,t::e,mv,i,q,q2=>by
  cases i with
  |zero=>simp at q2
  |
   succ i=>
   obtain⟨u,y1,y2⟩:=m8 (i:=i) (show muV ms e=some mv from q) (by simpa using q2)
   exact⟨u,by simpa using y1,by simpa [aN] using y2⟩
theorem gU:∀{ms:List Bool}{mv:List Val},(aN ms mv).length=ms.length
 | [],_=>rfl
 |true::ms,v::mv=>by show (aN ms mv).length+1=ms.length+1;rw[gU]
 |true::ms,[]=>by show (aN ms []).length+1=ms.length+1;rw[gU]
 |false::ms,mv=>by show (aN ms mv).length+1=ms.length+1;rw[gU]
def CO(hF:RS F F3):RF ms (fnD N F) (fnV ms N F3):=λX ps ds vs h hl S=>by
 unfold fnV
 rw[if_pos hl]
 have lS:(sls ms vs).length=vs.length:=by unfold sls;rw[Pz];omega
 have lD:ds.length=vs.length:=by have:=S.l1;rw[j_] at this;omega
 have lP:ps.length=vs.length:=by have:=S.l2;omega
 have S1
  : Sat X h.length (ps++List.replicate (N-vs.length) none) (sls ms vs++List.replicate (N-vs.length) .no) (ds.map some++List.replicate (N-vs.length) none) h:=by
  have mns:∀n,some n∈ps++List.replicate (N-vs.length) (none:Option Nat) ↔ some n∈ps:=λn=>by
   rw[OC]
   constructor
   ·rintro (z |z)
    ·exact z
    ·have:=List.eq_of_mem_replicate z;cases this
   ·exact .inl
  have gns:∀{i n:Nat},(ps++List.replicate (N-vs.length) (none:Option Nat))[i]?=some (some n)->ps[i]?=some (some n):=λ{i n} q=>by
   rw[Qx] at q
   split at q
   ·exact q
   ·rw[OK] at q;split at q <;> cases q
  refine⟨?_,?_,S.lh,S.xl,λi j n q1 q2=>S.inj i j n (gns q1) (gns q2),λi n q=>S.nx i n (gns q),λi s q=>?_⟩
  ·rw[l_,l_,Oh,Oh,S.l1]
  ·rw[l_,l_,Oh,Oh,S.l2]
  ·rw[Qx] at q
   split at q
   ·rename_i hi
    have k:=S.sl i s q
    rw[J_ (by omega),J_ (by rw[j_];omega)]
    exact k.mono (λn o p q=>⟨⟨p.1,λz=>p.2 ((mns n).mp z)⟩,q⟩) λ_ _ _ q=>q
   ·rename_i hi
    rw[OK] at q
    split at q
    ·cases q
     rw[I_ (by omega),OK,if_pos (by omega)]
     rfl
    ·cases q
 have p:=hF _ _ _ _ _ _ S1
 have e2:fnD N F ds h=match F (ds.map some++List.replicate (N-vs.length) none) h with
  |.nx _ h'=>.ok .non h'
  |.rt d h'=>.ok d h'
  |.exc c _ h'=>.exc c h'
  |_=>.stuck:=by rw[<- lD];rfl
 rw[e2]
 have g_:∀(Y:Nat->Prop) (ns':Ns) (e':E3) (a_:AE) (h':AH) (mv:List Val),(∀n,X n->Y n)->Stp (ps++List.replicate (N-vs.length) none) (sls ms vs++List.replicate (N-vs.length) .no) h ns' e' h'->Sat Y h.length ns' e' a_ h'->muV ms e'=some mv->
  Stp ps (sls ms vs) h ps (aN ms mv) h'/\Sat Y h.length ps (aN ms mv) (ds.map some) h'/\∀n,Oc Y ns' n->Oc Y ps n:=by
  intro Y ns' e' a_ h' mv hXY a S2 qm
  have kmu:∀{i:Nat},ms[i]?=some true->∃v u n o,e'[i]?=some (.mu v)/\(aN ms mv)[i]?=some (.mu v)/\(sls ms vs)[i]?=some (.mu u)/\ns'[i]?=ps[i]?/\ps[i]?=some (some n)/\(ds.map some)[i]?=some (some (.ref n))/\h'[n]?=some o/\bQ o/\Rc (Oc Y ns') h' o v:=by
   intro i hi
   obtain⟨v,y1,y2⟩:=m8 qm hi
   have hil:i<ms.length:=(k_.mp hi).1
   obtain⟨u,y3,y4⟩:=a.mu i v y1
   rw[J_ (by omega)] at y3 y4
   obtain⟨n,o,z1,z2,_⟩:=S.sl i _ y3
   obtain⟨n',o',w1,w2,w3,w4,w5⟩:=S2.sl i _ y1
   rw[y4,z1] at w1;cases w1
   exact⟨v,u,n,o',y1,y2,y3,y4,z1,z2,w3,w4,w5⟩
  have kown:∀{i n:Nat},ps[i]?=some (some n)->ms[i]?=some true:=λ{i n} q=>by
   obtain⟨s,v,o,z1,z2,_⟩:=S.own q
   obtain⟨b,u,y1,_,y2⟩:=eK z1
   cases b with
   |true=>exact y1
   |false=>subst y2;rcases z2 with z2 |z2 <;> cases z2
  have koc:∀n,Oc Y ns' n->Oc Y ps n:=λn z=>⟨z.1,λy=>by
   obtain⟨i,y⟩:=aU.mp y
   obtain⟨v,u,n',o,_,_,_,k1,k2,_⟩:=kmu (kown y)
   exact z.2 (aU.mpr ⟨i,by rw[k1];exact y⟩)⟩
  refine⟨⟨a.len,λm o q hm=>a.keep m o q λ⟨i,s,z1,z2,z3⟩=>hm ?_,λ_ _ q=>.inl q,λi s q hl'=>?_,λi s q hl'=>?_,λi v q=>?_,λi v q=>?_⟩,⟨?_,?_,y_ (p_ _) a.len,S2.xl,S.inj,λi n q z=>?_,λi s q=>?_⟩,koc⟩
  ·rw[Qx] at z1
   split at z1
   ·rename_i hi
    rw[J_ (by omega)] at z2
    exact⟨i,s,z1,z2,z3⟩
   ·rw[OK] at z1;split at z1 <;> cases z1
  ·obtain⟨b,u,_,_,y⟩:=eK q
   subst y
   cases b <;> cases hl'
  ·rcases gy qm q with ⟨_,z⟩ |⟨_,v,_,z⟩ <;> subst z <;> cases hl'
  ·rcases gy qm q with ⟨_,z⟩ |⟨z,_⟩
   ·cases z
   ·obtain⟨v',u,n,o,_,_,k1,_⟩:=kmu z
    exact⟨u,k1,rfl⟩
  ·obtain⟨b,u,y1,_,y2⟩:=eK q
   cases b with
   |false=>cases y2
   |
    true=>
    obtain⟨v',u,n,o,_,k0,k1,_⟩:=kmu y1
    exact⟨v',k0,rfl⟩
  ·rw[j_,gU];omega
  ·rw[gU];omega
  ·obtain⟨v,u,n',o,_,_,_,k1,k2,_⟩:=kmu (kown q)
   exact S2.nx i n (by rw[k1];exact q) z
  ·rcases gy qm q with ⟨z,rfl⟩ |⟨z,v,z2,rfl⟩
   ·have hil:i<ms.length:=(k_.mp z).1
    have hi:i<(sls ms vs).length:=by omega
    obtain⟨b,u,y1,_,y2⟩:=eK (z_ hi)
    rw[z] at y1;cases y1
    have k:=S.sl i _ (z_ hi)
    rw[y2] at k
    exact k.1
   ·obtain⟨v',u,n,o,k0,_,_,k1,k2,k3,k4,k5,k6⟩:=kmu z
    rw[z2] at k0;cases k0
    exact⟨n,o,k2,k3,k4,k5,k6.mono λm o' y q=>⟨koc m y,q⟩⟩
 generalize F3 (sls ms vs++List.replicate (N-vs.length) .no)=r3 at *
 cases r3 with
 |stuck=>trivial
 |bk _=>trivial
 |ct _=>trivial
 |
  nx e'=>
  obtain⟨a_,h',ns',q,a,S2⟩:=p
  rw[q]
  dsimp only
  cases qm:muV ms e' with
  |none=>trivial
  |
   some mv=>
   obtain⟨a3,S3,koc⟩:=g_ X ns' e' a_ h' mv (λ_ z=>z) a S2 qm
   exact⟨.non,h',rfl,a3,S3,.non⟩
 |
  exc c e'=>
  obtain⟨a_,h',ns',q,a,S2⟩:=p
  rw[q]
  dsimp only
  cases qm:muV ms e' with
  |none=>trivial
  |
   some mv=>
   obtain⟨a3,S3,koc⟩:=g_ X ns' e' a_ h' mv (λ_ z=>z) a S2 qm
   exact⟨h',rfl,a3,S3⟩
 |
  rt r e'=>
  obtain⟨d,a_,h',ns',q,a,rr⟩:=p
  rw[q]
  dsimp only
  cases qm:muV ms e' with
  |none=>trivial
  |
   some mv=>
   cases r with
   |
    val v=>
    obtain⟨a3,S3,koc⟩:=g_ X ns' e' a_ h' mv (λ_ z=>z) a rr.1 qm
    exact⟨d,h',rfl,a3,S3,rr.2.mono λm o y q=>⟨koc m y,q⟩⟩
   |
    new v=>
    obtain⟨n,o,z1,z2,z3,z4,z5,z6,z7⟩:=rr
    obtain⟨a3,S3,koc⟩:=g_ (Xn X n) ns' e' a_ h' mv (λ_ z=>.inl z) a z6 qm
    exact⟨d,h',rfl,a3,n,o,z1,z2,z3,z4,z5,S3,z7.mono λm o y q=>⟨koc m y,q⟩⟩
   |
    par i=>
    obtain⟨R1,R2,v,R3⟩:=rr
    obtain⟨a3,S3,koc⟩:=g_ X ns' e' a_ h' mv (λ_ z=>z) a R1 qm
    obtain⟨u,k1,k2⟩:=a.mu i v R3
    have hi:i<(sls ms vs).length:=by
     apply Decidable.byContradiction
     intro hi
     rw[I_ (by omega),OK] at k1
     split at k1 <;> cases k1
    rw[J_ hi] at k1
    rw[J_ (by rw[S.l2];exact hi)] at k2
    obtain⟨m,o,w1,w2,_⟩:=S.sl i _ k1
    obtain⟨m',o',x1,x2,_⟩:=R1.sl i _ R3
    rw[k2,w1] at x1;cases x1
    rw[R2] at x2;cases x2
    obtain⟨v',y,_⟩:=a3.mu' i u k1
    exact⟨_,h',rfl,a3,S3,w2,v',y⟩
noncomputable def iD(i:Nat):List Tm->Bool
 |.bor j::ts=>(i==j) || iD i ts
 |_::ts=>iD i ts
 | []=>false
noncomputable def nV(i:Nat):List Bool->List Tm->Bool
 |true::ms,.bor j::ts=>(i==j) || nV i ms ts
 |_::ms,_::ts=>nV i ms ts
 |_,_=>false
def okA(e:E3):List Bool->List Tm->Bool
 |true::ms,.bor i::ts=>((e[i]?).bind Sl.mv).isSome && !(iD i ts)&&okA e ms ts
 |true::_,_::_=>false
 |false::ms,.bor i::ts=>!(nV i ms ts)&&okA e ms ts
 |false::ms,_::ts=>okA e ms ts
 | [],[]=>true
 |_,_=>false
noncomputable def nc(b:Bool)(t:Tm):Option Nat:=match b,t with
 |true,.bor i=>some i
 |_,_=>none
noncomputable def ck(ms:List Bool)(ts:List Tm):List (Option Nat):=List.zipWith nc ms ts
noncomputable def aV(e:E3):List Bool->List Tm->List Nat
 |false::ms,.bor i::ts=>(match e[i]? with
  |some (.sh _)=>aV e ms ts
  |_=>i::aV e ms ts)
 |_::ms,_::ts=>aV e ms ts
 |_,_=>[]
mutual
noncomputable def bj:Val->Bool
 |.tup xs=>fU xs
 |.lst _=>false
 |.kl _=>false
 |.dct _=>false
 |.set _=>false
 |_=>true
noncomputable def fU:List Val->Bool
 | []=>true
 |v::vs=>bj v&&fU vs
end
noncomputable def mM:List (Key×Val)->Bool
 | []=>true
 |(_,v)::vs=>bj v&&mM vs
noncomputable def cZ:Val->Bool
 |.lst xs=>fU xs
 |.dct xs=>mM xs
 |.set _=>true
 |_=>false
noncomputable def ki:Rt->Bool
 |.val v=>bj v
 |.new v=>cZ v
 |.par _=>true
noncomputable def nW(e:E3):List Nat->Option E3
 | []=>some e
 |i::is=>match cH e (.bor i) with
  |some (e1,_)=>nW e1 is
  |none=>none
def Rt.tm(ts:List Tm):Rt->Tm
 |.val v=>.val v
 |.new v=>.new v
 |.par i=>(ts[i]?).getD (.val .non)
def Cu(ms:List Bool)(G:Fn3)(A:MA3):ME3:=λe=>(A e).bind λts e1=>match rss e1 ts with
 |none=>.stuck
 |some vs=>if okA e1 ms ts=true then (match G vs with
  |.stuck=>.stuck
  |.ok r mv=>if (aV e1 ms ts).isEmpty || (ki r&&mv.all cZ) then .ok (r.tm ts) (ba (ck ms ts) (aN ms mv) e1) else (match nW e1 (aV e1 ms ts) with
   |some e2=>.ok (r.tm ts) (ba (ck ms ts) (aN ms mv) e2)
   |none=>.stuck)
  |.exc c mv=>if (aV e1 ms ts).isEmpty || mv.all cZ then .exc c (ba (ck ms ts) (aN ms mv) e1) else .stuck) else .stuck
section
variable{P P':Nat->Prop}{h h':AH}
def Rd.flat(f:bj v=true)(r:Rd P h d v):Rd P' h' d v:=
 @Rd.rec P h (λd v _=>bj v=true->Rd P' h' d v) (λo v _=>bj v=true->Rd P' h' .non v) (λds vs _=>fU vs=true->Rds P' h' ds vs) (λws us _=>True) (λ_=>.non) (λb _=>.bl b) (λi _=>.int i) (λx _=>.str x) (λn _=>.ty n) (λx _=>.glb x) (λx _=>.exc x) (λ_ ih f=>.tup (ih f)) (λ_ _ f=>absurd f r_) (λ_ _ r _ f=>by cases r <;> exact absurd f r_) (λ_ _ f=>absurd f r_) (λ_ _ f=>absurd f r_) (λ_ _ f=>absurd f r_) (λ_ f=>absurd f r_) (λ_=>.nil) (λ_ _ a b f=>.cons (a (n_ .. ▸ f).1) (b (n_ .. ▸ f).2)) trivial (λ_ _ _ _=>trivial) d v r f
def Rds.flat(f:fU v=true)(r:Rds P h d v):Rds P' h' d v:=
 r.ind (M:=λds vs=>fU vs=true->Rds P' h' ds vs) (λ_=>.nil) (λr _ ih f=>by
  rw[fU,n_] at f
  exact .cons (Rd.flat f.1 r) (ih f.2)) f
def Rk.flat(f:mM v=true)(r:Rk P h d v):Rk P' h' d v:=
 r.ind (M:=λds vs=>mM vs=true->Rk P' h' ds vs) (λ_=>.nil) (λr _ ih f=>by
  rw[mM,n_] at f
  exact .cons (Rd.flat f.1 r) (ih f.2)) f
def Rc.flat(f:cZ v=true)(r:Rc P h o v):Rc P' h' o v:=by
 cases r with
 |lst r=>exact .lst (Rds.flat (by simpa [cZ] using f) r)
 |fz r=>simp [cZ] at f
 |dct r=>exact .dct (Rk.flat (by simpa [cZ] using f) r)
 |set xs=>exact .set xs
end
theorem nO:∀{ts:List Tm}{k:Nat},ts[k]?=some (.bor i)->iD i ts=true
 | [],_,q=>by simp at q
 |
  t::ts,0,q=>by
  have:t=.bor i:=by simpa using q
  subst this;simp [iD]
 |
  t::ts,k+1,q=>by
  have:=nO (ts:=ts) (k:=k) (by simpa using q)
  cases t <;> simp [iD,this]
theorem uE:∀{ms:List Bool}{ts:List Tm}{k:Nat},ms[k]?=some true->ts[k]?=some (.bor i)->nV i ms ts=true
 | [],_,_,q,_=>by simp at q
 |_::_,[],_,_,q=>by simp at q
 |
  b::ms,t::ts,0,q1,q=>by
  have:t=.bor i:=by simpa using q
  have:b=true:=by simpa using q1
  subst_vars;simp [nV]
 |
  b::ms,t::ts,k+1,q1,q=>by
  have:=uE (ms:=ms) (ts:=ts) (k:=k) (by simpa using q1) (by simpa using q)
  cases b <;> cases t <;> simp [nV,this]
theorem ku:∀{ms:List Bool}{ts:List Tm}{k:Nat},okA e ms ts=true->ms[k]?=some true->∃i,ts[k]?=some (.bor i)/\∃u,(e[i]?).bind Sl.mv=some u
 | [],_,_,_,q=>by simp at q
 |b::ms,[],_,o,_=>by cases b <;> simp [okA] at o
 |
  b::ms,t::ts,0,o,q=>by
  have:b=true:=by simpa using q
  subst this
  cases t with
  |
   bor i=>
   simp only[okA,n_] at o
   exact⟨i,rfl,OH.mp o.1.1⟩
  |_=>simp [okA] at o
 |
  b::ms,t::ts,k+1,o,q=>by
  have o':okA e ms ts=true:=by
   cases b <;> cases t <;> simp only[okA,n_] at o <;> first |exact o.2 |exact o |(simp at o;done)
  obtain⟨i,y⟩:=ku (k:=k) o' (by simpa using q)
  exact⟨i,by simpa using y⟩
theorem iS:∀{ms:List Bool}{ts:List Tm}{k j i:Nat},okA e ms ts=true->ms[k]?=some true->ts[k]?=some (.bor i)->ts[j]?=some (.bor i)->j=k
 | [],_,_,_,_,_,q,_,_=>by simp at q
 |b::ms,[],_,_,_,o,_,_,_=>by cases b <;> simp [okA] at o
 |b::ms,t::ts,0,0,i,o,q1,q2,q3=>rfl
 |
  b::ms,t::ts,0,j+1,i,o,q1,q2,q3=>by
  have h1:b=true:=by simpa using q1
  have h2:t=.bor i:=by simpa using q2
  subst h1 h2
  simp only[okA,n_] at o
  have:=nO (i:=i) (ts:=ts) (k:=j) (by simpa using q3)
  rw[this] at o
  simp at o
 |
  b::ms,t::ts,k+1,0,i,o,q1,q2,q3=>by
  have h2:t=.bor i:=by simpa using q3
  subst h2
  have hm:=uE (i:=i) (ms:=ms) (ts:=ts) (k:=k) (by simpa using q1) (by simpa using q2)
  have hb:=nO (i:=i) (ts:=ts) (k:=k) (by simpa using q2)
  cases b <;> simp [okA,hm,hb] at o
 |
  b::ms,t::ts,k+1,j+1,i,o,q1,q2,q3=>by
  have o':okA e ms ts=true:=by
   cases b <;> cases t <;> simp only[okA,n_] at o <;> first |exact o.2 |exact o |(simp at o;done)
  exact OI (· + 1) (iS (k:=k) (j:=j) (i:=i) o' (by simpa using q1) (by simpa using q2) (by simpa using q3))
theorem iY:∀{ms:List Bool}{ts:List Tm},okA e ms ts=true->ms.length=ts.length
 | [],[],_=>rfl
 | [],_::_,o=>by simp [okA] at o
 |b::ms,[],o=>by cases b <;> simp [okA] at o
 |
  b::ms,t::ts,o=>by
  have o':okA e ms ts=true:=by
   cases b <;> cases t <;> simp only[okA,n_] at o <;> first |exact o.2 |exact o |(simp at o;done)
  exact OI (· + 1) (iY o')
theorem lj:∀{ms:List Bool}{ts:List Tm}{k i:Nat},ms[k]?=some false->ts[k]?=some (.bor i)->(∀v,e[i]?≠some (.sh v))->i∈aV e ms ts
 | [],_,_,_,q,_,_=>by simp at q
 |_::_,[],_,_,_,q,_=>by simp at q
 |
  b::ms,t::ts,0,i,q1,q2,hn=>by
  have h1:b=false:=by simpa using q1
  have h2:t=.bor i:=by simpa using q2
  subst h1 h2
  unfold aV
  split
  ·rename_i v q;exact absurd q (hn v)
  ·exact o_ ..
 |
  b::ms,t::ts,k+1,i,q1,q2,hn=>by
  have ih:=lj (ms:=ms) (ts:=ts) (k:=k) (by simpa using q1) (by simpa using q2) hn
  cases b <;> cases t <;> simp only[aV] <;> first |exact ih |(split;exact ih;exact m_ _ ih)
def ek{ms:List Bool}{ts:List Tm}{k i:Nat}(q:(ck ms ts)[k]?=some (some i)):ms[k]?=some true/\ts[k]?=some (.bor i):=by
 unfold ck at q
 rw[Pn] at q
 cases h1:ms[k]? with
 |none=>rw[h1] at q;cases q
 |
  some b=>
  cases h2:ts[k]? with
  |none=>rw[h1,h2] at q;cases q
  |
   some t=>
   rw[h1,h2] at q
   have q':nc b t=some i:=G_ q
   cases b <;> cases t <;> first |(cases q';done) |(cases q';exact⟨rfl,rfl⟩)
def Fe{ms:List Bool}{ts:List Tm}{k i:Nat}(q1:ms[k]?=some true)(q2:ts[k]?=some (.bor i)):(ck ms ts)[k]?=some (some i):=by
 unfold ck
 rw[Pn,q1,q2];rfl
theorem uR:∀{ts:List Tm}{vs:List Val}{k:Nat}{v:Val},rss e ts=some vs->vs[k]?=some v->∃t,ts[k]?=some t/\rs e t=some v
 | [],_,_,_,q,q2=>by cases q;simp at q2
 |
  t::ts,vs,k,v,q,q2=>by
  unfold rss at q
  split at q
  ·rename_i u us e1 e2
   cases q
   cases k with
   |zero=>
    have:u=v:=by simpa using q2
    subst this;exact⟨t,rfl,e1⟩
   |
    succ k=>
    obtain⟨t',y1,y2⟩:=uR (k:=k) e2 (by simpa using q2)
    exact⟨t',by simpa using y1,y2⟩
  ·cases q
theorem kq:∀{ts:List Tm}{vs:List Val},rss e ts=some vs->vs.length=ts.length
 | [],_,q=>by cases q;rfl
 |
  t::ts,vs,q=>by
  unfold rss at q
  split at q
  ·rename_i u us e1 e2;cases q;exact OI (· + 1) (kq e2)
  ·cases q
theorem TsR.get:∀{ds:List D}{ts:List Tm}{k:Nat}{t:Tm},TsR X ns ae h ds ts->ts[k]?=some t->∃d,ds[k]?=some d/\((∃v,t=.val v/\Rd (Oc X ns) h d v)\/∃i,t=.bor i/\ae[i]?=some (some d))
 |_,_,_,_,.nil,q=>by simp at q
 |_,_,0,_,.val r rr,q=>by have:=(by simpa using q:Tm.val _=_);subst this;exact⟨_,rfl,.inl ⟨_,rfl,r⟩⟩
 |_,_,0,_,.bor r rr,q=>by have:=(by simpa using q:Tm.bor _=_);subst this;exact⟨_,rfl,.inr ⟨_,rfl,r⟩⟩
 |_,_,k+1,t,.val r rr,q=>by obtain⟨d,y⟩:=rr.get (k:=k) (by simpa using q);exact⟨d,by simpa using y⟩
 |_,_,k+1,t,.bor r rr,q=>by obtain⟨d,y⟩:=rr.get (k:=k) (by simpa using q);exact⟨d,by simpa using y⟩
def Xc(X:Nat->Prop)(ns:Ns)(e:E3)(ms:List Bool)(ts:List Tm)(n:Nat):Prop:=(X n\/some n∈ns)/\some n∉bY (ck ms ts) ns/\∀i∈aV e ms ts,ns[i]?≠some (some n)
def sq(S:Sat X h0 ns e ae h)(rt:TsR X ns ae h ds ts)(qv:rss e ts=some vs)(ok:okA e ms ts=true):
 Sat (Xc X ns e ms ts) h.length (bY (ck ms ts) ns) (sls ms vs) (ds.map some) h:=by
 have l1:=iY ok
 have l2:=kq qv
 have l3:=TsR.len rt
 have hs:mP (ck ms ts):=λj k i q1 q2=>iS ok (ek q2).1 (ek q2).2 (ek q1).2
 have mv:Mov (Oc X ns) (Oc (Xc X ns e ms ts) (bY (ck ms ts) ns)) h h:=λn o p q=>⟨⟨λz=>by
  rcases z.1 with z |z
  ·exact p.1 z
  ·exact p.2 z,λz=>p.2 (lN z)⟩,q⟩
 refine⟨?_,?_,p_ _,λn z=>?_,λj k n q1 q2=>?_,λj n q z=>z.2.1 (aU.mpr ⟨j,q⟩),λk s q=>?_⟩
 ·unfold sls;rw[j_,Pz];omega
 ·unfold bY ck sls;rw[j_,Pz,Pz];omega
 ·rcases z.1 with z |z
  ·exact S.xl n z
  ·obtain⟨i,z⟩:=aU.mp z
   obtain⟨_,_,_,_,_,_,_,q',_⟩:=S.own z
   exact bH q'
 ·obtain⟨i,y1,y2⟩:=cD q1
  obtain⟨i',y3,y4⟩:=cD q2
  have:=S.inj i i' n y2 y4
  subst this
  exact hs j k i y1 y3
 ·obtain⟨b,v,
   q1,q2,rfl⟩:=eK q
  obtain⟨t,q3,q4⟩:=uR qv q2
  obtain⟨d,q5,q6⟩:=rt.get q3
  have qd:(ds.map some)[k]?=some (some d):=by rw[E_,q5];rfl
  rw[qd]
  have qn:(bY (ck ms ts) ns)[k]?=some ((nc b t).bind λi=>(ns[i]?).bind id):=by
   unfold bY ck
   rw[E_,Pn,q1,q3];rfl
  rw[qn]
  cases b with
  |
   true=>
   obtain⟨i,y1,u,y2⟩:=ku ok q1
   rw[q3] at y1;cases y1
   have q4':(e[i]?).bind Sl.val=some v:=q4
   obtain⟨s,z1,z2⟩:=Oj.mp y2
   rw[z1] at q4'
   have hv:s.val=some v:=q4'
   have huv:u=v:=by cases s <;> first |cases z2;done |(cases z2;cases hv;rfl)
   subst huv
   have hns:∃n,ns[i]?=some (some n):=by
    have y:=S.sl i s z1
    cases s with
    |ow v=>obtain⟨n,o,y1,_⟩:=y;exact⟨n,y1⟩
    |mu v=>obtain⟨n,o,y1,_⟩:=y;exact⟨n,y1⟩
    |_=>cases z2
   obtain⟨n,hn⟩:=hns
   obtain⟨n',o,k1,k2,k3,k4,_⟩:=S.write z1 z2
   rcases q6 with ⟨_,z,_⟩ |⟨i',z,q6⟩
   ·cases z
   ·cases z
    rw[q6] at k1;cases k1
    obtain⟨_,_,_,_,_,_,w,_⟩:=S.own hn
    rw[q6] at w;cases w
    exact⟨n,o,by show some ((ns[i]?).bind id)=_;rw[hn];rfl,rfl,k2,k3,k4.mono mv⟩
  |
   false=>
   refine⟨by cases t <;> rfl,d,rfl,?_⟩
   rcases q6 with ⟨u,rfl,q6⟩ |⟨i,rfl,q6⟩
   ·cases q4;exact q6.mono mv
   ·have q4':(
     e[i]?).bind Sl.val=some v:=q4
    rcases S.bor q6 q4' with z |⟨n,o,rfl,z1,z2⟩
    ·exact z.mono mv
    ·refine .cell ⟨λy=>?_,λy=>?_⟩ z1 (z2.mono mv)
     ·
      by_cases hsh:∃w,e[i]?=some (.sh w)
      ·obtain⟨w,hsh⟩:=hsh
       obtain⟨_,x,w1,w2⟩:=S.sl i _ hsh
       rw[q6] at w1;cases w1
       cases w2 with
       |cell p _ _=>rcases y.1 with y |y;exact p.1 y;exact p.2 y
      ·have hl:=lj q1 q3 λw z=>hsh ⟨w,z⟩
       cases w:ns[i]? with
       |
        none=>
        have hi:i<e.length:=by
         cases z:e[i]? with
         |none=>rw[z] at q4';cases q4'
         |some _=>exact (k_.mp z).1
        rw[O5,S.l2] at w
        omega
       |
        some w'=>
        cases w' with
        |
         none=>
         cases z:e[i]? with
         |none=>rw[z] at q4';cases q4'
         |
          some s=>
          have k:=S.sl i s z
          rw[w] at k
          cases s with
          |no=>rw[z] at q4';cases q4'
          |sh w=>exact hsh ⟨w,z⟩
          |ow w=>obtain⟨_,_,k,_⟩:=k;cases k
          |lo w=>obtain⟨_,_,k,_⟩:=k;cases k
          |mu w=>obtain⟨_,_,k,_⟩:=k;cases k
          |lm w=>obtain⟨_,_,k,_⟩:=k;cases k
        |
         some n'=>
         obtain⟨_,_,_,_,_,_,w2,_⟩:=S.own w
         rw[q6] at w2;cases w2
         exact y.2.2 i hl w
     ·obtain⟨j,y⟩:=aU.mp y
      obtain⟨i',y1,y2⟩:=cD y
      obtain⟨y3,y4⟩:=ek y1
      obtain⟨_,_,_,_,_,_,w2,_⟩:=S.own y2
      have:i'
       = i:=by
       cases w:ns[i]? with
       |
        none=>
        have hi:i<e.length:=by
         cases z:e[i]? with
         |none=>rw[z] at q4';cases q4'
         |some _=>exact (k_.mp z).1
        rw[O5,S.l2] at w
        omega
       |
        some w'=>
        cases w' with
        |
         some n'=>
         obtain⟨_,_,_,_,_,_,w3,_⟩:=S.own w
         rw[q6] at w3;cases w3
         exact S.inj i' i n y2 w
        |
         none=>
         cases z:e[i]? with
         |none=>rw[z] at q4';cases q4'
         |
          some s=>
          have k:=S.sl i s z
          rw[w,q6] at k
          cases s with
          |no=>rw[z] at q4';cases q4'
          |
           sh w=>
           obtain⟨_,x,k1,k2⟩:=k
           cases k1
           cases k2 with
           |cell p _ _=>exact (p.2 (aU.mpr ⟨i',y2⟩)).elim
          |ow w=>obtain⟨_,_,k,_⟩:=k;cases k
          |lo w=>obtain⟨_,_,k,_⟩:=k;cases k
          |mu w=>obtain⟨_,_,k,_⟩:=k;cases k
          |lm w=>obtain⟨_,_,k,_⟩:=k;cases k
      subst this
      have:=iS ok y3 y4 q3
      subst this
      rw[q1] at y3;cases y3
theorem er:∀{ms:List Bool}{mv:List Val}{j:Nat}{v:Val},(aN ms mv)[j]?=some (.mu v)->v∈mv
 | [],_,_,_,q=>by simp [aN] at q
 |true::ms,u::mv,0,v,q=>by
  have:Sl.mu u=.mu v:=by simpa [aN] using q
  cases this;exact o_ ..
 |true::ms,u::mv,j+1,v,q=>m_ _ (er (ms:=ms) (mv:=mv) (j:=j) (by simpa [aN] using q))
 |true::ms,[],0,v,q=>by simp [aN] at q
 |true::ms,[],j+1,v,q=>er (ms:=ms) (mv:=[]) (j:=j) (by simpa [aN] using q)
 |false::ms,mv,0,v,q=>by simp [aN] at q
 |false::ms,mv,j+1,v,q=>er (ms:=ms) (mv:=mv) (j:=j) (by simpa [aN] using q)
theorem kX:∀{ms:List Bool}{ts:List Tm}{i:Nat},i∈aV e ms ts->∃k:Nat,ms[k]?=some false/\ts[k]?=some (.bor i)
 | [],_,_,q=>by simp [aV] at q
 |_::_,[],_,q=>by simp [aV] at q
 |
  b::ms,t::ts,i,q=>by
  have up:i∈aV e ms ts->∃k:Nat,(b::ms)[k]?=some false/\(t::ts)[k]?=some (.bor i):=λz=>by
   obtain⟨k,y1,y2⟩:=kX z
   exact⟨k+1,by simpa using y1,by simpa using y2⟩
  cases b <;> cases t <;> simp only[aV] at q <;> first |exact up q |skip
  split at q
  ·exact up q
  ·rcases H_.mp q with rfl |q
   ·exact⟨0,rfl,rfl⟩
   ·exact up q
def Er(q:cH e (.bor i)=some (e1,v)):(∀j,j≠i->e1[j]?=e[j]?)/\e1[i]?=some (.sh v)/\(e[i]?).bind Sl.val=some v:=by
 unfold cH at q
 dsimp only at q
 split at q
 ·rename_i u q1;cases q;exact⟨λ_ _=>rfl,q1,by rw[q1];rfl⟩
 ·rename_i u q1;cases q;exact⟨λj z=>aY z,bC (k_.mp q1).1,by rw[q1];rfl⟩
 ·cases q
theorem rm:∀{is:List Nat}{ns:Ns}{e e2:E3},Sat X h0 ns e ae h->(∀i∈is,∃d,ae[i]?=some (some d))->nW e is=some e2->∃e_,Sat X h0 e_ e2 ae h/\Stp ns e h e_ e2 h/\(∀i,i∉is->e2[i]?=e[i]?)/\(∀i∈is,∃v,e2[i]?=some (.sh v))/\∀i:Nat,(e2[i]?).bind Sl.val=(e[i]?).bind Sl.val
 | [],ns,e,e2,S,_,q=>by cases q;exact⟨ns,S,.refl,λ_ _=>rfl,(λ_ z=>by cases z),λ_=>rfl⟩
 |
  i::is,ns,e,e2,S,hd,q=>by
  unfold nW at q
  split at q
  ·rename_i e1 v q1
   obtain⟨d,hd0⟩:=hd i (o_ ..)
   obtain⟨ns1,S1,a1,r1⟩:=fI (L:=0) (t:=.bor i) S hd0 q1
   obtain⟨e_,S2,a2,k1,k2,k3⟩:=rm S1 (λj z=>hd j (m_ _ z)) q
   obtain⟨y1,y2,y3⟩:=Er q1
   refine⟨e_,S2,a1.trans S a2,λj hj=>?_,λj hj=>?_,λj=>?_⟩
   ·rw[H_,not_or] at hj
    rw[k1 j hj.2,y1 j hj.1]
   ·by_cases z:j∈is
    ·exact k2 j z
    ·rcases H_.mp hj with rfl |hj
     ·exact⟨v,by rw[k1 j z];exact y2⟩
     ·exact absurd hj z
   ·rw[k3 j]
    by_cases z:j=i
    ·subst z;rw[y2,y3];rfl
    ·rw[y1 j z]
  ·cases q
theorem oH:∀{ms:List Bool}{ts:List Tm},(∀(k i:Nat),ms[k]?=some true->ts[k]?=some (.bor i)->e2[i]?=e[i]?)->okA e ms ts=true->okA e2 ms ts=true
 | [],[],_,o=>rfl
 | [],_::_,_,o=>by simp [okA] at o
 |b::ms,[],_,o=>by cases b <;> simp [okA] at o
 |
  b::ms,t::ts,hk,o=>by
  have o':okA e ms ts=true:=by
   cases b <;> cases t <;> simp only[okA,n_] at o <;> first |exact o.2 |exact o |(simp at o;done)
  have ih:=oH (λk i q1 q2=>hk (k+1) i (by simpa using q1) (by simpa using q2)) o'
  cases b with
  |false=>cases t <;> simp only[okA,n_] at o ⊢ <;> first |exact⟨o.1,ih⟩ |exact ih
  |
   true=>
   cases t with
   |
    bor i=>
    simp only[okA,n_] at o ⊢
    rw[hk 0 i rfl rfl]
    exact⟨o.1,ih⟩
   |_=>simp [okA] at o
theorem sO:∀{ms:List Bool}{ts:List Tm},(∀(k i:Nat),ms[k]?=some false->ts[k]?=some (.bor i)->∃v,e[i]?=some (.sh v))->aV e ms ts=[]
 | [],_,_=>by simp [aV]
 |_::_,[],_=>by simp [aV]
 |
  b::ms,t::ts,hk=>by
  have ih:=sO (λk i q1 q2=>hk (k+1) i (by simpa using q1) (by simpa using q2))
  cases b <;> cases t <;> simp only[aV] <;> first |exact ih |skip
  rename_i i
  obtain⟨v,q⟩:=hk 0 i rfl rfl
  rw[q];exact ih
theorem oC(hv:∀i:Nat,(e2[i]?).bind Sl.val=(e[i]?).bind Sl.val):∀(ts:List Tm),rss e2 ts=rss e ts
 | []=>rfl
 |
  t::ts=>by
  unfold rss
  rw[oC hv ts]
  have:rs e2 t=rs e t:=by
   cases t with
   |bor i=>exact hv i
   |_=>rfl
  rw[this]
def rL(ok:okA e ms ts=true):Lnk (ck ms ts) e (sls ms vs):=by
 refine⟨λj k i q1 q2=>iS ok (ek q2).1 (ek q2).2 (ek q1).2,λj v q=>?_,λj s q hm=>?_⟩
 ·obtain⟨b,u,q1,_,q2⟩:=eK q
  cases b with
  |false=>cases q2
  |
   true=>
   obtain⟨i,y1,w,y2⟩:=ku ok q1
   obtain⟨s,z1,z2⟩:=Oj.mp y2
   exact⟨i,s,Fe q1 y1,z1,by cases s <;> first |rfl |cases z2⟩
 ·obtain⟨b,u,q1,_,q2⟩:=eK q
  cases b with
  |false=>subst q2;cases hm
  |true=>exact⟨u,q2⟩
section
variable{X:Nat->Prop}{h0 L:Nat}{ns:Ns}{e:E3}{ae:AE}{h:AH}{ms:List Bool}{ts:List Tm}{ds:List D}{vs:List Val}{S2:Fn}{G3:Fn3}
def iW(Y:Nat->Prop)(hY:∀n,Y n->X n\/Y n)(hl:aV e ms ts=[])(z:¬ Xc X ns e ms ts n)(z2:some n∉bY (ck ms ts) ns):Oc X ns n:=by
 refine⟨λy=>z ⟨.inl y,z2,λi hi=>by rw[hl] at hi;cases hi⟩,λy=>z ⟨.inr y,z2,λi hi=>by rw[hl] at hi;cases hi⟩⟩
def ui(S:Sat X h0 ns e ae h)(hL:L<=h.length)(rt:TsR X ns ae h ds ts)(qv:rss e ts=some vs)(ok:okA e ms ts=true)(hG:RF ms S2 G3)(q:G3 vs=.ok r mv)(hf:aV e ms ts=[]\/(ki r=true/\mv.all cZ=true)):
 Po X h0 ns e ae h (relE X h0 L ae) (S2 ds h) (.ok (r.tm ts) (ba (ck ms ts) (aN ms mv) e)):=by
 have p:=hG _ _ ds vs h (by rw[kq qv,iY ok]) (sq S rt qv ok)
 rw[q] at p
 obtain⟨d,h',p1,a,rr⟩:=p
 have K:=rL (vs:=vs) ok
 have xcl:∀n,X n->n<h.length:=S.xl
 cases r with
 |
  val v=>
  obtain⟨S3,rv⟩:=rr
  obtain⟨S4,a4⟩:=S.back (Y:=X) K a (λn z=>⟨B_ (xcl n z) a.len,.inl z⟩) (λ_ z=>z) λj w n q1 q2=>by
   obtain⟨s,u,o,b1,b2,b3,b4,b5,b6,b7⟩:=S3.own q2
   rw[q1] at b1;cases b1;cases b3
   rcases hf with hf |hf
   ·exact⟨o,b5,b6,b7.mono λm o' z y=>⟨iW X (λ_ z=>.inl z) hf z.1 z.2,y⟩⟩
   ·exact⟨o,b5,b6,b7.flat (N_.mp hf.2 w (er q1))⟩
  refine⟨d,h',ns,p1,a4,S4,?_⟩
  rcases hf with hf |hf
  ·exact rv.mono λm o' z y=>⟨iW X (λ_ z=>.inl z) hf z.1 z.2,y⟩
  ·exact rv.flat hf.1
 |
  new v=>
  obtain⟨n,o,z1,z2,z3,z4,z5,S3,z7⟩:=rr
  have hnx:¬ X n:=λy=>by have:=xcl n y;omega
  have kk:∀m,Oc (Xn (Xc X ns e ms ts) n) (bY (ck ms ts) ns) m->aV e ms ts=[]->Oc (Xn X n) ns m:=λm z hf=>by
   have:=iW X (λ_ z=>.inl z) hf (λy=>z.1 (.inl y)) z.2
   exact⟨λy=>by
    rcases y with y |y
    ·exact this.1 y
    ·exact z.1 (.inr y),this.2⟩
  obtain⟨S4,a4⟩:=S.back (Y:=Xn X n) K a (λm z=>by
   rcases z with z |rfl
   ·exact⟨B_ (xcl m z) a.len,.inl z⟩
   ·exact⟨bH z4,.inr z2⟩) (λ_ z=>.inl z) λj w n' q1 q2=>by
   obtain⟨s,u,o,b1,b2,b3,b4,b5,b6,b7⟩:=S3.own q2
   rw[q1] at b1;cases b1;cases b3
   rcases hf with hf |hf
   ·exact⟨o,b5,b6,b7.mono λm o' z y=>⟨kk m z hf,y⟩⟩
   ·exact⟨o,b5,b6,b7.flat (N_.mp hf.2 w (er q1))⟩
  refine⟨d,h',ns,p1,a4,S4.weak λ_ z=>.inl z,n,o,z1,y_ hL z2,hnx,z4,z5,S4,?_⟩
  rcases hf with hf |hf
  ·exact z7.mono λm o' z y=>⟨kk m z hf,y⟩
  ·exact z7.flat hf.1
 |
  par i=>
  obtain⟨S3,w1,w,w2⟩:=rr
  obtain⟨S4,a4⟩:=S.back (Y:=X) K a (λn z=>⟨B_ (xcl n z) a.len,.inl z⟩) (λ_ z=>z) λj w n q1 q2=>by
   obtain⟨s,u,o,b1,b2,b3,b4,b5,b6,b7⟩:=S3.own q2
   rw[q1] at b1;cases b1;cases b3
   rcases hf with hf |hf
   ·exact⟨o,b5,b6,b7.mono λm o' z y=>⟨iW X (λ_ z=>.inl z) hf z.1 z.2,y⟩⟩
   ·exact⟨o,b5,b6,b7.flat (N_.mp hf.2 w (er q1))⟩
  refine⟨d,h',ns,p1,a4,S4,?_⟩
  obtain⟨u,x1,_⟩:=a.mu i w w2
  obtain⟨b,u',x2,_,x3⟩:=eK x1
  cases b with
  |false=>cases x3
  |
   true=>
   obtain⟨k,y1,_⟩:=ku ok x2
   obtain⟨d',y2,z⟩:=rt.get y1
   have e1:(Rt.par i).tm ts=.bor k:=by show (ts[i]?).getD _=_;rw[y1];rfl
   rw[e1]
   rcases z with ⟨_,z,_⟩ |⟨j,z,z2⟩
   ·cases z
   ·cases z
    rw[E_,y2] at w1
    cases w1
    exact z2
def A5(S:Sat X h0 ns e ae h)(rt:TsR X ns ae h ds ts)(qv:rss e ts=some vs)(ok:okA e ms ts=true)(hG:RF ms S2 G3)(q:G3 vs=.exc c mv)(hf:aV e ms ts=[]\/mv.all cZ=true):
 Po X h0 ns e ae h (relE X h0 L ae) (S2 ds h) (.exc c (ba (ck ms ts) (aN ms mv) e)):=by
 have p:=hG _ _ ds vs h (by rw[kq qv,iY ok]) (sq S rt qv ok)
 rw[q] at p
 obtain⟨h',p1,a,S3⟩:=p
 have K:=rL (vs:=vs) ok
 obtain⟨S4,a4⟩:=S.back (Y:=X) K a (λn z=>⟨B_ (S.xl n z) a.len,.inl z⟩) (λ_ z=>z) λj w n q1 q2=>by
  obtain⟨s,u,o,b1,b2,b3,b4,b5,b6,b7⟩:=S3.own q2
  rw[q1] at b1;cases b1;cases b3
  rcases hf with hf |hf
  ·exact⟨o,b5,b6,b7.mono λm o' z y=>⟨iW X (λ_ z=>.inl z) hf z.1 z.2,y⟩⟩
  ·exact⟨o,b5,b6,b7.flat (N_.mp hf w (er q1))⟩
 exact⟨h',ns,p1,a4,S4⟩
def Fw(hn:n=ms.length)(hG:RF ms S2 G3)(hA:RA A A3):RE (uX n S2 A) (Cu ms G3 A3):=λX h0 L ns e ae h S hl=>
 Po.bind
  S (hA X h0 ns e ae h S) λds ts h1 ns1 e1 a1 S1 r1=>by
  try dsimp only
  cases qv:rss e1 ts with
  |none=>trivial
  |
   some vs=>
   dsimp only
   by_cases ok:okA e1 ms ts=true
   ·rw[if_pos ok]
    have bd:ds.length=n:=by rw[hn,iY ok];exact TsR.len r1
    rw[if_pos bd]
    have hL:L<=h1.length:=y_ hl a1.len
    cases q:G3 vs with
    |stuck=>trivial
    |
     exc c mv=>
     dsimp only
     by_cases hf:((aV e1 ms ts).isEmpty || mv.all cZ)=true
     ·rw[if_pos hf]
      refine A5 S1 r1 qv ok hG q ?_
      rw[Qt] at hf
      rcases hf with hf |hf
      ·exact .inl (List.isEmpty_iff.mp hf)
      ·exact .inr hf
     ·rw[if_neg hf];trivial
    |
     ok r mv=>
     dsimp only
     by_cases hf:((aV e1 ms ts).isEmpty || (ki r&&mv.all cZ))=true
     ·rw[if_pos hf]
      refine ui S1 hL r1 qv ok hG q ?_
      rw[Qt,n_] at hf
      rcases hf with hf |hf
      ·exact .inl (List.isEmpty_iff.mp hf)
      ·exact .inr hf
     ·rw[if_neg hf]
      cases qd:nW e1 (aV e1 ms ts) with
      |none=>trivial
      |
       some e2=>
       dsimp only
       obtain⟨e_,S2',a2,k1,k2,k3⟩:=rm S1 (λi hi=>by
        obtain⟨k,_,y⟩:=kX hi
        obtain⟨d,_,z⟩:=r1.get y
        rcases z with ⟨_,z,_⟩ |⟨j,z,z2⟩
        ·cases z
        ·cases z;exact⟨d,z2⟩) qd
       have ok2:okA e2 ms ts=true:=oH (λk i q1 q2=>k1 i λz=>by
        obtain⟨k',y1,y2⟩:=kX z
        have:=iS ok q1 q2 y2
        subst this
        rw[q1] at y1;cases y1) ok
       have ln:aV e2 ms ts=[]:=sO λk i q1 q2=>by
        by_cases z:i∈aV e1 ms ts
        ·exact k2 i z
        ·rw[k1 i z]
         exact Qb λw=>z (lj q1 q2 λv y=>w ⟨v,y⟩)
       have pp:=ui (L:=L) S2' hL (r1.stp S1 a2) (by rw[oC k3];exact qv) ok2 hG q (.inl ln)
       obtain⟨d,h',ns',y,y1,y2,y3⟩:=pp
       exact⟨d,h',ns',y,a2.trans S1 y1,y2,y3⟩
   ·rw[if_neg ok];trivial
end
def RMv(m2:D->List D->AH->R D)(m3:Val->List Val->Bv):Prop:=∀P h d v ds vs,ShR P h d v->dP v=true->ShRs P h ds vs->BvR P h (m2 d ds h) (m3 v vs)
def Co(m:Val->List Val->Bv)(F:ME3)(A:MA3):ME3:=λe=>(F e).bind λt e1=>if (rs e1 t).map dP=some true then (A e1).bind λts e2=>(match rs e2 t.drop,rss e2 ts with
 |some v,some vs=>if dP v=true then (m v vs).at e2 else .stuck
 |_,_=>.stuck) else .stuck
def zA(r:ShR P h d v)(q:dP v=true):ig h d=true:=by
 cases v with
 |lst xs=>obtain⟨n,ds,rfl,_,e1,_⟩:=r.lst;show (aP h n).isSome=true;rw[e1];rfl
 |_=>cases q
def Dg(hm:RMv m2 m3)(hF:RE F F3)(hA:RA A A3):RE (eM m2 F A) (Co m3 F3 A3):=λX h0 L ns e ae h S hl=>
 Po.bind
  S (hF X h0 L ns e ae h S hl) λd t h1 ns1 e1 a1 S1 r1=>by
  try dsimp only
  split
  ·by_cases hq:(rs e1 t).map dP=some true
   ·rw[if_pos hq]
    refine Po.bind S1 (hA X h0 ns1 e1 ae h1 S1) λds ts h2 e_ e2 a2 S2 r2=>?_
    try dsimp only
    split
    ·rename_i v vs q1 q2
     obtain⟨r1',hn⟩:=r1.drop
     by_cases hv:dP v=true
     ·rw[if_pos hv]
      exact BvR.po S2 (y_ hl (y_ a1.len a2.len)) (hm _ _ _ _ _ _ ((r1'.stp S1 a2 hn).sh S2 q1) hv (TsR.sh S2 r2 q2))
     ·rw[if_neg hv];trivial
    ·trivial
   ·rw[if_neg hq];trivial
  ·rename_i hL
   by_cases hq:(rs e1 t).map dP=some true
   ·obtain⟨v,z1,z2⟩:=D_.mp hq
    exact absurd (zA (r1.sh S1 z1) z2) hL
   ·rw[if_neg hq];trivial
noncomputable def aI(f:Int->Int->Val):Val->Val->Bv:=λx y=>match x,y with
 |.int i,.int j=>.val (f i j)
 |_,_=>.stuck
open Classical in
def aIc(C:Int->Int->Prop)(f:Int->Int->Val):Val->Val->Bv:=λx y=>match x,y with
 |.int i,.int j=>if C i j then .val (f i j) else .stuck
 |_,_=>.stuck
noncomputable def wd:Val->Val->Bv:=λx y=>match x,y with
 |.lst xs,.lst ys=>if xs.length+ys.length<=16777216 then .new (.lst (xs++ys)) else .stuck
 |.tup xs,.tup ys=>if xs.length+ys.length<=16777216 then .val (.tup (xs++ys)) else .stuck
 |_,_=>.stuck
noncomputable def BK:Val->Val->Bv:=λx y=>match x,y with
 |.int i,.int j=>.val (.int (i+j))
 |x,y=>wd x y
noncomputable def aMin:=aI λi j=>.int (i-j)
def vz:=aIc CMulA λi j=>.int (i*j)
def vX:=aIc CDivB λi j=>.int (i.fdiv j)
def vO:=aIc (λ_ j=>j≠0) λi j=>.int (i.fmod j)
def vQ:=aIc ng λi j=>.int (i^j.toNat)
noncomputable def aLt:=aI λi j=>.bl (decide (i<j))
noncomputable def aGt:=aI λi j=>.bl (decide (j<i))
noncomputable def aGe:=aI λi j=>.bl (decide (j<=i))
noncomputable def zQ:Val->Bv:=λx=>match x with
 |.int i=>.val (.int (-i))
 |_=>.stuck
noncomputable def sy:Val->Val->Bv:=λx y=>match x,y with
 |.lst xs,.int k=>if -(2^63)<=k/\k<2^63/\xs.length*k.toNat<=16777216 then .new (.lst (List.replicate k.toNat xs).flatten) else .stuck
 |_,_=>.stuck
def aIx:Val->Val->Bv:=λx y=>match x.items,y with
 |some xs,.int i=>(match atI xs i with
  |some v=>.val v
  |none=>.stuck)
 |_,_=>.stuck
section
def rO(hr:∀i j P h,Rd P h (f2 i j) (f3 i j)):RO (gI f2) (aI f3):=λP h d1 d2 v1 v2 r1 r2=>by
 unfold aI
 split
 ·obtain rfl:=r1.int;obtain rfl:=r2.int;exact⟨_,rfl,hr _ _ P h⟩
 ·trivial
def pz(hr:∀i j P h,Rd P h (f2 i j) (f3 i j)):RO (gIc C f2) (aIc C f3):=λP h d1 d2 v1 v2 r1 r2=>by
 unfold aIc
 split
 ·obtain rfl:=r1.int;obtain rfl:=r2.int
  split
  ·rename_i hc;exact⟨_,by unfold gIc;dsimp only;rw[if_pos hc],hr _ _ P h⟩
  ·trivial
 ·trivial
def GA:RO kZ wd:=λP h d1 d2 v1 v2 r1 r2=>by
 unfold wd
 split
 ·obtain⟨n,ds,rfl,e1,_,q1⟩:=r1.lst
  obtain⟨m,es,rfl,e2,_,q2⟩:=r2.lst
  split
  ·rename_i hl
   exact⟨.lst (ds++es),by unfold kZ;dsimp only;rw[e1,e2];dsimp only;rw[if_pos (by rw[q1.len,q2.len];exact hl)],trivial,.lst (q1.append q2)⟩
  ·trivial
 ·obtain⟨ds,rfl,q1⟩:=r1.tup
  obtain⟨es,rfl,q2⟩:=r2.tup
  split
  ·rename_i hl
   exact⟨_,by unfold kZ;dsimp only;rw[if_pos (by rw[q1.len,q2.len];exact hl)],.tup (q1.append q2)⟩
  ·trivial
 ·trivial
def K7:RO uW BK:=λP h d1 d2 v1 v2 r1 r2=>by
 unfold BK
 split
 ·obtain rfl:=r1.int;obtain rfl:=r2.int;exact⟨_,rfl,.int _⟩
 ·rename_i hn
  have k:=GA P h d1 d2 v1 v2 r1 r2
  have e:uW d1 d2 h=kZ d1 d2 h\/wd v1 v2=.stuck:=by
   cases v1 <;> first |(right;rfl) |(left;skip)
   ·obtain⟨ds,rfl,_⟩:=r1.tup;rfl
   ·obtain⟨n,ds,rfl,_⟩:=r1.lst;rfl
  rcases e with e |e
  ·rw[e];exact k
  ·rw[e];trivial
def HZ:RO zT aMin:=rO λ_ _ _ _=>.int _
def GJ:RO Ac vz:=pz λ_ _ _ _=>.int _
def FZ:RO A4 vX:=pz λ_ _ _ _=>.int _
def IW:RO Bm vO:=pz λ_ _ _ _=>.int _
def Hn:RO BU vQ:=pz λ_ _ _ _=>.int _
def N3:RO gLt aLt:=rO λ_ _ _ _=>.bl _
def L8:RO gGt aGt:=rO λ_ _ _ _=>.bl _
def Mb:RO gGe aGe:=rO λ_ _ _ _=>.bl _
def Hm:RU vP zQ:=λP h d v r=>by
 unfold zQ
 split
 ·obtain rfl:=r.int;exact⟨_,rfl,.int _⟩
 ·trivial
def HA:RO qu sy:=λP h d1 d2 v1 v2 r1 r2=>by
 unfold sy
 split
 ·obtain⟨n,ds,rfl,e1,_,q1⟩:=r1.lst
  obtain rfl:=r2.int
  split
  ·rename_i hl
   exact⟨.lst (List.replicate _ ds).flatten,by unfold qu;dsimp only;rw[e1];dsimp only;rw[if_pos (by rw[q1.len];exact hl)],trivial,.lst (q1.rep _)⟩
  ·trivial
 ·trivial
def Mv(r:Rds P h ds vs)(e:atI vs i=some v):∃d,atI ds i=some d/\Rd P h d v:=by
 unfold atI at e ⊢
 rw[r.len]
 cases q:ixN vs.length i with
 |none=>rw[q] at e;cases e
 |some j=>rw[q] at e;exact r.get e
def Mx:RO gIx aIx:=λP h d1 d2 v1 v2 r1 r2=>by
 unfold aIx
 split
 ·rename_i xs i e1
  obtain⟨ds,e2,q⟩:=r1.items e1
  obtain rfl:=r2.int
  split
  ·rename_i v e3
   obtain⟨d,e4,q2⟩:=Mv q e3
   exact⟨d,by unfold gIx;rw[e2];dsimp only;rw[e4],q2⟩
  ·trivial
 ·trivial
end
mutual
noncomputable def cK:Nat->Val->Option PyData
 |0,_=>none
 |_+1,.non=>some .none
 |_+1,.bl b=>some (.bool b)
 |_+1,.int i=>some (.int i)
 |_+1,.str x=>some (.str x)
 |k+1,.tup xs=>(d8 k xs).map .tuple
 |k+1,.lst xs=>(d8 k xs).map .list
 |_+1,_=>none
noncomputable def d8:Nat->List Val->Option (List PyData)
 |_,[]=>some []
 |k,x::xs=>match cK k x,d8 k xs with
  |some a,some b=>some (a::b)
  |_,_=>none
end
def AA(hk:∀d v pd,Rd P h d v->cK k v=some pd->cG k h d=some pd):∀{ds:List D}{vs:List Val}{ps:List PyData},Rds P h ds vs->d8 k vs=some ps->ds.mapM (cG k h)=some ps:=by
 intro ds
 induction ds with
 |
  nil=>
  intro vs ps r q
  cases r
  unfold d8 at q
  cases q
  rfl
 |
  cons d0 ds ih=>
  intro vs ps r q
  cases r with
  |
   cons r rr=>
   unfold d8 at q
   split at q
   ·rename_i a b e1 e2
    cases q
    rw[P0,hk _ _ _ r e1,ih rr e2];rfl
   ·cases q
theorem kG:∀(k:Nat) (d:D) (v:Val) (pd:PyData),ShR P h d v->cK k v=some pd->cG k h d=some pd
 |0,_,_,_,_,q=>by unfold cK at q;cases q
 |
  k+1,d,v,pd,r,q=>by
  have ih:∀{ds:List D}{vs:List Val}{ps:List PyData},Rds P h ds vs->d8 k vs=some ps->ds.mapM (cG k h)=some ps:=AA λd v pd r q=>kG k d v pd (.inl r) q
  cases v with
  |non=>obtain rfl:=r.non;simp only[cK] at q;cases q;rfl
  |bl b=>obtain rfl:=r.bl;simp only[cK] at q;cases q;rfl
  |int b=>obtain rfl:=r.int;simp only[cK] at q;cases q;rfl
  |str b=>obtain rfl:=r.str;simp only[cK] at q;cases q;rfl
  |
   tup xs=>
   obtain⟨ds,rfl,r2⟩:=r.tup
   simp only[cK] at q
   obtain⟨ps,q1,rfl⟩:=D_.mp q
   show (ds.mapM (cG k h)).map PyData.tuple=_
   rw[ih r2 q1];rfl
  |
   lst xs=>
   obtain⟨n,ds,rfl,_,e1,r2⟩:=r.lst
   simp only[cK] at q
   obtain⟨ps,q1,rfl⟩:=D_.mp q
   unfold cG
   rw[e1]
   show (ds.mapM (cG k h)).map PyData.list=_
   rw[ih r2 q1];rfl
  |_=>simp only[cK] at q;cases q
def c8(x y:Val):Option Bool:=match cK 164 x,cK 164 y with
 |some a,some b=>if shp a=true/\shp b=true then some (PyData.eqv a b) else none
 |_,_=>none
def aEq(neg:Bool):Val->Val->Bv:=λx y=>match c8 x y with
 |some b=>.val (.bl (if neg then !b else b))
 |none=>.stuck
def wO(r1:ShR P h d1 v1)(r2:ShR P h d2 v2)(q:c8 v1 v2=some b):jY h d1 d2=some b:=by
 unfold c8 at q
 split at q
 ·rename_i a c e1 e2
  unfold jY
  rw[kG 164 _ _ _ r1 e1,kG 164 _ _ _ r2 e2]
  exact q
 ·cases q
def Cp(neg:Bool):RO (gEq neg) (aEq neg):=λP h d1 d2 v1 v2 r1 r2=>by
 unfold aEq
 split
 ·rename_i b q
  exact⟨_,by unfold gEq;rw[wO r1 r2 q],.bl _⟩
 ·trivial
noncomputable def pK:Val->Bool
 |.non=>true
 |.bl _=>true
 |.int _=>true
 |.str _=>true
 |_=>false
noncomputable def wc:Val->V
 |.bl b=>.bl b
 |.int i=>.int i
 |.str x=>.str x
 |_=>.non
def eq1(x y:Val):Bool:=eqV (wc x) (wc y)
def aIn(neg:Bool):Val->Val->Bv:=λx y=>match y.items with
 |some xs=>if pK x=true/\xs.all pK=true then .val (.bl (if neg then !(xs.any λd=>eq1 d x) else xs.any λd=>eq1 d x)) else .stuck
 |none=>.stuck
def uv(r:ShR P h d v)(f:pK v=true):kD d=true/\toV d=wc v:=by
 cases v with
 |non=>obtain rfl:=r.non;exact⟨rfl,rfl⟩
 |bl b=>obtain rfl:=r.bl;exact⟨rfl,rfl⟩
 |int b=>obtain rfl:=r.int;exact⟨rfl,rfl⟩
 |str b=>obtain rfl:=r.str;exact⟨rfl,rfl⟩
 |_=>cases f
def Ah(x:D)(y:Val)(hx:toV x=wc y):∀{ds:List D}{vs:List Val},Rds P h ds vs->vs.all pK=true->ds.all kD=true/\(ds.any λd=>eqF d x)=vs.any λd=>eq1 d y:=by
 intro ds
 induction ds with
 |
  nil=>
  intro vs r f
  cases r
  exact⟨rfl,rfl⟩
 |
  cons d0 ds ih=>
  intro vs r f
  cases r with
  |
   cons r rr=>
   rw[P9,n_] at f
   obtain⟨h1,h2⟩:=uv (.inl r) f.1
   obtain⟨h3,h4⟩:=ih rr f.2
   refine⟨by rw[P9,h1,h3];rfl,?_⟩
   rw[OV,OV,h4]
   unfold eqF eq1
   rw[h2,hx]
def Ck(neg:Bool):RO (gIn neg) (aIn neg):=λP h d1 d2 v1 v2 r1 r2=>by
 unfold aIn
 split
 ·rename_i xs e
  obtain⟨ds,e2,q⟩:=r2.items e
  split
  ·rename_i hf
   obtain⟨f1,f2⟩:=uv r1 hf.1
   obtain⟨f3,f4⟩:=Ah d1 v1 f2 q hf.2
   exact⟨_,by unfold gIn;rw[e2];dsimp only;rw[if_pos ⟨f1,f3⟩,f4],.bl _⟩
  ·trivial
 ·trivial
noncomputable def zP(neg:Bool):Val->Val->Bv:=λx y=>match x,y with
 |.non,.non=>.val (.bl (!neg))
 |_,.non=>.val (.bl neg)
 |_,_=>.stuck
def Hf(neg:Bool):RO (qZ neg) (zP neg):=λP h d1 d2 v1 v2 r1 r2=>by
 unfold zP
 split
 ·obtain rfl:=r1.non;obtain rfl:=r2.non;exact⟨_,rfl,.bl _⟩
 ·rename_i hn
  obtain rfl:=r2.non
  have:d1 ≠ .non:=by
   rintro rfl
   rcases r1 with r |⟨n,o,z,_⟩
   ·cases r;exact hn rfl
   ·cases z
  refine⟨_,?_,.bl neg⟩
  unfold qZ
  split
  ·exact absurd rfl this
  ·rfl
  ·rename_i h1 h2;exact (h1 rfl).elim
 ·trivial
noncomputable def Aj:List Val->Bv:=λvs=>match vs with
 | [v]=>(match v.items with
  |some xs=>.val (.int xs.length)
  |none=>(match v with
   |.str z=>if z.length<=16777216 then .val (.int z.length) else .stuck
   |_=>.stuck))
 |_=>.stuck
noncomputable def AU:List Val->Bv:=λvs=>match vs with
 | [.int i]=>.val (.int (if i<0 then -i else i))
 |_=>.stuck
noncomputable def u9:List Val->Bv:=λvs=>match vs with
 | [.int i,.int j]=>.val (.int (if j>i then j else i))
 |_=>.stuck
noncomputable def we:List Val->Bv:=λvs=>match vs with
 | [.int i,.int j]=>.val (.int (if j<i then j else i))
 |_=>.stuck
noncomputable def j0:List Val->Option (List Bool)
 | []=>some []
 |.bl b::r=>(j0 r).map (b :: ·)
 |_=>none
noncomputable def gi:List Val->Option (List Int)
 | []=>some []
 |.int b::r=>(gi r).map (b :: ·)
 |_=>none
def zu:List Val->Bv:=λvs=>match vs with
 | [.lst xs]=>(match j0 xs with
  |some bs=>.val (.bl (bs.all id))
  |none=>.stuck)
 |_=>.stuck
def zZ:List Val->Bv:=λvs=>match vs with
 | [.lst xs]=>(match gi xs with
  |some bs=>.val (.int bs.sum)
  |none=>.stuck)
 |_=>.stuck
noncomputable def vH:List Val->Bv:=λvs=>match vs with
 | [v]=>(match v.items with
  |some xs=>.new (.lst xs)
  |none=>.stuck)
 |_=>.stuck
noncomputable def rK:List Val->Bv:=λvs=>match vs with
 | [v]=>(match v.items with
  |some xs=>.val (.tup xs)
  |none=>.stuck)
 |_=>.stuck
noncomputable def Bq:List Val->Bv:=λvs=>match vs with
 | [.int i]=>.val (.int i)
 | [.bl b]=>.val (.int (if b then 1 else 0))
 |_=>.stuck
def H9:RFn qU Aj:=λP h ds vs r=>by
 unfold Aj
 split
 ·obtain⟨d,hd,rr1⟩:=dG r;subst hd;clear r;have r:=rr1
  split
  ·rename_i xs e
   obtain⟨es,e2,q⟩:=r.items e
   exact⟨_,by unfold qU;dsimp only;rw[e2],by rw[<- q.len];exact .int _⟩
  ·split
   ·rename_i z _
    obtain rfl:=r.str
    split
    ·rename_i hl;exact⟨_,by show (if z.length<=16777216 then _ else _)=_;rw[if_pos hl],.int _⟩
    ·trivial
   ·trivial
 ·trivial
def GY:RFn vT AU:=λP h ds vs r=>by
 unfold AU
 split
 ·obtain⟨d,hd,rr1⟩:=dG r;subst hd;clear r;have r:=rr1;obtain rfl:=r.int;exact⟨_,rfl,.int _⟩
 ·trivial
def Df:RFn pL u9:=λP h ds vs r=>by
 unfold u9
 split
 ·obtain⟨d,d',hd,rr1,r'⟩:=vo r;subst hd;clear r;have r:=rr1;obtain rfl:=r.int;obtain rfl:=r'.int;exact⟨_,rfl,.int _⟩
 ·trivial
def EX:RFn pb we:=λP h ds vs r=>by
 unfold we
 split
 ·obtain⟨d,d',hd,rr1,r'⟩:=vo r;subst hd;clear r;have r:=rr1;obtain rfl:=r.int;obtain rfl:=r'.int;exact⟨_,rfl,.int _⟩
 ·trivial
def LZ:∀{ds:List D}{vs:List Val}{bs:List Bool},Rds P h ds vs->j0 vs=some bs->gX ds=some bs:=by
 intro ds
 induction ds with
 |
  nil=>
  intro vs bs r q
  cases r
  cases q
  rfl
 |
  cons d0 ds ih=>
  intro vs bs r q
  cases r with
  |
   cons r rr=>
   rename_i v vs
   cases v with
   |
    bl b=>
    obtain rfl:=ShR.bl (.inl r)
    obtain⟨b',q1,rfl⟩:=D_.mp (show (j0 vs).map (b :: ·)=some bs from q)
    show (gX _).map (b :: ·)=_
    rw[ih rr q1];rfl
   |_=>cases q
def Hx:∀{ds:List D}{vs:List Val}{bs:List Int},Rds P h ds vs->gi vs=some bs->fT ds=some bs:=by
 intro ds
 induction ds with
 |
  nil=>
  intro vs bs r q
  cases r
  cases q
  rfl
 |
  cons d0 ds ih=>
  intro vs bs r q
  cases r with
  |
   cons r rr=>
   rename_i v vs
   cases v with
   |
    int b=>
    obtain rfl:=ShR.int (.inl r)
    obtain⟨b',q1,rfl⟩:=D_.mp (show (gi vs).map (b :: ·)=some bs from q)
    show (fT _).map (b :: ·)=_
    rw[ih rr q1];rfl
   |_=>cases q
def Jl:RFn qc zu:=λP h ds vs r=>by
 unfold zu
 split
 ·obtain⟨d,hd,rr1⟩:=dG r;subst hd;clear r;have r:=rr1
  obtain⟨n,es,rfl,_,e1,q⟩:=r.lst
  split
  ·rename_i bs e2
   exact⟨_,by unfold qc;dsimp only;rw[e1];show (match gX es with |some bs=>_ |none=>_)=_;rw[LZ q e2],.bl _⟩
  ·trivial
 ·trivial
def HX:RFn pP zZ:=λP h ds vs r=>by
 unfold zZ
 split
 ·obtain⟨d,hd,rr1⟩:=dG r;subst hd;clear r;have r:=rr1
  obtain⟨n,es,rfl,_,e1,q⟩:=r.lst
  split
  ·rename_i bs e2
   exact⟨_,by unfold pP;dsimp only;rw[e1];show (match fT es with |some bs=>_ |none=>_)=_;rw[Hx q e2],.int _⟩
  ·trivial
 ·trivial
def Dr:RFn lZ vH:=λP h ds vs r=>by
 unfold vH
 split
 ·obtain⟨d,hd,rr1⟩:=dG r;subst hd;clear r;have r:=rr1
  split
  ·rename_i xs e
   obtain⟨es,e2,q⟩:=r.items e
   exact⟨.lst es,by unfold lZ;dsimp only;rw[e2],trivial,.lst q⟩
  ·trivial
 ·trivial
def Be:RFn jX rK:=λP h ds vs r=>by
 unfold rK
 split
 ·obtain⟨d,hd,rr1⟩:=dG r;subst hd;clear r;have r:=rr1
  split
  ·rename_i xs e
   obtain⟨es,e2,q⟩:=r.items e
   exact⟨_,by unfold jX;dsimp only;rw[e2],.tup q⟩
  ·trivial
 ·trivial
def JC:RFn wB Bq:=λP h ds vs r=>by
 unfold Bq
 split
 ·obtain⟨d,hd,rr1⟩:=dG r;subst hd;clear r;have r:=rr1;obtain rfl:=r.int;exact⟨_,rfl,.int _⟩
 ·obtain⟨d,hd,rr1⟩:=dG r;subst hd;clear r;have r:=rr1;obtain rfl:=r.bl;exact⟨_,rfl,.int _⟩
 ·trivial
noncomputable def tyC:Val->Option Cl
 |.non=>some (.b "NoneType")
 |.bl _=>some (.b "bool")
 |.int _=>some (.b "int")
 |.str _=>some (.b "str")
 |.tup _=>some (.b "tuple")
 |.exc x=>some (.o x)
 |.lst _=>some (.b "list")
 |.dct _=>some (.b "dict")
 |_=>none
noncomputable def clV:Val->Option Cl
 |.ty n=>some (.b n)
 |.glb x=>some (.o x)
 |_=>none
def vD:List Val->Option (List Cl)
 | []=>some []
 |v::vs=>match clV v,vD vs with
  |some c,some cs=>some (c::cs)
  |_,_=>none
def LR:Val->Option (List Cl)
 |.tup cs=>vD cs
 |v=>(clV v).map ([·])
def Bu(kt:i9):List Val->Bv:=λvs=>match vs with
 | [v,c]=>(match tyC v,LR c with
  |some t,some (c0::cr)=>(match fF kt t (c0::cr),kit kt t c0 with
   |some b,some _=>.val (.bl b)
   |_,_=>.stuck)
  |_,_=>.stuck)
 |_=>.stuck
def MF(r:ShR P h d v)(q:tyC v=some t):tyD h d=some t:=by
 cases v with
 |non=>obtain rfl:=r.non;exact q
 |bl b=>obtain rfl:=r.bl;exact q
 |int b=>obtain rfl:=r.int;exact q
 |str b=>obtain rfl:=r.str;exact q
 |exc b=>obtain rfl:=r.exc;exact q
 |tup b=>obtain⟨ds,rfl,_⟩:=r.tup;exact q
 |lst b=>obtain⟨n,ds,rfl,e,_⟩:=r.lst;unfold tyD;dsimp only;rw[e];exact q
 |dct b=>obtain⟨n,ds,rfl,e,_⟩:=r.dct;unfold tyD;dsimp only;rw[e];exact q
 |_=>cases q
def CL(r:ShR P h d v)(q:clV v=some c):clD d=some c:=by
 cases v with
 |ty b=>obtain rfl:=r.ty;exact q
 |glb b=>obtain rfl:=r.glb;exact q
 |_=>cases q
def HW:∀{ds:List D}{vs:List Val}{cs:List Cl},Rds P h ds vs->vD vs=some cs->ds.mapM clD=some cs:=by
 intro ds
 induction ds with
 |
  nil=>
  intro vs cs r q
  cases r
  cases q
  rfl
 |
  cons d0 ds ih=>
  intro vs cs r q
  cases r with
  |
   cons r rr=>
   unfold vD at q
   split at q
   ·rename_i c cs' e1 e2
    cases q
    rw[P0,CL (.inl r) e1,ih rr e2];rfl
   ·cases q
def HQ(kt:i9):RFn (qN kt) (Bu kt):=λP h ds vs r=>by
 unfold Bu
 split
 ·rename_i v c
  obtain⟨d,d',rfl,r1,r2⟩:=vo r
  split
  ·rename_i t c0 cr e1 e2
   have e3:=MF r1 e1
   split
   ·rename_i b b' e4 e5
    refine⟨.bl b,?_,.bl b⟩
    unfold qN
    dsimp only
    rw[e3]
    dsimp only
    by_cases ht:∃cs,c=.tup cs
    ·obtain⟨cs,rfl⟩:=ht
     obtain⟨es,rfl,q⟩:=r2.tup
     dsimp only
     rw[HW q e2]
     dsimp only
     rw[e4,e5]
    ·have e2':(clV c).map ([·])=some (c0::cr):=by
      cases c with
      |tup cs=>exact absurd ⟨cs,rfl⟩ ht
      |_=>exact e2
     obtain⟨cl,y1,y2⟩:=D_.mp e2'
     cases y2
     have y3:=CL r2 y1
     have hd:∀cs,d' ≠ .tup cs:=λcs z=>by subst z;cases y3
     split
     ·rename_i cs;exact absurd rfl (hd cs)
     ·rw[y3]
      dsimp only
      have:kit kt t c0=some b:=by
       unfold fF at e4
       rw[e5] at e4 ⊢
       cases b' with
       |true=>exact e4
       |false=>unfold fF at e4;exact e4
      rw[this]
   ·trivial
  ·trivial
 ·trivial
def eT(xs:List Val)(lo hi:Option Int):List Val:=(xs.drop (HT.sIx xs.length 0 lo)).take (HT.sIx xs.length xs.length hi-HT.sIx xs.length 0 lo)
abbrev MO3:=E3->R3 (Option Int)
def Aw(_:Ns)(_:E3)(_:AH)(b c:Option Int):Prop:=b=c
def ROp(F:MO)(G:MO3):Prop:=∀X h0 ns e ae h,Sat X h0 ns e ae h->Po X h0 ns e ae h Aw (F ae h) (G e)
noncomputable def yN:MO3:=λe=>.ok none e
def xE(F:ME3):MO3:=λe=>(F e).bind λt e1=>match rs e1 t with
 |some (.int i)=>.ok (some i) e1
 |_=>.stuck
def aSl(x:Val)(lo hi:Option Int):Bv:=match x with
 |.tup xs=>if HT.sIx xs.length 0 lo=0/\HT.sIx xs.length xs.length hi=xs.length then .stuck else .val (.tup (eT xs lo hi))
 |.lst xs=>.new (.lst (eT xs lo hi))
 |.kl xs=>.new (.lst (eT xs lo hi))
 |_=>.stuck
def vSl(F:ME3)(L U:MO3):ME3:=λe=>(F e).bind λt e1=>(L e1).bind λlo e2=>(U e2).bind λhi e3=>match rs e3 t.drop with
 |some v=>(aSl v lo hi).at e3
 |none=>.stuck
def E7:ROp vG yN:=λX h0 ns e ae h S=>Po.ret S rfl
def C8(hF:RE F F3):ROp (vM F) (xE F3):=λX h0 ns e ae h S=>
 Po.bind S (hF X h0 0 ns e ae h S (Oq _)) λd t h1 ns1 e1 a1 S1 r1=>by
  by_cases hq:∃i,rs e1 t=some (.int i)
  ·obtain⟨i,hq⟩:=hq
   have hd:=(r1.sh S1 hq).int
   subst hd
   show Po X h0 ns1 e1 ae h1 Aw (R.ok (some i) h1) (match rs e1 t with |some (.int i)=>R3.ok (some i) e1 |_=>.stuck)
   rw[hq]
   exact Po.ret S1 rfl
  ·have:(match rs e1 t with |some (.int i)=>R3.ok (some i) e1 |_=>.stuck)=(.stuck:R3 (Option Int)):=by
    split
    ·rename_i i q;exact absurd ⟨i,q⟩ hq
    ·rfl
   show Po X h0 ns1 e1 ae h1 Aw _ (match rs e1 t with |some (.int i)=>R3.ok (some i) e1 |_=>.stuck)
   rw[this];trivial
def N4(hF:RE F F3)(hL:ROp L L3')(hU:ROp U U3):RE (eSl F L U) (vSl F3 L3' U3):=λX h0 LL ns e ae h S hl=>
 Po.bind
  S (hF X h0 LL ns e ae h S hl) λd t h1 ns1 e1 a1 S1 r1=>Po.bind S1 (hL X h0 ns1 e1 ae h1 S1) λlo lo' h2 e_ e2 a2 S2 r2=>Po.bind S2 (hU X h0 e_ e2 ae h2 S2) λhi hi' h3 ns3 e3 a3 S3 r3=>by
  cases r2;cases r3
  obtain⟨r1',hn⟩:=r1.drop
  have r4:=(r1'.stp S1 a2 hn).stp S2 a3 hn
  try dsimp only
  split
  ·rename_i v q
   have rr:=r4.sh S3 q
   refine BvR.po S3 (y_ hl (y_ a1.len (y_ a2.len a3.len))) ?_
   unfold aSl
   split
   ·rename_i xs
    obtain⟨ds,rfl,q1⟩:=rr.tup
    split
    ·trivial
    ·rename_i hne
     refine⟨_,by unfold gSl;dsimp only;rw[if_neg (by rw[q1.len];exact hne)],.tup ?_⟩
     unfold L2.cutD eT
     rw[q1.len]
     exact (q1.drop _).take _
   ·rename_i xs
    obtain⟨n,ds,rfl,_,e1,q1⟩:=rr.lst
    refine⟨.lst (L2.cutD ds lo hi),by unfold gSl;dsimp only;rw[e1],trivial,.lst ?_⟩
    unfold L2.cutD eT
    rw[q1.len]
    exact (q1.drop _).take _
   ·rename_i xs
    have key:∃ds,gSl d lo hi h3=.ok (.ref h3.length) (h3++[.lst (L2.cutD ds lo hi)])/\Rds (Oc X ns3) h3 ds xs:=by
     rcases rr with rr |⟨n,o,rfl,e,rr⟩
     ·cases rr with
      |kl q1=>exact⟨_,rfl,q1⟩
      |cell p e rc=>cases rc with |fz q1=>exact⟨_,by unfold gSl aP;dsimp only;rw[e],q1⟩
     ·cases rr with |fz q1=>exact⟨_,by unfold gSl aP;dsimp only;rw[e],q1⟩
    obtain⟨ds,e1,q1⟩:=key
    refine⟨.lst (L2.cutD ds lo hi),e1,trivial,.lst ?_⟩
    unfold L2.cutD eT
    rw[q1.len]
    exact (q1.drop _).take _
   ·trivial
  ·trivial
noncomputable def ny:Val->List Val->Option (Val×Val):=λu vs=>match u,vs with
 |.lst xs,[v]=>if xs.length<16777216 then some (.lst (xs++[v]),.non) else none
 |_,_=>none
noncomputable def rB:Val->List Val->Option (Val×Val):=λu vs=>match u,vs with
 |.lst xs,[]=>(match xs[xs.length-1]? with
  |some v=>some (.lst xs.dropLast,v)
  |none=>none)
 |_,_=>none
section
variable{P:Nat->Prop}{h:AH}
def mJ(e:h[n]?=some o)(r:Rc P h o (.lst xs)):ig h (.ref n)=true/\∃ds,h[n]?=some (.lst ds)/\Rds P h ds xs/\∀f,gr h (.ref n) f=f n ds:=by
 obtain⟨ds,e1,e2,q⟩:=Rc.seq e r
 refine⟨by show (aP h n).isSome=true;rw[e2];rfl,ds,e1,q,λf=>?_⟩
 unfold gr;dsimp only;rw[e1]
def u3(r:Rds P h ds [v]):∃d,ds=[d]/\Rd P h d v:=by
 cases r with |cons r rr=>cases rr;exact⟨_,rfl,r⟩
end
def xA:RM cV ny:=λP h n o u ds vs u' v e hf r rs q=>by
 unfold ny at q
 split at q
 ·split at q
  ·rename_i hl
   cases q
   obtain⟨q1,es,q2,q3,q4⟩:=mJ e r
   obtain⟨d,rfl,rd⟩:=u3 rs
   refine⟨q1,.lst (es++[d]),.non,?_,trivial,.lst (q3.append (.cons rd .nil)),.non⟩
   unfold cV;rw[q4];dsimp only;rw[if_pos (by rw[q3.len];exact hl)]
  ·cases q
 ·cases q
def HJ:RM vb rB:=λP h n o u ds vs u' v e hf r rs q=>by
 unfold rB at q
 split at q
 ·split at q
  ·rename_i w hw
   cases q
   obtain⟨q1,es,q2,q3,q4⟩:=mJ e r
   cases rs
   obtain⟨d,e2,rd⟩:=q3.get hw
   refine⟨q1,.lst es.dropLast,d,?_,trivial,.lst ?_,rd⟩
   ·unfold vb;rw[q4];dsimp only;rw[q3.len,e2]
   ·rw[PZ,PZ,q3.len];exact q3.take _
  ·cases q
 ·cases q
def sL:Val->Val->Val->Option Val:=λu i v=>match u,i with
 |.lst xs,.int k=>(match ixN xs.length k with
  |some j=>some (.lst (xs.set j v))
  |none=>none)
 |_,_=>none
def GN:v5 wL sL:=λP h n o u di vi d v u' _ e hf r ri rd q=>by
 unfold sL at q
 split at q
 ·split at q
  ·rename_i j hj
   cases q
   obtain⟨q1,es,q2,q3,q4⟩:=mJ e r
   obtain rfl:=ri.int
   refine⟨.lst (es.set j d),?_,trivial,.lst (q3.set rd j)⟩
   unfold wL;dsimp only;rw[q2];dsimp only;rw[q3.len,hj]
  ·cases q
 ·cases q
def rX(d:Val):List Val->Option (List Bool)
 | []=>some []
 |x::r=>match c8 x d,rX d r with
  |some b,some bs=>some (b::bs)
  |_,_=>none
def nY:Val->List Val->Bv:=λx vs=>match x,vs with
 |.lst xs,[d]=>(match rX d xs with
  |some bs=>if bs.idxOf true<bs.length then .val (.int (bs.idxOf true:Nat)) else .stuck
  |none=>.stuck)
 |_,_=>.stuck
def m6:Val->List Val->Bv:=λx vs=>match x,vs with
 |.lst xs,[d]=>if ((cK 164 d).map shp)=some true then (match rX d xs with
  |some bs=>.val (.int (bs.count true:Nat))
  |none=>.stuck) else .stuck
 |_,_=>.stuck
def CM(rd:ShR P h d v):∀{ds:List D}{vs:List Val}{bs:List Bool},Rds P h ds vs->rX v vs=some bs->eR h d ds=some bs:=by
 intro ds
 induction ds with
 |
  nil=>
  intro vs bs r q
  cases r
  cases q
  rfl
 |
  cons d0 ds ih=>
  intro vs bs r q
  cases r with
  |
   cons r rr=>
   unfold rX at q
   split at q
   ·rename_i b bs' e1 e2
    cases q
    unfold eR
    rw[wO (.inl r) rd e1,ih rr e2]
   ·cases q
def ye:RMv jN nY:=λP h d v ds vs r hv rs=>by
 unfold nY
 split
 ·rename_i xs w
  obtain⟨n,es,rfl,_,e1,q⟩:=r.lst
  obtain⟨d',rfl,r'⟩:=dG rs
  split
  ·rename_i bs eb
   split
   ·rename_i hl
    refine⟨_,?_,.int _⟩
    unfold jN
    dsimp only
    rw[e1]
    show (match eR h d' es with |some bs=>_ |none=>_)=_
    rw[CM r' q eb]
    dsimp only
    rw[if_pos hl]
   ·trivial
  ·trivial
 ·trivial
def xR:RMv j7 m6:=λP h d v ds vs r hv rs=>by
 unfold m6
 split
 ·rename_i xs w
  obtain⟨n,es,rfl,_,e1,q⟩:=r.lst
  obtain⟨d',rfl,r'⟩:=dG rs
  split
  ·rename_i hs
   obtain⟨pd,s1,s2⟩:=D_.mp hs
   have s3:=kG 164 _ _ _ r' s1
   split
   ·rename_i bs eb
    refine⟨_,?_,.int _⟩
    unfold j7
    dsimp only
    rw[s3]
    rw[if_pos ⟨rfl,by show some (shp pd)=_;rw[s2]⟩]
    unfold mO
    dsimp only
    rw[e1]
    show (match eR h d' es with |some bs=>_ |none=>_)=_
    rw[CM r' q eb]
   ·trivial
  ·trivial
 ·trivial
noncomputable def vD0:ME3:=λe=>.ok (.new (.dct [])) e
def Ng:RE eD0 vD0:=λX h0 L ns e ae h S hl=>BvR.po (r:=eD0 ae h) (b:=.new (.dct [])) S hl ⟨.dct [],rfl,trivial,.dct .nil⟩
structure PEx where
 F:ME
 G:ME3
 ok:RE F G
structure PTs where
 F:MT
 G:MT3
 ok:RT F G
structure PAs where
 F:MA
 G:MA3
 ok:RA F G
structure PSt where
 F:MS
 G:MS3
 ok:RS F G
structure PGt where
 F:MG
 G:MG3
 ok:RG F G
structure PGs where
 F:MGs
 G:jO
 ok:RGs F G
structure PIt where
 F:MI
 G:MI3
 ok:RI F G
structure POp where
 F:MO
 G:MO3
 ok:ROp F G
structure PO2 where
 F:D->D->AH->R D
 G:Val->Val->Bv
 ok:RO F G
structure PU1 where
 F:D->AH->R D
 G:Val->Bv
 ok:RU F G
structure PBf where
 F:Fn
 G:List Val->Bv
 ok:RFn F G
structure PMm where
 F:D->List D->AH->R D
 G:Val->List Val->Option (Val×Val)
 ok:RM F G
structure PMv where
 F:D->List D->AH->R D
 G:Val->List Val->Bv
 ok:RMv F G
structure PSe where
 F:D->D->D->AH->R Unit
 G:Val->Val->Val->Option Val
 ok:v5 F G
structure PFn where
 ms:List Bool
 F:Fn
 G:Fn3
 ok:RF ms F G
structure PFx(ms:List Bool) where
 F:Fn
 G:Fn3
 ok:RF ms F G
noncomputable section
def PFx.fn{ms:List Bool}(p:PFx ms):PFn:=⟨ms,p.F,p.G,p.ok⟩
noncomputable def af(i:Nat):PEx:=⟨aO i,AB i,Ke i⟩
noncomputable def ah(i:Int):PEx:=⟨eC (.int i),vC (.int i),lF λ_ _=>.int i⟩
noncomputable def pBl(i:Bool):PEx:=⟨eC (.bl i),vC (.bl i),lF λ_ _=>.bl i⟩
noncomputable def bz(i:Str):PEx:=⟨eC (.str i),vC (.str i),lF λ_ _=>.str i⟩
noncomputable def jR:PEx:=⟨eC .non,vC .non,lF λ_ _=>.non⟩
noncomputable def pTy(i:String):PEx:=⟨eC (.ty i),vC (.ty i),lF λ_ _=>.ty i⟩
noncomputable def jn(i:Str):PEx:=⟨eC (.glb i),vC (.glb i),lF λ_ _=>.glb i⟩
noncomputable def rG(d:D)(v:Val)(r:∀P h,Rd P h d v):PEx:=⟨eC d,vC v,lF r⟩
def pUn(o:PU1)(a:PEx):PEx:=⟨eUn o.F a.F,vUn o.G a.G,M5 o.ok a.ok⟩
def pOp(o:PO2)(a b:PEx):PEx:=⟨eOp o.F a.F b.F,vOp o.G a.G b.G,Ms o.ok a.ok b.ok⟩
noncomputable def ag:PAs:=⟨eA,nA,yD⟩
noncomputable def aa(a:PEx)(r:PAs):PAs:=⟨dX a.F r.F,CU a.G r.G,Fs a.ok r.ok⟩
def pFn(o:PBf)(a:PAs):PEx:=⟨eFn o.F a.F,vFn o.G a.G,MK o.ok a.ok⟩
noncomputable def aq(a:PAs):PEx:=⟨eFn mh a.F,vTup a.G,IK a.ok⟩
noncomputable def aB(a:PAs):PEx:=⟨eFn bN a.F,vLst a.G,GF a.ok⟩
def i7(a b:PEx):PEx:=⟨Ag a.F b.F,vAnd a.G b.G,FW a.ok b.ok⟩
def pNot(a:PEx):PEx:=⟨BS a.F,vNot a.G,JR a.ok⟩
noncomputable def pIf(c:PTs)(a b:PEx):PEx:=⟨eIf c.F a.F b.F,vIf c.G a.G b.G,LA c.ok a.ok b.ok⟩
def qOf(a:PEx):PTs:=⟨tOf a.F,cOf a.G,Lv a.ok⟩
def qTr(a:PEx):PTs:=⟨tTr a.F,cTr a.G,LD a.ok⟩
noncomputable def qAn(a b:PTs):PTs:=⟨tAn a.F b.F,cAn a.G b.G,MR a.ok b.ok⟩
noncomputable def qO(a b:PTs):PTs:=⟨tO a.F b.F,cO a.G b.G,rt_o a.ok b.ok⟩
noncomputable def qNo(a:PTs):PTs:=⟨tNo a.F,cNo a.G,Nq a.ok⟩
noncomputable def qY:PTs:=⟨tY,cY,rt_y⟩
noncomputable def xNx:PSt:=⟨sNx,wNx,NK⟩
noncomputable def wD:PSt:=⟨vh,C5,DV⟩
noncomputable def aA(a:PEx):PSt:=⟨BH a.F,wRet a.G,FV a.ok⟩
noncomputable def cA(a:PEx):PSt:=⟨gk a.F,CP a.G,FO a.ok⟩
noncomputable def ak(a b:PSt):PSt:=⟨gK a.F b.F,wSeq a.G b.G,GW a.ok b.ok⟩
noncomputable def xIf(c:PTs)(a b:PSt):PSt:=⟨sIf c.F a.F b.F,wIf c.G a.G b.G,Lx c.ok a.ok b.ok⟩
def aC(o:Bool)(i:Nat)(a:PEx):PSt:=⟨f6 a.F (gN i),wAsg o i a.G,F7 o i a.ok⟩
def gtN(i:Nat):PGt:=⟨gN i,pN i,sC i⟩
noncomputable def eX:PGs:=⟨gsN,psN,NQ⟩
noncomputable def bG(a:PGt)(b:PGs):PGs:=⟨gsC a.F b.F,psC a.G b.G,Lm a.ok b.ok⟩
noncomputable def gtT(n:Nat)(a:PGs):PGt:=⟨gT λds ae h=>if ds.length=n then a.F ds ae h else .stuck,pT n a.G,rg_t n a.ok⟩
noncomputable def gtX(a:PGt):PGt:=⟨λd ae h=>noX (a.F d ae h),a.G,Gv a.ok⟩
noncomputable def jy(a:PEx)(g:PGt):PSt:=⟨f6 a.F g.F,CH a.G g.G,ER a.ok g.ok⟩
def ve(i j:Nat)(a:PAs):PSt:=⟨Af i j a.F,wPar i j a.G,Kq i j a.ok⟩
def B9(i:Nat)(o:PO2)(a:PEx):PSt:=⟨pW i o.F a.F,Bg i o.G a.G,F6 i o.ok a.ok⟩
noncomputable def eZ(c:Str)(a:PAs):PSt:=⟨qE c a.F,xQ c a.G,zc c a.ok⟩
def sU(i:Nat)(w:PSe)(k a:PEx):PSt:=⟨f6 a.F (gS (aO i) k.F w.F),wSet i k.G a.G w.G,Kr i w.ok k.ok a.ok⟩
def B0(mro:List Str)(i:Nat)(b u:PSt):PSt:=⟨qg mro i b.F u.F,nh mro i b.G u.G,Kv mro i b.ok u.ok⟩
def jx(i:Nat)(m:PMm)(a:PAs):PEx:=⟨eM m.F (aO i) a.F,kY i m.G a.G,yX i m.ok a.ok⟩
def je(i:Nat)(m:PMm):PEx:=⟨eM0 m.F (aO i),kY i m.G nA,DR i m.ok⟩
def pA(m:PMv)(a:PEx)(b:PAs):PEx:=⟨eM m.F a.F b.F,Co m.G a.G b.G,Dg m.ok a.ok b.ok⟩
noncomputable def bU(a:PEx):PIt:=⟨B7 a.F,CN a.G,HP a.ok⟩
def j6(a:PAs):PIt:=⟨B6 a.F,Ai gM a.G,JQ a.ok⟩
noncomputable def wA(a:PAs):PIt:=⟨Aa a.F,CQ a.G,IC a.ok⟩
def jI(i:PIt)(g:PGt)(b:PSt):PSt:=⟨nj i.F g.F b.F,wFor i.G g.G b.G,GV i.ok g.ok b.ok⟩
def xWh(c:PTs)(b:PSt):PSt:=⟨sWh c.F b.F,wWh c.G b.G,Mz c.ok b.ok⟩
def pLC(i:PIt)(sub:Rh)(hs:(sub.filterMap id).Nodup)(g:PGt)(c:PTs)(a:PEx):PEx:=⟨eLC i.F sub g.F c.F a.F,vLC i.G sub g.G c.G a.G,LU hs i.ok g.ok c.ok a.ok⟩
def ai(f:PFn)(a:PAs):PEx:=⟨uX f.ms.length f.F a.F,Cu f.ms f.G a.G,Fw rfl f.ok a.ok⟩
noncomputable def oN:POp:=⟨vG,yN,E7⟩
def oS(a:PEx):POp:=⟨vM a.F,xE a.G,C8 a.ok⟩
def pSl(a:PEx)(l u:POp):PEx:=⟨eSl a.F l.F u.F,vSl a.G l.G u.G,N4 a.ok l.ok u.ok⟩
noncomputable def pD0:PEx:=⟨eD0,vD0,Ng⟩
noncomputable def PFx.none(ms:List Bool)(N:Nat:=0):PFx ms:=⟨λ_ _=>.stuck,λ_=>.stuck,λ_ _ _ _ _ _ _=>trivial⟩
def PFx.of(ms:List Bool)(N:Nat)(c:PSt):PFx ms:=⟨fnD N c.F,fnV ms N c.G,CO c.ok⟩
noncomputable def fnP(ms:List Bool)(N:Nat)(c:PSt):PFn:=⟨ms,fnD N c.F,fnV ms N c.G,CO c.ok⟩
noncomputable def aW:PO2:=⟨uW,BK,K7⟩
noncomputable def iw:PO2:=⟨zT,aMin,HZ⟩
def fD:PO2:=⟨Ac,vz,GJ⟩
def rW:PO2:=⟨A4,vX,FZ⟩
def dN:PO2:=⟨Bm,vO,IW⟩
def ja:PO2:=⟨BU,vQ,Hn⟩
noncomputable def bLt:PO2:=⟨gLt,aLt,N3⟩
noncomputable def bGt:PO2:=⟨gGt,aGt,L8⟩
noncomputable def bGe:PO2:=⟨gGe,aGe,Mb⟩
noncomputable def d7:PO2:=⟨qu,sy,HA⟩
def bIx:PO2:=⟨gIx,aIx,Mx⟩
def bEq:PO2:=⟨gEq false,aEq false,Cp false⟩
def bNe:PO2:=⟨gEq true,aEq true,Cp true⟩
def bIn:PO2:=⟨gIn false,aIn false,Ck false⟩
def Bi:PO2:=⟨gIn true,aIn true,Ck true⟩
noncomputable def bIs:PO2:=⟨qZ false,zP false,Hf false⟩
noncomputable def BJ:PO2:=⟨gI λi j=>.int (i+j),aI λi j=>.int (i+j),rO λ_ _ _ _=>.int _⟩
noncomputable def wm:PU1:=⟨vP,zQ,Hm⟩
noncomputable def bA:PBf:=⟨qU,Aj,H9⟩
noncomputable def pJ:PBf:=⟨vT,AU,GY⟩
noncomputable def iR:PBf:=⟨pL,u9,Df⟩
noncomputable def mR:PBf:=⟨pb,we,EX⟩
def pH:PBf:=⟨qc,zu,Jl⟩
def l6:PBf:=⟨pP,zZ,HX⟩
noncomputable def jC:PBf:=⟨lZ,vH,Dr⟩
noncomputable def kE:PBf:=⟨jX,rK,Be⟩
noncomputable def mE:PBf:=⟨wB,Bq,JC⟩
def ay(kt:i9):PBf:=⟨qN kt,Bu kt,HQ kt⟩
noncomputable def fC:PMm:=⟨cV,ny,xA⟩
noncomputable def jv:PMm:=⟨vb,rB,HJ⟩
def kz:PMv:=⟨jN,nY,ye⟩
def kd:PMv:=⟨j7,m6,xR⟩
def seL:PSe:=⟨wL,sL,GN⟩
end
theorem m7:∀(ns:List Int),Rds P h (ns.map D.int) (ns.map Val.int)
 | []=>.nil
 |_::r=>.cons (.int _) (m7 r)
def law3(p:PFn)(hm:p.ms=[false])(hG:∀ns:List Int,ns.length<=63->p.G [.kl (ns.map .int)]=.ok (.val (.bl true)) [])(d:D)(h:AH)(ns:List Int)(hl:ns.length<=63)(sc:Script h d ns):∃h',p.F [d] h=.ok (.bl true) h':=by
 have hp:=p.ok
 rw[hm] at hp
 have rd:Rd (Oc (λ_=>False) [none]) h d (.kl (ns.map .int)):=by
  rcases sc.form with ⟨n,rfl,e⟩ |rfl
  ·exact .cell ⟨λz=>z,by simp⟩ e (.fz (m7 ns))
  ·exact .kl (m7 ns)
 have S:Sat (λ_=>False) h.length [none] (sls [false] [.kl (ns.map .int)]) ([d].map some) h:=by
  refine⟨rfl,rfl,p_ _,λ_ z=>z.elim,λi j n q=>?_,λi n q z=>z,λi s q=>?_⟩
  ·cases i with
   |zero=>simp at q
   |succ i=>simp at q
  ·cases i with
   |
    zero=>
    have:sl1 false (.kl (ns.map .int))=s:=by simpa [sls] using q
    subst this
    exact⟨rfl,d,rfl,rd⟩
   |succ i=>simp [sls] at q
 have:=hp _ _ [d] [.kl (ns.map .int)] h rfl S
 rw[hG ns hl] at this
 obtain⟨d',h',e,_,_,r⟩:=this
 cases r with
 |bl=>exact⟨h',e⟩
 |cell p e r=>cases r
section
variable(e:E3)
@[simp] theorem gh(a:α)(f:α->E3->R3 β):(R3.ok a e).bind f=f a e:=rfl
@[simp] theorem v8(a:α)(f:α->E3->SR3):(R3.ok a e).toS f=f a e:=rfl
@[simp] theorem KL(c:Str)(f:α->E3->SR3):(R3.exc c e:R3 α).toS f=.exc c e:=rfl
@[simp] theorem fL(f:E3->SR3):(SR3.nx e).then f=f e:=rfl
@[simp] theorem Lf(r:Rt)(f:E3->SR3):(SR3.rt r e).then f=.rt r e:=rfl
@[simp] theorem K0(c:Str)(f:E3->SR3):(SR3.exc c e).then f=.exc c e:=rfl
@[simp] theorem pw(f:E3->SR3):(SR3.nx e).loop f=f e:=rfl
@[simp] theorem C0(f:E3->SR3):(SR3.ct e).loop f=f e:=rfl
@[simp] theorem Nc(r:SR3):r.unl none=r:=by cases r <;> rfl
@[simp] theorem An:lockO e none=e:=rfl
@[simp] theorem uT:eQ e none=e:=rfl
@[simp] theorem KD(v:Val):(Bv.val v).at e=.ok (.val v) e:=rfl
@[simp] theorem HY(v:Val):(Bv.new v).at e=.ok (.new v) e:=rfl
@[simp] theorem HC(v:Val):rs e (.val v)=some v:=rfl
@[simp] theorem Ik(v:Val):rs e (.new v)=some v:=rfl
@[simp] theorem Ja(i:Nat):rs e (.bor i)=(e[i]?).bind Sl.val:=rfl
@[simp] theorem Jy(v:Val):(Tm.val v).drop=.val v:=rfl
@[simp] theorem H0(v:Val):(Tm.new v).drop=.val v:=rfl
@[simp] theorem La(i:Nat):(Tm.bor i).drop=.bor i:=rfl
@[simp] theorem FI:rss e []=some []:=rfl
@[simp] theorem Bc(t:Tm)(ts:List Tm):rss e (t::ts)=match rs e t,rss e ts with
 |some v,some vs=>some (v::vs)
 |_,_=>none:=rfl
@[simp] theorem Kh(v:Val):cH e (.val v)=some (e,v):=rfl
@[simp] theorem xw:dem e []=some (e,[]):=rfl
@[simp] theorem Fd(t:Tm)(ts:List Tm):dem e (t::ts)=match cH e t with
 |some (e1,v)=>match dem e1 ts with
  |some (e2,vs)=>some (e2,v::vs)
  |none=>none
 |none=>none:=rfl
@[simp] theorem Hw(b:Bool):bOf (some (.bl b))=some b:=rfl
@[simp] theorem Nw(i:Nat):(af i).G e=match e[i]? with
 |some (.sh v)=>.ok (.val v) e
 |some .no=>.stuck
 |some _=>.ok (.bor i) e
 |none=>.stuck:=rfl
@[simp] theorem Lo(i:Int):(ah i).G e=.ok (.val (.int i)) e:=rfl
@[simp] theorem v_bl(i:Bool):(pBl i).G e=.ok (.val (.bl i)) e:=rfl
@[simp] theorem NS(i:Str):(bz i).G e=.ok (.val (.str i)) e:=rfl
@[simp] theorem LN:jR.G e=.ok (.val .non) e:=rfl
@[simp] theorem v_ty(i:String):(pTy i).G e=.ok (.val (.ty i)) e:=rfl
@[simp] theorem Ml(i:Str):(jn i).G e=.ok (.val (.glb i)) e:=rfl
@[simp] theorem v_un(o:PU1)(a:PEx):(pUn o a).G e=(a.G e).bind λt e1=>match rs e1 t with
 |some v=>(o.G v).at e1
 |none=>.stuck:=rfl
@[simp] theorem v_op(o:PO2)(a b:PEx):(pOp o a b).G e=(a.G e).bind λt1 e1=>(b.G e1).bind λt2 e2=>match rs e2 t1.drop,rs e2 t2 with
 |some v1,some v2=>(o.G v1 v2).at e2
 |_,_=>.stuck:=rfl
@[simp] theorem Nv:ag.G e=.ok [] e:=rfl
@[simp] theorem Iq(a:PEx)(r:PAs):(aa a r).G e=(a.G e).bind λt e1=>(r.G e1).bind λts e2=>.ok (t.drop::ts) e2:=rfl
@[simp] theorem v_fn(o:PBf)(a:PAs):(pFn o a).G e=(a.G e).bind λts e1=>match rss e1 ts with
 |some vs=>(o.G vs).at e1
 |none=>.stuck:=rfl
@[simp] theorem Mf(a:PAs):(aq a).G e=(a.G e).bind λts e1=>match dem e1 ts with
 |some (e2,vs)=>if vs.length<=16777216 then .ok (.val (.tup vs)) e2 else .stuck
 |none=>.stuck:=rfl
@[simp] theorem CJ(a:PAs):(aB a).G e=(a.G e).bind λts e1=>match dem e1 ts with
 |some (e2,vs)=>if vs.length<=16777216 then .ok (.new (.lst vs)) e2 else .stuck
 |none=>.stuck:=rfl
@[simp] theorem Mc(a b:PEx):(i7 a b).G e=(a.G e).bind λt e1=>match bOf (rs e1 t) with
 |some true=>b.G e1
 |some false=>.ok (.val (.bl false)) e1
 |none=>.stuck:=rfl
@[simp] theorem v_if(c:PTs)(a b:PEx):(pIf c a b).G e=(c.G e).bind λk e1=>if k=true then a.G e1 else b.G e1:=rfl
@[simp] theorem c_of(a:PEx):(qOf a).G e=(a.G e).bind λt e1=>match bOf (rs e1 t) with
 |some b=>.ok b e1
 |none=>.stuck:=rfl
@[simp] theorem c_tr(a:PEx):(qTr a).G e=(a.G e).bind λt e1=>match (rs e1 t).bind kS with
 |some b=>.ok b e1
 |none=>.stuck:=rfl
@[simp] theorem c_an(a b:PTs):(qAn a b).G e=(a.G e).bind λk e1=>if k=true then b.G e1 else .ok false e1:=rfl
@[simp] theorem c_o(a b:PTs):(qO a b).G e=(a.G e).bind λk e1=>if k=true then .ok true e1 else b.G e1:=rfl
@[simp] theorem c_no(a:PTs):(qNo a).G e=(a.G e).bind λk e1=>.ok (!k) e1:=rfl
@[simp] theorem x_nx:xNx.G e=.nx e:=rfl
@[simp] theorem Jr:wD.G e=.rt (.val .non) e:=rfl
@[simp] theorem Ll(a:PEx):(aA a).G e=(a.G e).toS nH:=rfl
@[simp] theorem Ex(v:Val):nH (.val v) e=.rt (.val v) e:=rfl
@[simp] theorem Eh(v:Val):nH (.new v) e=.rt (.new v) e:=rfl
@[simp] theorem Et(i:Nat):nH (.bor i) e=match e[i]? with
 |some (.sh v)=>.rt (.val v) e
 |some (.ow v)=>.rt (.new v) (e.set i .no)
 |some (.mu _)=>.rt (.par i) e
 |_=>.stuck:=rfl
@[simp] theorem KG(a:PEx):(cA a).G e=(a.G e).toS λ_ e1=>.nx e1:=rfl
@[simp] theorem eY(a b:PSt):(ak a b).G e=(a.G e).then b.G:=rfl
@[simp] theorem x_if(c:PTs)(a b:PSt):(xIf c a b).G e=(c.G e).toS λk e1=>if k=true then a.G e1 else b.G e1:=rfl
@[simp] theorem MY(o:Bool)(i:Nat)(a:PEx):(aC o i a).G e=(a.G e).toS (iq o i):=rfl
@[simp] theorem M8:Sl.no.pl=true:=rfl
@[simp] theorem Nr(v:Val):(Sl.sh v).pl=true:=rfl
@[simp] theorem Mj(v:Val):(Sl.ow v).pl=true:=rfl
@[simp] theorem Ec(o:Bool)(i:Nat)(v:Val):iq o i (.val v) e=match e[i]? with
 |some s0=>if s0.pl=true then .nx (e.set i (.sh v)) else .stuck
 |none=>.stuck:=by unfold iq;rfl
@[simp] theorem AV(i:Nat)(v:Val):iq true i (.new v) e=match e[i]? with
 |some s0=>if s0.pl=true then .nx (e.set i (.ow v)) else .stuck
 |none=>.stuck:=by unfold iq;rfl
@[simp] theorem AS(i:Nat)(v:Val):iq false i (.new v) e=match e[i]? with
 |some s0=>if s0.pl=true then .nx (e.set i (.sh v)) else .stuck
 |none=>.stuck:=by unfold iq;rfl
@[simp] theorem g_n(i:Nat)(v:Val):(gtN i).G v e=match e[i]? with
 |some s=>if s.pl=true then some (e.set i (.sh v)) else none
 |none=>none:=rfl
@[simp] theorem g_sn:eX.G [] e=some e:=rfl
@[simp] theorem g_sc(a:PGt)(b:PGs)(v:Val)(vs:List Val):(bG a b).G (v::vs) e=(a.G v e).bind λe1=>b.G vs e1:=rfl
@[simp] theorem g_t(n:Nat)(a:PGs)(vs:List Val):(gtT n a).G (.tup vs) e=if vs.length=n then a.G vs e else none:=rfl
@[simp] theorem g_x(a:PGt)(v:Val):(gtX a).G v e=a.G v e:=rfl
@[simp] theorem KJ(a:PEx)(g:PGt):(jy a g).G e=(a.G e).toS λt e1=>match cH e1 t with
 |some (e2,v)=>match g.G v e2 with
  |some e3=>.nx e3
  |none=>.stuck
 |none=>.stuck:=rfl
@[simp] theorem Lz(i j:Nat)(a:PAs):(ve i j a).G e=(a.G e).toS λts e1=>match dem e1 ts with
 |some (e2,[v,u])=>match (pN i v e2).bind (pN j u) with
  |some e3=>.nx e3
  |none=>.stuck
 |_=>.stuck:=rfl
@[simp] theorem Of(i:Nat)(v:Val):pN i v e=match e[i]? with
 |some s=>if s.pl=true then some (e.set i (.sh v)) else none
 |none=>none:=rfl
@[simp] theorem Mw(i:Nat)(o:PO2)(a:PEx):(B9 i o a).G e=match e[i]? with
 |some (.sh x)=>(a.G e).toS λt e1=>match rs e1 t with
  |some y=>match o.G x y with
   |.val z=>match pN i z e1 with
    |some e2=>.nx e2
    |none=>.stuck
   |_=>.stuck
  |none=>.stuck
 |_=>.stuck:=rfl
@[simp] theorem Fo(c:Str)(a:PAs):(eZ c a).G e=(a.G e).toS λts e1=>if ts.length<=16777216 then .exc c e1 else .stuck:=rfl
@[simp] theorem NZ(i:Nat)(w:PSe)(k a:PEx):(sU i w k a).G e=(a.G e).toS λt e1=>match (e1[i]?).bind Sl.mv with
 |none=>.stuck
 |some _=>(k.G e1).toS λt2 e2=>match rs e2 t2 with
  |none=>.stuck
  |some vi=>match cH e2 t.drop with
   |none=>.stuck
   |some (e3,v)=>match e3[i]? with
    |none=>.stuck
    |some s=>match s.mv with
     |none=>.stuck
     |some u=>match w.G u vi v with
      |some u'=>.nx (e3.set i (s.re u'))
      |none=>.stuck:=rfl
@[simp] theorem NC(v:Val):(Sl.ow v).mv=some v:=rfl
@[simp] theorem Ni(v:Val):(Sl.mu v).mv=some v:=rfl
@[simp] theorem Lq(v u:Val):(Sl.ow v).re u=.ow u:=rfl
@[simp] theorem Mg(v u:Val):(Sl.mu v).re u=.mu u:=rfl
@[simp] theorem GH(v:Val):(Sl.ow v).val=some v:=rfl
@[simp] theorem KW(v:Val):(Sl.mu v).val=some v:=rfl
@[simp] theorem Lh(mro:List Str)(i:Nat)(b u:PSt):(B0 mro i b u).G e=nh mro i b.G u.G e:=rfl
@[simp] theorem MW(i:Nat)(m:PMm)(a:PAs):(jx i m a).G e=match e[i]? with
 |some s=>if (s.mv.map dP)=some true then (a.G e).bind λts e1=>match dem e1 ts with
  |some (e2,vs)=>match e2[i]? with
   |some s2=>match s2.mv with
    |some u=>match m.G u vs with
     |some (u',v)=>.ok (.val v) (e2.set i (s2.re u'))
     |none=>.stuck
    |none=>.stuck
   |none=>.stuck
  |none=>.stuck else .stuck
 |none=>.stuck:=rfl
@[simp] theorem HM(i:Nat)(m:PMm):(je i m).G e=match e[i]? with
 |some s=>if (s.mv.map dP)=some true then (match s.mv with
  |some u=>match m.G u [] with
   |some (u',v)=>.ok (.val v) (e.set i (s.re u'))
   |none=>.stuck
  |none=>.stuck) else .stuck
 |none=>.stuck:=by
 show kY i m.G nA e=_
 unfold kY
 cases q:e[i]? with
 |none=>rfl
 |
  some s=>
  dsimp only
  split
  ·simp only[nA,gh,xw,q];try rfl
  ·rfl
@[simp] theorem Ba(xs:List Val):dP (.lst xs)=true:=rfl
@[simp] theorem Js(m:PMv)(a:PEx)(b:PAs):(pA m a b).G e=(a.G e).bind λt e1=>if (rs e1 t).map dP=some true then (b.G e1).bind λts e2=>(match rs e2 t.drop,rss e2 ts with
 |some v,some vs=>if dP v=true then (m.G v vs).at e2 else .stuck
 |_,_=>.stuck) else .stuck:=rfl
@[simp] theorem M3(a:PEx):(bU a).G e=(a.G e).bind λt e1=>match fj t e1 with
 |some p=>.ok p e1
 |none=>.stuck:=rfl
@[simp] theorem N2(a:PAs):(wA a).G e=(a.G e).bind λts e1=>match ts with
 | [t,u]=>(match fj t e1,fj u e1 with
  |some (xs,k),some (ys,none)=>.ok (List.zipWith (λx y=>.tup [x,y]) xs ys,k) e1
  |_,_=>.stuck)
 |_=>.stuck:=rfl
@[simp] theorem Gb(v:Val):fj (.val v) e=(g0 v).map λxs=>(xs,none):=rfl
@[simp] theorem HH(v:Val):fj (.new v) e=(g0 v).map λxs=>(xs,none):=rfl
@[simp] theorem GO(xs:List Val):g0 (.tup xs)=some xs:=rfl
@[simp] theorem JK(xs:List Val):g0 (.lst xs)=some xs:=rfl
@[simp] theorem N8(a:PAs):(j6 a).G e=(a.G e).bind λts e1=>match (rss e1 ts).bind gM with
 |some xs=>.ok (xs,none) e1
 |none=>.stuck:=rfl
@[simp] theorem NW(i:PIt)(g:PGt)(b:PSt):(jI i g b).G e=(i.G e).toS λp e1=>(dC g.G b.G p.1 (lockO e1 p.2)).unl p.2:=rfl
@[simp] theorem Ey(g:MG3)(B:MS3):dC g B [] e=.nx e:=rfl
theorem gQ(g:MG3)(B:MS3)(v:Val)(vs:List Val):dC g B (v::vs) e=match g v e with
 |some e1=>(B e1).loop (dC g B vs)
 |none=>.stuck:=rfl
def jH(c:PTs)(b:PSt):(xWh c b).G e=(c.G e).toS λk e1=>if k=true then (b.G e1).loop (xWh c b).G else .nx e1:=B5 c.G b.G e
@[simp] theorem v_lc(i:PIt)(sub:Rh)(hs:(sub.filterMap id).Nodup)(g:PGt)(c:PTs)(a:PEx):(pLC i sub hs g c a).G e=(i.G e).bind λp e1=>match lcV g.G c.G a.G p.1 [] (cx sub (lockO e1 p.2)) with
 |.ok ys e2=>if ys.length<=16777216 then .ok (.new (.lst ys)) (eQ (ba sub e2 (lockO e1 p.2)) p.2) else .stuck
 |_=>.stuck:=rfl
@[simp] theorem Ie(f:PFn)(a:PAs):(ai f a).G e=(a.G e).bind λts e1=>match rss e1 ts with
 |none=>.stuck
 |some vs=>if okA e1 f.ms ts=true then (match f.G vs with
  |.stuck=>.stuck
  |.ok r mv=>if (aV e1 f.ms ts).isEmpty || (ki r&&mv.all cZ) then .ok (r.tm ts) (ba (ck f.ms ts) (aN f.ms mv) e1) else (match nW e1 (aV e1 f.ms ts) with
   |some e2=>.ok (r.tm ts) (ba (ck f.ms ts) (aN f.ms mv) e2)
   |none=>.stuck)
  |.exc c mv=>if (aV e1 f.ms ts).isEmpty || mv.all cZ then .exc c (ba (ck f.ms ts) (aN f.ms mv) e1) else .stuck) else .stuck:=rfl
@[simp] theorem I0(ts:List Tm)(v:Val):(Rt.val v).tm ts=.val v:=rfl
@[simp] theorem Jd(ts:List Tm)(v:Val):(Rt.new v).tm ts=.new v:=rfl
@[simp] theorem o_n:oN.G e=.ok none e:=rfl
@[simp] theorem o_s(a:PEx):(oS a).G e=(a.G e).bind λt e1=>match rs e1 t with
 |some (.int i)=>.ok (some i) e1
 |_=>.stuck:=rfl
@[simp] theorem v_sl(a:PEx)(l u:POp):(pSl a l u).G e=(a.G e).bind λt e1=>(l.G e1).bind λlo e2=>(u.G e2).bind λhi e3=>match rs e3 t.drop with
 |some v=>(aSl v lo hi).at e3
 |none=>.stuck:=rfl
@[simp] theorem v_d0:pD0.G e=.ok (.new (.dct [])) e:=rfl
theorem aZ(ms:List Bool)(N:Nat)(c:PSt)(vs:List Val):(fnP ms N c).G vs=if vs.length=ms.length then (match c.G (sls ms vs++List.replicate (N-vs.length) .no) with
 |.nx e=>(match muV ms e with |some mv=>.ok (.val .non) mv |none=>.stuck)
 |.rt r e=>(match muV ms e with |some mv=>.ok r mv |none=>.stuck)
 |.exc c e=>(match muV ms e with |some mv=>.exc c mv |none=>.stuck)
 |_=>.stuck) else .stuck:=rfl
theorem gm(ms:List Bool)(N:Nat)(c:PSt)(vs:List Val):(PFx.of ms N c).G vs=if vs.length=ms.length then (match c.G (sls ms vs++List.replicate (N-vs.length) .no) with
 |.nx e=>(match muV ms e with |some mv=>.ok (.val .non) mv |none=>.stuck)
 |.rt r e=>(match muV ms e with |some mv=>.ok r mv |none=>.stuck)
 |.exc c e=>(match muV ms e with |some mv=>.exc c mv |none=>.stuck)
 |_=>.stuck) else .stuck:=rfl
@[simp] theorem ND(p:PFx ms):p.fn.ms=ms:=rfl
@[simp] theorem fx_G(p:PFx ms)(vs:List Val):p.fn.G vs=p.G vs:=rfl
end
@[simp] theorem Mu(i j:Int):aW.G (.int i) (.int j)=.val (.int (i+j)):=rfl
@[simp] theorem Mn(i j:Int):iw.G (.int i) (.int j)=.val (.int (i-j)):=rfl
@[simp] theorem k_lt(i j:Int):bLt.G (.int i) (.int j)=.val (.bl (decide (i<j))):=rfl
@[simp] theorem k_gt(i j:Int):bGt.G (.int i) (.int j)=.val (.bl (decide (j<i))):=rfl
@[simp] theorem k_ge(i j:Int):bGe.G (.int i) (.int j)=.val (.bl (decide (j<=i))):=rfl
@[simp] theorem LJ(i j:Int):BJ.G (.int i) (.int j)=.val (.int (i+j)):=rfl
@[simp] theorem Nz(i:Int):wm.G (.int i)=.val (.int (-i)):=rfl
def gu(c:CMulA i j):fD.G (.int i) (.int j)=.val (.int (i*j)):=by show vz (.int i) (.int j)=_;unfold vz aIc;dsimp only;rw[if_pos c]
def wq(c:CDivB i j):rW.G (.int i) (.int j)=.val (.int (i.fdiv j)):=by show vX (.int i) (.int j)=_;unfold vX aIc;dsimp only;rw[if_pos c]
def hE(c:j≠0):dN.G (.int i) (.int j)=.val (.int (i.fmod j)):=by show vO (.int i) (.int j)=_;unfold vO aIc;dsimp only;rw[if_pos c]
def vE(c:ng i j):ja.G (.int i) (.int j)=.val (.int (i^j.toNat)):=by show vQ (.int i) (.int j)=_;unfold vQ aIc;dsimp only;rw[if_pos c]
@[simp] theorem k_ix(x:Val)(i:Int):bIx.G x (.int i)=match x.items with
 |some xs=>(match atI xs i with
  |some v=>.val v
  |none=>.stuck)
 |none=>.stuck:=by show aIx x (.int i)=_;unfold aIx;cases x.items <;> rfl
@[simp] theorem K8(xs:List Val):(Val.tup xs).items=some xs:=rfl
@[simp] theorem Gd(xs:List Val):(Val.lst xs).items=some xs:=rfl
@[simp] theorem LB(xs:List Val):(Val.kl xs).items=some xs:=rfl
@[simp] theorem k_eq(x y:Val):bEq.G x y=match c8 x y with
 |some b=>.val (.bl b)
 |none=>.stuck:=by show aEq false x y=_;unfold aEq;cases c8 x y <;> rfl
@[simp] theorem k_ne(x y:Val):bNe.G x y=match c8 x y with
 |some b=>.val (.bl (!b))
 |none=>.stuck:=by show aEq true x y=_;unfold aEq;cases c8 x y <;> rfl
@[simp] theorem N1(x y:Int):c8 (.int x) (.int y)=some (x==y):=rfl
@[simp] theorem MQ(x y:Bool):c8 (.bl x) (.bl y)=some (x==y):=by cases x <;> cases y <;> rfl
def eq_str(hx:PyData.strOk x=true)(hy:PyData.strOk y=true):c8 (.str x) (.str y)=some (x==y):=by
 unfold c8
 show (if shp (.str x)=true/\shp (.str y)=true then _ else _)=_
 rw[if_pos ⟨g9 hx (Oq _),g9 hy (Oq _)⟩]
 rfl
@[simp] theorem k_is(x:Val):bIs.G x .non=match x with
 |.non=>.val (.bl true)
 |_=>.val (.bl false):=by cases x <;> rfl
@[simp] theorem Md(v:Val):bA.G [v]=match v.items with
 |some xs=>.val (.int xs.length)
 |none=>(match v with
  |.str z=>if z.length<=16777216 then .val (.int z.length) else .stuck
  |_=>.stuck):=rfl
@[simp] theorem NA(i:Int):pJ.G [.int i]=.val (.int (if i<0 then -i else i)):=rfl
@[simp] theorem MP(i j:Int):iR.G [.int i,.int j]=.val (.int (if j>i then j else i)):=rfl
@[simp] theorem NP(i j:Int):mR.G [.int i,.int j]=.val (.int (if j<i then j else i)):=rfl
@[simp] theorem L6(xs:List Val):pH.G [.lst xs]=match j0 xs with
 |some bs=>.val (.bl (bs.all id))
 |none=>.stuck:=rfl
@[simp] theorem L5(xs:List Val):l6.G [.lst xs]=match gi xs with
 |some bs=>.val (.int bs.sum)
 |none=>.stuck:=rfl
@[simp] theorem Jm(v:Val):jC.G [v]=match v.items with
 |some xs=>.new (.lst xs)
 |none=>.stuck:=rfl
@[simp] theorem DZ(v:Val):kE.G [v]=match v.items with
 |some xs=>.val (.tup xs)
 |none=>.stuck:=rfl
@[simp] theorem Hl(b:Bool):mE.G [.bl b]=.val (.int (if b then 1 else 0)):=rfl
@[simp] theorem Bh(xs:List Val)(v:Val):fC.G (.lst xs) [v]=if xs.length<16777216 then some (.lst (xs++[v]),.non) else none:=rfl
@[simp] theorem jL:∀(bs:List Int),gi (bs.map Val.int)=some bs
 | []=>rfl
 |b::r=>by show (gi (r.map Val.int)).map (b :: ·)=_;rw[jL r];rfl
def xp{K:W.Frag}{mg:Ra}{X:Cx}{ES:L2.St->XK}{sts:List Stmt}:DSs K mg X ES sts (λ_ _=>.stuck):=λpins s σ H D I ⟨_,_,_,_,_,p⟩=>p.elim
section
variable(K:W.Frag)(mg:Ra)(X:Cx)(ES:L2.St->XK)
@[irreducible] def DE(e:Expr)(F:ME):Prop:=L2.DE K mg X ES e F
@[irreducible] def DT(e:Expr)(F:MT):Prop:=L2.DT K mg X ES e F
@[irreducible] def DA(es:List Expr)(F:MA):Prop:=L2.DA K mg X ES es F
@[irreducible] def DS(st:Stmt)(F:MS):Prop:=L2.DS K mg X ES st F
@[irreducible] def DSs(st:List Stmt)(F:MS):Prop:=L2.DSs K mg X ES st F
@[irreducible] def DI(tg am:Expr)(F:MI):Prop:=L2.DI K mg X ES tg am F
end
section
variable{K:W.Frag}{mg:Ra}{X:Cx}{ES:L2.St->XK}{e a b c o i tg am ge:Expr}{es:List Expr}{st:Stmt}{sts sts':List Stmt}{p q r:PEx}{A:PAs}{t u:PTs}{x y:PSt}{g:PGt}{gs:PGs}{I:PIt}{pos:Pos}
def yG(i:Nat){x:Str}(hN:X.N[i]?=some x:=by rfl)(hv:Vis X.env.scope x:=by first |exact Or.inl rfl |exact Or.inr (Or.inl rfl) |exact Or.inr (Or.inr rfl))(hd:(x==("__debug__" : Str))=false:=by decide)(hcd:(x==("__classdict__" : Str))=false:=by decide):DE K mg X ES (.Name x pos) (af i).F:=by with_unfolding_all exact HD i hN hv hd hcd
def G4{i:Int}{j:Nat}:DE K mg X ES (.Constant (.int i) j pos) (ah i).F:=by with_unfolding_all exact FX
def Oe{i:Bool}{j:Nat}:DE K mg X ES (.Constant (.bool i) j pos) (pBl i).F:=by with_unfolding_all exact NX
def Ky:DE K mg X ES (.Constant .none j pos) jR.F:=by with_unfolding_all exact Iw
def Hq{i:Str}{j:Nat}:DE K mg X ES (.Constant (.str i) j pos) (bz i).F:=by with_unfolding_all exact Gg
def Iu{x:Str}(hg:Gl X x)(ha:∃a,mg x=some (.ref a))(hm:X.mg=mg:=by rfl)(hd:(x==("__debug__" : Str))=false:=by decide):DE K mg X ES (.Name x pos) (jn x).F:=by with_unfolding_all exact HR hg ha hm hd
def MD{x:Str}{d:D}{v:Val}{r:∀P h,Rd P h d v}(hg:Gl X x)(ha:GC K mg x d)(hm:X.mg=mg:=by rfl)(hd:(x==("__debug__" : Str))=false:=by decide):DE K mg X ES (.Name x pos) (rG d v r).F:=by with_unfolding_all exact NG hg ha hm hd
def NM{x:Str}{n:String}(hg:Gl X x)(hm:mg x=none)(hv:bootBuiltins x=some (.type n))(he:X.mg=mg:=by rfl)(hn:x ≠ "__name__":=by decide)(hd:(x==("__debug__" : Str))=false:=by decide):DE K mg X ES (.Name x pos) (pTy n).F:=by with_unfolding_all exact Nk hg hm hv he hn hd
def LC(ho:OpR X (binaryOp op) r')(hd:OpD K mg r' k.F)(ha:DE K mg X ES a p.F)(hb:DE K mg X ES b q.F):DE K mg X ES (.BinOp a op b pos) (pOp k p q).F:=by with_unfolding_all exact Na ho hd ha hb
def LH(hr:IxR X r')(hd:OpD K mg r' k.F)(ha:DE K mg X ES a p.F)(hb:DE K mg X ES b q.F)(hs:kh b:=by exact λ_ _=>rfl):DE K mg X ES (.Subscript a b pos) (pOp k p q).F:=by with_unfolding_all exact CG hr hd ha hb hs
def yt(ho:OpR X (compareOp op) r')(hd:OpD K mg r' k.F)(ha:DE K mg X ES a p.F)(hb:DE K mg X ES b q.F)(hm:behindInMarks op b=false:=by first |exact qX _ |with_unfolding_all rfl):DE K mg X ES (.Compare a [op] [b] pos) (pOp k p q).F:=by with_unfolding_all exact Jz ho hd ha hb hm
def GD(ho:OpR X (compareOp op) r')(hd:OpD K mg r' k.F)(ha:DE K mg X ES a p.F)(hb:DE K mg X ES b q.F)(hm:behindInMarks op b=false:=by first |exact qX _ |with_unfolding_all rfl):DT K mg X ES (.Compare a [op] [b] pos) (qOf (pOp k p q)).F:=by with_unfolding_all exact Ic ho hd ha hb hm
def rZ(ha:DE K mg X ES a p.F)(he:∀c_,isTrue a X.env c_=(do let v <- c_;standAt a.pos;holding [v] (truthy v)):=by intro _;rfl):DT K mg X ES a (qOf p).F:=by with_unfolding_all exact K9 ha he
def Bp(hK:X.K=K)(ha:DE K mg X ES a p.F)(he:∀c_,isTrue a X.env c_=(do let v <- c_;standAt a.pos;holding [v] (truthy v)):=by intro _;rfl):DT K mg X ES a (qTr p).F:=by with_unfolding_all exact Bl hK ha he
def rj(ha:DT K mg X ES a t.F):DT K mg X ES (.UnaryOp .Not a pos) (qNo t).F:=by with_unfolding_all exact Hs ha
def Dc(ha:DT K mg X ES a t.F):DW K mg X ES (.BoolOp .And [a] pos) t.F:=by with_unfolding_all exact DL ha
def J7(ha:DT K mg X ES a t.F):DW K mg X ES (.BoolOp .Or [a] pos) t.F:=by with_unfolding_all exact IT ha
def Kn(ha:DT K mg X ES a t.F)(hb:DW K mg X ES (.BoolOp .And (b::es) pos) u.F):DW K mg X ES (.BoolOp .And (a::b::es) pos) (qAn t u).F:=by with_unfolding_all exact Hr ha hb
def My(ha:DT K mg X ES a t.F)(hb:DW K mg X ES (.BoolOp .Or (b::es) pos) u.F):DW K mg X ES (.BoolOp .Or (a::b::es) pos) (qO t u).F:=by with_unfolding_all exact Mh ha hb
def ZW.dt(h:DW K mg X ES a t.F):DT K mg X ES a t.F:=by with_unfolding_all exact DW.dt h
def zt_w{op}(h:DW K mg X ES (.BoolOp op es pos) t.F):DT K mg X ES (.BoolOp op es pos) t.F:=ZW.dt h
def KQ{op}(h:DE K mg X ES a p.F):DE K mg X ES (.BoolOp op [a] pos) p.F:=by with_unfolding_all exact JT h
def KR(ha:DE K mg X ES a p.F)(hb:DE K mg X ES (.BoolOp .And (b::es) pos) q.F):DE K mg X ES (.BoolOp .And (a::b::es) pos) (i7 p q).F:=by with_unfolding_all exact Ih ha hb
def JW(ha:DE K mg X ES a p.F):DE K mg X ES (.UnaryOp .Not a pos) (pNot p).F:=by with_unfolding_all exact HK ha
def Lp(hc:DT K mg X ES c t.F)(ha:DE K mg X ES a p.F)(hb:DE K mg X ES b q.F):DE K mg X ES (.IfExp c a b pos) (pIf t p q).F:=by with_unfolding_all exact M0 hc ha hb
def NV(ho:UnR X (unaryOp op) r')(hd:UnD K mg r' k.F)(ha:DE K mg X ES a p.F):DE K mg X ES (.UnaryOp op a pos) (pUn k p).F:=by with_unfolding_all exact MJ ho hd ha
def Jp:DA K mg X ES [] ag.F:=by with_unfolding_all exact wK
def bW(ha:DE K mg X ES e p.F)(hr:DA K mg X ES es A.F)(hs:starEach (e::es) X.env=(false,eval e X.env)::starEach es X.env:=by rfl):DA K mg X ES (e::es) (aa p A).F:=by with_unfolding_all exact ub ha hr hs
def su{x1}(h:DA K mg X ES es A.F):DE K mg X ES (.Tuple es x1 pos) (aq A).F:=by with_unfolding_all exact Hu h
def J3(h:DA K mg X ES es A.F):DE K mg X ES (.List es pos) (aB A).F:=by with_unfolding_all exact Ip h
def gC{id:String}{r':List V->Hp->VK->Prop}{k:PBf}{x:Str}{p0:Pos}(hc:CallR X (.builtin id) r')(hd:aT K mg r' k.F)(hg:Gl X x)(hm:mg x=none)(hv:bootBuiltins x=some (.builtin id))(ha:DA K mg X ES (e::es) A.F)(hk:X.mg=mg:=by rfl)(hn:x ≠ "__name__":=by decide)(hdb:(x==("__debug__" : Str))=false:=by decide)(he:starEach (e::es) X.env=(false,eval e X.env)::starEach es X.env:=by rfl)(hpl:(backTo pos (starEach es X.env)).any (·.1)=false:=by rfl):DE K mg X ES (.Call (.Name x p0) (e::es) [] pos) (pFn k A).F:=by with_unfolding_all exact Ci hc hd hg hm hv ha hk hn hdb he hpl
def jW{id:String}{r':List V->Hp->VK->Prop}{k:PBf}{x:Str}{p0:Pos}(hc:CallR X (.type id) r')(hd:aT K mg r' k.F)(hg:Gl X x)(hm:mg x=none)(hv:bootBuiltins x=some (.type id))(ha:DA K mg X ES (e::es) A.F)(hk:X.mg=mg:=by rfl)(hn:x ≠ "__name__":=by decide)(hdb:(x==("__debug__" : Str))=false:=by decide)(he:starEach (e::es) X.env=(false,eval e X.env)::starEach es X.env:=by rfl)(hpl:(backTo pos (starEach es X.env)).any (·.1)=false:=by rfl):DE K mg X ES (.Call (.Name x p0) (e::es) [] pos) (pFn k A).F:=by with_unfolding_all exact xC hc hd hg hm hv ha hk hn hdb he hpl
def As{f:PFn}{x:Str}{p0:Pos}{k n:Nat}{ps:List Str}(C:Callee X.prog X.w X.K X.mg X.base x k ps (spD K mg n f.F))(hr:Room k X.A)(hg:Gl X x)(hx:fR X ES)(ha:DA K mg X ES (e::es) A.F)(hn:f.ms.length=n)(hdb:(x==("__debug__" : Str))=false)(he:starEach (e::es) X.env=(false,eval e X.env)::starEach es X.env)(hpl:(backTo pos (starEach es X.env)).any (·.1)=false):DE K mg X ES (.Call (.Name x p0) (e::es) [] pos) (ai f A).F:=by
 subst hn
 with_unfolding_all exact zY C hr hg hx ha hdb he hpl
def FN:DSs K mg X ES [] xNx.F:=by with_unfolding_all exact EM
def dU(h1:DS K mg X ES st x.F):DSs K mg X ES [st] x.F:=by with_unfolding_all exact uA h1
def aG(h1:DS K mg X ES st x.F)(h2:DSs K mg X ES sts y.F):DSs K mg X ES (st::sts) (ak x y).F:=by with_unfolding_all exact lO h1 h2
def Fh:DS K mg X ES (.Return none pos) wD.F:=by with_unfolding_all exact FC
def eV(he:DE K mg X ES e p.F):DS K mg X ES (.Return (some e) pos) (aA p).F:=by with_unfolding_all exact Jc he
def Dh(he:DE K mg X ES e p.F)(hs:swapsWith e none pos.line X.env=pure false:=by rfl):DS K mg X ES (.Expr e pos) (cA p).F:=by with_unfolding_all exact ue he hs
def pE(hc:DT K mg X ES c t.F)(ha:DSs K mg X ES sts x.F)(hb:DSs K mg X ES sts' y.F):DS K mg X ES (.If c sts sts' pos) (xIf t x y).F:=by with_unfolding_all exact NB hc ha hb
def Fv{i:Nat}{x:Str}(hN:X.N.Nodup)(hi:X.N[i]?=some x)(hx:Loc X.env.scope x)(hf:X.fn x=true\/X.env.scope.names.lookup x=some .local):DG K mg X ES (.Name x pos) (gtN i).F:=DK hN hi hx hf
def EI:DGs K mg X ES [] eX.F:=E9
def Bf(h1:DG K mg X (λ_=>E0) e g.F)(h2:DGs K mg X (λ_=>E0) es gs.F)(hs:(assignEach (e::es) X.env).map (·.2)=assign e X.env::(assignEach es X.env).map (·.2):=by rfl):DGs K mg X (λ_=>E0) (e::es) (bG g gs).F:=Av h1 h2 hs
def GQ(hK:X.K=K)(hc:X.calm=true)(h:DGs K mg X (λ_=>E0) es gs.F)(hn:(assignEach es X.env).length=n:=by rfl)(hst:(assignEach es X.env).findIdx? (·.1)=none:=by rfl):DG K mg X (λ_=>E0) (.Tuple es k pos) (gtT n gs).F:=KN hK hc h hn hst
def ZG.weak(hg:DG K mg X (λ_=>E0) e g.F):DG K mg X ES e (gtX g).F:=DG.weak hg
def Ef(he:DE K mg X ES e p.F)(hg:DG K mg X ES a g.F)(hs:swapsWithSole [a] e pos.line X.env=pure false:=by rfl)(hw:swappedStores [a] e X.env=pure none:=by rfl)(h1:(assignEach [a] X.env).map (·.2)=[assign a X.env]:=by rfl):DS K mg X ES (.Assign [a] e pos) (jy p g).F:=by with_unfolding_all exact xF he hg hs hw h1
def FD(he:DE K mg X ES e p.F)(ho:DE K mg X ES o (af j).F)(hi:DE K mg X ES i q.F)(hs':pS X r')(hd:nU K mg r' w.F)(hs:swapsWithSole [.Subscript o i p1] e pos.line X.env=pure false:=by rfl)(hw:swappedStores [.Subscript o i p1] e X.env=pure none:=by rfl)(h1:(assignEach [.Subscript o i p1] X.env).map (·.2)=[assign (.Subscript o i p1) X.env]:=by rfl)
 (ha:∀v,assign (.Subscript o i p1) X.env v=(do
  let ov <- holding [v] (eval o X.env)
  let iv <- holding [v,ov] (eval i X.env)
  standAt p1
  holding [v,ov,iv] (setItem ov iv v)
  release [v,ov,iv] []):=by intro _;rfl):DS K mg X ES (.Assign [.Subscript o i p1] e pos) (sU j w q p).F:=by with_unfolding_all exact xF he (GI ho hi hs' hd ha) hs hw h1
def Kl{ow:Bool}{i:Nat}{x:Str}{h_:Pos}(hN:X.N.Nodup)(hi:X.N[i]?=some x)(hx:Loc X.env.scope x)(he:DE K mg X ES e p.F)(hs:swapsWith e (some (.Name x h_)) pos.line X.env=pure false)(hf:X.fn x=true\/X.env.scope.names.lookup x=some .local):DS K mg X ES (.Assign [.Name x h_] e pos) (aC ow i p).F:=by with_unfolding_all exact KC hN hi hx he hs hf
def G9{i j:Nat}{x y:Str}{px py pt:Pos}{kt k2 pt2}(hN:X.N.Nodup)(ha:DA K mg X ES [a,b] A.F)(hc:X.calm=true:=by rfl)(hi:X.N[i]?=some x:=by rfl)(hj:X.N[j]?=some y:=by rfl)(hij:i≠j:=by decide)(hx:X.env.scope.names.lookup x=some .local:=by rfl)(hy:X.env.scope.names.lookup y=some .local:=by rfl)(hw:swappedStores [.Tuple [.Name x px,.Name y py] kt pt] (.Tuple [a,b] k2 pt2) X.env=pure (some [x,y]):=by rfl)(hs:swapsWithSole [.Tuple [.Name x px,.Name y py] kt pt] (.Tuple [a,b] k2 pt2) pos.line X.env=pure false:=by rfl):DS K mg X ES (.Assign [.Tuple [.Name x px,.Name y py] kt pt] (.Tuple [a,b] k2 pt2) pos) (ve i j A).F:=by with_unfolding_all exact KH hc hN hi hj hij hx hy ha hw hs
def J5{i:Nat}{x:Str}{op:Operator}{ti:TIp}{h_:Pos}{k:PO2}(hN:X.N.Nodup)(he:DE K mg X ES e p.F)(ho:PIp X op ti)(hd:IpD K mg ti k.F)(hi:X.N[i]?=some x:=by rfl)(hx:Loc X.env.scope x:=by first |exact Or.inl rfl |exact Or.inr rfl)(hf:X.fn x=true\/X.env.scope.names.lookup x=some .local:=by first |exact .inl rfl |exact .inr rfl |assumption):DS K mg X ES (.AugAssign (.Name x h_) op e pos) (B9 i k p).F:=by with_unfolding_all exact JA hN hi hx he ho hd hf
def zI{x:Str}{C:Addr}{E:XK}{np cpos:Pos}(hc:X.calm=true)(hR:Rz X E)(hg:Gl X x)(hm:mg x=some (.ref C))(hq:W.excIn X.K C lA "ValueError.__new__"=true)(ha:DA K mg X (λ_=>E) (e::es) A.F)(hk:X.mg=mg:=by rfl)(he:starEach (e::es) X.env=(false,eval e X.env)::starEach es X.env:=by rfl)(bn:(backTo cpos (starEach es X.env)).any (·.1)=false:=by rfl)(hd:(x==("__debug__" : Str))=false:=by decide):DS K mg X (λ_=>E) (.Raise (some (.Call (.Name x np) (e::es) [] cpos)) none pos) (eZ x A).F:=by with_unfolding_all exact BV hc hR hg hm hq ha hk he bn hd
def GX(hK:X.K=K)(he:DE K mg X ES e p.F):DI K mg X ES tg e (bU p).F:=by with_unfolding_all exact Gi hK he
def xJ(hg:Gl X "range")(hm:mg "range"=none)(ha:DA K mg X ES [a] A.F)(hk:X.mg=mg:=by rfl)(hs:starEach [a] X.env=[(false,eval a X.env)]:=by rfl):DI K mg X ES tg (.Call (.Name "range" p0) [a] [] pos) (j6 A).F:=by with_unfolding_all exact xt hg hm ha hk hs
def Gz(hK:X.K=K)(hg:Gl X "zip")(hm:mg "zip"=none)(ha:DA K mg X ES [a,b] A.F)(hk:X.mg=mg:=by rfl)(hs:starEach [a,b] X.env=[(false,eval a X.env),(false,eval b X.env)]:=by rfl)(hs2:starEach [b] X.env=[(false,eval b X.env)]:=by rfl):DI K mg X ES (.Tuple elts x1 tp) (.Call (.Name "zip" p0) [a,b] [] pos) (wA A).F:=by with_unfolding_all exact JL hK hg hm ha hk hs hs2
def JU(hp:PassesOwn (model X.prog X.w) X.A X.env X.xe)(hc:X.calm=true)(hi:DI K mg X ES tg am I.F)(hg:DG K mg X ES tg g.F)(hb:DSs K mg X ES sts x.F)(hs:∀x,foldedSetIterable am X.env x=pure x:=by intro _;rfl):DS K mg X ES (.For tg am sts [] pos) (jI I g x).F:=by with_unfolding_all exact yc hp hc hi hg hb hs
def zH(hp:PassesOwn (model X.prog X.w) X.A X.env X.xe)(hc:DT K mg X ES c t.F)(hb:DSs K mg X ES sts x.F):DS K mg X ES (.While c sts [] pos) (xWh t x).F:=by with_unfolding_all exact Ar hp hc hb
def NI{scope:Scope}(M:List Str)(kn:List (Str×NameKind))(N:List Str)(sub:Rh){hsb:(sub.filterMap id).Nodup}(hc:X.calm=true)(hi:DI K mg X ES tg am I.F)(hg:∀cl C s₂ H fp,DG K mg (aQ X N scope cl C s₂ H fp) (λ_=>E0) tg g.F)(he:∀cl C s₂ H fp,DE K mg (aQ X N scope cl C s₂ H fp) (λ_=>E0) ge p.F)(hM:X.N=M)(hkn:X.env.scope.names=kn)(d_:fM M scope.names sub N=true)(hk:scope.kind=.function)(hnc:∀x∈scope.names,x.2 ≠ .cell)(be:∀x∈scope.names,x.2=.local->scope.names.lookup x.1=some .local)(hfr:ik kn scope.names=true)(hsl:sub.length=N.length)(hs:∀x,foldedSetIterable am X.env x=pure x):DE K mg X ES (.ListComp ge [⟨tg,am,[],0⟩] scope pos) (pLC I sub hsb g qY p).F:=by with_unfolding_all exact LO M kn N sub hc hi hg he hM hkn d_ hk hnc be hfr hsl hs
def Nb{ow:Bool}{px spos:Pos}{iT:Nat}{xT:Str}{scope:Scope}(M:List Str)(kn:List (Str×NameKind))(N:List Str)(sub:Rh){hsb:(sub.filterMap id).Nodup}(hc:X.calm=true)(hN:X.N.Nodup)(hix:X.N[iT]?=some xT)(hxl:Loc X.env.scope xT)(hi:DI K mg X ES tg am I.F)(hg:∀cl C s₂ H fp,DG K mg (aQ X N scope cl C s₂ H fp) (λ_=>E0) tg g.F)(he:∀cl C s₂ H fp,DE K mg (aQ X N scope cl C s₂ H fp) (λ_=>E0) ge p.F)(hsw:swapsWith (.ListComp ge [⟨tg,am,[],0⟩] scope pos) (some (.Name xT px)) spos.line X.env=pure true)(hM:X.N=M)(hkn:X.env.scope.names=kn)(d_:fM M scope.names sub N=true)(hk:scope.kind=.function)(hnc:∀x∈scope.names,x.2 ≠ .cell)(be:∀x∈scope.names,x.2=.local->scope.names.lookup x.1=some .local)(hfr:ik kn scope.names=true)(hsl:sub.length=N.length)(hs:∀x,foldedSetIterable am X.env x=pure x)(hf:X.fn xT=true\/X.env.scope.names.lookup xT=some .local):DS K mg X ES (.Assign [.Name xT px] (.ListComp ge [⟨tg,am,[],0⟩] scope pos) spos) (aC ow iT (pLC I sub hsb g qY p)).F:=by with_unfolding_all exact Mp M kn N sub hc hN hix hxl hi hg he hsw hM hkn d_ hk hnc be hfr hsl hs hf
def KS{j:Nat}{name:Str}{id:String}{apos cpos:Pos}{r':V->List V->Hp->VK->Prop}{k:PMm}(hK:X.K=K)(slot:Slot "list" name id)(hty:typeOf (.builtin id)=pure (.type "method_descriptor"))(hm:MtM X id r')(hd:MtD K mg r' k.F)(ho:DE K mg X ES o (af j).F)(ha:DA K mg X ES (e::es) A.F)(b_:attributeBase o name X.env (eval o X.env)=eval o X.env:=by rfl)(hfew:((backTo cpos (starEach (e::es) X.env)).all (λx=>!x.1)&&(backToKw cpos (keywordEach [] X.env)).all (λx=>x.1.isSome)&&decide ((e::es).length+([]:List Keyword).length+(if ([]:List Keyword).isEmpty then 0 else 1)<30))=true:=by rfl)(ci:(apos.endLine==cpos.line)=true:=by rfl)(hs:starEach (e::es) X.env=(false,eval e X.env)::starEach es X.env:=by rfl)(bn:(backTo cpos (starEach es X.env)).any (·.1)=false:=by rfl):DE K mg X ES (.Call (.Attribute o name apos) (e::es) [] cpos) (jx j k A).F:=by with_unfolding_all exact Cj hK slot hty hm hd ho ha b_ hfew ci hs bn
def EF{name:Str}{id:String}{apos cpos:Pos}{r':V->List V->Hp->VK->Prop}{k:PMv}(hK:X.K=K)(slot:Slot "list" name id)(hty:typeOf (.builtin id)=pure (.type "method_descriptor"))(hm:MtM X id r')(hd:MtD K mg r' k.F)(ho:DE K mg X ES o p.F)(ha:DA K mg X ES (e::es) A.F)(b_:attributeBase o name X.env (eval o X.env)=eval o X.env:=by rfl)(hfew:((backTo cpos (starEach (e::es) X.env)).all (λx=>!x.1)&&(backToKw cpos (keywordEach [] X.env)).all (λx=>x.1.isSome)&&decide ((e::es).length+([]:List Keyword).length+(if ([]:List Keyword).isEmpty then 0 else 1)<30))=true:=by rfl)(ci:(apos.endLine==cpos.line)=true:=by rfl)(hs:starEach (e::es) X.env=(false,eval e X.env)::starEach es X.env:=by rfl)(bn:(backTo cpos (starEach es X.env)).any (·.1)=false:=by rfl):DE K mg X ES (.Call (.Attribute o name apos) (e::es) [] cpos) (pA k p A).F:=by with_unfolding_all exact Cj hK slot hty hm hd ho ha b_ hfew ci hs bn
def FT{j:Nat}{name:Str}{id:String}{apos cpos:Pos}{r':V->List V->Hp->VK->Prop}{k:PMm}(hK:X.K=K)(slot:Slot "list" name id)(hty:typeOf (.builtin id)=pure (.type "method_descriptor"))(hm:MtM X id r')(hd:MtD K mg r' k.F)(ho:DE K mg X ES o (af j).F)(b_:attributeBase o name X.env (eval o X.env)=eval o X.env:=by rfl)(ci:(apos.endLine==cpos.line)=true:=by rfl):DE K mg X ES (.Call (.Attribute o name apos) [] [] cpos) (je j k).F:=by with_unfolding_all exact Nl hK slot hty hm hd ho b_ ci
def Ed:DO K mg X ES none oN.F:=Di
def EY(he:DE K mg X ES e p.F):DO K mg X ES (some e) (oS p).F:=by with_unfolding_all exact Fg he
def A6{l u:POp}{lo hi:Option Expr}{p2:Pos}(hK:X.K=K)(he:DE K mg X ES e p.F)(hl:DO K mg X ES lo l.F)(hu:DO K mg X ES hi u.F):DE K mg X ES (.Subscript e (.Slice lo hi none p2) pos) (pSl p l u).F:=by with_unfolding_all exact A8 hK he hl hu
def N6:DE K mg X ES (.Dict [] [] pos) pD0.F:=by with_unfolding_all exact MB
def Jb{cn n:Str}{C:Addr}{i:Nat}{body suite:List Stmt}{b₀:Stmt}{np hpos:Pos}{mro:List Str}(T:X.Top)(hN:X.N.Nodup)(hi:X.N[i]?=some n)(hl:X.env.kindOf n=some .local)(hg:Gl X cn)(hm:mg cn=some (.ref C))(hh:XHand K C)(hmro:∀c∈mro,∀Ce,mg c=some (.ref Ce)->W.mroIn K Ce (.ref C)=some true)(hb:∀(pn:Rb) (xe:Rg) (ES':L2.St->XK),fR (cxT X pn xe) ES'->DSs K mg (cxT X pn xe) ES' body x.F)(hs:∀ea,DSs K mg (gw X ea) (λ_=>E0) (b₀::suite) y.F)(hK:X.K=K:=by rfl)(hk:X.mg=mg:=by rfl)(hd:(cn==("__debug__" : Str))=false:=by decide):DS K mg X ES (.Try body [.ExceptHandler (some (.Name cn np)) (some n) (b₀::suite) hpos] [] [] pos) (B0 mro i x y).F:=by with_unfolding_all exact Ks T hN hi hl hg hm hh hmro hb hs hK hk hd
def Ht:OpD K mg (λx y H Q=>rI0 (λi j=>.int (i+j)) x y H Q\/(mS x y H Q\/(kr K x y H Q\/kg K x y H Q))) aW.F:=Ir
def Gs:OpD K mg (rI0 λi j=>.int (i-j)) iw.F:=Gx
def Hz:OpD K mg (rI CMulA λi j=>.int (i*j)) fD.F:=J1
def Ii:OpD K mg (rI CDivB λi j=>.int (i.fdiv j)) rW.F:=Il
def Kw:OpD K mg (rI (λ_ j=>j≠0) λi j=>.int (i.fmod j)) dN.F:=Kc
def Gf:OpD K mg (rI ng λi j=>.int (i^j.toNat)) ja.F:=Je
def NL:OpD K mg (rI0 λi j=>.bl (decide (i<j))) bLt.F:=Nj
def C1:OpD K mg (rI0 λi j=>.bl (decide (j<i))) bGt.F:=LW
def C3:OpD K mg (rI0 λi j=>.bl (decide (j<=i))) bGe.F:=Mq
def GB:OpD K mg zi d7.F:=Ei
def CW:OpD K mg (λx y H Q=>wG K x y H Q\/vU K x y H Q) bIx.F:=Kj
def wk:OpD K mg (uV K) bEq.F:=II
def Mr:OpD K mg (vS K) bNe.F:=Jw
def MC:OpD K mg (rIn K false) bIn.F:=(xZ false)
def HL:OpD K mg (rIn K true) Bi.F:=(xZ true)
def Mm:OpD K mg (λx y H Q=>y=.non/\Q (.bl (decide (x=.non))) H) bIs.F:=Eg
def Ko:aT K mg (λxs H Q=>(∃p ys,xs=[.ref p]/\(SqL K H p ys\/SqT K H p ys)/\Q (.int ys.length) H)\/(∃z,xs=[.str z]/\z.length<=sizeLine/\Q (.int z.length) H)) bA.F:=Kb
def Jg:aT K mg (λxs H Q=>∃i,xs=[.int i]/\Q (.int (if i<0 then -i else i)) H) pJ.F:=Jn
def Dk:aT K mg (λxs H Q=>∃i j,xs=[.int i,.int j]/\Q (.int (if j>i then j else i)) H) iR.F:=EZ
def Ee:aT K mg (λxs H Q=>∃i j,xs=[.int i,.int j]/\Q (.int (if j<i then j else i)) H) mR.F:=EA
def xx:aT K mg (λxs H Q=>∃(a:Addr) (bs:List Bool),xs=[.ref a]/\SqL K H a (bs.map V.bl)/\Q (.bl (bs.all id)) H) pH.F:=Ib
def yg:aT K mg (λxs H Q=>∃(a:Addr) (ns:List Int),xs=[.ref a]/\SqL K H a (ns.map V.int)/\Q (.int ns.sum) H) l6.F:=Gq
def EL:aT K mg (λxs H Q=>∃p ys,xs=[.ref p]/\(SqL K H p ys\/SqT K H p ys)/\∀l,H l=none->Q (.ref l) (upd H l (.lst ys))) jC.F:=DY
def sk:aT K mg (λxs H Q=>∃p ys,xs=[.ref p]/\((SqL K H p ys/\∀l,H l=none->Q (.ref l) (upd H l (.tup ys)))\/(SqT K H p ys/\Q (.ref p) H))) kE.F:=Am
def HG:aT K mg (λxs H Q=>(∃i,xs=[.int i]/\Q (.int i) H)\/∃k,xs=[.bl k]/\Q (.int (if k then 1 else 0)) H) mE.F:=IG
def IP(ok:KitsOk K mg kt):aT K mg (λxs H Q=>(∃x c t v b,xs=[x,c]/\TyX K H x t/\eW c=some v/\W.kitOne K t v=some b/\Q (.bl b) H)\/
 (∃x tp cs t vs b,xs=[x,.ref tp]/\SqT K H tp cs/\TyX K H x t/\cs.mapM eW=some vs/\W.kitAny K t vs=some b/\Q (.bl b) H)) (ay kt).F:=IU ok
def yM:MtD K mg mZ fC.F:=oF
def Ga:MtD K mg BZ jv.F:=Hg
def zd:MtD K mg (kc K) kz.F:=BC
def xo:MtD K mg (iZ K) kd.F:=xV
def Fl:nU K mg wb seL.F:=Ew
def F2:IpD K mg (ipI λi j=>i+j) BJ.F:=E5
def Ki:UnD K mg (rU λi=>.int (-i)) wm.F:=Kk
variable{P:Program}{w:World}{base:Heap}{fx:Str}{fst:Stmt}{k n m:Nat}{ps N:List Str}{ms:List Bool}
def okP(D:Def K mg fx fst)(S:FnScope N ps (ao fst))
 (hb:∀(kV doc pm:Value) (an:Option Addr) (cdv ct:Value) (us:List Value),us.length=ps.length->bindArgs (W.fnOf fx fx (cB fst) (aX fst) (ao fst) .none kV doc pm an cdv ct) ⟨us,[]⟩=pure (ps.zip us))
 (f_:∀(f:Addr) (cdv:Value) (A:Around) (outer:List Env) (s:Shared) (H:Hp) (E:XK),Room k (A.deeper (envOfC fx (ao fst) s.heap.objs.size f cdv))->
  DSs K mg (dD (CX1 P w) P w K mg base N fx (ao fst) f cdv A outer s H E) (λ_=>E) (aX fst) x.F) (hn:ps.length=n) (hm:N.length=m):Callee P w K mg base fx (k+1) ps (spD K mg n (fnP ms m x).F):=by
 subst hn hm
 with_unfolding_all exact D.okD S hb f_
def okX(D:Def K mg fx fst)(S:FnScope N ps (ao fst))
 (hb:∀(kV doc pm:Value) (an:Option Addr) (cdv ct:Value) (us:List Value),us.length=ps.length->bindArgs (W.fnOf fx fx (cB fst) (aX fst) (ao fst) .none kV doc pm an cdv ct) ⟨us,[]⟩=pure (ps.zip us))
 (f_:∀(f:Addr) (cdv:Value) (A:Around) (outer:List Env) (s:Shared) (H:Hp) (E:XK),Room k (A.deeper (envOfC fx (ao fst) s.heap.objs.size f cdv))->
  DSs K mg (dD (CX1 P w) P w K mg base N fx (ao fst) f cdv A outer s H E) (λ_=>E) (aX fst) x.F) (hn:ps.length=n) (hm:N.length=m):Callee P w K mg base fx (k+1) ps (spD K mg n (PFx.of ms m x).F):=by
 subst hn hm
 with_unfolding_all exact D.okD S hb f_
def ok0(D:Def K mg fx fst)(S:FnScope N ps (ao fst))
 (hb:∀(kV doc pm:Value) (an:Option Addr) (cdv ct:Value) (us:List Value),us.length=ps.length->bindArgs (W.fnOf fx fx (cB fst) (aX fst) (ao fst) .none kV doc pm an cdv ct) ⟨us,[]⟩=pure (ps.zip us)) (hn:ps.length=n:=by rfl):Callee P w K mg base fx (k+1) ps (spD K mg n (PFx.none ms).F):=by
 subst hn
 exact D.okD (F:=λ_ _=>.stuck) S hb λ_ _ _ _ _ _ _ _=>xp
end
def IF(b:Bool)(ms:List Bool)(v:Val)(vs:List Val):sls (b::ms) (v::vs)=sl1 b v::sls ms vs:=rfl
def DM:sls [] []=[]:=rfl
def Oa(v:Val):sl1 true v=.mu v:=rfl
def NF(v:Val):sl1 false v=.sh v:=rfl
section
variable(e:E3)
def EG:okA e [] []=true:=rfl
def HB(i:Nat)(ms:List Bool)(ts:List Tm):okA e (true::ms) (.bor i::ts)=(((e[i]?).bind Sl.mv).isSome && !(iD i ts)&&okA e ms ts):=rfl
def Jx(v:Val)(ms:List Bool)(ts:List Tm):okA e (false::ms) (.val v::ts)=okA e ms ts:=rfl
def zm(i:Nat):iD i []=false:=rfl
def IV(i:Nat)(v:Val)(ts:List Tm):iD i (.val v::ts)=iD i ts:=rfl
def yJ:aV e [] []=[]:=rfl
def D6(v:Val)(ms:List Bool)(ts:List Tm):aV e (false::ms) (.val v::ts)=aV e ms ts:=rfl
def Gu(t:Tm)(ms:List Bool)(ts:List Tm):aV e (true::ms) (t::ts)=aV e ms ts:=by cases t <;> rfl
end
def yy:ck [] []=[]:=rfl
def EW(b:Bool)(t:Tm)(ms:List Bool)(ts:List Tm):ck (b::ms) (t::ts)=nc b t::ck ms ts:=rfl
def FP(i:Nat):nc true (.bor i)=some i:=rfl
def Im(t:Tm):nc false t=none:=by cases t <;> rfl
def Cd(e:E3):ba [] [] e=e:=rfl
def Ku(o:Option Nat)(sub:Rh)(s:Sl)(i e:E3):ba (o::sub) (s::i) e=ba sub i (fJ o s e):=rfl
theorem EH(i:Nat)(v:Val)(e:E3):fJ (some i) (.mu v) e=match e[i]? with
 |some t=>e.set i (t.re v)
 |none=>e:=rfl
def HU(s:Sl)(e:E3):fJ none s e=e:=rfl
def Ap(vs:List Val):aN [] vs=[]:=rfl
def IE(ms:List Bool)(v:Val)(vs:List Val):aN (true::ms) (v::vs)=.mu v::aN ms vs:=rfl
def HN(ms:List Bool)(vs:List Val):aN (false::ms) vs=.no::aN ms vs:=by cases vs <;> rfl
def EN(e:E3):muV [] e=some []:=by cases e <;> rfl
def Nd(ms:List Bool)(v:Val)(e:E3):muV (true::ms) (.mu v::e)=(muV ms e).map (v :: ·):=rfl
def MX(ms:List Bool)(s:Sl)(e:E3):muV (false::ms) (s::e)=muV ms e:=by cases s <;> rfl
def xi(v:Val):ki (.val v)=bj v:=rfl
def xr(v:Val):ki (.new v)=cZ v:=rfl
def yA(xs:List Val):cZ (.lst xs)=fU xs:=rfl
def yP(i:Int):bj (.int i)=true:=by simp [bj]
def zy(i:Bool):bj (.bl i)=true:=by simp [bj]
def zb:bj .non=true:=by simp [bj]
def cU(h0:0<=i)(h:l[i.toNat]?=some x):atI l i=some x:=by
 have hl:=(k_.mp h).1
 unfold atI ixN
 rw[if_pos h0,if_pos (by omega)]
 exact h
def sg(h0:0<=i)(h:i.toNat<n):ixN n i=some i.toNat:=by
 unfold ixN
 rw[if_pos h0,if_pos (by omega)]
section
variable(a b c d e f g h:α)(l:List α)
def ati0:atI (a::l) 0=some a:=cU (by decide) rfl
def ati1:atI (a::b::l) 1=some b:=cU (by decide) rfl
def ati2:atI (a::b::c::l) 2=some c:=cU (by decide) rfl
def ati3:atI (a::b::c::d::l) 3=some d:=cU (by decide) rfl
end
def ixn0(n:Nat):ixN (n+1) 0=some 0:=sg (i:=0) (by decide) (by show 0<n+_;omega)
def ixn1(n:Nat):ixN (n+2) 1=some 1:=sg (i:=1) (by decide) (by show 1<n+_;omega)
theorem MU(xs:List Val)(k:Int)(v:Val):seL.G (.lst xs) (.int k) v=match ixN xs.length k with
 |some j=>some (.lst (xs.set j v))
 |none=>none:=rfl
mutual
noncomputable def vq:Val->Val->Bool
 |.non,.non=>true
 |.bl a,.bl b=>a==b
 |.bl a,.int j=>(if a then 1 else 0)==j
 |.int i,.bl b=>i==(if b then 1 else 0)
 |.int i,.int j=>i==j
 |.str x,.str y=>x==y
 |.tup xs,.tup ys=>vqs xs ys
 |.lst xs,.lst ys=>vqs xs ys
 |_,_=>false
noncomputable def vqs:List Val->List Val->Bool
 | [],[]=>true
 |x::xs,y::ys=>vq x y&&vqs xs ys
 |_,_=>false
end
mutual
noncomputable def wfV:Nat->Val->Bool
 |_,.non=>true
 |_,.bl _=>true
 |_,.int _=>true
 |_,.str x=>PyData.strOk x
 |k+1,.tup xs=>f9 k xs
 |k+1,.lst xs=>f9 k xs
 |_,_=>false
noncomputable def f9:Nat->List Val->Bool
 |_,[]=>true
 |k,x::xs=>wfV k x&&f9 k xs
end
mutual
noncomputable def fY:Val->PyData
 |.bl b=>.bool b
 |.int i=>.int i
 |.str x=>.str x
 |.tup xs=>.tuple (dY xs)
 |.lst xs=>.list (dY xs)
 |_=>.none
noncomputable def dY:List Val->List PyData
 | []=>[]
 |x::xs=>fY x::dY xs
end
mutual
theorem nt:∀(k:Nat) (v:Val),wfV k v=true->(∀j,k<j->cK j v=some (fY v))/\(fY v).canLay0=true/\(fY v).depth<=k
 |k,.non,_=>⟨λj hj=>by cases j with |zero=>exact absurd hj (Pp _) |succ j=>rfl,rfl,Oq _⟩
 |k,.bl b,_=>⟨λj hj=>by cases j with |zero=>exact absurd hj (Pp _) |succ j=>rfl,rfl,Oq _⟩
 |k,.int b,_=>⟨λj hj=>by cases j with |zero=>exact absurd hj (Pp _) |succ j=>rfl,rfl,Oq _⟩
 |k,.str b,w=>⟨λj hj=>by cases j with |zero=>exact absurd hj (Pp _) |succ j=>rfl,by cases k <;> exact w,Oq _⟩
 |0,.tup xs,w=>absurd w r_
 |0,.lst xs,w=>absurd w r_
 |
  k+1,.tup xs,w=>by
  obtain⟨h1,h2,h3⟩:=lz k xs w
  exact⟨λj hj=>by cases j with |zero=>exact absurd hj (Pp _) |succ j=>simp only[cK,fY,h1 j (Nat.lt_of_succ_lt_succ hj),Option.map_some],h2,by simpa [fY,PyData.depth] using h3⟩
 |
  k+1,.lst xs,w=>by
  obtain⟨h1,h2,h3⟩:=lz k xs w
  exact⟨λj hj=>by cases j with |zero=>exact absurd hj (Pp _) |succ j=>simp only[cK,fY,h1 j (Nat.lt_of_succ_lt_succ hj),Option.map_some],h2,by simpa [fY,PyData.depth] using h3⟩
 |k,.ty _,w=>by cases k <;> exact absurd w r_
 |k,.glb _,w=>by cases k <;> exact absurd w r_
 |k,.exc _,w=>by cases k <;> exact absurd w r_
 |k,.kl _,w=>by cases k <;> exact absurd w r_
 |k,.dct _,w=>by cases k <;> exact absurd w r_
 |k,.set _,w=>by cases k <;> exact absurd w r_
theorem lz:∀(k:Nat) (vs:List Val),f9 k vs=true->(∀j,k<j->d8 j vs=some (dY vs))/\PyData.canLayAll0 (dY vs)=true/\PyData.depthAll (dY vs)<=k
 |k,[],_=>⟨λj hj=>by simp [d8,dY],rfl,Oq _⟩
 |
  k,v::vs,w=>by
  have w':(wfV k v&&f9 k vs)=true:=w
  rw[n_] at w'
  obtain⟨h1,h2,h3⟩:=nt k v w'.1
  obtain⟨i1,i2,i3⟩:=lz k vs w'.2
  exact⟨λj hj=>by simp [d8,dY,h1 j hj,i1 j hj],by simp [dY,PyData.canLayAll0,h2,i2],Nat.max_le.mpr ⟨h3,i3⟩⟩
end
mutual
theorem xG:∀(k:Nat) (v u:Val),wfV k v=true->wfV k u=true->PyData.eqv (fY v) (fY u)=vq v u
 |
  k,v,u,hv,hu=>by
  cases v <;> first |(cases k <;> exact absurd hv r_) |skip
  all_goals (cases u <;> first |(cases k <;> exact absurd hu r_) |rfl |(cases k with |zero=>exact absurd hv r_ |succ k=>exact uJ k _ _ hv hu))
theorem uJ:∀(k:Nat) (v u:List Val),f9 k v=true->f9 k u=true->PyData.eqvAll (dY v) (dY u)=vqs v u
 |_,[],[],_,_=>rfl
 |_,[],_::_,_,_=>rfl
 |_,_::_,[],_,_=>rfl
 |
  k,x::xs,y::ys,hv,hu=>by
  have h1:(wfV k x&&f9 k xs)=true:=hv
  have h2:(wfV k y&&f9 k ys)=true:=hu
  rw[n_] at h1 h2
  show (PyData.eqv (fY x) (fY y)&&PyData.eqvAll (dY xs) (dY ys))=(vq x y&&vqs xs ys)
  rw[xG k x y h1.1 h2.1,uJ k xs ys h1.2 h2.2]
end
def F8(hk:k<=160)(hx:wfV k x=true)(hy:wfV k y=true):c8 x y=some (vq x y):=by
 obtain⟨h1,h2,h3⟩:=nt k x hx
 obtain⟨i1,i2,i3⟩:=nt k y hy
 unfold c8
 rw[h1 164 (by omega),i1 164 (by omega)]
 dsimp only
 rw[if_pos ⟨g9 h2 (by omega),g9 i2 (by omega)⟩,xG k x y hx hy]
def Np(hx:wfV 60 x=true)(hy:wfV 60 y=true):c8 x y=some (vq x y):=F8 (by decide) hx hy
mutual
noncomputable def j5:Val->Bool
 |.bl _=>false
 |.tup xs=>fS xs
 |.lst xs=>fS xs
 |.non=>true
 |.int _=>true
 |.str _=>true
 |_=>false
noncomputable def fS:List Val->Bool
 | []=>true
 |x::xs=>j5 x&&fS xs
end
mutual
theorem wU:∀(v u:Val),j5 v=true->j5 u=true->(vq v u=true ↔ v=u)
 |
  v,u,hv,hu=>by
  cases v <;> first |exact absurd hv r_ |skip
  all_goals (cases u <;> first |exact absurd hu r_ |exact⟨λz=>absurd z r_,λz=>nomatch z⟩ |(simp [vq];done) |skip)
  all_goals
   refine Iff.trans (uS _ _ hv hu) ?_
   constructor
   ·rintro rfl;rfl
   ·intro z;cases z;rfl
theorem uS:∀(v u:List Val),fS v=true->fS u=true->(vqs v u=true ↔ v=u)
 | [],[],_,_=>⟨λ_=>rfl,λ_=>rfl⟩
 | [],_::_,_,_=>⟨λz=>absurd z r_,λz=>nomatch z⟩
 |_::_,[],_,_=>⟨λz=>absurd z r_,λz=>nomatch z⟩
 |
  x::xs,y::ys,hv,hu=>by
  have h1:(j5 x&&fS xs)=true:=hv
  have h2:(j5 y&&fS ys)=true:=hu
  rw[n_] at h1 h2
  show (vq x y&&vqs xs ys)=true ↔ _
  rw[n_,wU x y h1.1 h2.1,uS xs ys h1.2 h2.2,List.cons.injEq]
end
noncomputable def fV(q:Rat):Val:=.tup [.int q.num,.int q.den]
structure Bx where
 l:Rat
 t:Rat
 w:Rat
 h:Rat
structure Bx.Ok(b:Bx):Prop where
 w:0<b.w
 h:0<b.h
structure Bx.Sz(n:Nat)(b:Bx):Prop where
 l:L2.Sz n b.l
 t:L2.Sz n b.t
 w:L2.Sz n b.w
 h:L2.Sz n b.h
def bV(b:Bx):Val:=.tup [fV b.l,fV b.t,fV b.w,fV b.h]
noncomputable def knV:Val->Bool
 |.exc _=>false
 |v=>(tyC v).isSome
noncomputable def gJ:Nat->Val->Bool
 |k+1,.tup xs=>xs.all (gJ k)
 |_,v=>knV v
noncomputable def iG:Val->Bool
 |.int _=>true
 |_=>false
noncomputable def aR:Val->Bool
 |.tup [.int a,.int b]=>decide (1<=b)&&decide (Int.gcd a b=1)
 |_=>false
noncomputable def ju:Val->Bool
 |.tup (.int a::_)=>decide (0<a)
 |_=>false
def fQ:Val->Bool
 |.tup [a,b,c,d]=>aR a&&(aR b&&(aR c&&(aR d&&(ju c&&ju d))))
 |_=>false
noncomputable def ia:Val->Bool
 |.int i=>decide (1<=i)
 |_=>false
noncomputable def dB:Val->Bool
 |.tup _=>true
 |_=>false
def NY(h1:1<=b)(h2:Int.gcd a b=1):Val.tup [.int a,.int b]=fV ((a:Rat)/(b:Rat)):=by
 have hb:b≠0:=by omega
 have h:=pB (a:=a) hb
 have s:=Fr.self (by omega) h2
 unfold fV
 rw[<- h.1,<- h.2,s.1,s.2]
def ji(q:Rat):aR (fV q)=true:=by
 show (decide (1<=(q.den:Int))&&decide (Int.gcd q.num q.den=1))=true
 have:=q.den_pos
 rw[F_ (by omega),F_ (uG q)];rfl
def xa(h:aR d=true):∃q,d=fV q:=by
 unfold aR at h
 split at h
 ·simp only[n_,O9] at h
  exact⟨_,NY h.1 h.2⟩
 ·cases h
def uQ(q:Rat):ju (fV q)=decide (0<q):=by
 show decide (0<q.num)=decide (0<q)
 rw[decide_eq_decide]
 exact uK
def AG(h:b.Ok):fQ (bV b)=true:=by
 show (aR (fV b.l)&&(aR (fV b.t)&&(aR (fV b.w)&&(aR (fV b.h)&&(ju (fV b.w)&&ju (fV b.h))))))=true
 rw[ji,ji,ji,ji,uQ,uQ,F_ h.w,F_ h.h];rfl
def Jv(b:Bx):gJ 2 (bV b)=true:=by simp [bV,fV,gJ,knV,tyC]
theorem nC(P:E3->Prop):∀(vs acc:List Val) (e:E3),P e->(∀v∈vs,∀e,P e->∃e1 t e2,g v e=some e1/\F e1=.ok t e2/\cH e2 t=some (e2,f v)/\P e2)->acc.length+vs.length<=16777216->∃e',P e'/\lcV g cY F vs acc e=.ok (acc++vs.map f) e'
 | [],acc,e,hp,_,_=>⟨e,hp,by simp [lcV]⟩
 |
  v::vs,acc,e,hp,hf,hl=>by
  obtain⟨e1,t,e2,q1,q2,q3,q4⟩:=hf v (o_ ..) e hp
  obtain⟨e',p',q5⟩:=nC P vs (acc++[f v]) e2 q4 (λu hu=>hf u (m_ _ hu)) (by simp at hl ⊢;omega)
  refine⟨e',p',?_⟩
  unfold lcV
  rw[if_pos (by simp at hl;omega),q1]
  simp only[cY,gh,O4,q2,q3,q5]
  simp
theorem rA(P:E3->Prop):∀(vs:List Val) (e:E3),P e->(∀v∈vs,∀e,P e->∃e1 e2,g v e=some e1/\(B e1=.nx e2\/B e1=.ct e2)/\P e2)->∃e',P e'/\dC g B vs e=.nx e'
 | [],e,hp,_=>⟨e,hp,rfl⟩
 |
  v::vs,e,hp,hf=>by
  obtain⟨e1,e2,q1,q2,q3⟩:=hf v (o_ ..) e hp
  obtain⟨e',p',q4⟩:=rA P vs e2 q3 λu hu=>hf u (m_ _ hu)
  refine⟨e',p',?_⟩
  rw[gQ,q1]
  rcases q2 with q2 |q2 <;> simp only[q2,pw,C0,q4]
noncomputable def rgV(k:Nat):List Val:=(List.range k).map λj=>Val.int (j:Nat)
def ky(h:k<1000000):gM [.int (k:Nat)]=some (rgV k):=by
 simp only[gM]
 rw[if_pos (⟨by omega,by omega⟩:RgB _),Oy]
 unfold vx rgV
 simp only[Int.zero_add]
def Fy(h0:0<=i)(h:i<1000000):gM [.int i]=some (rgV i.toNat):=by
 have:=ky (k:=i.toNat) (by omega)
 rwa [show ((i.toNat:Nat):Int)=i from by omega] at this
theorem c6(fv fw:α->Val)(P:E3->Prop):∀(l:List α) (acc:List Val) (e:E3),P e->(∀a∈l,∀e,P e->∃e1 t e2,g (fv a) e=some e1/\F e1=.ok t e2/\cH e2 t=some (e2,fw a)/\P e2)->acc.length+l.length<=16777216->∃e',P e'/\lcV g qY.G F (l.map fv) acc e=.ok (acc++l.map fw) e'
 | [],acc,e,hp,_,_=>⟨e,hp,by simp [lcV]⟩
 |
  v::vs,acc,e,hp,hf,hl=>by
  obtain⟨e1,t,e2,q1,q2,q3,q4⟩:=hf v (o_ ..) e hp
  obtain⟨e',p',q5⟩:=c6 fv fw P vs (acc++[fw v]) e2 q4 (λu hu=>hf u (m_ _ hu)) (by simp at hl ⊢;omega)
  refine⟨e',p',?_⟩
  rw[s_]
  unfold lcV
  have cy:qY.G=cY:=rfl
  rw[cy] at q5 ⊢
  rw[if_pos (by simp at hl;omega),q1]
  simp only[cY,gh,O4,q2,q3,q5]
  simp
def G1(v:Val):inS (.sh v)=.sh v:=rfl
def D9(i:Nat)(v:Val)(e:E3):fJ (some i) (.sh v) e=e:=rfl
noncomputable def lE(ms:List Bool)(r:SR3):R3F:=match r with
 |.nx e=>(match muV ms e with |some mv=>.ok (.val .non) mv |none=>.stuck)
 |.rt r e=>(match muV ms e with |some mv=>.ok r mv |none=>.stuck)
 |.exc c e=>(match muV ms e with |some mv=>.exc c mv |none=>.stuck)
 |_=>.stuck
def CC(h:vs.length=ms.length):(fnP ms N c).G vs=lE ms (c.G (sls ms vs++List.replicate (N-vs.length) .no)):=by
 rw[aZ,if_pos h];rfl
def yC(h:vs.length=ms.length):(PFx.of ms N c).G vs=lE ms (c.G (sls ms vs++List.replicate (N-vs.length) .no)):=by
 rw[gm,if_pos h];rfl
def lX(ms:List Bool)(r:Rt)(e:E3):lE ms (.rt r e)=match muV ms e with |some mv=>.ok r mv |none=>.stuck:=rfl
def aJ{Q:SR3->Prop}(I:E3->Prop){a b:PSt}{e:E3}(h1:∃e1,a.G e=.nx e1/\I e1)(h2:∀e1,I e1->Q (b.G e1)):Q ((ak a b).G e):=by
 obtain⟨e1,q,i⟩:=h1
 rw[eY,q]
 exact h2 e1 i
noncomputable def sm8(h:m.natAbs<1099511627776):Sm 8000 m:=B_ (show m.natAbs<2^40 from h) (P4 (by decide) (by decide))
def CB(h:m.natAbs<=2000000000000000000000000000000):Sm 101 m:=by unfold Sm;exact PJ h (by decide)
noncomputable def mz{m:Int}(h:m.natAbs<=2000000000000000000000000000000):Sz 101 (m:Rat):=⟨CB h,CB (by show (1:Int).natAbs<=_;decide)⟩
noncomputable def kA{m:Int}(h:0<m):(0:Rat)<(m:Rat):=Rat.intCast_pos.mpr h
def sd{a b:Int}(h1:0<a)(h2:0<b):(0:Rat)<(a:Rat)/(b:Rat):=by
 rw[Rat.div_def]
 exact Rat.mul_pos (kA h1) (Rat.inv_pos.mpr (kA h2))
structure Good(b:Bx):Prop where
 ok:b.Ok
 sz:b.Sz 101
section
variable{K:W.Frag}{mg:Ra}{X:Cx}{ES:L2.St->XK}{e:Expr}{es:List Expr}{A:PAs}{pos:Pos}
end
def J8(xs ys:List Val):aW.G (.lst xs) (.lst ys)=if xs.length+ys.length<=16777216 then .new (.lst (xs++ys)) else .stuck:=rfl
def JG(xs ys:List Val):aW.G (.tup xs) (.tup ys)=if xs.length+ys.length<=16777216 then .val (.tup (xs++ys)) else .stuck:=rfl
section
variable{K:W.Frag}{mg:Ra}{X:Cx}{ES:L2.St->XK}{e a b c o lo hi:Expr}{p q r:PEx}{pos p1 p2:Pos}
end
theorem ar1{α:Type}{P:List α->Prop}(h:∀a,P [a]):∀us:List α,us.length=1->P us
 | [a],_=>h a
theorem ar2{α:Type}{P:List α->Prop}(h:∀a b,P [a,b]):∀us:List α,us.length=2->P us
 | [a,b],_=>h a b
theorem ar3{α:Type}{P:List α->Prop}(h:∀a b c,P [a,b,c]):∀us:List α,us.length=3->P us
 | [a,b,c],_=>h a b c
theorem ar4{α:Type}{P:List α->Prop}(h:∀a b c d,P [a,b,c,d]):∀us:List α,us.length=4->P us
 | [a,b,c,d],_=>h a b c d
section
variable{P:Nat->Prop}{h:AH}
def Lr(r:Rk P h ws us):lkD us k=some v->∃d,lkD ws k=some d/\Rd P h d v:=
 r.ind (M:=λws us=>lkD us k=some v->∃d,lkD ws k=some d/\Rd P h d v) (λq=>by cases q) (λ{k2 d v2 ds vs} r _ ih q=>by
  unfold lkD at q ih ⊢
  rw[OE] at q ⊢
  dsimp only at q ⊢
  by_cases hk:k2=k
  ·rw[F_ hk] at q ⊢
   cases q
   exact⟨d,rfl,r⟩
  ·rw[A_ hk] at q ⊢
   exact ih q)
def Ep(r:Rk P h ws us):us.map (·.1)=ws.map (·.1):=
 r.ind (M:=λws us=>us.map (·.1)=ws.map (·.1)) rfl λ_ _ ih=>by rw[s_,s_,ih]
def Iz(r:Rk P h ws us):ws.length=us.length:=
 r.ind (M:=λws us=>ws.length=us.length) rfl λ_ _ ih=>OI (· + 1) ih
def GR(r:Rk P h ws us)(q:Rk P h ws' us'):Rk P h (ws++ws') (us++us'):=
 r.ind (M:=λws us=>Rk P h (ws++ws') (us++us')) q λr _ ih=>.cons r ih
def Io(rd:Rd P h d v)(r:Rk P h ws us):Rk P h (cW ws k d) (cW us k v):=by
 unfold cW
 rw[qL (Ep r)]
 by_cases hc:(ws.any λkv=>decide (kv.1=k))=true
 ·rw[if_pos hc,if_pos hc]
  exact r.ind (M:=λws us=>Rk P h (ws.map λkv=>if kv.1=k then (kv.1,d) else kv) (us.map λkv=>if kv.1=k then (kv.1,v) else kv)) .nil (λ{k2 d2 v2 ds vs} r _ ih=>by
   rw[s_,s_]
   dsimp only
   by_cases hk:k2=k
   ·rw[if_pos hk,if_pos hk];exact .cons rd ih
   ·rw[if_neg hk,if_neg hk];exact .cons r ih)
 ·rw[if_neg hc,if_neg hc]
  exact GR r (.cons rd .nil)
end
noncomputable def sD:Val->Val->Val->Option Val:=λo i v=>match o with
 |.dct kvs=>(match i with
  |.str k=>if kvs.length<16777216 then some (.dct (cW kvs (.inr k) v)) else none
  |_=>none)
 |_=>none
section
variable{K:W.Frag}{mg:Ra}{X:Cx}{ES:L2.St->XK}{a b:Expr}{p q:PEx}{pos:Pos}
end
end L3
namespace L3
open PySem L2
theorem oa(P:Nat->E3->Prop)(m:Nat)(hs:∀i,i<m->∀e,P i e->∃e1 e2,g (.int (i:Nat)) e=some e1/\(B e1=.nx e2\/B e1=.ct e2)/\P (i+1) e2):∀(k i:Nat) (e:E3),i+k=m->P i e->∃e',P m e'/\dC g B ((List.range' i k).map λj=>Val.int (j:Nat)) e=.nx e'
 |
  0,i,e,h,p=>by
  obtain rfl:i=m:=by omega
  exact⟨e,p,rfl⟩
 |
  k+1,i,e,h,p=>by
  obtain⟨e1,e2,q1,q2,q3⟩:=hs i (by omega) e p
  obtain⟨e',p',q4⟩:=oa P m hs k (i+1) e2 (by omega) q3
  refine⟨e',p',?_⟩
  rw[List.range'_succ,s_,gQ,q1]
  rcases q2 with q2 |q2
  ·simp only[q2,pw];exact q4
  ·simp only[q2,C0];exact q4
def B8(P:Nat->E3->Prop)(m:Nat)(h0:P 0 e)(hs:∀i,i<m->∀e,P i e->∃e1 e2,g (.int (i:Nat)) e=some e1/\(B e1=.nx e2\/B e1=.ct e2)/\P (i+1) e2):∃e',P m e'/\dC g B (rgV m) e=.nx e':=by
 have:=oa P m hs m 0 e (by omega) h0
 rw[<- List.range_eq_range'] at this
 exact this
def xH(xs:List Val)(n:Nat):eT xs none (some (n:Int))=xs.take n:=by
 unfold eT
 rw[HT.sIx_none,HT.sIx_nat,List.drop_zero,Nat.sub_zero]
 by_cases h:n<=xs.length
 ·rw[QB h]
 ·rw[Nat.min_eq_right (by omega),Pf (p_ _),Pf (by omega)]
def kN(xs:List Val)(n:Nat):eT xs (some (n:Int)) none=xs.drop n:=by
 unfold eT
 rw[HT.sIx_none,HT.sIx_nat]
 by_cases h:n<=xs.length
 ·rw[QB h,Pf (by rw[Px];exact p_ _)]
 ·rw[Nat.min_eq_right (by omega),List.drop_of_length_le (p_ _),List.drop_of_length_le (by omega),PD]
def rF(xs:List Val)(lo hi:Option Int):aSl (.lst xs) lo hi=.new (.lst (eT xs lo hi)):=rfl
end L3
namespace L3
open PySem PySem.Spec PyProof.Rows L2
section
variable{gs:MGs}{gs3:jO}
end
section
variable{e:E3}
end
section
variable{K:W.Frag}{mg:Ra}{X:Cx}{es:List Expr}{gs:PGs}{pos:Pos}
end
section
variable{K:W.Frag}{mg:Ra}{X:Cx}{ES:L2.St->XK}{a:Expr}{A:PAs}{pos q2 p1 p2:Pos}
end
section
variable{K:W.Frag}{mg:Ra}{n:Str}{kvs:List (Str×Int)}
end
end L3
namespace L3
open PySem L2
end L3
namespace L3
open PySem PySem.Spec PyProof.Rows L2
section
variable{K:W.Frag}{mg:Ra}
end
section
variable{X:Cx}{K:W.Frag}{mg:Ra}{ES:L2.St->XK}{e:Expr}{es:List Expr}{A:PAs}{pos:Pos}{x:PSt}
variable{P:Program}{w:World}{base:Heap}{fx:Str}{fst:Stmt}{k n m:Nat}{ps N:List Str}{ms:List Bool}
end
end L3
namespace L3
open PySem L2
end L3
namespace L3
open PySem PySem.Spec PyProof.Rows L2
noncomputable def nr:Val->List Val->Option (Val×Val):=λu vs=>match u,vs with
 |.lst xs,[.int i,v]=>if 0<=i/\i<=(xs.length:Nat)/\xs.length<16777216 then some (.lst (xs.take i.toNat++v::xs.drop i.toNat),.non) else none
 |_,_=>none
def y9:RM kF nr:=λP h n o u ds vs u' v e hf r rs q=>by
 unfold nr at q
 split at q
 ·split at q
  ·rename_i hb
   cases q
   obtain⟨q1,es,q2,q3,q4⟩:=mJ e r
   cases rs with
   |
    cons r1 rs=>
    obtain⟨d,rfl,rd⟩:=u3 rs
    obtain rfl:=ShR.int (.inl r1)
    refine⟨q1,.lst (es.take _++d::es.drop _),.non,?_,trivial,.lst ((q3.take _).append (.cons rd (q3.drop _))),.non⟩
    unfold kF;rw[q4];dsimp only;rw[if_pos (by rw[q3.len];exact hb)]
  ·cases q
 ·cases q
noncomputable def lJ:PMm:=⟨kF,nr,y9⟩
def A7(xs:List Val)(i:Int)(v:Val):lJ.G (.lst xs) [.int i,v]=if 0<=i/\i<=(xs.length:Nat)/\xs.length<16777216 then some (.lst (xs.take i.toNat++v::xs.drop i.toNat),.non) else none:=rfl
def xq{K:W.Frag}{mg:Ra}:MtD K mg m9 lJ.F:=yO
noncomputable def mf:List Val->Option (List (List Val))
 | []=>some []
 |.lst xs::vs=>(mf vs).map (xs :: ·)
 |_::_=>none
theorem og:∀(xss:List (List Val)),mf (xss.map .lst)=some xss
 | []=>rfl
 |xs::xss=>by show (mf (xss.map .lst)).map _=_;rw[og xss];rfl
def zj:∀{ds:List D}{vs:List Val}{xss:List (List Val)},Rds P h ds vs->mf vs=some xss->∃yss,iK h ds=some yss/\Rds P h yss.flatten xss.flatten/\yss.length=xss.length:=by
 intro ds
 induction ds with
 |nil=>intro vs xss r e;cases r;cases e;exact⟨[],rfl,.nil,rfl⟩
 |
  cons d ds ih=>
  intro vs xss r e
  cases r with
  |
   cons r rr=>
   rename_i v vs
   cases v with
   |
    lst xs=>
    obtain⟨yss,e1,e2⟩:=D_.mp e
    cases e2
    obtain⟨zss,g1,g2,g3⟩:=ih rr e1
    obtain⟨n,es,rfl,g4,_,g5⟩:=ShR.lst (.inl r)
    refine⟨es::zss,?_,g5.append g2,OI (· + 1) g3⟩
    unfold iK
    rw[g4,g1]
   |_=>cases e
noncomputable def l9:List Val->Bv:=λvs=>match vs with
 | [.lst us,.lst ys]=>match mf us with
  |some xss=>if xss≠[]/\ys.length+xss.flatten.length<=16777216 then .new (.lst (ys++xss.flatten)) else .stuck
  |none=>.stuck
 |_=>.stuck
def DJ:RFn mB l9:=λP h ds vs r=>by
 unfold l9
 split
 ·cases
   r with
  |
   cons r1 r=>
   obtain⟨d,hd,r2⟩:=dG r
   subst hd
   split
   ·rename_i xss q
    split
    ·rename_i hb
     obtain⟨n,es,rfl,g1,_,g2⟩:=ShR.lst r1
     obtain⟨m,fs,rfl,g3,_,g4⟩:=ShR.lst r2
     obtain⟨yss,g5,g6,g7⟩:=zj g2 q
     refine⟨.lst (fs++yss.flatten),?_,trivial,.lst (g4.append g6)⟩
     unfold mB
     dsimp only
     rw[g1,g3]
     dsimp only
     rw[g5]
     dsimp only
     rw[if_pos ⟨λz=>hb.1 (by rw[z] at g7;exact OL.mp g7.symm),by rw[g4.len,g6.len];exact hb.2⟩]
    ·trivial
   ·trivial
 ·trivial
noncomputable def rR:PBf:=⟨mB,l9,DJ⟩
def Jk(xss:List (List Val))(ys:List Val):rR.G [.lst (xss.map .lst),.lst ys]=if xss≠[]/\ys.length+xss.flatten.length<=16777216 then .new (.lst (ys++xss.flatten)) else .stuck:=by
 show l9 [.lst (xss.map .lst),.lst ys]=_
 unfold l9
 dsimp only
 rw[og]
def ET{K:W.Frag}{mg:Ra}:aT K mg vY rR.F:=DQ
def Xd(X:Nat->Prop)(b k:Nat):Nat->Prop:=λn=>X n\/(b<=n/\n<b+k)
section
variable{X:Nat->Prop}{h0:Nat}{ns ns1:Ns}{e e1:E3}{ae:AE}{h h1:AH}
def Sat.growL(S:Sat X h0 ns e ae h)(os:List Ob):Sat (Xd X h.length os.length) h0 ns e ae (h++os):=by
 have mv:Mov (Oc X ns) (Oc (Xd X h.length os.length) ns) h (h++os):=λn o' p q=>⟨⟨λz=>by
  rcases z with z |z
  ·exact p.1 z
  ·have:=bH q;omega,p.2⟩,eO q⟩
 refine⟨S.l1,S.l2,by rw[l_];have:=S.lh;omega,λn z=>?_,S.inj,λi n q z=>?_,λi s q=>(S.sl i s q).mono mv λj o' _ q'=>eO q'⟩
 ·rw[l_]
  rcases z with z |z
  ·have:=S.xl n z;omega
  ·exact z.2
 ·rcases z with z |z
  ·exact S.nx i n q z
  ·obtain⟨_,_,_,_,_,_,_,q',_⟩:=S.own q
   have:=bH q';omega
def Stp.growL(os:List Ob):Stp ns e h ns e (h++os):=⟨by rw[l_];omega,λ_ _ q _=>eO q,λ_ _ q=>.inl q,λ_ _ q _=>⟨q,rfl⟩,λ_ _ q _=>⟨q,rfl⟩,λ_ _ q=>⟨_,q,rfl⟩,λ_ _ q=>⟨_,q,rfl⟩⟩
def Stp.wr(a:Stp ns e h ns1 e1 h1)(hc:h.length<=c):Stp ns e h ns1 e1 (h1.set c o):=
 ⟨by rw[C_];exact a.len,λm o' q z=>by rw[aY (by have:=bH q;omega)];exact a.keep m o' q z,a.nw,a.lk,a.lk',a.mu,a.mu'⟩
def yB(hc:X c):Mov (Oc X ns) (Oc X ns) h (h.set c o):=λn o' p q=>⟨p,by rw[aY (show n≠c from λz=>p.1 (by rw[z];exact hc))];exact q⟩
def Sat.wr(S:Sat X h0 ns e ae h)(hc:X c):Sat X h0 ns e ae (h.set c o):=by
 refine⟨S.l1,S.l2,by rw[C_];exact S.lh,λn z=>by rw[C_];exact S.xl n z,S.inj,S.nx,λi s q=>?_⟩
 exact (S.sl i s q).mono (yB hc) λj o' z q'=>by rw[aY (λy=>S.nx i c (by rw[<- y];exact z) hc)];exact q'
end
def fi(j t:Nat)(q:ME3):List Val->List (List Val)->MS3
 | [],xss,e=>match e[j]? with
  |some .no=>.nx (e.set j (.sh (.lst (xss.map .lst))))
  |_=>.stuck
 |v::vs,xss,e=>match pN t v e with
  |none=>.stuck
  |some e1=>match q e1 with
   |.ok tm e2=>match rs e2 tm,e2[j]?,e2[t]? with
    |some (.int i),some .no,some (.sh u)=>match xss[i.toNat]? with
     |some xs=>if 0<=i/\xs.length<16777216 then fi j t q vs (xss.set i.toNat (xs++[u])) e2 else .stuck
     |none=>.stuck
    |_,_,_=>.stuck
   |_=>.stuck
noncomputable def rfs(b k:Nat):List D:=(List.range' b k).map D.ref
def IX(hi:i<k):(rfs b k)[i]?=some (.ref (b+i)):=by
 unfold rfs
 rw[E_,List.getElem?_range' hi]
 simp
structure Dl(X:Nat->Prop)(b k j:Nat)(ns:Ns)(ae:AE)(h:AH)(xss:List (List Val)):Prop where
 aj:ae[j]?=some (some (.ref (b+k)))
 hm:h[b+k]?=some (.lst (rfs b k))
 len:xss.length=k
 cs:∀(i:Nat) (xs:List Val),xss[i]?=some xs->∃ds,h[b+i]?=some (.lst ds)/\Rds (Oc (Xd X b (k+1)) ns) h ds xs
def Dl.step(d:Dl X b k j ns ae h xss)(S:Sat (Xd X b (k+1)) h0 ns e ae h)(a:Stp ns e h ns1 e1 h1)(ha:ae1[j]?=ae[j]?):Dl X b k j ns1 ae1 h1 xss:=by
 have kp:∀(m:Nat) (o:Ob),b<=m->m<b+(k+1)->h[m]?=some o->h1[m]?=some o:=λm o z1 z2 q=>a.keep m o q λ⟨i,s,y,_⟩=>S.nx i m y (.inr ⟨z1,z2⟩)
 refine⟨ha.trans d.aj,kp _ _ (by omega) (by omega) d.hm,d.len,λi xs q=>?_⟩
 obtain⟨ds,q1,q2⟩:=d.cs i xs q
 have hi:=(k_.mp q).1
 rw[d.len] at hi
 exact⟨ds,kp _ _ (by omega) (by omega) q1,q2.mono (a.mov S)⟩
open Classical in
def AR{X:Nat->Prop}{h0:Nat}{ns0:Ns}{e0:E3}{ae0:AE}{hh:AH}(S0:Sat X h0 ns0 e0 ae0 hh){b k j t:Nat}(hb:hh.length<=b)(hX:∀n,X n->n<b)(hjt:j≠t){q:PEx}{ns:Ns}{h:AH}{G:AH->Prop}(hG:∀h',(∀m o,Oc (Xd X b (k+1)) ns m->h[m]?=some o->h'[m]?=some o)->G h'):
 ∀{ds:List D}{vs:List Val},Rds (Oc (Xd X b (k+1)) ns) h ds vs->∀{ns1:Ns}{e1:E3}{ae1:AE}{h1:AH}{xss:List (List Val)},Mov (Oc (Xd X b (k+1)) ns) (Oc (Xd X b (k+1)) ns1) h h1->Stp ns0 e0 hh ns1 e1 h1->Sat (Xd X b (k+1)) h0 ns1 e1 ae1 h1->Dl X b k j ns1 ae1 h1 xss->e1[j]?=some .no->
 PoS X h0 ns0 e0 hh (fE G (gN t) (gk (eM cV (eOp gIx (aO j) q.F) (dX (aO t) eA))) ds ae1 h1) (fi j t q.G vs xss e1):=by
 intro ds
 induction ds with
 |
  nil=>
  intro vs r ns1 e1 ae1 h1 xss M A S1 D hj
  cases r
  unfold fE fi
  rw[if_pos (hG _ λm o p q=>(M m o p q).2),hj]
  dsimp only
  have hi:=(k_.mp hj).1
  have oc:∀n,b<=n->n<b+(k+1)->Oc X (ns1.set j none) n:=λn z1 z2=>⟨λz=>by have:=hX n z;omega,λz=>by
   rcases O6 z with z |z
   ·obtain⟨i,z⟩:=aU.mp z
    exact S1.nx i n z (.inr ⟨z1,z2⟩)
   ·cases z⟩
  have mv:Mov (Oc (Xd X b (k+1)) ns1) (Oc X (ns1.set j none)) h1 h1:=λn o p q=>⟨dZ ⟨λz=>p.1 (.inl z),p.2⟩,q⟩
  have rows:Rds (Oc X (ns1.set j none)) h1 (rfs b k) (xss.map .lst):=by
   have aux:∀(l:List (List Val)) (i:Nat),xss.drop i=l->Rds (Oc X (ns1.set j none)) h1 (rfs (b+i) l.length) (l.map .lst):=by
    intro l
    induction l with
    |nil=>intro i _;exact .nil
    |
     cons x l ih=>
     intro i hd
     have hx:xss[i]?=some x:=by
      have:=OI (λq=>q[0]?) hd
      simpa using this
     have hil:=(k_.mp hx).1
     rw[D.len] at hil
     obtain⟨ds,q1,q2⟩:=D.cs i x hx
     have:=ih (i+1) (by rw[<- List.tail_drop,hd];rfl)
     exact .cons (.cell (oc _ (by omega) (by omega)) q1 (.lst (q2.mono mv))) this
   have:=aux xss 0 rfl
   rw[D.len] at this
   exact this
  have Sw:=S1.weak (X:=X) λn z=>.inl z
  refine .nx (A.put (x:=none) hi (λ_ z=>by cases z) hj rfl rfl S1.l2) (Sw.putN' hi ⟨rfl,_,D.aj,.cell (oc _ (by omega) (by omega)) D.hm (.lst rows)⟩)
 |
  cons d0 ds ih=>
  intro vs r ns1 e1 ae1 h1 xss M A S1 D hj
  cases r with
  |
   cons r rr=>
   unfold fE fi
   rw[if_pos (hG _ λm o p q=>(M m o p q).2)]
   split
   ·trivial
   ·rename_i e2
     q2
    obtain⟨ae2,e_,p2,S2,a2⟩:=sC t _ _ _ _ _ _ _ _ _ S1 (r.mono M) q2
    have hae:ae2=ae1.set t (some d0):=by cases p2;rfl
    have D2:=D.step S1 a2 (ae1:=ae2) (by rw[hae,aY hjt])
    have A2:=A.trans S0 a2
    have M2:Mov (Oc (Xd X b (k+1)) ns) (Oc (Xd X b (k+1)) e_) h h1:=λn o p q=>by
     have:=M n o p q
     exact a2.mov S1 n o this.1 this.2
    rw[p2]
    have pq:=q.ok (Xd X b (k+1)) h0 0 e_ e2 ae2 h1 S2 (Oq _)
    show PoS X h0 ns0 e0 hh ((gk (eM cV (eOp gIx (aO j) q.F) (dX (aO t) eA)) ae2 h1).loop _) _
    split
    ·rename_i tm e3 q3
     rw[q3] at pq
     obtain⟨dq,h3,ns3,y1,a3,S3,y4⟩:=pq
     split
     ·rename_i i u z1 z2 z3
      split
      ·rename_i xs z4
       split
       ·rename_i hb'
        have D3:=D2.step S2 a3 (ae1:=ae2) rfl
        have A3:=A2.trans S0 a3
        obtain rfl:=(y4.sh S3 z1).int
        have hil:=(k_.mp z4).1
        rw[D.len] at hil
        obtain⟨dsi,w1,w2⟩:=D3.cs _ xs z4
        obtain⟨_,du,w3,w4⟩:=S3.sl t _ z3
        have ix:atI (rfs b k) i=some (.ref (b+i.toNat)):=by
         unfold atI
         rw[show (rfs b k).length=k from by unfold rfs;rw[j_,List.length_range'],sg hb'.1 (by omega)]
         exact IX hil
        have f1:eOp gIx (aO j) q.F ae2 h1=.ok (.ref (b+i.toNat)) h3:=by
         unfold eOp aO
         rw[D2.aj]
         show (q.F ae2 h1).bind _=_
         rw[y1]
         show gIx (.ref (b+k)) (.int i) h3=_
         unfold gIx cI aP
         dsimp only
         rw[D3.hm]
         dsimp only
         rw[ix]
        have f2:gk (eM cV (eOp gIx (aO j) q.F) (dX (aO t) eA)) ae2 h1=.nx ae2 (h3.set (b+i.toNat) (.lst (dsi++[du]))):=by
         unfold gk eM
         rw[f1]
         show R.toS (if ig h3 (.ref (b+i.toNat))=true then _ else _) _ _=_
         rw[if_pos (by show (aP h3 (b+i.toNat)).isSome=true;unfold aP;rw[w1];rfl)]
         unfold dX aO eA
         rw[w3]
         show R.toS (cV (.ref (b+i.toNat)) [du] h3) _ _=_
         unfold cV gr
         dsimp only
         rw[w1]
         dsimp only
         rw[if_pos (by rw[w2.len];exact hb'.2)]
         rfl
        rw[f2]
        have xc:Xd X b (k+1) (b+i.toNat):=.inr ⟨by omega,by omega⟩
        have mw:=yB (ns:=ns3) (h:=h3) (o:=.lst (dsi++[du])) xc
        have bnd:b+i.toNat<h3.length:=bH w1
        refine ih rr (λn o p q=>?_) (A3.wr (by omega)) (S3.wr xc) ⟨D3.aj,?_,by rw[C_];exact D3.len,λi' xs' qx=>?_⟩ z2
        ·have m2:=M2 n o p q
         have m3:=a3.mov S2 n o m2.1 m2.2
         exact mw n o m3.1 m3.2
        ·rw[aY (by omega)]
         exact D3.hm
        ·rcases bg (by rw[D3.len];exact hil) qx with ⟨rfl,rfl⟩ |⟨z,qx⟩
         ·exact⟨_,bC bnd,((w2.append (.cons w4 .nil)).mono mw)⟩
         ·obtain⟨dsj,v1,v2⟩:=D3.cs i' xs' qx
          exact⟨dsj,by rw[aY (by omega)];exact v1,v2.mono mw⟩
       ·trivial
      ·trivial
     ·trivial
    ·trivial
theorem sS:∀(ds acc:List D) (x:Option D) (h:AH),acc.length+ds.length<=16777216->(∀g,G (h++g))->lcL G (gN 0) tY (eFn bN (dX (aO 0) eA)) ds acc [x] h=.ok (acc++rfs h.length ds.length) (h++ds.map λd=>Ob.lst [d])
 |
  [],acc,x,h,_,hG=>by
  unfold lcL
  rw[if_pos (by have:=hG [];rwa [OB] at this)]
  simp [rfs]
 |
  d::ds,acc,x,h,hl,hG=>by
  rw[x_] at hl
  have ih:=sS ds (acc++[.ref h.length]) (some d) (h++[.lst [d]]) (by rw[l_];show acc.length+1+_<=_;omega) (λg=>by rw[OD];exact hG _)
  unfold lcL
  rw[if_pos ⟨by have:=hG [];rwa [OB] at this,by omega⟩]
  show lcL G (gN 0) tY (eFn bN (dX (aO 0) eA)) ds (acc++[.ref h.length]) [some d] (h++[.lst [d]])=_
  rw[ih]
  congr 1
  ·rw[OD,l_]
   simp [rfs,List.range'_succ]
  ·simp
def kf(I1 I2:MI)(j t:Nat)(q:ME):MS:=gK (f6 (eLC I1 [none] (gN 0) tY (eFn bN (dX (aO 0) eA))) (gN j)) (nj I2 (gN t) (gk (eM cV (eOp gIx (aO j) q) (dX (aO t) eA))))
def C6(I1 I2:MI3)(j t:Nat)(q:ME3):MS3:=λe=>(I1 e).toS λp e1=>match p.2,e1[j]? with
 |
  none,some s=>if s.pl=true/\p.1.length<16777216 then (I2 (e1.set j .no)).toS λp2 e2=>match p2.2,e2[j]? with
   |none,some .no=>fi j t q p2.1 (p.1.map λv=>[v]) e2
   |_,_=>.stuck
  else .stuck
 |_,_=>.stuck
def D1{I1 I2:PIt}{j t:Nat}{q:PEx}(hjt:j≠t):RS (kf I1.F I2.F j t q.F) (C6 I1.G I2.G j t q.G):=λX h0 ns e ae h S=>by
 have hs:kf I1.F I2.F j t q.F ae h=(I1.F ae h).toS ae λit h1=>(((noX (lcL it.guard (gN 0) tY (eFn bN (dX (aO 0) eA)) it.items [] [none] h1)).bind bN).toS ae λd h2=>.nx (ae.set j (some d)) h2).then (nj I2.F (gN t) (gk (eM cV (eOp gIx (aO j) q.F) (dX (aO t) eA)))):=by
  unfold kf gK f6 eLC
  cases I1.F ae h <;> rfl
 rw[hs]
 refine PoS.toS (I1.ok X h0 ns e ae h S) λit p h1 ns1 e1 a1 S1 r1=>?_
 obtain⟨vs,lk⟩:=p
 obtain⟨r2,gd,hk⟩:=r1
 cases lk with
 |some _=>trivial
 |none=>
 cases z2:e1[j]? with
 |none=>trivial
 |
  some s=>
  dsimp only
  split
  ·rename_i hp
   dsimp only at r2 gd hp
   have ln:=r2.len
   have g1:∀g,it.guard (h1++g):=λg=>gd _ λm o q _=>eO q
   rw[sS it.items [] none h1 (by rw[Ol];omega) g1,Ou]
   have hk1:(rfs h1.length it.items.length).length<=16777216:=by unfold rfs;rw[j_,List.length_range'];omega
   show PoS X h0 ns e h (SR.then (R.toS (bN (rfs h1.length it.items.length) _) ae _) _) _
   unfold bN
   rw[if_pos hk1]
   show PoS X h0 ns e h (nj I2.F (gN t) _ (ae.set j (some (.ref (h1++it.items.map λd=>Ob.lst [d]).length))) (h1++(it.items.map λd=>Ob.lst [d])++[Ob.lst (rfs h1.length it.items.length)])) _
   have bd:(h1++it.items.map λd=>Ob.lst [d]).length=h1.length+it.items.length:=by rw[l_,j_]
   rw[bd,OD]
   have hol:((it.items.map λd=>Ob.lst [d])++[Ob.lst (rfs h1.length it.items.length)]).length=it.items.length+1:=by rw[l_,j_];rfl
   have S2:=S1.growL ((it.items.map λd=>Ob.lst [d])++[Ob.lst (rfs h1.length it.items.length)])
   rw[hol] at S2
   have A2:Stp ns1 e1 h1 ns1 e1 (h1++((it.items.map λd=>Ob.lst [d])++[Ob.lst (rfs h1.length it.items.length)])):=.growL _
   have hj:=(k_.mp z2).1
   have S3:=S2.putN hj (s:=.no) (d:=some (.ref (h1.length+it.items.length))) rfl
   have A3:=A2.put (x:=none) (s:=.no) hj (λ_ z=>by cases z) z2 hp.1 rfl S1.l2
   have A3':Stp ns e h _ _ _:=a1.trans S A3
   have cellAt:∀(i:Nat) (d:D),it.items[i]?=some d->(h1++((it.items.map λd=>Ob.lst [d])++[Ob.lst (rfs h1.length it.items.length)]))[h1.length+i]?=some (.lst [d]):=λi d qd=>by
    have:=(k_.mp qd).1
    rw[I_ (by omega),J_ (by rw[j_];omega),Nat.add_sub_cancel_left,E_,qd]
    rfl
   have hmAt:(h1++((it.items.map λd=>Ob.lst [d])++[Ob.lst (rfs h1.length it.items.length)]))[h1.length+it.items.length]?=some (.lst (rfs h1.length it.items.length)):=by
    rw[I_ (by omega),I_ (by rw[j_];omega),j_,Nat.add_sub_cancel_left,Py]
    rfl
   generalize h1++((it.items.map λd=>Ob.lst [d])++[Ob.lst (rfs h1.length it.items.length)])=h2 at *
   have mv:Mov (Oc X ns1) (Oc (Xd X h1.length (it.items.length+1)) (ns1.set j none)) h1 h2:=λn o p qn=>by
    have:=bH qn
    exact⟨dZ ⟨λz=>by rcases z with z |z;exact p.1 z;omega,p.2⟩,A2.keep n o qn λ⟨i,s,y,_⟩=>p.2 (aU.mpr ⟨i,y⟩)⟩
   have D3:Dl X h1.length it.items.length j (ns1.set j none) (ae.set j (some (.ref (h1.length+it.items.length)))) h2 (vs.map λv=>[v]):=by
    refine⟨bC (by rw[S1.l1];exact hj),hmAt,by rw[j_,ln],λi xs qx=>?_⟩
    rw[E_] at qx
    obtain⟨v,qv,rfl⟩:=D_.mp qx
    obtain⟨d,qd,rd⟩:=r2.get qv
    exact⟨[d],cellAt i d qd,.cons (rd.mono mv) .nil⟩
   show PoS X h0 ns e h ((I2.F _ h2).toS _ _) _
   have p2:=I2.ok _ h0 _ _ _ h2 S3
   cases q2:I2.G (e1.set j .no) with
   |stuck=>trivial
   |
    exc c e2=>
    rw[q2] at p2
    obtain⟨h3,ns3,y1,a3,S4⟩:=p2
    rw[y1]
    exact⟨_,h3,ns3,rfl,A3'.trans S a3,S4.weak λn z=>.inl z⟩
   |
    ok p2' e2=>
    rw[q2] at p2
    obtain⟨it2,h3,ns3,y1,a3,S4,r3,gd3,hk3⟩:=p2
    obtain⟨vs2,lk2⟩:=p2'
    rw[y1]
    cases lk2 with
    |some _=>trivial
    |none=>
    cases y3:e2[j]? with
    |none=>simp only[R3.toS,y3];trivial
    |
     some s3=>
     by_cases hs3:s3=.no
     case neg=>(simp only[R3.toS,y3];cases s3 <;> first |exact absurd rfl hs3 |trivial)
     subst hs3
     simp only[R3.toS,y3]
     show PoS X h0 ns e h (fE it2.guard (gN t) _ it2.items _ h3) _
     have D4:=D3.step S3 a3 (ae1:=ae.set j (some (.ref (h1.length+it.items.length)))) rfl
     exact AR S (y_ a1.len (p_ _)) (λn z=>S1.xl n z) hjt (λh' hh'=>gd3 h' λm o qm z=>by
      rcases z with z |⟨_,z,_⟩
      ·exact hh' m o z qm
      ·cases z) r3 (λn o p q=>⟨p,q⟩) (A3'.trans S a3) S4 D4 y3
  ·trivial
def vA(I1 I2:PIt)(j t:Nat)(q:PEx)(hjt:j≠t):PSt:=⟨kf I1.F I2.F j t q.F,C6 I1.G I2.G j t q.G,D1 hjt⟩
def yV(a b c:MS):gK (gK a b) c=gK a (gK b c):=by
 funext ae h
 unfold gK
 cases a ae h <;> rfl
section
variable{K:W.Frag}{mg:Ra}{X:Cx}{ES:L2.St->XK}{re qe am:Expr}{st1:Stmt}{sts:List Stmt}{q:PEx}{y:PSt}{g:PGt}{I1 I2:PIt}{pos p2 p3 p4 p5:Pos}{x:Str}{j t:Nat}{hjt:j≠t}{ow:Bool}{tg oe:Expr}{hsb:(([none]:Rh).filterMap id).Nodup}
def zo(h1:DS K mg X ES st1 (aC ow j (pLC I1 [none] hsb (gtN 0) qY (aB (aa (af 0) ag)))).F)(hp:PassesOwn (model X.prog X.w) X.A X.env X.xe)(hc:X.calm=true)(hK:X.K=K)(hi:DI K mg X ES tg am I2.F)(hg:DG K mg X ES tg (gtN t).F)(hx:DE K mg X ES oe (af j).F)(hq:DE K mg X ES qe q.F)(hr:DE K mg X ES re (af t).F)(hy:DSs K mg X ES sts y.F)
 (hpx:kh qe:=by exact λ_ _=>rfl) (hs:∀x,foldedSetIterable am X.env x=pure x:=by intro _;rfl)
 (hsw:swapsWith (.Call (.Attribute (.Subscript oe qe p2) "append" p3) [re] [] p4) none p5.line X.env=pure false:=by rfl)
 (b_:attributeBase (.Subscript oe qe p2) "append" X.env (eval (.Subscript oe qe p2) X.env)=eval (.Subscript oe qe p2) X.env:=by rfl)
 (hfew:((backTo p4 (starEach [re] X.env)).all (λx=>!x.1)&&(backToKw p4 (keywordEach [] X.env)).all (λx=>x.1.isSome)
  && decide ([re].length+([]:List Keyword).length+(if ([]:List Keyword).isEmpty then 0 else 1)<30))=true:=by rfl)
 (ci:(p3.endLine==p4.line)=true:=by rfl) (hs1:starEach [re] X.env=[(false,eval re X.env)]:=by rfl) (bn:(backTo p4 (starEach ([]:List Expr) X.env)).any (·.1)=false:=by rfl) (hs0:starEach ([]:List Expr) X.env=[]:=by rfl):
 DSs K mg X ES (st1 :: .For tg am [.Expr (.Call (.Attribute (.Subscript oe qe p2) "append" p3) [re] [] p4) p5] [] pos::sts) (ak (vA I1 I2 j t q hjt) y).F:=by
 have sh:starEach (re::[]) X.env=(false,eval re X.env)::starEach [] X.env:=by rw[hs0];exact hs1
 show DSs K mg X ES _ (gK (kf I1.F I2.F j t q.F) y.F)
 unfold kf
 rw[yV]
 with_unfolding_all exact lO h1 (lO (yc hp hc hi hg (uA (ue (Cj hK PySem.F.slot_list_append PySem.F.type_list_append oq oF (CG (ixK (K:=K) hK) CW hx hq hpx) (ub hr wK sh) b_ hfew ci sh bn) hsw)) hs) hy)
end
section
variable{K:W.Frag}{mg:Ra}
end
noncomputable def C4:ME3:=λe=>.ok (.new (.set [])) e
def Fu:RE vB C4:=λX h0 L ns e ae h S hl=>BvR.po (r:=.ok (.ref h.length) (h++[Ob.set []])) (b:=.new (.set [])) S hl ⟨.set [],rfl,trivial,.set []⟩
noncomputable def vd:PEx:=⟨vB,C4,Fu⟩
def yb(e:E3):vd.G e=.ok (.new (.set [])) e:=rfl
noncomputable def Cc:Val->Val->Bv:=λx y=>match x,y with
 |.int i,.set xs=>.val (.bl (decide (i∈xs)))
 |_,_=>.stuck
def KA:RO rD Cc:=λP h d1 d2 v1 v2 r1 r2=>by
 unfold Cc
 split
 ·rename_i i xs
  rw[r1.int]
  obtain⟨n,rfl,e⟩:=r2.set
  exact⟨_,by unfold rD;dsimp only;rw[e],.bl _⟩
 ·trivial
noncomputable def Bw:PO2:=⟨rD,Cc,KA⟩
def CK(i:Int)(xs:List Int):Bw.G (.int i) (.set xs)=.val (.bl (decide (i∈xs))):=rfl
noncomputable def wj:List Val->Bv:=λvs=>match vs with
 | [.set xs]=>.val (.int (xs.length:Nat))
 |_=>.stuck
def FR:RFn mj wj:=λP h ds vs r=>by
 unfold wj
 split
 ·obtain⟨d,hd,r1⟩:=dG r
  subst hd
  obtain⟨n,rfl,e⟩:=r1.set
  exact⟨_,by unfold mj;dsimp only;rw[e],.int _⟩
 ·trivial
noncomputable def qS:PBf:=⟨mj,wj,FR⟩
def ID(xs:List Int):qS.G [.set xs]=.val (.int (xs.length:Nat)):=rfl
noncomputable def zO:Val->Option (List Int)
 |.set xs=>some xs
 |_=>none
def pX(i:Nat)(A:MA3):ME3:=λe=>match e[i]? with
 |some s=>match s.mv.bind zO with
  |some _=>(A e).bind λts e1=>match dem e1 ts with
   |some (e2,[.int k])=>match e2[i]? with
    |some s2=>match s2.mv.bind zO with
     |some xs=>if xs.length<4000 then .ok (.val .non) (e2.set i (s2.re (.set (fG xs k)))) else .stuck
     |none=>.stuck
    |none=>.stuck
   |_=>.stuck
  |none=>.stuck
 |none=>.stuck
def Jf(i:Nat)(hA:RA A A3):RE (eMS (aO i) A) (pX i A3):=λX h0 L ns e ae h S hl=>by
 unfold pX
 cases q0:e[i]? with
 |none=>trivial
 |
  some s0=>
  dsimp only
  split
  ·rename_i xs0 hz
   obtain⟨u0,z1,z2⟩:=Oj.mp hz
   obtain⟨n0,o0,b1,b2,b3,b4,_⟩:=S.write q0 z1
   have hL:u4 h (.ref n0)=true:=by
    cases u0 with
    |set ys=>cases b4;show (match h[n0]? with |some (.set _)=>true |_=>false)=true;rw[b2]
    |_=>cases z2
   have L2e:eMS (aO i) A ae h=(A ae h).bind λds h2=>pO (.ref n0) ds h2:=by
    unfold eMS aO
    rw[b1]
    simp only[fu,hL,O4]
   rw[L2e]
   refine Po.bind S (hA X h0 ns e ae h S) λds ts h1 ns1 e1 a1 S1 r1=>?_
   split
   ·rename_i e2 k q1
    obtain⟨e_,S2,a2,r2⟩:=iM S1 r1 q1
    cases q2:e2[i]? with
    |none=>trivial
    |
     some s2=>
     dsimp only
     split
     ·rename_i xs q3
      split
      ·rename_i bd
       obtain⟨u,y1,y2⟩:=Oj.mp q3
       obtain⟨n,o,k1,k2,k3,k4,k5⟩:=S2.write q2 y1
       rw[b1] at k1;cases k1
       cases u with
       |
        set ys=>
        cases y2
        cases k4
        obtain⟨d,rfl,rd⟩:=u3 r2
        obtain rfl:=ShR.int (.inl rd)
        obtain⟨mv,S4,a4⟩:=k5 (.set (fG xs k)) (.set (fG xs k)) trivial (.set _)
        refine⟨.non,_,e_,?_,a2.trans S1 a4,S4,.non⟩
        unfold pO
        dsimp only
        rw[k2]
        dsimp only
        rw[if_pos bd]
       |_=>cases y2
      ·trivial
     ·trivial
   ·trivial
  ·trivial
def BW(i:Nat)(a:PAs):PEx:=⟨eMS (aO i) a.F,pX i a.G,Jf i a.ok⟩
def IJ(e:E3)(i:Nat)(a:PAs):(BW i a).G e=pX i a.G e:=rfl
noncomputable def qM:Val->Val->Bv:=λx y=>match x with
 |.dct kvs=>(match y with
  |.int k=>(match lkD kvs (.inl k) with
   |some v=>.val v
   |none=>.stuck)
  |_=>.stuck)
 |_=>.stuck
def Km:RO sF qM:=λP h d1 d2 v1 v2 r1 r2=>by
 unfold qM
 split
 ·split
  ·split
   ·rename_i kvs k _ v q
    obtain⟨n,ws,rfl,e,rk⟩:=r1.dct
    obtain rfl:=r2.int
    obtain⟨d,q1,rd⟩:=Lr rk q
    refine⟨d,?_,rd⟩
    unfold sF
    dsimp only
    rw[e]
    dsimp only
    rw[q1]
   ·trivial
  ·trivial
 ·trivial
noncomputable def vW:PO2:=⟨sF,qM,Km⟩
def Lc(h:lkD kvs (.inl k)=some v):vW.G (.dct kvs) (.int k)=.val v:=by
 show qM (.dct kvs) (.int k)=_
 unfold qM
 dsimp only
 rw[h]
noncomputable def sDI:Val->Val->Val->Option Val:=λo i v=>match o with
 |.dct kvs=>(match i with
  |.int k=>if kvs.length<16777216 then some (.dct (cW kvs (.inl k) v)) else none
  |_=>none)
 |_=>none
def EJ:v5 wDI sDI:=λP h n o u di vi d v u' np e hf r ri rd q=>by
 unfold sDI at q
 split at q
 ·rename_i kvs
  split at q
  ·rename_i k
   split at q
   ·rename_i hl
    cases q
    obtain rfl:=ri.int
    cases r with
    |
     dct rk=>
     rename_i ws
     refine⟨.dct (cW ws (.inl k) d),?_,trivial,.dct (Io rd rk)⟩
     unfold wDI
     dsimp only
     rw[e]
     dsimp only
     rw[if_pos (by rw[Iz rk];exact hl)]
   ·cases q
  ·cases q
 ·cases q
noncomputable def seI:PSe:=⟨wDI,sDI,EJ⟩
def Jq(kvs:List (Key×Val))(k:Int)(v:Val):seI.G (.dct kvs) (.int k) v=if kvs.length<16777216 then some (.dct (cW kvs (.inl k) v)) else none:=rfl
noncomputable def k8:Val->List Val->Option (Val×Val):=λu vs=>match u,vs with
 |.lst xs,[.tup ys]=>if xs.length+ys.length<=16777216 then some (.lst (xs++ys),.non) else none
 |_,_=>none
def vj:RM jq k8:=λP h n o u ds vs u' v e hf r rs q=>by
 unfold k8 at q
 split at q
 ·split at q
  ·rename_i hl
   cases q
   obtain⟨q1,es,q2,q3,q4⟩:=mJ e r
   obtain⟨d,rfl,rd⟩:=u3 rs
   obtain⟨ys',rfl,rr⟩:=ShR.tup (.inl rd)
   refine⟨q1,.lst (es++ys'),.non,?_,trivial,.lst (q3.append rr),.non⟩
   unfold jq;rw[q4];dsimp only;rw[if_pos (by rw[q3.len,rr.len];exact hl)]
  ·cases q
 ·cases q
noncomputable def gW:PMm:=⟨jq,k8,vj⟩
def oB(xs ys:List Val):gW.G (.lst xs) [.tup ys]=if xs.length+ys.length<=16777216 then some (.lst (xs++ys),.non) else none:=rfl
section
variable{K:W.Frag}{mg:Ra}{X:Cx}{ES:L2.St->XK}{e o a b:Expr}{es:List Expr}{p q:PEx}{A:PAs}{pos:Pos}
def wz:MtD K mg (lB K) gW.F:=wg
def G5:OpD K mg rS Bw.F:=FF
def EE:aT K mg (λxs H Q=>∃a S n,xs=[.ref a]/\H a=some (.set S n)/\Q (.int (n:Nat)) H) qS.F:=FQ
def BP:nU K mg u5 seI.F:=zD
def En(hg:Gl X x)(hm:mg x=none)(hv:bootBuiltins x=some (.type "set"))(hk:X.mg=mg:=by rfl)(hn:x ≠ "__name__":=by decide)(hdb:(x==("__debug__" : Str))=false:=by decide):DE K mg X ES (.Call (.Name x p0) [] [] pos) vd.F:=by with_unfolding_all exact Dt hg hm hv hk hn hdb
def JY(hK:X.K=K)(ho:DE K mg X ES o (af j).F)(ha:DA K mg X ES (e::es) A.F)
 (b_:attributeBase o "add" X.env (eval o X.env)=eval o X.env:=by rfl)
 (hfew:((backTo cpos (starEach (e::es) X.env)).all (λx=>!x.1)&&(backToKw cpos (keywordEach [] X.env)).all (λx=>x.1.isSome)
  && decide ((e::es).length+([]:List Keyword).length+(if ([]:List Keyword).isEmpty then 0 else 1)<30))=true:=by rfl)
 (ci:(apos.endLine==cpos.line)=true:=by rfl) (hs:starEach (e::es) X.env=(false,eval e X.env)::starEach es X.env:=by rfl) (bn:(backTo cpos (starEach es X.env)).any (·.1)=false:=by rfl):
 DE K mg X ES (.Call (.Attribute o "add" apos) (e::es) [] cpos) (BW j A).F:=by with_unfolding_all exact MH hK ho ha b_ hfew ci hs bn
def zL(hu:X.A.units+1<cLine)(ha:DE K mg X ES a p.F)(hb:DE K mg X ES b q.F)(hs:vR b):DE K mg X ES (.Subscript a b pos) (pOp vW p q).F:=by with_unfolding_all exact BG hu ha hb hs
end
section
variable{K:W.Frag}{mg:Ra}
end
end L3
namespace L3
open PySem L2
end L3
namespace L3
open PySem PySem.Spec PyProof.Rows L2
section
variable{K:W.Frag}{mg:Ra}
end
section
variable{K:W.Frag}{mg:Ra}{X:Cx}{ES:L2.St->XK}{e:Expr}{es:List Expr}{p:PEx}{A:PAs}{pos:Pos}
def zcF{f:PFn}{x:Str}{p0:Pos}{k j n:Nat}{ps:List Str}(C:Callee X.prog X.w X.K X.mg X.base x j ps (spD K mg n f.F))(hr:Room k X.A)(ha:DA K mg X ES (e::es) A.F)(hk:j<=k:=by omega)(hg:Gl X x:=by exact rfl)(hx:fR X ES:=by first |exact tD M9 |exact AI |assumption)(hn:f.ms.length=n:=by rfl)(hdb:(x==("__debug__" : Str))=false:=by decide)(he:starEach (e::es) X.env=(false,eval e X.env)::starEach es X.env:=by rfl)(hpl:(backTo pos (starEach es X.env)).any (·.1)=false:=by rfl):DE K mg X ES (.Call (.Name x p0) (e::es) [] pos) (ai f A).F:=As C (hr.mono hk) hg hx ha hn hdb he hpl
def zsS{ow:Bool}(i:Nat){x:Str}{h_:Pos}(hN:X.N.Nodup)(he:DE K mg X ES e p.F)(hi:X.N[i]?=some x:=by exact rfl)(hx:Loc X.env.scope x:=by first |exact Or.inl rfl |exact Or.inr rfl)(hs:swapsWith e (some (.Name x h_)) pos.line X.env=pure false:=by rfl)(hf:X.fn x=true\/X.env.scope.names.lookup x=some .local:=by first |exact .inl rfl |exact .inr rfl |assumption):DS K mg X ES (.Assign [.Name x h_] e pos) (aC ow i p).F:=Kl hN hi hx he hs hf
def zgN(i:Nat){x:Str}(hN:X.N.Nodup)(hi:X.N[i]?=some x:=by exact rfl)(hx:Loc X.env.scope x:=by first |exact Or.inl rfl |exact Or.inr rfl)(hf:X.fn x=true\/X.env.scope.names.lookup x=some .local:=by first |exact .inl rfl |exact .inr rfl |assumption):DG K mg X ES (.Name x pos) (gtN i).F:=Fv hN hi hx hf
end
def yq{P:Nat->Prop}{h:AH}:∀{ds:List D}{vs:List Val}{ns:List Int},Rds P h ds vs->gi vs=some ns->mG ds=some ns:=by
 intro ds
 induction ds with
 |nil=>intro vs ns r e;cases r;cases e;rfl
 |
  cons d ds ih=>
  intro vs ns r e
  cases r with
  |
   cons r rr=>
   rename_i v vs
   cases v with
   |
    int i=>
    obtain⟨ms,e1,rfl⟩:=D_.mp e
    obtain rfl:=ShR.int (.inl r)
    show (mG ds).map _=_
    rw[ih rr e1]
    rfl
   |_=>cases e
theorem rb{P:Nat->Prop}{h:AH}:∀ns:List Int,Rds P h (ns.map D.int) (ns.map Val.int)
 | []=>.nil
 |i::ns=>.cons (.int i) (rb ns)
def iO:List Val->Bv:=λvs=>match vs with
 | [.lst us]=>match gi us with
  |some ns=>if ns.length<64 then .new (.lst ((srI ns).map .int)) else .stuck
  |none=>.stuck
 |_=>.stuck
def wR:RFn i5 iO:=λP h ds vs r=>by
 unfold iO
 split
 ·obtain⟨d,hd,r1⟩:=dG r
  subst hd
  split
  ·rename_i ns q
   split
   ·rename_i hb
    obtain⟨n,es,rfl,g1,_,g2⟩:=ShR.lst r1
    refine⟨.lst ((srI ns).map D.int),?_,trivial,.lst (rb _)⟩
    unfold i5
    dsimp only
    rw[g1]
    dsimp only
    rw[yq g2 q]
    dsimp only
    rw[if_pos hb]
   ·trivial
  ·trivial
 ·trivial
def kO:PBf:=⟨i5,iO,wR⟩
def zE(ns:List Int)(h:ns.length<64):kO.G [.lst (ns.map .int)]=.new (.lst ((srI ns).map .int)):=by
 show iO [.lst (ns.map .int)]=_
 unfold iO
 dsimp only
 rw[jL]
 dsimp only
 rw[if_pos h]
def yU{K:W.Frag}{mg:Ra}:aT K mg nJ kO.F:=yp
noncomputable def zr:Val->Val->Bv:=λx y=>match x,y with
 |.lst xs,.lst []=>.val (.bl (!xs.isEmpty))
 |_,_=>.stuck
def K6:RO qa zr:=λP h d1 d2 v1 v2 r1 r2=>by
 unfold zr
 split
 ·obtain⟨n,es,rfl,g1,_,g2⟩:=ShR.lst r1
  obtain⟨m,fs,rfl,g3,_,g4⟩:=ShR.lst r2
  cases g4
  refine⟨_,?_,.bl _⟩
  unfold qa
  dsimp only
  rw[g1,g3]
  dsimp only
  cases g2 <;> rfl
 ·trivial
noncomputable def nF:PO2:=⟨qa,zr,K6⟩
def Ct(xs:List Val):nF.G (.lst xs) (.lst [])=.val (.bl (!xs.isEmpty)):=rfl
def Gh{K:W.Frag}{mg:Ra}:OpD K mg Bj nF.F:=Dn
noncomputable def BQ:Val->Val->Bv:=λx y=>match x,y with
 |.bl a,.bl b=>.val (.bl (a != b))
 |_,_=>.stuck
def J9:RO uZ BQ:=λP h d1 d2 v1 v2 r1 r2=>by
 unfold BQ
 split
 ·obtain rfl:=r1.bl
  obtain rfl:=r2.bl
  exact⟨_,rfl,.bl _⟩
 ·trivial
noncomputable def vV:PO2:=⟨uZ,BQ,J9⟩
def J4{K:W.Frag}{mg:Ra}:OpD K mg Ad vV.F:=E1
end L3
namespace L3
open PySem PySem.Spec PyProof.Rows L2 PySem.W
noncomputable def adr(K:Frag)(x:Str):Addr:=match nsIn K mainGlobals x with
 |some (some (.ref a))=>a
 |_=>0
noncomputable def jF(K:Frag)(x:Str):Bool:=match nsIn K mainGlobals x with
 |some (some (.ref _))=>true
 |_=>false
noncomputable def zp(K:Frag)(x:Str):Bool:=match nsIn K mainGlobals x with
 |some none=>true
 |_=>false
noncomputable def xcB(K:Frag)(C:Addr):Bool:=(clsIn K C).isSome&&(findIn K (.ref C) "__getattribute__" == some (some (.builtin "BaseException.__getattribute__"))&&(findIn K (.ref C) "__getattr__" == some none&&(findIn K (.ref C) "__class__" == some (some (.builtin "object.__class__"))&&(specialIn K (.builtin "object.__class__") "__get__" == some (some (.builtin "getset_descriptor.__get__"))&&(takesIn K (.builtin "object.__class__")==some true&&(mroIn K C (.type "object")==some true&&mroIn K C (.type "BaseException")==some true))))))
noncomputable def hdB(K:Frag)(C:Addr):Bool:=typeIn K (.ref C)==some (.type "type")&&((clsIn K C).isSome&&mroIn K C (.type "BaseException")==some true)
def clA(K:Frag):Cl->Value
 |.b n=>.type n
 |.o x=>.ref (adr K x)
def z8(K:Frag):Cl->Bool
 |.b _=>true
 |.o x=>jF K x
def AQ(K:Frag)(p:Cl×Cl×Bool):Bool:=kitOne K (clA K p.1) (clA K p.2.1)==some p.2.2&&(z8 K p.1&&z8 K p.2.1)
def xkB(K:Frag):Cl->Bool
 |.b _=>true
 |.o x=>xcB K (adr K x)
noncomputable def va:D->Value->Bool
 |.int i,.int j _=>i==j
 |.str x,.str y _=>x==y
 |.non,.none=>true
 |.bl b,.bool c=>b==c
 |_,_=>false
noncomputable def dV:D->V
 |.int i=>.int i
 |.str x=>.str x
 |.bl b=>.bl b
 |_=>.non
noncomputable def pj:List D->List Value->Bool
 | [],[]=>true
 |d::ds,v::vs=>va d v&&pj ds vs
 |_,_=>false
noncomputable def gcB(K:Frag)(x:Str):D->Bool
 |.tup ds=>(match nsIn K mainGlobals x with
  |some (some (.ref a))=>(match K.lookup a with
   |some ⟨.type "tuple",_,.seq its _,_⟩=>decide (its.size<=1000)&&pj ds its.toList
   |_=>false)
  |_=>false)
 |d=>match nsIn K mainGlobals x with
  |some (some v)=>va d v
  |_=>false
noncomputable def bFn:List String:=["abs", "all", "any", "isinstance", "len", "max", "min", "sorted", "sum"]
noncomputable def bTy:List String:=["bool", "dict", "int", "list", "set", "str", "tuple"]
noncomputable def bIt:List String:=["range", "zip", "enumerate"]
def KO:(bFn.all λn=>bootBuiltins (Str.ofString n)==some (.builtin n))=true:=by decide
def Gr:(bTy.all λn=>bootBuiltins (Str.ofString n)==some (.type n))=true:=by decide
def boF{n:String}(h:bFn.contains n=true):bootBuiltins (Str.ofString n)=some (.builtin n):=Ow.mp (N_.mp KO n (OS.mp h))
def boT{n:String}(h:bTy.contains n=true):bootBuiltins (Str.ofString n)=some (.type n):=Ow.mp (N_.mp Gr n (OS.mp h))
structure Tb where
 us:List Str
 rs:List Str
 hs:List (Str×List Str)
 kt:i9
 gs:List (Str×D)
def Tb.ok(b:Tb)(K:Frag):Bool:=(bFn++(bTy++bIt)).all (λn=>zp K (Str.ofString n))&&(b.us.all (jF K)&&(b.rs.all (λx=>excIn K (adr K x) lA "ValueError.__new__" && jF K x)&&(b.hs.all (λp=>hdB K (adr K p.1)&&p.2.all λc=>mroIn K (adr K c) (.ref (adr K p.1))==some true&&jF K c)&&(b.kt.all (λp=>AQ K p&&xkB K p.1)&&b.gs.all λp=>gcB K p.1 p.2))))
structure Tx(b:Tb)(K:Frag)(mg:Ra):Prop where
 n:∀{n:String},(bFn++(bTy++bIt)).contains n=true->mg (Str.ofString n)=none
 m:∀{x:Str},b.us.contains x=true->mg x=some (.ref (adr K x))
 x:∀{x:Str},b.rs.contains x=true->excIn K (adr K x) lA "ValueError.__new__"=true
 h:∀{x:Str}{l:List Str},(x,l)∈b.hs->XHand K (adr K x)/\∀c∈l,∀Ce,mg c=some (.ref Ce)->mroIn K Ce (.ref (adr K x))=some true
 k:KitsOk K mg b.kt
 g:∀{x:Str}{d:D},b.gs.lookup x=some d->GC K mg x d
section
variable{K:Frag}{h:Heap}{mg:Ra}{x:Str}(X:K.In h)(G:h.Ns mainGlobals mg)
include X G
def pC(e:jF K x=true):mg x=some (.ref (adr K x)):=by
 unfold jF at e
 split at e
 ·rename_i a q
  unfold adr
  rw[q]
  exact mg_of X G q
 ·cases e
def Lb(e:zp K x=true):mg x=none:=by
 unfold zp at e
 split at e
 ·rename_i q
  exact mg_none_of X G q
 ·cases e
omit X G in
def N9{C:Addr}(e:xcB K C=true):XCls K C:=by
 simp only[xcB,n_,Ow] at e
 obtain⟨e1,e2,e3,e4,e5,e6,e7,e8⟩:=e
 exact⟨e1,e2,e3,e4,e5,e6,e7,e8⟩
def CZ{c:Cl}{v:Value}(e:z8 K c=true)(q:ClV mg c v):v=clA K c:=by
 cases c with
 |b n=>exact q
 |
  o y=>
  obtain⟨a,rfl,m⟩:=q
  rw[pC X G (show jF K y=true from e)] at m
  cases m
  rfl
omit X G in
def ya{d:D}{v:Value}(e:va d v=true):RelV (dV d) v/\∀ρ H,RelD K mg ρ H d (dV d):=by
 unfold va at e
 split at e
 ·cases Ow.mp e;exact⟨⟨_,rfl⟩,λ_ _=>.int _⟩
 ·cases Ow.mp e;exact⟨⟨_,rfl⟩,λ_ _=>.str _⟩
 ·exact⟨rfl,λ_ _=>.non⟩
 ·cases Ow.mp e;exact⟨rfl,λ_ _=>.bl _⟩
 ·cases e
omit X G in
theorem ud:∀{ds:List D}{vs:List Value},pj ds vs=true->Vals (ds.map dV) vs/\∀ρ H,RelDs K mg ρ H ds (ds.map dV)
 | [],[],_=>⟨.nil,λ_ _=>.nil⟩
 |
  d::ds,v::vs,e=>by
  rw[pj,n_] at e
  obtain⟨a1,a2⟩:=ya (K:=K) (mg:=mg) e.1
  obtain⟨b1,b2⟩:=ud e.2
  exact⟨.cons a1 b1,λρ H=>.cons (a2 ρ H) (b2 ρ H)⟩
 | [],_::_,e=>nomatch e
 |_::_,[],e=>nomatch e
def L7{d:D}(e:gcB K x d=true):GC K mg x d:=by
 unfold gcB at e
 split at e
 ·rename_i ds
  split at e
  ·rename_i a q
   split at e
   ·rename_i dd its n sl l
    rw[n_] at e
    obtain⟨v1,v2⟩:=ud (K:=K) (mg:=mg) e.2
    exact IS X G q l (y_ (Om e.1) (by decide)) v1 v2
   ·cases e
  ·cases e
 ·split at e
  ·rename_i v q
   obtain⟨v1,v2⟩:=ya (K:=K) (mg:=mg) e
   exact⟨_,_,mg_of X G q,v1,v2⟩
  ·cases e
omit X G in
theorem w6{d:D}:∀{l:List (Str×D)},l.lookup x=some d->(x,d)∈l
 | [],h=>nomatch h
 |
  (y,e)::l,h=>by
  rw[Pd] at h
  split at h
  ·rename_i q
   cases h
   rw[Ow.mp q]
   exact o_
  ·exact m_ _ (w6 h)
def NN{b:Tb}(e:b.ok K=true):Tx b K mg:=by
 unfold Tb.ok at e
 simp only[n_] at e
 obtain⟨e1,e2,e3,e4,e5,e6⟩:=e
 simp only[N_,n_] at e1 e2 e3 e4 e5 e6
 refine⟨λh=>Lb X G (e1 _ (OS.mp h)),λh=>pC X G (e2 _ (OS.mp h)),λh=>(e3 _ (OS.mp h)).1,λh=>?_,⟨λp hp t v h1 h2=>?_,λp hp x C e' m=>?_⟩,λh=>L7 X G (e6 _ (w6 h))⟩
 ·obtain⟨a1,a2⟩:=e4 _ h
  refine⟨?_,λc hc Ce m=>?_⟩
  ·simp only[hdB,n_,Ow] at a1
   exact⟨a1.1,a1.2.1,a1.2.2⟩
  ·obtain⟨b1,b2⟩:=a2 c hc
   rw[pC X G b2] at m
   cases m
   exact Ow.mp b1
 ·obtain⟨a1,_⟩:=e5 p hp
  simp only[AQ,n_,Ow] at a1
  rw[CZ X G a1.2.1 h1,CZ X G a1.2.2 h2]
  exact a1.1
 ·obtain⟨a1,a2⟩:=e5 p hp
  simp only[AQ,n_,Ow] at a1
  have a3:=a1.2.1
  rw[e'] at a2 a3
  rw[pC X G (show jF K x=true from a3)] at m
  cases m
  exact N9 a2
end
def dNm(s:Stmt):Str:=match s with
 |.FunctionDef n ..=>n
 |_=>""
def AllD(K:Frag)(mg:Ra)(top:Nat->Stmt):List Nat->Prop
 | []=>True
 |i::l=>Def K mg (dNm (top i)) (top i)/\AllD K mg top l
theorem AllD.get{K:Frag}{mg:Ra}{top:Nat->Stmt}:∀{l:List Nat},AllD K mg top l->∀i,l.contains i=true->Def K mg (dNm (top i)) (top i)
 | [],_,i,h=>nomatch h
 |
  j::l,⟨a,b⟩,i,h=>by
  rcases H_.mp (OS.mp h) with rfl |h
  ·exact a
  ·exact b.get i (OS.mpr h)
def Tx.e{b:Tb}{K:Frag}{mg:Ra}{x:Str}(T:Tx b K mg)(h:b.us.contains x=true):∃a,mg x=some (.ref a):=⟨_,T.m h⟩
structure Ty(b:Tb)(top:Nat->Stmt)(ds:List Nat)(K:Frag)(mg:Ra):Prop extends Tx b K mg where
 d:AllD K mg top ds
noncomputable def scB(N P:List Str)(sc:Scope):Bool:=decide (sc.kind=.function)&&(!sc.isCoroutine&&(!sc.isGenerator&&(decide N.Nodup&&(decide (N.take P.length=P)&&(P.all (λx=>decide (sc.names.lookup x=some .local\/sc.names.lookup x=some .cell))&&sc.names.all λy=>decide (y.2 ≠ .free))))))
def aH{N P:List Str}{sc:Scope}(e:scB N P sc=true):FnScope N P sc:=by
 simp only[scB,n_,O9,N_,Bool.not_eq_true'] at e
 obtain⟨e1,e2,e3,e4,e5,e6,e7⟩:=e
 exact⟨e1,e2,e3,e4,e5,e6,e7⟩
section
variable{K:W.Frag}{mg:Ra}{X:Cx}{ES:L2.St->XK}{e a b c o i tg am ge:Expr}{p q r:PEx}{t u:PTs}{x y:PSt}{g:PGt}{I:PIt}{pos:Pos}
def gR{scope:Scope}(M:List Str)(kn:List (Str×NameKind))(N:List Str)(sub:Rh){hsb:(sub.filterMap id).Nodup}(hi:DI K mg X ES tg am I.F)(hg:N.Nodup->∀cl C s₂ H fp,DG K mg (aQ X N scope cl C s₂ H fp) (λ_=>E0) tg g.F)(he:N.Nodup->∀cl C s₂ H fp,DE K mg (aQ X N scope cl C s₂ H fp) (λ_=>E0) ge p.F)(hnd:N.Nodup:=by decide)(hc:X.calm=true:=by rfl)(hM:X.N=M:=by rfl)(hkn:X.env.scope.names=kn:=by rfl)(d_:fM M scope.names sub N=true:=by decide)(hk:scope.kind=.function:=by rfl)(hnc:∀x∈scope.names,x.2 ≠ .cell:=by decide)(be:∀x∈scope.names,x.2=.local->scope.names.lookup x.1=some .local:=by decide)(hfr:ik kn scope.names=true:=by decide)(hsl:sub.length=N.length:=by rfl)(hs:∀x,foldedSetIterable am X.env x=pure x:=by intro _;rfl):DE K mg X ES (.ListComp ge [⟨tg,am,[],0⟩] scope pos) (pLC I sub hsb g qY p).F:=NI M kn N sub hc hi (hg hnd) (he hnd) hM hkn d_ hk hnc be hfr hsl hs
def zSlc{ow:Bool}{px spos:Pos}{iT:Nat}{xT:Str}{scope:Scope}(hN:X.N.Nodup)(M:List Str)(kn:List (Str×NameKind))(N:List Str)(sub:Rh){hsb:(sub.filterMap id).Nodup}(hi:DI K mg X ES tg am I.F)(hg:N.Nodup->∀cl C s₂ H fp,DG K mg (aQ X N scope cl C s₂ H fp) (λ_=>E0) tg g.F)(he:N.Nodup->∀cl C s₂ H fp,DE K mg (aQ X N scope cl C s₂ H fp) (λ_=>E0) ge p.F)(hsw:swapsWith (.ListComp ge [⟨tg,am,[],0⟩] scope pos) (some (.Name xT px)) spos.line X.env=pure true:=by rfl)(hnd:N.Nodup:=by decide)(hc:X.calm=true:=by rfl)(hix:X.N[iT]?=some xT:=by rfl)(hxl:Loc X.env.scope xT:=by first |exact Or.inl rfl |exact Or.inr rfl)(hM:X.N=M:=by rfl)(hkn:X.env.scope.names=kn:=by rfl)(d_:fM M scope.names sub N=true:=by decide)(hk:scope.kind=.function:=by rfl)(hnc:∀x∈scope.names,x.2 ≠ .cell:=by decide)(be:∀x∈scope.names,x.2=.local->scope.names.lookup x.1=some .local:=by decide)(hfr:ik kn scope.names=true:=by decide)(hsl:sub.length=N.length:=by rfl)(hs:∀x,foldedSetIterable am X.env x=pure x:=by intro _;rfl)(hf:X.fn xT=true\/X.env.scope.names.lookup xT=some .local:=by first |exact .inl rfl |exact .inr rfl |assumption):DS K mg X ES (.Assign [.Name xT px] (.ListComp ge [⟨tg,am,[],0⟩] scope pos) spos) (aC ow iT (pLC I sub hsb g qY p)).F:=Nb M kn N sub hc hN hix hxl hi (hg hnd) (he hnd) hsw hM hkn d_ hk hnc be hfr hsl hs hf
end
section
variable{K:W.Frag}{mg:Ra}{P:Program}{w:World}{base:Heap}{fx:Str}{fst:Stmt}{k n m:Nat}{ps N:List Str}{ms:List Bool}{x:PSt}
def bF(D:Def K mg fx fst)(S:FnScope N ps (ao fst))
 (hb:∀(kV doc pm:Value) (an:Option Addr) (cdv ct:Value) (us:List Value),us.length=ps.length->bindArgs (W.fnOf fx fx (cB fst) (aX fst) (ao fst) .none kV doc pm an cdv ct) ⟨us,[]⟩=pure (ps.zip us))
 (f_:N.Nodup->∀(f:Addr) (cdv:Value) (A:Around) (outer:List Env) (s:Shared) (H:Hp) (E:XK),Room k (A.deeper (envOfC fx (ao fst) s.heap.objs.size f cdv))->
  DSs K mg (dD (CX1 P w) P w K mg base N fx (ao fst) f cdv A outer s H E) (λ_=>E) (aX fst) x.F) (hn:ps.length=n:=by rfl) (hm:N.length=m:=by rfl):Callee P w K mg base fx (k+1) ps (spD K mg n (fnP ms m x).F):=okP D S hb (f_ S.nd) hn hm
def sj(D:Def K mg fx fst)(S:FnScope N ps (ao fst))
 (hb:∀(kV doc pm:Value) (an:Option Addr) (cdv ct:Value) (us:List Value),us.length=ps.length->bindArgs (W.fnOf fx fx (cB fst) (aX fst) (ao fst) .none kV doc pm an cdv ct) ⟨us,[]⟩=pure (ps.zip us))
 (f_:N.Nodup->∀(f:Addr) (cdv:Value) (A:Around) (outer:List Env) (s:Shared) (H:Hp) (E:XK),Room k (A.deeper (envOfC fx (ao fst) s.heap.objs.size f cdv))->
  DSs K mg (dD (CX1 P w) P w K mg base N fx (ao fst) f cdv A outer s H E) (λ_=>E) (aX fst) x.F) (hn:ps.length=n:=by rfl) (hm:N.length=m:=by rfl):Callee P w K mg base fx (k+1) ps (spD K mg n (PFx.of ms m x).F):=okX D S hb (f_ S.nd) hn hm
end
end L3
namespace L3
open PySem PySem.Spec PyProof.Rows L2
section
variable{K:W.Frag}{mg:Ra}{X:Cx}{ES:L2.St->XK}{a b c:Expr}{F G M:ME}{pos p2:Pos}{ρ:List Addr}{H:Hp}{h:AH}{ae:AE}{σ:L2.St}
end
section
variable{K:W.Frag}{mg:Ra}{X:Cx}{ES:L2.St->XK}{e o i t1 t2:Expr}{pos p2:Pos}{j a b:Nat}
end
end L3
namespace Wb
open L2
noncomputable def lc(qs:List Rat)(c:Nat):Nat:=qs.foldl (λc q=>Nat.lcm c q.den) c
noncomputable def gc(ws:List Int)(g:Nat):Nat:=ws.foldl (λg w=>Int.gcd (g:Int) w) g
noncomputable def wh(L:Nat)(qs:List Rat):List Int:=qs.map λq=>q.num*((L/q.den:Nat):Int)
def ws(qs:List Rat):List Int:=wh (lc qs 1) qs
def dv(qs:List Rat):Nat:=gc (ws qs) 0
end Wb
namespace L3
open PySem L2
noncomputable def shpB(b:Bx):Rat:=if b.w<b.h then b.h/b.w else b.w/b.h
noncomputable def shL(s l:Rat)(W:Int):Int->List Int->List (Rat×Rat)
 |_,[]=>[]
 |a,w::ws=>(s+l*((a:Rat)/(W:Rat)),l*((w:Rat)/(W:Rat)))::shL s l W (a+w) ws
theorem iP(s l:Rat)(W:Int):∀(ws:List Int) (a:Int),(shL s l W a ws).length=ws.length
 | [],_=>rfl
 |w::ws,a=>by unfold shL;rw[x_,x_,iP s l W ws (a+w)]
noncomputable def a0(b:Bx)(way:Str)(ws:List Int):List Bx:=if way="across" then (shL b.l b.w ws.sum 0 ws).map λp=>⟨p.1,b.t,p.2,b.h⟩ else (shL b.t b.h ws.sum 0 ws).map λp=>⟨b.l,p.1,b.w,p.2⟩
theorem lV:∀{l:List Int},(∀w∈l,1<=w)->(l.length:Int)<=l.sum
 | [],_=>by simp
 |
  x::l,h=>by
  rw[Ov,x_]
  have:=h x (o_ ..)
  have:=lV (l:=l) λw hw=>h w (m_ _ hw)
  omega
theorem tS:∀(ws:List Int) (a:Int),0<=a->(∀w∈ws,1<=w)->a+ws.sum<=W->p∈shL s l W a ws->∃a' w:Int,0<=a'/\a'<=W/\1<=w/\w<=W/\p=(s+l*((a':Rat)/(W:Rat)),l*((w:Rat)/(W:Rat)))
 | [],_,_,_,_,h=>nomatch h
 |
  w::ws,a,ha,hw,hs,h=>by
  have h1:=hw w (o_ ..)
  have h2:=lV (l:=ws) λx hx=>hw x (m_ _ hx)
  rw[Ov] at hs
  unfold shL at h
  rcases H_.mp h with rfl |h
  ·exact⟨a,w,ha,by omega,h1,by omega,rfl⟩
  ·exact tS ws (a+w) (by omega) (λx hx=>hw x (m_ _ hx)) (by omega) h
noncomputable def zN(b:Bx)(way:Str)(u v:Int):Bx:=(a0 b way [u,v]).headD b
noncomputable def cut2(b:Bx)(way:Str)(u v:Int):Bx:=((a0 b way [u,v]).drop 1).headD b
noncomputable def liV(l:List Int):Val:=.lst (l.map .int)
noncomputable def wsAt(ws:List Int)(i:Int):Int:=ws.getD i.toNat 0
noncomputable def wt(ws l:List Int):Int:=(l.map (wsAt ws)).sum
noncomputable def rst(nums l:List Int):List Int:=nums.filter λx=>!l.contains x
structure Lot(nums l:List Int):Prop where
 sub:l.Sublist nums
 ne:l≠[]
 lt:l.length<nums.length
noncomputable def mx(x y:Rat):Rat:=if x<y then y else x
structure CutOk(nums:List Int)(c:Str×List Int×List Int):Prop where
 way:c.1="across" \/ c.1="down"
 one:Lot nums c.2.1
 two:Lot nums c.2.2
 bp:c.2.2=rst nums c.2.1
inductive Tr(ws:List Int):Bx->List Int->Val->Rat->Prop
 |leaf (b:Bx) (i:Int):Tr ws b [i] (.int i) (shpB b)
 |node {b:Bx}{way:Str}{l r:List Int}{t1 t2:Val}{q1 q2:Rat} (hw:way="across" \/ way="down") (h1:Tr ws (zN b way (wt ws l) (wt ws r)) l t1 q1) (h2:Tr ws (cut2 b way (wt ws l) (wt ws r)) r t2 q2):Tr ws b (l++r) (.tup [.str way,.tup [t1,t2]]) (mx q1 q2)
end L3
namespace L3
open PySem PySem.Spec PyProof.Rows L2
inductive AT where
 |lf (k:Nat)
 |nd (w:Bool) (ts:List AT)
noncomputable def wy(w:Bool):Str:=if w=true then "across" else "down"
def AT.ind{P:AT->Prop}(h1:∀k,P (.lf k))(h2:∀w ts,(∀t∈ts,P t)->P (.nd w ts))(t:AT):P t:=
 @AT.rec P (λts=>∀t∈ts,P t) h1 (λw ts ih=>h2 w ts ih) (λt h=>nomatch h) (λt ts i1 i2 u hu=>by
  rcases H_.mp hu with rfl |hu
  ·exact i1
  ·exact i2 u hu) t
mutual
def AT.val(f:Nat->Val):AT->Val
 |.lf k=>f k
 |.nd w ts=>.tup [.str (wy w),.tup (AT.vals f ts)]
def AT.vals(f:Nat->Val):List AT->List Val
 | []=>[]
 |t::ts=>AT.val f t::AT.vals f ts
end
mutual
def AT.lvs:AT->List Nat
 |.lf k=>[k]
 |.nd _ ts=>AT.lvsL ts
def AT.lvsL:List AT->List Nat
 | []=>[]
 |t::ts=>AT.lvs t++AT.lvsL ts
end
mutual
def AT.dep:AT->Nat
 |.lf _=>1
 |.nd _ ts=>AT.depL ts+1
def AT.depL:List AT->Nat
 | []=>0
 |t::ts=>max (AT.dep t) (AT.depL ts)
end
mutual
def AT.ok:AT->Bool
 |.lf _=>true
 |.nd _ ts=>decide (2<=ts.length)&&AT.okL ts
def AT.okL:List AT->Bool
 | []=>true
 |t::ts=>AT.ok t&&AT.okL ts
end
theorem AT.vals_map(f:Nat->Val):∀ts,AT.vals f ts=ts.map (AT.val f)
 | []=>rfl
 |t::ts=>by rw[AT.vals,AT.vals_map f ts];rfl
theorem AT.lvsL_mem:∀{ts:List AT},x∈AT.lvsL ts ↔ ∃t∈ts,x∈t.lvs
 | []=>by simp [AT.lvsL]
 |t::ts=>by rw[AT.lvsL,OC,AT.lvsL_mem (ts:=ts)];simp
theorem AT.lvsL_flat:∀ts:List AT,AT.lvsL ts=(ts.map AT.lvs).flatten
 | []=>rfl
 |t::ts=>by rw[AT.lvsL,AT.lvsL_flat ts];rfl
theorem AT.depL_le:∀{ts:List AT},AT.depL ts<=m ↔ ∀t∈ts,t.dep<=m
 | []=>by simp [AT.depL]
 |t::ts=>by rw[AT.depL,Nat.max_le,AT.depL_le (ts:=ts)];simp
theorem AT.okL_mem:∀{ts:List AT},AT.okL ts=true ↔ ∀t∈ts,t.ok=true
 | []=>by simp [AT.okL]
 |t::ts=>by rw[AT.okL,n_,AT.okL_mem (ts:=ts)];simp
def AT.dep_pos(t:AT):1<=t.dep:=by cases t <;> simp [AT.dep]
def eJ{t:AT}(h:t.ok=true):1<=t.lvs.length:=by
 induction t using AT.ind with
 |h1 k=>simp [AT.lvs]
 |
  h2 w ts ih=>
  rw[AT.ok,n_] at h
  cases ts with
  |nil=>exact absurd h.1 (by decide)
  |
   cons t ts=>
   have:=ih t (o_ ..) (AT.okL_mem.mp h.2 t (o_ ..))
   rw[AT.lvs,AT.lvsL,l_]
   omega
theorem dJ{α β:Type}{f:α->List β}:∀{l:List α},(∀a∈l,1<=(f a).length)->l.length<=((l.map f).flatten).length
 | [],_=>p_ _
 |
  a::l,h=>by
  have h1:=h a (o_ ..)
  have h2:=dJ (l:=l) λb hb=>h b (m_ _ hb)
  rw[s_,Ot,l_,x_]
  omega
noncomputable def lfV:Val->Bool
 |.int _=>true
 |.str _=>true
 |_=>false
theorem tR:∀{vs:List Val},(∀v∈vs,wfV k v=true)->f9 k vs=true
 | [],_=>rfl
 |
  v::vs,h=>by
  show (wfV k v&&f9 k vs)=true
  rw[h v (o_ ..),tR λu hu=>h u (m_ _ hu)]
  rfl
theorem tV:∀{vs:List Val},(∀v∈vs,j5 v=true)->fS vs=true
 | [],_=>rfl
 |
  v::vs,h=>by
  show (j5 v&&fS vs)=true
  rw[h v (o_ ..),tV λu hu=>h u (m_ _ hu)]
  rfl
def cF(v:Val)(l:List Val):atI (v::l) 0=some v:=cU (by decide) rfl
def MM(v:Val)(l:List Val):eT (v::l) (some 1) none=l:=kN _ 1
noncomputable def inB(x:Nat)(t:AT):Bool:=decide (x∈t.lvs)
noncomputable def itV(l:List Nat):Val:=.lst (l.map λk:Nat=>.int k)
structure TOk(t:AT)(l:List Nat):Prop where
 ok:t.ok=true
 mem:∀k,k∈t.lvs ↔ k∈l
 dep:t.dep<=l.length
 len:t.lvs.length=l.length
noncomputable def BI(xss:List (List Nat)):List Val:=xss.map itV
theorem zq(I1 I2:PIt)(j t:Nat)(q:PEx)(hjt:j≠t)(e:E3):(vA I1 I2 j t q hjt).G e=(I1.G e).toS λp e1=>match p.2,e1[j]? with
 |
  none,some s=>if s.pl=true/\p.1.length<16777216 then (I2.G (e1.set j .no)).toS λp2 e2=>match p2.2,e2[j]? with
   |none,some .no=>fi j t q.G p2.1 (p.1.map λv=>[v]) e2
   |_,_=>.stuck
  else .stuck
 |_,_=>.stuck:=rfl
structure Lots(yss xss:List (List Nat))(vs:List Nat):Prop where
 len:yss.length=xss.length
 ne:∀l∈yss,l≠[]
 mem:∀k,(∃l∈yss,k∈l) ↔ (∃l∈xss,k∈l)\/k∈vs
 tot:yss.flatten.length=xss.flatten.length+vs.length
def Ak(h:xss[i]?=some xs)(ne:∀l∈xss,l≠[]):Lots (xss.set i (xs++[u])) xss [u]:=by
 have hi:=(k_.mp h).1
 refine⟨C_ ..,λl hl=>?_,λk=>?_,?_⟩
 ·rcases O6 hl with hl |rfl
  ·exact ne l hl
  ·simp
 ·constructor
  ·rintro⟨l,hl,hk⟩
   rcases O6 hl with hl |rfl
   ·exact .inl ⟨l,hl,hk⟩
   ·rcases OC.mp hk with hk |hk
    ·exact .inl ⟨xs,ON h,hk⟩
    ·exact .inr hk
  ·rintro (⟨l,hl,hk⟩ |hk)
   ·obtain⟨j,hj⟩:=Qy hl
    by_cases hij:i=j
    ·subst hij
     rw[h] at hj
     cases hj
     exact⟨_,List.mem_set (by omega) _,OX _ hk⟩
    ·exact⟨l,ON (i:=j) (by rw[Pu hij];exact hj),hk⟩
   ·exact⟨_,List.mem_set (by omega) _,K_ _ hk⟩
 ·have aux:∀(xss:List (List Nat)) (i:Nat),xss[i]?=some xs->(xss.set i (xs++[u])).flatten.length=xss.flatten.length+1:=by
   intro xss
   induction xss with
   |nil=>intro i h;rw[PR] at h;cases h
   |
    cons y ys ih=>
    intro i h
    cases i with
    |zero=>cases h;simp [List.set];omega
    |succ i=>simp only[List.set,Ot,l_];rw[ih i h];omega
  exact aux xss i h
def nD{xss:List (List Nat)}(ne:∀l∈xss,l≠[]):xss.length<=xss.flatten.length:=by
 have:=dJ (f:=id) (l:=xss) λl hl=>QG.mpr (ne l hl)
 rw[List.map_id] at this
 exact this
theorem pZ:∀{yss:List (List Nat)},(∀l∈yss,l≠[])->∀l∈yss,l.length+yss.length<=yss.flatten.length+1
 | [],_,l,hl=>nomatch hl
 |
  y::ys,ne,l,hl=>by
  have h0:=nD (xss:=ys) λl hl=>ne l (m_ _ hl)
  have h1:=QG.mpr (ne y (o_ ..))
  rw[Ot,l_,x_]
  rcases H_.mp hl with rfl |hl
  ·omega
  ·have:=pZ (yss:=ys) (λl hl=>ne l (m_ _ hl)) l hl
   omega
noncomputable def atV(t:AT):Val:=t.val λk=>.int (k:Nat)
def Ft{w:Bool}{ps:List (AT×List Nat)}(h:∀p∈ps,TOk p.1 p.2)(hne:ps≠[])(hne2:∀p∈ps,p.2≠[])(h2:2<=ps.length):TOk (.nd w (ps.map (·.1))) (ps.map (·.2)).flatten:=by
 have hlot:=pZ (yss:=ps.map (·.2)) (λl hl=>by obtain⟨p,hp,rfl⟩:=Oi.mp hl;exact hne2 p hp)
 refine⟨?_,λk=>?_,?_,?_⟩
 ·rw[AT.ok,n_]
  refine⟨F_ (by rw[j_];exact h2),AT.okL_mem.mpr λt ht=>?_⟩
  obtain⟨p,hp,rfl⟩:=Oi.mp ht
  exact (h p hp).ok
 ·rw[AT.lvs,AT.lvsL_mem,List.mem_flatten]
  constructor
  ·rintro⟨t,ht,hk⟩
   obtain⟨p,hp,rfl⟩:=Oi.mp ht
   exact⟨p.2,OR hp,((h p hp).mem k).mp hk⟩
  ·rintro⟨l,hl,hk⟩
   obtain⟨p,hp,rfl⟩:=Oi.mp hl
   exact⟨p.1,OR hp,((h p hp).mem k).mpr hk⟩
 ·rw[AT.dep]
  have:AT.depL (ps.map (·.1))<=(ps.map (·.2)).flatten.length-1:=AT.depL_le.mpr λt ht=>by
   obtain⟨p,hp,rfl⟩:=Oi.mp ht
   have:=(h p hp).dep
   have:=hlot p.2 (OR hp)
   rw[j_] at this
   omega
  obtain⟨p,hp⟩:=List.exists_mem_of_ne_nil ps hne
  have:=hlot p.2 (OR hp)
  rw[j_] at this
  omega
 ·rw[AT.lvs]
  clear hlot h2 hne hne2
  induction ps with
  |nil=>rfl
  |
   cons p ps ih=>
   rw[s_,s_,AT.lvsL,l_,Ot,l_,ih λp hp=>h p (m_ _ hp),(h p (o_ ..)).len]
def trQ(v f:Val)(r:SR3):Prop:=lE [true,false] r=.ok (.val v) [f]
structure Nms(m:Nat)(ns:List Val)(f:Nat->Val):Prop where
 at_:∀i,i<m->ns[i]?=some (f i)
 lf:∀i,i<m->lfV (f i)=true
 eq:∀i j,i<m->j<m->c8 (f i) (f j)=some (decide (i=j))
mutual
def AT.cnt:AT->Nat
 |.lf _=>1
 |.nd _ ts=>AT.cntL ts+1
def AT.cntL:List AT->Nat
 | []=>0
 |t::ts=>AT.cnt t+AT.cntL ts
end
theorem AT.cntL_app:∀(a b:List AT),AT.cntL (a++b)=AT.cntL a+AT.cntL b
 | [],b=>by simp [AT.cntL]
 |t::a,b=>by rw[Pw,AT.cntL,AT.cntL,AT.cntL_app a b];omega
theorem AT.lvsL_app:∀(a b:List AT),AT.lvsL (a++b)=AT.lvsL a++AT.lvsL b
 | [],b=>by simp [AT.lvsL]
 |t::a,b=>by rw[Pw,AT.lvsL,AT.lvsL,AT.lvsL_app a b,OD]
def mL(xs:List Val)(x:Val):jv.G (.lst (xs++[x])) []=some (.lst xs,x):=by
 show rB (.lst (xs++[x])) []=_
 unfold rB
 dsimp only
 rw[l_,List.length_singleton,Nat.add_sub_cancel,I_ (p_ _),Py,List.dropLast_concat]
 rfl
theorem AT.cnt_le:∀{ts:List AT}{t:AT},t∈ts->t.cnt<=AT.cntL ts
 | [],t,h=>nomatch h
 |
  u::ts,t,h=>by
  rw[AT.cntL]
  rcases H_.mp h with rfl |h
  ·omega
  ·have:=AT.cnt_le h;omega
def AT.lvs_le(h:t∈ts):t.lvs.length<=(AT.lvsL ts).length:=by
 rw[AT.lvsL_flat]
 exact Qm (P1 (OR (f:=AT.lvs) h))
noncomputable def wtA(ws:List Int)(l:List Nat):Int:=(l.map λk=>ws.getD k 0).sum
noncomputable def wtT(ws:List Int)(t:AT):Int:=wtA ws t.lvs
mutual
def AT.bx(ws:List Int):AT->Bx->List (Nat×Bx)
 |.lf k,b=>[(k,b)]
 |.nd w ts,b=>AT.bxL ws ts (a0 b (wy w) (ts.map (wtT ws)))
def AT.bxL(ws:List Int):List AT->List Bx->List (Nat×Bx)
 |t::ts,b::bs=>AT.bx ws t b++AT.bxL ws ts bs
 |_,_=>[]
end
mutual
def AT.lay(ws:List Int)(n m:Nat):AT->Bx->Prop
 |.lf _,_=>True
 |.nd w ts,b=>b.Ok/\b.Sz n/\ts≠[]/\ts.length<=40/\(∀t∈ts,1<=wtT ws t)/\Sm m (ts.map (wtT ws)).sum/\AT.layL ws n m ts (a0 b (wy w) (ts.map (wtT ws)))
def AT.layL(ws:List Int)(n m:Nat):List AT->List Bx->Prop
 |t::ts,b::bs=>AT.lay ws n m t b/\AT.layL ws n m ts bs
 |_,_=>True
end
def cR(kvs:List (Key×Val))(l:List (Nat×Bx)):List (Key×Val):=l.foldl (λkvs p=>cW kvs (.inl (p.1:Nat)) (bV p.2)) kvs
def BM(kvs:List (Key×Val))(a b:List (Nat×Bx)):cR kvs (a++b)=cR (cR kvs a) b:=by unfold cR;rw[List.foldl_append]
def A9(h:a.Perm b):wtA ws a=wtA ws b:=by
 unfold wtA
 induction h with
 |nil=>rfl
 |cons x _ ih=>rw[s_,s_,Ov,Ov,ih]
 |swap x y l=>simp only[s_,Ov];omega
 |trans _ _ h1 h2=>rw[h1,h2]
theorem sG(ws:List Int):∀ts:List AT,wtA ws (AT.lvsL ts)=(ts.map (wtT ws)).sum
 | []=>rfl
 |
  t::ts=>by
  rw[AT.lvsL,s_,Ov,<- sG ws ts]
  unfold wtT wtA
  rw[Oo,List.sum_append]
def Ae(kvs:List (Key×Val))(k:Key)(v:Val):(cW kvs k v).length<=kvs.length+1:=by
 unfold cW
 split
 ·rw[j_];omega
 ·rw[l_];exact p_ _
theorem sE:∀(l:List (Nat×Bx)) (kvs:List (Key×Val)),(cR kvs l).length<=kvs.length+l.length
 | [],kvs=>p_ _
 |
  p::l,kvs=>by
  have h1:=Ae kvs (.inl (p.1:Nat)) (bV p.2)
  have h2:=sE l (cW kvs (.inl (p.1:Nat)) (bV p.2))
  unfold cR at h2 ⊢
  rw[List.foldl_cons,x_]
  omega
def AT.bx_fst(ws:List Int)(t:AT):∀b,(AT.bx ws t b).length<=t.lvs.length/\∀p∈AT.bx ws t b,p.1∈t.lvs:=by
 induction t using AT.ind with
 |h1 k=>intro b;simp [AT.bx,AT.lvs]
 |
  h2 w ts ih=>
  intro b
  rw[AT.bx,AT.lvs]
  generalize a0 b (wy w) (ts.map (wtT ws))=bs
  induction ts generalizing bs with
  |nil=>simp [AT.bxL]
  |
   cons t ts ih2=>
   cases bs with
   |nil=>simp [AT.bxL]
   |
    cons b bs=>
    obtain⟨h1,h2⟩:=ih t (o_ ..) b
    obtain⟨h3,h4⟩:=ih2 (λu hu=>ih u (m_ _ hu)) bs
    rw[AT.bxL,AT.lvsL,l_,l_]
    refine⟨by omega,λp hp=>?_⟩
    rcases OC.mp hp with hp |hp
    ·exact OX _ (h2 p hp)
    ·exact K_ _ (h4 p hp)
def yz(kvs:List (Key×Val))(k k':Key)(v:Val):lkD (cW kvs k v) k'=if k=k' then some v else lkD kvs k':=by
 unfold cW
 induction kvs with
 |
  nil=>
  rw[if_neg (by simp)]
  unfold lkD
  by_cases h:k=k'
  ·simp [h]
  ·simp [h]
 |
  cons p kvs ih=>
  obtain⟨pk,pv⟩:=p
  by_cases hp:pk=k
  ·subst
    hp
   rw[if_pos (by simp)]
   by_cases h:pk=k'
   ·subst h
    simp [lkD]
   ·rw[if_neg h]
    rw[if_neg h] at ih
    simp only[s_,O4]
    unfold lkD
    simp only[OE,A_ h]
    by_cases ha:(kvs.any λkv=>decide (kv.1=pk))=true
    ·rw[if_pos ha] at ih
     unfold lkD at ih
     exact ih
    ·have:(kvs.map λkv=>if kv.1=pk then (kv.1,v) else kv)=kvs:=by
      conv=>rhs;rw[<- List.map_id kvs]
      refine List.map_congr_left λq hq=>?_
      rw[if_neg]
      ·rfl
      ·intro z
       exact ha (List.any_eq_true.mpr ⟨q,hq,F_ z⟩)
     rw[this]
  ·by_cases ha:(kvs.any λkv=>decide (kv.1=k))=true
   ·rw[if_pos ha] at ih
    rw[if_pos (by rw[OV,ha,Bool.or_true])]
    simp only[s_,if_neg hp]
    by_cases h:pk=k'
    ·subst h
     rw[if_neg (λz=>hp z.symm)]
     simp [lkD]
    ·unfold lkD at ih ⊢
     simp only[OE,A_ h]
     exact ih
   ·rw[if_neg ha] at ih
    rw[if_neg (by rw[OV,A_ hp,Bool.false_or];exact ha)]
    rw[Pw]
    by_cases h:pk=k'
    ·subst h
     rw[if_neg (λz=>hp z.symm)]
     simp [lkD]
    ·unfold lkD at ih ⊢
     simp only[OE,A_ h]
     exact ih
noncomputable def bxO(l:List (Nat×Bx))(k:Nat):Bx:=((l.find? λp=>p.1==k).map (·.2)).getD ⟨0,0,0,0⟩
theorem tU:∀(l:List (Nat×Bx)) (kvs:List (Key×Val)),(l.map (·.1)).Nodup->(k∈l.map (·.1)->lkD (cR kvs l) (.inl (k:Nat))=some (bV (bxO l k)))/\(k∉l.map (·.1)->lkD (cR kvs l) (.inl (k:Nat))=lkD kvs (.inl (k:Nat)))
 | [],kvs,_=>⟨(λh=>nomatch h),λ_=>rfl⟩
 |
  p::l,kvs,nd=>by
  rw[s_,O8] at nd
  obtain⟨h1,h2⟩:=tU (k:=k) l (cW kvs (.inl (p.1:Nat)) (bV p.2)) nd.2
  have e:cR kvs (p::l)=cR (cW kvs (.inl (p.1:Nat)) (bV p.2)) l:=rfl
  rw[e]
  by_cases hp:p.1=k
  ·have hk:k∉l.map (·.1):=hp ▸ nd.1
   rw[h2 hk,yz,if_pos (by rw[hp])]
   refine⟨λ_=>?_,λz=>absurd (by rw[s_,hp];exact o_ ..) z⟩
   unfold bxO
   rw[OE]
   simp [hp]
  ·have hk:k∈(p::l).map (·.1) ↔ k∈l.map (·.1):=by rw[s_,H_];exact⟨λz=>z.resolve_left (λy=>hp y.symm),.inr⟩
   have hb:bxO (p::l) k=bxO l k:=by
    unfold bxO
    rw[List.find?_cons_of_neg (by simpa using hp)]
   rw[hk,hb]
   refine⟨h1,λz=>?_⟩
   rw[h2 z,yz,if_neg]
   intro y
   injection y with y
   exact hp (Int.ofNat.inj y)
def yd(b:Bx)(way:Str)(ws:List Int):(a0 b way ws).length=ws.length:=by
 unfold a0
 split <;> rw[j_,iP]
def AT.bx_keys(ws:List Int)(t:AT):∀b,(AT.bx ws t b).map (·.1)=t.lvs:=by
 induction t using AT.ind with
 |h1 k=>intro b;rw[AT.bx,AT.lvs];rfl
 |
  h2 w ts ih=>
  intro b
  rw[AT.bx,AT.lvs]
  have hl:(a0 b (wy w) (ts.map (wtT ws))).length=ts.length:=by rw[yd,j_]
  generalize a0 b (wy w) (ts.map (wtT ws))=bs at *
  induction ts generalizing bs with
  |nil=>cases bs <;> rfl
  |
   cons t ts ih2=>
   cases bs with
   |nil=>exact nomatch hl
   |
    cons b bs=>
    rw[AT.bxL,AT.lvsL,Oo,ih t (o_ ..) b,ih2 (λu hu=>ih u (m_ _ hu)) bs (by simpa using hl)]
def AT.cnt_lvs(t:AT)(h:t.ok=true):t.cnt+1<=2*t.lvs.length:=by
 induction t using AT.ind with
 |h1 k=>simp [AT.cnt,AT.lvs]
 |
  h2 w ts ih=>
  rw[AT.ok,n_] at h
  have hk:=AT.okL_mem.mp h.2
  have h2:2<=ts.length:=Om h.1
  rw[AT.cnt,AT.lvs]
  have:∀ts:List AT,(∀t∈ts,t.cnt+1<=2*t.lvs.length)->AT.cntL ts+ts.length<=2*(AT.lvsL ts).length:=by
   intro ts
   induction ts with
   |nil=>intro _;simp [AT.cntL,AT.lvsL]
   |
    cons t ts ih=>
    intro h
    have h1:=h t (o_ ..)
    have h2:=ih λu hu=>h u (m_ _ hu)
    rw[AT.cntL,AT.lvsL,l_,x_]
    omega
  have:=this ts λt ht=>ih t ht (hk t ht)
  omega
structure Rp(D A B:Nat)(b:Bx):Prop where
 pos:0<D
 l:∃z:Int,b.l=(z:Rat)/((D:Int):Rat)/\z.natAbs<=A*D
 t:∃z:Int,b.t=(z:Rat)/((D:Int):Rat)/\z.natAbs<=A*D
 w:∃z:Int,b.w=(z:Rat)/((D:Int):Rat)/\0<z/\z<=B*D
 h:∃z:Int,b.h=(z:Rat)/((D:Int):Rat)/\0<z/\z<=B*D
def NJ(x y a D W:Rat)(h1:D≠0)(h2:W≠0):x/D+(y/D)*(a/W)=(x*W+y*a)/(D*W):=by grind
def Me(y a D W:Rat)(h1:D≠0)(h2:W≠0):(y/D)*(a/W)=(y*a)/(D*W):=by grind
def Nu(y D W:Rat)(h1:D≠0)(h2:W≠0):y/D=(y*W)/(D*W):=by grind
def j8{z:Int}(h:z≠0):(z:Rat)≠0:=λe=>h (Rat.intCast_inj.mp e)
def CS{x y a W:Int}{D A B:Nat}(hD:0<D)(hx:x.natAbs<=A*D)(hy:0<y/\y<=B*D)(ha:0<=a/\a<=W)(hW:0<W):∃z:Int,(x:Rat)/((D:Int):Rat)+((y:Rat)/((D:Int):Rat))*((a:Rat)/(W:Rat))=(z:Rat)/(((D*W.toNat:Nat):Int):Rat)/\z.natAbs<=(A+B)*(D*W.toNat):=by
 obtain⟨V,rfl⟩:∃V:Nat,W=V:=⟨W.toNat,by omega⟩
 refine⟨x*V+y*a,?_,?_⟩
 ·rw[NJ _ _ _ _ _ (j8 (by omega)) (j8 (by omega))]
  congr 1
  ·rw[Rat.intCast_add,OZ,OZ]
  ·rw[Oy,Pm,OZ]
 ·rw[Oy]
  have h1:(x*(V:Int)).natAbs<=A*D*V:=by rw[OO];exact OP hx (p_ _)
  have h2:(y*a).natAbs<=B*D*V:=by
   rw[OO]
   refine OP ?_ (by omega)
   have:=hy.2
   omega
  have h3:=Int.natAbs_add_le (x*V) (y*a)
  rw[Nat.add_mul,<- QI,<- QI]
  omega
def Cm{y a W:Int}{D B:Nat}(hD:0<D)(hy:0<y/\y<=B*D)(ha:1<=a/\a<=W):∃z:Int,((y:Rat)/((D:Int):Rat))*((a:Rat)/(W:Rat))=(z:Rat)/(((D*W.toNat:Nat):Int):Rat)/\0<z/\z<=((B:Nat):Int)*((D*W.toNat:Nat):Int):=by
 obtain⟨V,rfl⟩:∃V:Nat,W=V:=⟨W.toNat,by omega⟩
 refine⟨y*a,?_,Int.mul_pos hy.1 (by omega),?_⟩
 ·rw[Me _ _ _ _ (j8 (by omega)) (j8 (by omega))]
  congr 1
  ·rw[OZ]
  ·rw[Oy,Pm,OZ]
 ·rw[Oy,Pm,<- OU]
  exact Int.mul_le_mul hy.2 ha.2 (by omega) (Int.le_trans (Int.le_of_lt hy.1) hy.2)
def mF{y W:Int}{D:Nat}(hD:0<D)(hW:0<W):(y:Rat)/((D:Int):Rat)=((y*W:Int):Rat)/(((D*W.toNat:Nat):Int):Rat):=by
 obtain⟨V,rfl⟩:∃V:Nat,W=V:=⟨W.toNat,by omega⟩
 rw[Nu _ _ _ (j8 (show ((D:Nat):Int)≠0 by omega)) (j8 (show ((V:Nat):Int)≠0 by omega)),OZ,Oy,Pm,OZ]
def wN{z W:Int}{D A B:Nat}(hz:z.natAbs<=A*D)(hW:0<W):(z*W).natAbs<=(A+B)*(D*W.toNat):=by
 rw[OO,<- QI]
 refine OP ?_ (by omega)
 rw[Nat.add_mul]
 omega
def xv{z W:Int}{D B:Nat}(hz:0<z/\z<=B*D)(hW:0<W):0<z*W/\z*W<=((B:Nat):Int)*((D*W.toNat:Nat):Int):=by
 refine⟨Int.mul_pos hz.1 hW,?_⟩
 rw[Pm,<- OU,QF (by omega)]
 exact Int.mul_le_mul_of_nonneg_right hz.2 (by omega)
def Rp.parts{D A B:Nat}{b b':Bx}{way:Str}{ws:List Int}(r:Rp D A B b)(hw:∀w∈ws,1<=w)(h:b'∈a0 b way ws):Rp (D*ws.sum.toNat) (A+B) B b':=by
 obtain⟨pos,⟨zl,el,bl⟩,⟨zt,et,bt⟩,⟨zw,ew,bw⟩,⟨zh,eh,bh⟩⟩:=r
 have key:∀p:Rat×Rat,∀s l:Rat,p∈shL s l ws.sum 0 ws->0<ws.sum/\∃a' w:Int,0<=a'/\a'<=ws.sum/\1<=w/\w<=ws.sum/\p=(s+l*((a':Rat)/(ws.sum:Rat)),l*((w:Rat)/(ws.sum:Rat))):=λp s l hp=>by
  obtain⟨a',w,h1,h2,h3,h4,h5⟩:=tS ws 0 (by omega) hw (by omega) hp
  exact⟨by omega,a',w,h1,h2,h3,h4,h5⟩
 unfold a0 at h
 split at h
 ·obtain⟨p,hp,rfl⟩:=Oi.mp h
  obtain⟨hS,a',w,h1,h2,h3,h4,rfl⟩:=key p _ _ hp
  have hV:0<D*ws.sum.toNat:=O7 pos (by omega)
  refine⟨hV,?_,⟨zt*ws.sum,by show b.t=_;rw[et];exact mF pos hS,wN bt hS⟩,?_,⟨zh*ws.sum,by show b.h=_;rw[eh];exact mF pos hS,xv bh hS⟩⟩
  ·show ∃z:Int,b.l+b.w*_=_/\_
   rw[el,ew]
   exact CS pos bl bw ⟨h1,h2⟩ hS
  ·show ∃z:Int,b.w*_=_/\_
   rw[ew]
   exact Cm pos bw ⟨h3,h4⟩
 ·obtain⟨p,hp,rfl⟩:=Oi.mp h
  obtain⟨hS,a',w,h1,h2,h3,h4,rfl⟩:=key p _ _ hp
  have hV:0<D*ws.sum.toNat:=O7 pos (by omega)
  refine⟨hV,⟨zl*ws.sum,by show b.l=_;rw[el];exact mF pos hS,wN bl hS⟩,?_,⟨zw*ws.sum,by show b.w=_;rw[ew];exact mF pos hS,xv bw hS⟩,?_⟩
  ·show ∃z:Int,b.t+b.h*_=_/\_
   rw[et,eh]
   exact CS pos bt bh ⟨h1,h2⟩ hS
  ·show ∃z:Int,b.h*_=_/\_
   rw[eh]
   exact Cm pos bh ⟨h3,h4⟩
def Rp.ok{D A B:Nat}{b:Bx}(r:Rp D A B b):b.Ok:=by
 obtain⟨pos,_,_,⟨zw,ew,bw⟩,⟨zh,eh,bh⟩⟩:=r
 exact⟨by rw[ew];exact sd bw.1 (by omega),by rw[eh];exact sd bh.1 (by omega)⟩
def Rp.sz{D A B n:Nat}{b:Bx}(r:Rp D A B b)(hA:A*D<2^n)(hB:B*D<2^n)(hD:D<2^n):b.Sz n:=by
 obtain⟨pos,⟨zl,el,bl⟩,⟨zt,et,bt⟩,⟨zw,ew,bw⟩,⟨zh,eh,bh⟩⟩:=r
 have sD:Sm n ((D:Nat):Int):=by show ((D:Nat):Int).natAbs<2^n;omega
 have k:∀z:Int,z.natAbs<2^n->Sz n ((z:Rat)/((D:Int):Rat)):=λz hz=>Sz.div (by omega) hz sD n (p_ _) (p_ _)
 have hb:∀z:Int,0<z/\z<=B*D->z.natAbs<2^n:=λz hz=>by
  have h1:z<=((B*D:Nat):Int):=by rw[Pm];exact hz.2
  omega
 exact⟨by rw[el];exact k zl (by omega),by rw[et];exact k zt (by omega),by rw[ew];exact k zw (hb zw bw),by rw[eh];exact k zh (hb zh bh)⟩
theorem nz{ws:List Int}:∀{l:List Nat},(∀k∈l,1<=ws.getD k 0)->(l.length:Int)<=wtA ws l
 | [],_=>by simp [wtA]
 |
  k::l,h=>by
  have h1:=h k (o_ ..)
  have h2:=nz (l:=l) λj hj=>h j (m_ _ hj)
  unfold wtA at h2 ⊢
  rw[s_,Ov,x_]
  omega
theorem uz{ws:List Int}{n m:Nat}:∀{ts:List AT}{bs:List Bx},(∀t∈ts,∀b∈bs,AT.lay ws n m t b)->AT.layL ws n m ts bs
 | [],_,_=>by rw[AT.layL];trivial;intro t ts b bs z;cases z
 |t::ts,[],_=>by rw[AT.layL];trivial;intro t ts b bs _ z;cases z
 |
  t::ts,b::bs,h=>by
  rw[AT.layL]
  exact⟨h t (o_ ..) b (o_ ..),uz λu hu c hc=>h u (m_ _ hu) c (m_ _ hc)⟩
def GK{ws:List Int}{n m B:Nat}(t:AT):∀(b:Bx) (D A:Nat),Rp D A B b->B<=A->1<=A->(A+t.dep*B)*(D*2^(m*t.dep))<2^n->t.ok=true->(∀k∈t.lvs,1<=ws.getD k 0)->wtT ws t<2^m->t.lvs.length<=40->AT.lay ws n m t b:=by
 induction t using AT.ind with
 |h1 k=>intros;rw[AT.lay];trivial
 |
  h2 w ts ih=>
  intro b D A r hBA hA hn ho hw hm hl
  have ho':=ho
  rw[AT.ok,n_] at ho'
  have h2:2<=ts.length:=Om ho'.1
  have hk:=AT.okL_mem.mp ho'.2
  rw[AT.lvs] at hw hl
  have hws:∀t∈ts,∀k∈t.lvs,1<=ws.getD k 0:=λt ht k hk'=>hw k (AT.lvsL_mem.mpr ⟨t,ht,hk'⟩)
  have hone:∀t∈ts,1<=wtT ws t:=λt ht=>by
   have h1:=eJ (hk t ht)
   have h2:=nz (hws t ht)
   unfold wtT
   omega
  have hsum:wtT ws (.nd w ts)=(ts.map (wtT ws)).sum:=by
   unfold wtT
   rw[AT.lvs]
   exact sG ws ts
  rw[hsum] at hm
  have hpos:0<=(ts.map (wtT ws)).sum:=by
   rw[<- sG]
   have:=nz hw
   omega
  rw[AT.dep] at hn
  generalize hq:AT.depL ts=q at *
  have hD1:1<=2^(m*(q+1)):=Nat.one_le_two_pow
  have hAle:A*D<=(A+(q+1)*B)*(D*2^(m*(q+1))):=OP (by omega) (Nat.le_mul_of_pos_right _ hD1)
  have hDle:D<=A*D:=Nat.le_mul_of_pos_left _ hA
  have hBle:B*D<=A*D:=QC _ hBA
  have tl:ts.length<=40:=by
   rw[AT.lvsL_flat] at hl
   have:ts.length<=((ts.map AT.lvs).flatten).length:=dJ λt ht=>eJ (hk t ht)
   omega
  rw[AT.lay]
  refine⟨r.ok,r.sz (by omega) (by omega) (by omega),λz=>by rw[z] at h2;simp at h2,tl,hone,by
   show (ts.map (wtT ws)).sum.natAbs<2^m
   have:(((ts.map (wtT ws)).sum.natAbs:Nat):Int)<((2^m:Nat):Int):=by
    rw[Int.natAbs_of_nonneg hpos]
    push_cast
    exact hm
   omega,uz λt ht c hc=>?_⟩
  have rp:=r.parts (λx hx=>by obtain⟨u,hu,rfl⟩:=Oi.mp hx;exact hone u hu) hc
  have hdt:t.dep<=q:=by rw[<- hq];exact AT.depL_le.mp (p_ _) t ht
  have hS:(ts.map (wtT ws)).sum.toNat<=2^m:=by
   have:(((ts.map (wtT ws)).sum.toNat:Nat):Int)<((2^m:Nat):Int):=by
    rw[QF hpos]
    push_cast
    exact hm
   omega
  refine ih t ht c _ (A+B) rp (by omega) (by omega) ?_ (hk t ht) (hws t ht) ?_ (by have:=AT.lvs_le ht;omega)
  ·refine PJ (OP ?_ ?_) hn
   ·have:t.dep*B<=q*B:=QC _ hdt
    rw[Nat.add_mul,Nat.one_mul]
    omega
   ·rw[QI]
    refine PC _ ?_
    have e:2^(m*(q+1))=2^m*2^(m*q):=by rw[<- Qa];congr 1;rw[Nat.mul_add,Nat.mul_one,Nat.add_comm]
    rw[e]
    exact OP hS (P4 (by decide) (PC _ hdt))
  ·refine Int.lt_of_le_of_lt ?_ hm
   have aux:∀us:List AT,(∀u∈us,0<=wtT ws u)->t∈us->wtT ws t<=(us.map (wtT ws)).sum:=by
    intro us
    induction us with
    |nil=>intro _ h;exact nomatch h
    |
     cons u us ih=>
     intro h0 hm
     have nn:∀us:List AT,(∀u∈us,0<=wtT ws u)->0<=(us.map (wtT ws)).sum:=by
      intro us
      induction us with
      |nil=>intro _;simp
      |cons v us ih=>intro h;rw[s_,Ov];have:=h v (o_ ..);have:=ih λu hu=>h u (m_ _ hu);omega
     rw[s_,Ov]
     rcases H_.mp hm with rfl |hm
     ·have:=nn us λu hu=>h0 u (m_ _ hu)
      omega
     ·have h1:=ih (λu hu=>h0 u (m_ _ hu)) hm
      have h2:=h0 u (o_ ..)
      omega
   exact aux ts (λu hu=>by have:=hone u hu;omega) ht
mutual
noncomputable def vsz:Val->Nat
 |.tup xs=>aL xs+1
 |_=>1
noncomputable def aL:List Val->Nat
 | []=>0
 |v::vs=>vsz v+aL vs
end
def iX(v:Val):1<=vsz v:=by cases v <;> simp [vsz]
theorem dO:∀a b:List Val,aL (a++b)=aL a+aL b
 | [],b=>by simp [aL]
 |v::a,b=>by rw[Pw,aL,aL,dO a b];omega
theorem eG:∀l:List Val,l.length<=aL l
 | []=>p_ _
 |v::l=>by have:=iX v;have:=eG l;rw[aL,x_];omega
mutual
noncomputable def knA:Val->Bool
 |.tup xs=>bJ xs
 |v=>knV v
noncomputable def bJ:List Val->Bool
 | []=>true
 |v::vs=>knA v&&bJ vs
end
theorem bZ:∀{l:List Val},bJ l=true ↔ ∀v∈l,knA v=true
 | []=>by simp [bJ]
 |v::l=>by rw[bJ,n_,bZ (l:=l),List.forall_mem_cons]
def dH{v:Val}(h:knA v=true):knV v=true:=by
 cases v <;> first |rfl |(simp only[knA] at h;exact h)
noncomputable def fo(w:Str):Bool:=decide (w="across" \/ w="down")
mutual
def lvV:Val->Option (List Int)
 |.int i=>some [i]
 |.tup [.str w,.tup ts]=>if fo w=true/\2<=ts.length then aS ts else none
 |_=>none
def aS:List Val->Option (List Int)
 | []=>some []
 |v::vs=>match lvV v,aS vs with
  |some a,some b=>some (a++b)
  |_,_=>none
end
theorem gF:∀a b:List Val,aS (a++b)=match aS a,aS b with |some x,some y=>some (x++y) |_,_=>none
 | [],b=>by rw[Ou,aS];cases aS b <;> rfl
 |
  v::a,b=>by
  rw[Pw,aS,aS,gF a b]
  cases lvV v <;> cases aS a <;> cases aS b <;> simp
def gP(v:Val):aS [v]=lvV v:=by
 rw[aS,aS]
 cases lvV v <;> simp
def brV:Val->Option (List Val)
 |.tup [.str w,.tup ts]=>if fo w=true/\2<=ts.length then some ts else none
 |_=>none
def pD{v:Val}{ts:List Val}(h:brV v=some ts):lvV v=aS ts/\aL ts<vsz v/\∃w,fo w=true/\2<=ts.length/\v=.tup [.str w,.tup ts]:=by
 unfold brV at h
 split at h
 ·rename_i w us
  split at h
  ·rename_i hc
   cases h
   refine⟨by rw[lvV,if_pos hc],?_,w,hc.1,hc.2,rfl⟩
   simp only[vsz,aL]
   omega
  ·cases h
 ·cases h
def l8{v:Val}(h:brV v=none):lvV v=match v with |.int i=>some [i] |_=>none:=by
 cases v with
 |int i=>rw[lvV]
 |
  tup xs=>
  show lvV (.tup xs)=none
  unfold lvV
  split
  ·rename_i e;cases e
  ·rename_i w ts e
   cases e
   rw[if_neg]
   intro hc
   simp only[brV,if_pos hc] at h
   cases h
  ·rfl
 |_=>simp [lvV]
noncomputable def rgI(n:Nat):List Int:=(List.range n).map λk:Nat=>(k:Int)
def nI{n:Nat}{i:Int}:i∈rgI n ↔ 0<=i/\i<n:=by
 unfold rgI
 rw[Oi]
 constructor
 ·rintro⟨k,hk,rfl⟩
  have:=Pe.mp hk
  omega
 ·intro h
  exact⟨i.toNat,Pe.mpr (by omega),by omega⟩
def AJ(n:Nat):rgI (n+1)=rgI n++[(n:Int)]:=by unfold rgI;rw[List.range_succ,Oo];rfl
theorem vn:∀(n:Nat) (l:List Int),l.Nodup->(∀i∈l,0<=i/\i<n)->l.length<=n
 |
  0,l,_,h=>by
  cases l with
  |nil=>exact p_ _
  |cons i l=>have:=h i (o_ ..);omega
 |
  n+1,l,nd,h=>by
  by_cases hm:(n:Int)∈l
  ·have q:=vn n (l.erase n) (nd.erase _) λi hi=>by
    have h1:=h i (List.mem_of_mem_erase hi)
    have h2:i≠n:=λz=>by rw[z] at hi;exact (List.Nodup.not_mem_erase nd) hi
    omega
   rw[Qf hm] at q
   omega
  ·have:=vn n l nd λi hi=>by
    have h1:=h i hi
    have h2:i≠n:=λz=>by rw[z] at hi;exact hm hi
    omega
   omega
theorem rN:∀(n:Nat) (l:List Int),l.Nodup->(∀i∈l,0<=i/\i<n)->l.length=n->l.Perm (rgI n)
 |0,l,_,_,hl=>by rw[OL.mp hl];exact List.Perm.refl _
 |
  n+1,l,nd,h,hl=>by
  have hm:(n:Int)∈l:=by
   by_cases hm:(n:Int)∈l
   ·exact hm
   ·have:=vn n l nd λi hi=>by
     have h1:=h i hi
     have h2:i≠n:=λz=>by rw[z] at hi;exact hm hi
     omega
    omega
  have q:=rN n (l.erase n) (nd.erase _) (λi hi=>by
   have h1:=h i (List.mem_of_mem_erase hi)
   have h2:i≠n:=λz=>by rw[z] at hi;exact (List.Nodup.not_mem_erase nd) hi
   omega) (by rw[Qf hm];omega)
  rw[AJ]
  exact (List.perm_cons_erase hm).trans ((q.cons _).trans (List.perm_append_singleton _ _).symm)
def Ji(n:Nat):(rgI n).Nodup:=by
 unfold rgI List.Nodup
 rw[PX]
 exact PQ (λh z=>h (by omega)) List.nodup_range
def gz{n:Nat}{l:List Int}:l.Perm (rgI n) ↔ l.Nodup/\(∀i∈l,0<=i/\i<n)/\l.length=n:=by
 constructor
 ·intro p
  exact⟨p.nodup_iff.mpr (Ji n),λi hi=>nI.mp (p.mem_iff.mp hi),by rw[p.length_eq];unfold rgI;simp⟩
 ·rintro⟨h1,h2,h3⟩
  exact rN n l h1 h2 h3
def bS(n:Nat)(v:Val):Bool:=match lvV v with
 |some l=>decide (l.Perm (rgI n))
 |none=>false
mutual
noncomputable def icn:Val->Nat
 |.int _=>1
 |.tup xs=>bo xs
 |_=>0
noncomputable def bo:List Val->Nat
 | []=>0
 |v::vs=>icn v+bo vs
end
theorem jb:∀a b:List Val,bo (a++b)=bo a+bo b
 | [],b=>by simp [bo]
 |v::a,b=>by rw[Pw,bo,bo,jb a b];omega
def IM:∀(N:Nat) (v:Val) (ns:List Int),vsz v<=N->lvV v=some ns->ns.length<=icn v:=by
 intro N
 induction N with
 |zero=>intro v ns h;have:=iX v;omega
 |
  succ N ih=>
  intro v ns h e
  cases hb:brV v with
  |
   some ts=>
   obtain⟨l1,l2,w,_,_,rfl⟩:=pD hb
   rw[l1] at e
   have:∀(l:List Val) (ns:List Int),aL l<=N->aS l=some ns->ns.length<=bo l:=by
    intro l
    induction l with
    |nil=>intro ns _ e;rw[aS] at e;cases e;exact Oq _
    |
     cons x l ih2=>
     intro ns hl e
     rw[aL] at hl
     rw[bo]
     rw[aS] at e
     cases h1:lvV x with
     |none=>rw[h1] at e;cases e
     |
      some a=>
      cases h2:aS l with
      |none=>rw[h1,h2] at e;cases e
      |
       some b=>
       rw[h1,h2] at e
       cases e
       have:=ih x a (by omega) h1
       have:=ih2 b (by omega) h2
       rw[l_]
       omega
   have:=this ts ns (by omega) e
   simp only[icn,bo]
   omega
  |
   none=>
   rw[l8 hb] at e
   cases v <;> first |(cases e;done) |(cases e;simp [icn])
def El{w:Str}(h:fo w=true):∃b,w=wy b:=by
 rcases Om h with rfl |rfl
 ·exact⟨true,rfl⟩
 ·exact⟨false,rfl⟩
def E6:∀(N:Nat) (v:Val) (ns:List Int),vsz v<=N->lvV v=some ns->(∀i∈ns,0<=i)->∃t:AT,t.ok=true/\v=atV t/\ns=t.lvs.map λk:Nat=>(k:Int):=by
 intro N
 induction N with
 |zero=>intro v ns h;have:=iX v;omega
 |
  succ N ih=>
  intro v ns h e hp
  cases hb:brV v with
  |
   some ts=>
   obtain⟨l1,l2,w,hw,h2,rfl⟩:=pD hb
   rw[l1] at e
   have:∀(l:List Val) (ns:List Int),aL l<=N->aS l=some ns->(∀i∈ns,0<=i)->∃ts:List AT,ts.length=l.length/\(∀t∈ts,t.ok=true)/\l=ts.map atV/\ns=(AT.lvsL ts).map λk:Nat=>(k:Int):=by
    intro l
    induction l with
    |nil=>intro ns _ e _;rw[aS] at e;cases e;exact⟨[],rfl,(λ_ h=>nomatch h),rfl,rfl⟩
    |
     cons x l ih2=>
     intro ns hl e hp
     rw[aL] at hl
     rw[aS] at e
     cases h1:lvV x with
     |none=>rw[h1] at e;cases e
     |
      some a=>
      cases h2:aS l with
      |none=>rw[h1,h2] at e;cases e
      |
       some b=>
       rw[h1,h2] at e
       cases e
       obtain⟨t,t1,t2,t3⟩:=ih x a (by omega) h1 λi hi=>hp i (OX _ hi)
       obtain⟨ts,s1,s2,s3,s4⟩:=ih2 b (by omega) h2 λi hi=>hp i (K_ _ hi)
       refine⟨t::ts,by rw[x_,x_,s1],λu hu=>?_,by rw[s_,<- t2,<- s3],by rw[AT.lvsL,Oo,<- t3,<- s4]⟩
       rcases H_.mp hu with rfl |hu
       ·exact t1
       ·exact s2 u hu
   obtain⟨us,s1,s2,s3,s4⟩:=this ts ns (by omega) e hp
   obtain⟨b,rfl⟩:=El hw
   refine⟨.nd b us,?_,?_,by rw[AT.lvs];exact s4⟩
   ·rw[AT.ok,n_]
    exact⟨F_ (by omega),AT.okL_mem.mpr s2⟩
   ·unfold atV
    rw[AT.val,AT.vals_map,s3]
    rfl
  |
   none=>
   rw[l8 hb] at e
   cases v <;> first |(cases e;done) |skip
   rename_i i
   cases e
   have:=hp i (by simp)
   exact⟨.lf i.toNat,rfl,by show Val.int i=.int ((i.toNat:Nat):Int);congr 1;omega,by rw[AT.lvs];simp;omega⟩
mutual
theorem AT.ok_dep:∀t:AT,t.ok=true->t.dep<=t.lvs.length
 |.lf _,_=>by simp [AT.dep,AT.lvs]
 |
  .nd w ts,h=>by
  rw[AT.ok,n_] at h
  have h2:=Om h.1
  have:=AT.okL_dep ts h.2
  rw[AT.dep,AT.lvs]
  omega
theorem AT.okL_dep:∀ts:List AT,AT.okL ts=true->AT.depL ts+ts.length<=(AT.lvsL ts).length+1
 | [],_=>by simp [AT.depL,AT.lvsL]
 |
  t::ts,h=>by
  rw[AT.okL,n_] at h
  have h1:=AT.ok_dep t h.1
  have h2:=AT.okL_dep ts h.2
  have h3:=eJ h.1
  have h4:ts.length<=(AT.lvsL ts).length:=by
   have:=dJ (f:=AT.lvs) (l:=ts) λt ht=>eJ (AT.okL_mem.mp h.2 t ht)
   rw[AT.lvsL_flat];exact this
  rw[AT.depL,AT.lvsL,l_,x_]
  have:AT.depL ts<=(AT.lvsL ts).length:=by
   cases ts with
   |nil=>simp [AT.depL]
   |cons u us=>rw[x_] at h2;omega
  omega
end
def jM(t:AT):vsz (atV t)<=3*t.cnt/\icn (atV t)=t.lvs.length/\knA (atV t)=true:=by
 induction t using AT.ind with
 |h1 k=>exact⟨by simp [atV,AT.val,vsz,AT.cnt],by simp [atV,AT.val,icn,AT.lvs],rfl⟩
 |
  h2 w ts ih=>
  have av:atV (.nd w ts)=.tup [.str (wy w),.tup (ts.map atV)]:=by unfold atV;rw[AT.val,AT.vals_map]
  have key:∀ts:List AT,(∀t∈ts,vsz (atV t)<=3*t.cnt/\icn (atV t)=t.lvs.length/\knA (atV t)=true)->aL (ts.map atV)<=3*AT.cntL ts/\bo (ts.map atV)=(AT.lvsL ts).length/\bJ (ts.map atV)=true:=by
   intro ts
   induction ts with
   |nil=>intro _;simp [aL,bo,AT.lvsL,AT.cntL,bJ]
   |
    cons t ts ih2=>
    intro h
    obtain⟨a1,a2,a3⟩:=h t (o_ ..)
    obtain⟨b1,b2,b3⟩:=ih2 λu hu=>h u (m_ _ hu)
    rw[s_,aL,bo,bJ,AT.cntL,AT.lvsL,l_,a3,b3]
    exact⟨by omega,by omega,rfl⟩
  obtain⟨k1,k2,k3⟩:=key ts ih
  rw[av]
  refine⟨?_,?_,?_⟩
  ·simp only[vsz,aL,AT.cnt];omega
  ·simp only[icn,bo,AT.lvs];omega
  ·simp only[knA,bJ,k3];rfl
end L3
set_option maxHeartbeats 4000000
namespace KK
open PySem PySem.Spec PyProof.Rows L2 L3
def top(i:Nat):Stmt:=PySem.Challenge.pw_weightrooms_k11_what_is_a_tree.main.body.getD i (.Pass ⟨0,0,0,0⟩)
noncomputable def aE:i9:=[((.b "NoneType"),(.o "NoBox"),false),((.o "NoFraction"),(.o "NoBox"),false),((.o "NoBox"),(.o "NoBox"),true),((.o "NoWay"),(.o "NoBox"),false),((.o "NoWeights"),(.o "NoBox"),false),((.o "TooMany"),(.o "NoBox"),false),((.o "NoTree"),(.o "NoBox"),false),((.b "NoneType"),(.o "NoRule"),false),((.o "NoFraction"),(.o "NoRule"),false),((.o "NoBox"),(.o "NoRule"),false),((.o "NoWay"),(.o "NoRule"),false),((.o "NoWeights"),(.o "NoRule"),false),((.o "TooMany"),(.o "NoRule"),false),((.o "NoTree"),(.o "NoRule"),false),((.b "NoneType"),(.o "NoText"),false),((.o "NoFraction"),(.o "NoText"),false),((.o "NoBox"),(.o "NoText"),false),((.o "NoWay"),(.o "NoText"),false),((.o "NoWeights"),(.o "NoText"),false),((.o "TooMany"),(.o "NoText"),false),((.o "NoTree"),(.o "NoText"),false),((.b "NoneType"),(.o "NoTree"),false),((.o "NoFraction"),(.o "NoTree"),false),((.o "NoBox"),(.o "NoTree"),false),((.o "NoWay"),(.o "NoTree"),false),((.o "NoWeights"),(.o "NoTree"),false),((.o "TooMany"),(.o "NoTree"),false),((.o "NoTree"),(.o "NoTree"),true),((.b "NoneType"),(.o "NoWay"),false),((.o "NoFraction"),(.o "NoWay"),false),((.o "NoBox"),(.o "NoWay"),false),((.o "NoWay"),(.o "NoWay"),true),((.o "NoWeights"),(.o "NoWay"),false),((.o "TooMany"),(.o "NoWay"),false),((.o "NoTree"),(.o "NoWay"),false),((.b "NoneType"),(.o "NoWeights"),false),((.o "NoFraction"),(.o "NoWeights"),false),((.o "NoBox"),(.o "NoWeights"),false),((.o "NoWay"),(.o "NoWeights"),false),((.o "NoWeights"),(.o "NoWeights"),true),((.o "TooMany"),(.o "NoWeights"),false),((.o "NoTree"),(.o "NoWeights"),false),((.b "NoneType"),(.o "TooMany"),false),((.o "NoFraction"),(.o "TooMany"),false),((.o "NoBox"),(.o "TooMany"),false),((.o "NoWay"),(.o "TooMany"),false),((.o "NoWeights"),(.o "TooMany"),false),((.o "TooMany"),(.o "TooMany"),true),((.o "NoTree"),(.o "TooMany"),false),((.b "NoneType"),(.b "bool"),false),((.b "bool"),(.b "bool"),true),((.b "int"),(.b "bool"),false),((.b "str"),(.b "bool"),false),((.b "tuple"),(.b "bool"),false),((.b "list"),(.b "bool"),false),((.b "dict"),(.b "bool"),false),((.b "NoneType"),(.b "int"),false),((.b "bool"),(.b "int"),true),((.b "int"),(.b "int"),true),((.b "str"),(.b "int"),false),((.b "tuple"),(.b "int"),false),((.b "list"),(.b "int"),false),((.b "dict"),(.b "int"),false),((.b "NoneType"),(.b "list"),false),((.b "bool"),(.b "list"),false),((.b "int"),(.b "list"),false),((.b "str"),(.b "list"),false),((.b "tuple"),(.b "list"),false),((.b "list"),(.b "list"),true),((.b "dict"),(.b "list"),false),((.b "NoneType"),(.b "str"),false),((.b "bool"),(.b "str"),false),((.b "int"),(.b "str"),false),((.b "str"),(.b "str"),true),((.b "tuple"),(.b "str"),false),((.b "list"),(.b "str"),false),((.b "dict"),(.b "str"),false),((.b "NoneType"),(.b "tuple"),false),((.b "bool"),(.b "tuple"),false),((.b "int"),(.b "tuple"),false),((.b "str"),(.b "tuple"),false),((.b "tuple"),(.b "tuple"),true),((.b "list"),(.b "tuple"),false),((.b "dict"),(.b "tuple"),false)]
noncomputable def fZ:List Str:=["NoFraction", "NoBox", "NoWay", "NoWeights", "TooMany", "NoTree"]
noncomputable def iH:D:=(.int 40)
noncomputable def yw:D:=(.tup [(.str "across"),(.str "down")])
abbrev tb:Tb:=⟨["RoomError", "NoFraction", "NoBox", "NoWay", "NoWeights", "TooMany", "NoTree", "NoRule", "NoText"],["NoFraction", "NoBox", "NoWay", "NoWeights", "TooMany", "NoTree"],[("RoomError",fZ)],aE,[("MOST_WEIGHTS",iH),("WAYS",yw)]⟩
abbrev TT(K:W.Frag)(mg:Ra):Prop:=Ty tb top [11,12,13,14,15,16,20,21,22,23,24,25,26,27,29,30,31,32,33,34,35,37,38,40,41,42,43,44,45,46,47,48,49] K mg
section
variable{P:Program}{w:World}{K:W.Frag}{mg:Ra}{base:Heap}
def ff:PEx:=rG iH (.int 40) (λ_ _=>.int _)
def md(e:E3):ff.G e=.ok (.val (.int 40)) e:=rfl
def nR:PEx:=rG yw (.tup [(.str "across"),(.str "down")]) (λ_ _=>.tup (.cons (.str _) (.cons (.str _) .nil)))
def Du(e:E3):nR.G e=.ok (.val (.tup [(.str "across"),(.str "down")])) e:=rfl
def dI(s:String):Lean.TSyntax `term:=⟨Lean.mkIdent (s.replace "%" "").toName⟩
def dA(f:String)(a:Lean.TSyntax `term):Lean.TSyntax `term:=Lean.Syntax.mkApp (dI f) #[a]
def dF:List (Lean.TSyntax `tactic)->Lean.MacroM (Lean.TSyntax `tactic)
 | []=>`(tactic|fail)
 |a::l=>do `(tactic|first | $a:tactic | $(<- dF l):tactic)
def dL(f:String->Lean.MacroM (Lean.TSyntax `tactic)):List String->Lean.MacroM (List (Lean.TSyntax `tactic))
 | []=>pure []
 |s::l=>do return (<- f s)::(<- dL f l)
set_option hygiene false in
def dQ(ap:String->Lean.TSyntax `term)(s:String):Lean.MacroM (Lean.TSyntax `tactic):=match (s.splitOn ";").map ap with
 | [d,c,a,b]=>`(tactic|((case d=>with_reducible exact $d);(case c=>exact $c);(case a=>exact $a);(case b=>exact $b)))
 |d::c::_=>`(tactic|((case d=>with_reducible exact $d);(case c=>exact $c)))
 |_=>`(tactic|fail)
set_option hygiene false in
def dR(ap:String->Lean.TSyntax `term)(g:String):Lean.MacroM (Lean.TSyntax `tactic):=match g.splitOn ":" with
 | [r]=>`(tactic|refine $(ap r))
 |r::l=>do `(tactic|(refine' $(ap r);$(<- dF (<- dL (dQ ap) l)):tactic))
 | []=>`(tactic|fail)
set_option hygiene false in
local macro_rules | `('d')=>do
 let h <- `(?_)
 let u <- `(_)
 let R:=dI "rfl"
 let qA <- `(?a)
 let qB <- `(?b)
 let qC <- `(?c)
 let qD <- `(?d)
 let qp <- `((λ_ _=>rfl))
 let ap:=λ(s:String)=>let w:=s.splitOn " ";Lean.Syntax.mkApp (dI (w.getD 0 "")) (((w.getD 1 "").toList.map λc=>([('1',dI "hr.u100"),('8',dI "hr.u180"),('A',qA),('B',qB),('C',qC),('D',qD),('K',dI "T.k"),('_',u),('b',dA "%boT" R),('e',dA "T.e" R),('f',dA "%boF" R),('g',dA "T.g" R),('k',dA "T.n" R),('m',dA "T.m" R),('n',dI "nd"),('o',dI "%own1"),('p',qp),('r',R),('t',dI "T"),('u',dA "%Nf" (dI "hr")),('v',dA "%yG" u),('x',dA "T.x" R),('z',dI "%rz1")].lookup c).getD h).toArray)
 let rd:=λ(s:String)=>dL (dR ap) (s.splitOn "|")
 let e0 <- `(tactic|refine zcF (by $(<- dF (<- rd "%ih|se t|sQ t|jB t_|oV t|jV t_|vI t|o8 t|sR t|tF t|o7 t|ie t_|sX t|jA t_|ma t|jJ t|lY t|vp t|oY t|oQ t|kI t|nZ t|o6 t|sH t|yu t|wV t|vv t|mi t|o9 t|qb t|mq t_|rn t|oZ t")):tactic) hr ?_)
 `(by repeat' $(<- dF ((<- rd "%yG _|G4|Jp|bW ??|aG ??|dU ?|zsS _n?|pE ???|eV ?|su ?|rZ ?|Hq|Oe|FN|J3 ?")++[e0]++(<- rd "%LH CD??:CW;ixK r|GD CD??:wk;zW r8:C3;C2:Mr;neDK r8:NL;N7:G5;Br:C1;CT:Gh;Ig u:HL;FY r:J4;Ka|gC CDrkf?:Ko;NH r:Ee;y0 r:EE;tH:yU;rq:Jg;Bd:yg;oD rr:Dk;yx r:IP K;NT r|LC CD??:Kw;FA:Ht;Hi r:Gf;G6:Ii;Az:Hz;Ge:Gs;He:GB;JN|jW CDrkb?:EL;JH r:HG;xu|yt CD??:MC;inK r:C3;C2:wk;zW r8:C1;CT:Mm;JZ|EF rABCD??:xo;HS r1;PySem.F.slot_list_count;PySem.F.type_list_count:zd;Kf r1;PySem.F.slot_list_index;PySem.F.type_list_index|KS rABCDv?:xq;yW;PySem.F.slot_list_insert;PySem.F.type_list_insert:wz;vZ r;PySem.F.slot_list_extend;PySem.F.type_list_extend:yM;oq;PySem.F.slot_list_append;PySem.F.type_list_append|FT rABCDv:Ga;Gy;PySem.F.slot_list_pop;PySem.F.type_list_pop|NV CD?:Ki;F4|J5 n?CD:F2;IZ|FD ?v?CD:Fl;AD:BP;zC u|ZG.weak ?|zt_w ?|JY rv?|KR ??|N6|zL u??p|MD rg|Iu re|Lp ???|Ky|JW ?|KQ ?|En rkb|A6 r???|NM rkb|zgN _n|GQ rr?|Bf ??|EI|xJ rk?|GX r?|Gz rrk?|Ed|EY ?|Ef ??|Dh ?|JU or???|G9 n?|zI rzrmx?|Fh|zH o??|rj ?|Bp r?|Kn ??|Dc ?|My ??|J7 ?"))):tactic)
def jz:PSt:=
 (ak (xIf (qOf (pOp bEq (pFn bA (aa (af 0) ag)) (ah 0))) (aA (aB (aa (ah 0) (aa (ah 0) (aa (af 1) ag))))) xNx)
  (aA (aB (aa (pOp bIx (af 0) (pOp dN (af 1) (pFn bA (aa (af 0) ag)))) (aa (ah 0) (aa (af 1) ag))))))
def c5:PFn:=fnP [false,false] 2 jz
def tI:c5.ms=[false,false]:=rfl
def se(T:TT K mg):Callee P w K mg base "_law_feed" 1 ["_law_script", "_law_k"] (spD K mg 2 c5.F):=by
 unfold c5 jz
 exact bF (T.d.get 37 rfl) (aH (N:=["_law_script", "_law_k"]) (by decide)) (λ_ _ _ _ _ _=>ar2 λ_ _=>rfl) λnd f cdv A outer s H E hr=>'d'
def js:PSt:=
 (ak (sU 0 seL (ah 1) (pOp aW (pOp bIx (af 0) (ah 1)) (ah 1)))
  (ak (xIf (qOf (pOp bGe (pOp bIx (af 0) (ah 0)) (pOp ja (ah 10) (ah 18)))) (ak (aC false 2 (pOp dN (pOp bIx (af 0) (ah 0)) (af 1)))
  (ak (sU 0 seL (ah 0) (pOp rW (pOp bIx (af 0) (ah 0)) (af 1)))
  (aA (af 2)))) xNx)
  (ak (aC false 3 (pOp aW (pOp aW (pOp dN (pOp bIx (af 0) (ah 0)) (ah 1000003)) (pOp fD (ah 7919) (pOp bIx (af 0) (ah 2)))) (pOp fD (ah 104729) (pOp bIx (af 0) (ah 1)))))
  (ak (aC false 3 (pOp dN (pOp fD (af 3) (ah 48271)) (ah 2147483647)))
  (aA (pOp dN (pOp dN (pOp fD (af 3) (pOp aW (pOp dN (af 3) (ah 65521)) (pOp bIx (af 0) (ah 1)))) (ah 2147483629)) (af 1)))))))
def ar:PFn:=fnP [true,false] 4 js
def tj:ar.ms=[true,false]:=rfl
def sQ(T:TT K mg):Callee P w K mg base "_law_next" 1 ["_law_feed_here", "_law_many"] (spD K mg 2 ar.F):=by
 unfold ar js
 exact bF (T.d.get 38 rfl) (aH (N:=["_law_feed_here", "_law_many", "_law_digit", "_law_mixed"]) (by decide)) (λ_ _ _ _ _ _=>ar2 λ_ _=>rfl) λnd f cdv A outer s H E hr=>'d'
def c7(s:PFx [true,false]):PSt:=
 (ak (xIf (qOf (pOp bEq (pFn bA (aa (af 1) ag)) (ah 1))) (aA (pOp bIx (af 1) (ah 0))) xNx)
  (ak (aC false 2 (pOp aW (ah 2) (ai ar (aa (af 0) (aa (pFn mR (aa (ah 3) (aa (pOp iw (pFn bA (aa (af 1) ag)) (ah 1)) ag))) ag)))))
  (ak (vA (bU (pSl (af 1) oN (oS (af 2)))) (bU (pSl (af 1) (oS (af 2)) oN)) 3 4 (ai ar (aa (af 0) (aa (af 2) ag))) (by decide))
  (aA (aq (aa (pOp bIx (aB (aa (bz "across") (aa (bz "down") ag))) (ai ar (aa (af 0) (aa (ah 2) ag)))) (aa (pFn kE (aa (pLC (bU (af 3)) [none,some 0] (by decide) (gtN 0) qY (ai s.fn (aa (af 1) (aa (af 0) ag)))) ag)) ag)))))))
def bu:Nat->PFx [true,false]
 |0=>PFx.none [true,false]
 |n+1=>PFx.of [true,false] 5 (c7 (bu n))
theorem jB(T:TT K mg):∀n,Callee P w K mg base "_law_tree" (3+n) ["_law_feed_here", "_law_numbers"] (spD K mg 2 (bu n).F)
 |0=>ok0 (T.d.get 41 rfl) (aH (N:=["_law_feed_here", "_law_numbers", "_law_many", "_law_some", "_law_number"]) (by decide)) (λ_ _ _ _ _ _=>ar2 λ_ _=>rfl)
 |
  n+1=>by
  have ih:=jB T n
  show Callee _ _ _ _ _ _ _ _ (spD _ _ _ (PFx.of [true,false] 5 (c7 (bu n))).F)
  unfold c7
  exact sj (k:=3+n) (T.d.get 41 rfl) (aH (N:=["_law_feed_here", "_law_numbers", "_law_many", "_law_some", "_law_number"]) (by decide)) (λ_ _ _ _ _ _=>ar2 λ_ _=>rfl) λnd f cdv A outer s H E hr=>(aG 'd' (aG 'd' (zo (ow:=false) (hsb:=by decide) (zSlc nd ["_law_feed_here", "_law_numbers", "_law_many", "_law_some", "_law_number"] (ao (top 41)).names ["_law_number"] [none] 'd' (λnd _ _ _ _ _=>'d') (λnd _ _ _ _ _=>'d')) own1 rfl rfl 'd' 'd' 'd' 'd' 'd' (dU (eV (su (bW 'd' (bW (jW (uC (K:=K) rfl) sk rfl (T.n rfl) (by first |exact boF rfl |exact boT rfl) (bW (gR ["_law_feed_here", "_law_numbers", "_law_many", "_law_some", "_law_number"] (ao (top 41)).names ["_law_part", "_law_feed_here"] [none,some 0] 'd' (λnd _ _ _ _ _=>'d') (λnd _ _ _ _ _=>'d')) 'd')) 'd'))))))))
def fc:PSt:=
 (cA (jx 2 lJ (aa (ai ar (aa (af 0) (aa (pOp aW (pFn bA (aa (af 2) ag)) (ah 1)) ag))) (aa (af 3) ag))))
def iB:PSt:=
 (ak (aC true 2 (aB ag))
  (ak (jI (j6 (aa (af 1) ag)) (gtN 3) (fc))
  (aA (af 2))))
def cS:PFn:=fnP [true,false] 4 iB
def rP:cS.ms=[true,false]:=rfl
def oV(T:TT K mg):Callee P w K mg base "_law_order" 2 ["_law_feed_here", "_law_many"] (spD K mg 2 cS.F):=by
 unfold cS iB fc
 exact bF (T.d.get 40 rfl) (aH (N:=["_law_feed_here", "_law_many", "_law_order_here", "_law_k"]) (by decide)) (λ_ _ _ _ _ _=>ar2 λ_ _=>rfl) λnd f cdv A outer s H E hr=>'d'
def dS(s:PFx [false,false,false]):PSt:=
 (ak (xIf (qNo (qOf (pFn (ay aE) (aa (af 0) (aa (pTy "tuple") ag))))) (aA (pIf (qOf (pOp bEq (af 0) (af 1))) (af 2) (af 0))) xNx)
  (aA (aq (aa (pOp bIx (af 0) (ah 0)) (aa (pFn kE (aa (pLC (bU (pOp bIx (af 0) (ah 1))) [none,some 1,some 2] (by decide) (gtN 0) qY (ai s.fn (aa (af 0) (aa (af 1) (aa (af 2) ag))))) ag)) ag)))))
def cL:Nat->PFx [false,false,false]
 |0=>PFx.none [false,false,false]
 |n+1=>PFx.of [false,false,false] 3 (dS (cL n))
theorem jV(T:TT K mg):∀n,Callee P w K mg base "_law_put" (2+n) ["_law_tree_here", "_law_number", "_law_new"] (spD K mg 3 (cL n).F)
 |0=>ok0 (T.d.get 44 rfl) (aH (N:=["_law_tree_here", "_law_number", "_law_new"]) (by decide)) (λ_ _ _ _ _ _=>ar3 λ_ _ _=>rfl)
 |
  n+1=>by
  have ih:=jV T n
  show Callee _ _ _ _ _ _ _ _ (spD _ _ _ (PFx.of [false,false,false] 3 (dS (cL n))).F)
  unfold dS
  exact sj (k:=2+n) (T.d.get 44 rfl) (aH (N:=["_law_tree_here", "_law_number", "_law_new"]) (by decide)) (λ_ _ _ _ _ _=>ar3 λ_ _ _=>rfl) λnd f cdv A outer s H E hr=>(aG 'd' (dU (eV (su (bW 'd' (bW (jW (uC (K:=K) rfl) sk rfl (T.n rfl) (by first |exact boF rfl |exact boT rfl) (bW (gR ["_law_tree_here", "_law_number", "_law_new"] (ao (top 44)).names ["_law_one", "_law_number", "_law_new"] [none,some 1,some 2] 'd' (λnd _ _ _ _ _=>'d') (λnd _ _ _ _ _=>'d')) 'd')) 'd'))))))
def jr:PSt:=
 (aA (i7 (pFn (ay aE) (aa (af 0) (aa (pTy "str") ag))) (pOp bIn (af 0) nR)))
def da:PFn:=fnP [false] 1 jr
def xP:da.ms=[false]:=rfl
def vI(T:TT K mg):Callee P w K mg base "is_way" 1 ["thing"] (spD K mg 1 da.F):=by
 unfold da jr nR
 exact bF (T.d.get 22 rfl) (aH (N:=["thing"]) (by decide)) (λ_ _ _ _ _ _=>ar1 λ_=>rfl) λnd f cdv A outer s H E hr=>'d'
def ij:PSt:=
 (ak (xIf (qO (qNo (qOf (pFn (ay aE) (aa (af 0) (aa (pTy "tuple") ag))))) (qOf (pOp bNe (pFn bA (aa (af 0) ag)) (ah 2)))) (aA (pBl false)) xNx)
  (aA (i7 (ai da (aa (pOp bIx (af 0) (ah 0)) ag)) (i7 (pFn (ay aE) (aa (pOp bIx (af 0) (ah 1)) (aa (pTy "tuple") ag))) (pOp bGe (pFn bA (aa (pOp bIx (af 0) (ah 1)) ag)) (ah 2))))))
def dn:PFn:=fnP [false] 1 ij
def sN:dn.ms=[false]:=rfl
def o8(T:TT K mg):Callee P w K mg base "is_branch" 2 ["thing"] (spD K mg 1 dn.F):=by
 unfold dn ij
 exact bF (T.d.get 29 rfl) (aH (N:=["thing"]) (by decide)) (λ_ _ _ _ _ _=>ar1 λ_=>rfl) λnd f cdv A outer s H E hr=>'d'
def jm:PSt:=
 (aA (i7 (pFn (ay aE) (aa (af 0) (aa (pTy "int") ag))) (pNot (pFn (ay aE) (aa (af 0) (aa (pTy "bool") ag))))))
def cu:PFn:=fnP [false] 1 jm
def tE:cu.ms=[false]:=rfl
def sR(T:TT K mg):Callee P w K mg base "is_whole" 1 ["thing"] (spD K mg 1 cu.F):=by
 unfold cu jm
 exact bF (T.d.get 11 rfl) (aH (N:=["thing"]) (by decide)) (λ_ _ _ _ _ _=>ar1 λ_=>rfl) λnd f cdv A outer s H E hr=>'d'
def bc:PSt:=
 (ak (aC false 4 (je 3 jv))
  (xIf (qOf (ai dn (aa (af 4) ag))) (cA (jx 3 gW (aa (pOp bIx (af 4) (ah 1)) ag))) (xIf (qO (qNo (qOf (ai cu (aa (af 4) ag)))) (qO (qOf (pOp bLt (af 4) (ah 0))) (qO (qOf (pOp bGe (af 4) (af 1))) (qOf (pOp Bw (af 4) (af 2)))))) (aA (pBl false)) (cA (BW 2 (aa (af 4) ag))))))
def jK:PSt:=
 (ak (aC true 2 vd)
  (ak (aC true 3 (aB (aa (af 0) ag)))
  (ak (xWh (qTr (af 3)) (bc))
  (aA (pOp bEq (pFn qS (aa (af 2) ag)) (af 1))))))
def aD:PFn:=fnP [false,false] 5 jK
def gn:aD.ms=[false,false]:=rfl
def tF(T:TT K mg):Callee P w K mg base "is_tree" 3 ["thing", "many"] (spD K mg 2 aD.F):=by
 unfold aD jK bc
 exact bF (T.d.get 30 rfl) (aH (N:=["thing", "many", "seen", "waiting", "part"]) (by decide)) (λ_ _ _ _ _ _=>ar2 λ_ _=>rfl) λnd f cdv A outer s H E hr=>'d'
def cX:PSt:=
 (aC false 2 (aq (aa (pOp bIx (aB (aa (bz "across") (aa (bz "down") ag))) (ai ar (aa (af 0) (aa (ah 2) ag)))) (aa (pOp bIx (aB (aa (aq (aa (af 3) (aa (af 2) ag))) (aa (aq (aa (af 2) (aa (af 3) ag))) ag))) (ai ar (aa (af 0) (aa (ah 2) ag)))) ag))))
def ip:PSt:=
 (ak (aC false 2 (pOp bIx (af 1) (ah 0)))
  (ak (jI (bU (pSl (af 1) (oS (ah 1)) oN)) (gtN 3) (cX))
  (aA (af 2))))
def de:PFn:=fnP [true,false] 4 ip
def p6:de.ms=[true,false]:=rfl
def o7(T:TT K mg):Callee P w K mg base "_law_chain" 2 ["_law_feed_here", "_law_numbers"] (spD K mg 2 de.F):=by
 unfold de ip cX
 exact bF (T.d.get 42 rfl) (aH (N:=["_law_feed_here", "_law_numbers", "_law_found", "_law_number"]) (by decide)) (λ_ _ _ _ _ _=>ar2 λ_ _=>rfl) λnd f cdv A outer s H E hr=>'d'
def cC(s:PFx [false]):PSt:=
 (ak (xIf (qNo (qOf (pFn (ay aE) (aa (af 0) (aa (pTy "tuple") ag))))) (aA (aB (aa (af 0) ag))) xNx)
  (aA (pFn rR (aa (pLC (bU (pOp bIx (af 0) (ah 1))) [none] (by decide) (gtN 0) qY (ai s.fn (aa (af 0) ag))) (aa (aB ag) ag)))))
def bP:Nat->PFx [false]
 |0=>PFx.none [false]
 |n+1=>PFx.of [false] 1 (cC (bP n))
theorem ie(T:TT K mg):∀n,Callee P w K mg base "_law_leaves" (2+n) ["_law_tree_here"] (spD K mg 1 (bP n).F)
 |0=>ok0 (T.d.get 43 rfl) (aH (N:=["_law_tree_here"]) (by decide)) (λ_ _ _ _ _ _=>ar1 λ_=>rfl)
 |
  n+1=>by
  have ih:=ie T n
  show Callee _ _ _ _ _ _ _ _ (spD _ _ _ (PFx.of [false] 1 (cC (bP n))).F)
  unfold cC
  exact sj (k:=2+n) (T.d.get 43 rfl) (aH (N:=["_law_tree_here"]) (by decide)) (λ_ _ _ _ _ _=>ar1 λ_=>rfl) λnd f cdv A outer s H E hr=>(aG 'd' (dU (eV (gC (vL rfl) ET rfl (T.n rfl) (by first |exact boF rfl |exact boT rfl) (bW (gR ["_law_tree_here"] (ao (top 43)).names ["_law_one"] [none] 'd' (λnd _ _ _ _ _=>'d') (λnd _ _ _ _ _=>'d')) 'd')))))
def gY:PSt:=
 (ak (aC false 3 (pOp aW (pOp ja (ah 10) (ah 29)) (ai ar (aa (af 0) (aa (ah 99) ag)))))
  (ak (aC false 4 (aB (aa (af 1) (aa (pOp iw (ah 0) (ah 1)) (aa (pOp aW (af 1) (af 3)) (aa (pOp iw (ah 0) (af 3)) (aa (pOp dN (pOp aW (af 2) (ah 1)) (af 1)) (aa (pBl true) (aa (bz "0") (aa jR (aa (aB (aa (af 2) ag)) (aa (aq (aa (af 2) (aa (ah 1) ag))) (aa (aq ag) ag)))))))))))))
  (ak (aC false 5 (pOp bIx (aB (aa (bz "across") (aa (bz "down") ag))) (ai ar (aa (af 0) (aa (ah 2) ag)))))
  (ak (aC false 4 (pOp aW (af 4) (aB (aa (aq (aa (af 5) (aa (aB (aa (af 2) (aa (af 1) ag))) ag))) (aa (aq (aa (af 5) (aa (aq (aa (af 2) ag)) ag))) (aa (aq (aa (af 5) (aa (aq ag) ag))) (aa (aq (aa (bz "") (aa (aq (aa (af 2) (aa (af 1) ag))) ag))) ag)))))))
  (ak (aC false 4 (pOp aW (af 4) (aB (aa (aq (aa (af 5) (aa (aq (aa (af 2) ag)) (aa (ah 1) ag)))) (aa (aq (aa jR (aa (aq (aa (af 2) (aa (af 1) ag))) ag))) (aa (aq (aa (bz "Across") (aa (aq (aa (af 2) (aa (af 1) ag))) ag))) (aa (aq (aa (af 5) (aa (af 2) ag))) ag)))))))
  (ak (aC false 4 (pOp aW (af 4) (aB (aa (af 2) (aa pD0 (aa (aq (aa (af 5) (aa (aq (aa (af 2) (aa (af 2) ag))) ag))) ag))))))
  (aA (pOp bIx (af 4) (ai ar (aa (af 0) (aa (pFn bA (aa (af 4) ag)) ag)))))))))))
def eP:PFn:=fnP [true,false,false] 6 gY
def vw:eP.ms=[true,false,false]:=rfl
def sX(T:TT K mg):Callee P w K mg base "_law_odd" 2 ["_law_feed_here", "_law_many", "_law_number"] (spD K mg 3 eP.F):=by
 unfold eP gY
 exact bF (T.d.get 45 rfl) (aH (N:=["_law_feed_here", "_law_many", "_law_number", "_law_far", "_law_some", "_law_inner"]) (by decide)) (λ_ _ _ _ _ _=>ar3 λ_ _ _=>rfl) λnd f cdv A outer s H E hr=>'d'
def cN(s:PFx [true,false]):PSt:=
 (ak (xIf (qNo (qOf (pFn (ay aE) (aa (af 1) (aa (pTy "tuple") ag))))) (aA (af 1)) xNx)
  (ak (aC false 2 (ai ar (aa (af 0) (aa (pFn bA (aa (pOp bIx (af 1) (ah 1)) ag)) ag))))
  (ak (xIf (qAn (qOf (pFn (ay aE) (aa (pOp bIx (pOp bIx (af 1) (ah 1)) (af 2)) (aa (pTy "tuple") ag)))) (qOf (pOp bGt (ai ar (aa (af 0) (aa (ah 3) ag))) (ah 0)))) (aA (aq (aa (pOp bIx (af 1) (ah 0)) (aa (pOp aW (pOp aW (pSl (pOp bIx (af 1) (ah 1)) oN (oS (af 2))) (aq (aa (ai s.fn (aa (af 0) (aa (pOp bIx (pOp bIx (af 1) (ah 1)) (af 2)) ag))) ag))) (pSl (pOp bIx (af 1) (ah 1)) (oS (pOp aW (af 2) (ah 1))) oN)) ag)))) xNx)
  (ak (jy (af 1) (gtX (gtT 2 (bG (gtN 3) (bG (gtN 4) eX)))))
  (ak (aC false 5 (aB (aa (aq (aa (bz "") (aa (af 4) ag))) (aa (aq (aa (bz "Across") (aa (af 4) ag))) (aa (aq (aa (bz "across ") (aa (af 4) ag))) (aa (aq (aa jR (aa (af 4) ag))) (aa (aq (aa (ah 0) (aa (af 4) ag))) (aa (aq (aa (pBl true) (aa (af 4) ag))) (aa (aq (aa (aq ag) (aa (af 4) ag))) ag)))))))))
  (ak (aC false 5 (pOp aW (af 5) (aB (aa (aq (aa (aB (aa (bz "across") ag)) (aa (af 4) ag))) (aa (aq (aa (af 3) (aa (pFn jC (aa (af 4) ag)) ag))) (aa (aB (aa (af 3) (aa (af 4) ag))) (aa (aq (aa (af 3) (aa (af 4) (aa (ah 1) ag)))) (aa (aq (aa (af 4) (aa (af 3) ag))) (aa (aq (aa (af 3) ag)) (aa (af 4) ag))))))))))
  (aA (pOp bIx (pOp aW (af 5) (aB (aa (aq (aa pD0 (aa (af 4) ag))) (aa (aq (aa (af 3) (aa (af 4) ag))) (aa (aq (aa (af 3) (aa (pSl (af 4) oN (oS (ah 1))) ag))) ag))))) (ai ar (aa (af 0) (aa (pOp aW (pFn bA (aa (af 5) ag)) (ah 3)) ag)))))))))))
def cM:Nat->PFx [true,false]
 |0=>PFx.none [true,false]
 |n+1=>PFx.of [true,false] 6 (cN (cM n))
theorem jA(T:TT K mg):∀n,Callee P w K mg base "_law_bent" (3+n) ["_law_feed_here", "_law_tree_here"] (spD K mg 2 (cM n).F)
 |0=>ok0 (T.d.get 46 rfl) (aH (N:=["_law_feed_here", "_law_tree_here", "_law_at", "_law_way", "_law_trees", "_law_some"]) (by decide)) (λ_ _ _ _ _ _=>ar2 λ_ _=>rfl)
 |
  n+1=>by
  have ih:=jA T n
  show Callee _ _ _ _ _ _ _ _ (spD _ _ _ (PFx.of [true,false] 6 (cN (cM n))).F)
  unfold cN
  exact sj (k:=3+n) (T.d.get 46 rfl) (aH (N:=["_law_feed_here", "_law_tree_here", "_law_at", "_law_way", "_law_trees", "_law_some"]) (by decide)) (λ_ _ _ _ _ _=>ar2 λ_ _=>rfl) λnd f cdv A outer s H E hr=>'d'
def aK:PSt:=
 (ak (aC false 4 (je 2 jv))
  (xIf (qOf (pFn (ay aE) (aa (af 4) (aa (pTy "tuple") ag)))) (ak (xIf (qO (qOf (pOp bNe (pFn bA (aa (af 4) ag)) (ah 2))) (qO (qNo (qOf (pFn (ay aE) (aa (pOp bIx (af 4) (ah 0)) (aa (pTy "str") ag))))) (qOf (pOp Bi (pOp bIx (af 4) (ah 0)) (aq (aa (bz "across") (aa (bz "down") ag))))))) (aA (pBl false)) xNx)
  (ak (xIf (qO (qNo (qOf (pFn (ay aE) (aa (pOp bIx (af 4) (ah 1)) (aa (pTy "tuple") ag))))) (qOf (pOp bLt (pFn bA (aa (pOp bIx (af 4) (ah 1)) ag)) (ah 2)))) (aA (pBl false)) xNx)
  (aC true 2 (pOp aW (af 2) (pFn jC (aa (pOp bIx (af 4) (ah 1)) ag)))))) (xIf (qO (qOf (pFn (ay aE) (aa (af 4) (aa (pTy "bool") ag)))) (qNo (qOf (pFn (ay aE) (aa (af 4) (aa (pTy "int") ag)))))) (aA (pBl false)) (cA (jx 3 fC (aa (af 4) ag))))))
def gb:PSt:=
 (ak (aC true 2 (aB (aa (af 0) ag)))
  (ak (aC true 3 (aB ag))
  (ak (xWh (qOf (pOp nF (af 2) (aB ag))) (aK))
  (aA (pOp bEq (pFn kO (aa (af 3) ag)) (pLC (j6 (aa (af 1) ag)) [none] (by decide) (gtN 0) qY (af 0)))))))
def b0:PFn:=fnP [false,false] 5 gb
def mX:b0.ms=[false,false]:=rfl
def ma(T:TT K mg):Callee P w K mg base "_law_is_tree" 1 ["_law_thing", "_law_many"] (spD K mg 2 b0.F):=by
 unfold b0 gb aK
 exact bF (T.d.get 47 rfl) (aH (N:=["_law_thing", "_law_many", "_law_todo", "_law_numbers", "_law_one"]) (by decide)) (λ_ _ _ _ _ _=>ar2 λ_ _=>rfl) λnd f cdv A outer s H E hr=>(aG 'd' (aG 'd' (aG 'd' (dU (eV (yt (zW (K:=K) rfl hr.u180) wk 'd' (gR ["_law_thing", "_law_many", "_law_todo", "_law_numbers", "_law_one"] (ao (top 47)).names ["_law_k"] [none] 'd' (λnd _ _ _ _ _=>'d') (λnd _ _ _ _ _=>'d')) (qX _)))))))
def cq:PSt:=
 (ve 0 1 (aa (af 1) (aa (pOp dN (af 0) (af 1)) ag)))
def eu:PSt:=
 (ak (ve 0 1 (aa (pFn pJ (aa (af 0) ag)) (aa (pFn pJ (aa (af 1) ag)) ag)))
  (ak (xWh (qOf (pOp bNe (af 1) (ah 0))) (cq))
  (aA (af 0))))
def bf:PFn:=fnP [false,false] 2 eu
def kJ:bf.ms=[false,false]:=rfl
def jJ(T:TT K mg):Callee P w K mg base "common_divisor" 1 ["one", "other"] (spD K mg 2 bf.F):=by
 unfold bf eu cq
 exact bF (T.d.get 12 rfl) (aH (N:=["one", "other"]) (by decide)) (λ_ _ _ _ _ _=>ar2 λ_ _=>rfl) λnd f cdv A outer s H E hr=>'d'
def gf:PSt:=
 (ak (xIf (qO (qNo (qOf (pFn (ay aE) (aa (af 0) (aa (pTy "tuple") ag))))) (qOf (pOp bNe (pFn bA (aa (af 0) ag)) (ah 2)))) (aA (pBl false)) xNx)
  (ak (jy (af 0) (gtX (gtT 2 (bG (gtN 1) (bG (gtN 2) eX)))))
  (ak (xIf (qO (qNo (qOf (ai cu (aa (af 1) ag)))) (qNo (qOf (ai cu (aa (af 2) ag))))) (aA (pBl false)) xNx)
  (aA (i7 (pOp bGe (af 2) (ah 1)) (pOp bEq (ai bf (aa (af 1) (aa (af 2) ag))) (ah 1)))))))
def bX:PFn:=fnP [false] 3 gf
def ni:bX.ms=[false]:=rfl
def lY(T:TT K mg):Callee P w K mg base "is_fraction" 2 ["thing"] (spD K mg 1 bX.F):=by
 unfold bX gf
 exact bF (T.d.get 13 rfl) (aH (N:=["thing", "top", "bottom"]) (by decide)) (λ_ _ _ _ _ _=>ar1 λ_=>rfl) λnd f cdv A outer s H E hr=>'d'
def kW:PSt:=
 (ak (xIf (qO (qNo (qOf (pFn (ay aE) (aa (af 0) (aa (pTy "tuple") ag))))) (qOf (pOp bNe (pFn bA (aa (af 0) ag)) (ah 4)))) (aA (pBl false)) xNx)
  (ak (xIf (qNo (qOf (pFn pH (aa (pLC (bU (af 0)) [none] (by decide) (gtN 0) qY (ai bX (aa (af 0) ag))) ag)))) (aA (pBl false)) xNx)
  (aA (i7 (pOp bGt (pOp bIx (pOp bIx (af 0) (ah 2)) (ah 0)) (ah 0)) (pOp bGt (pOp bIx (pOp bIx (af 0) (ah 3)) (ah 0)) (ah 0))))))
def ft:PFn:=fnP [false] 1 kW
def xY:ft.ms=[false]:=rfl
def vp(T:TT K mg):Callee P w K mg base "is_box" 3 ["thing"] (spD K mg 1 ft.F):=by
 unfold ft kW
 exact bF (T.d.get 20 rfl) (aH (N:=["thing"]) (by decide)) (λ_ _ _ _ _ _=>ar1 λ_=>rfl) λnd f cdv A outer s H E hr=>(aG 'd' (aG (pE (rj (rZ (gC (allK (K:=K) rfl rfl) xx rfl (T.n rfl) (by first |exact boF rfl |exact boT rfl) (bW (gR ["thing"] (ao (top 20)).names ["part"] [none] 'd' (λnd _ _ _ _ _=>'d') (λnd _ _ _ _ _=>'d')) 'd')))) 'd' 'd') 'd'))
def iz:PSt:=
 (xIf (qNo (qOf (ai ft (aa (af 0) ag)))) (eZ "NoBox" (aa (bz "this is no box") ag)) xNx)
def bq:PFn:=fnP [false] 1 iz
def rY:bq.ms=[false]:=rfl
def oY(T:TT K mg):Callee P w K mg base "check_box" 4 ["thing"] (spD K mg 1 bq.F):=by
 unfold bq iz
 exact bF (T.d.get 21 rfl) (aH (N:=["thing"]) (by decide)) (λ_ _ _ _ _ _=>ar1 λ_=>rfl) λnd f cdv A outer s H E hr=>'d'
def iE:PSt:=
 (aA (i7 (ai cu (aa (af 0) ag)) (pOp bGe (af 0) (ah 1))))
def cP:PFn:=fnP [false] 1 iE
def sW:cP.ms=[false]:=rfl
def oQ(T:TT K mg):Callee P w K mg base "is_weight" 2 ["thing"] (spD K mg 1 cP.F):=by
 unfold cP iE
 exact bF (T.d.get 24 rfl) (aH (N:=["thing"]) (by decide)) (λ_ _ _ _ _ _=>ar1 λ_=>rfl) λnd f cdv A outer s H E hr=>'d'
def eU:PSt:=
 (ak (xIf (qO (qNo (qOf (pFn (ay aE) (aa (af 0) (aa (pTy "list") ag))))) (qOf (pOp bEq (pFn bA (aa (af 0) ag)) (ah 0)))) (eZ "NoWeights" (aa (bz "this is no list of weights") ag)) xNx)
  (ak (xIf (qNo (qOf (pFn pH (aa (pLC (bU (af 0)) [none] (by decide) (gtN 0) qY (ai cP (aa (af 0) ag))) ag)))) (eZ "NoWeights" (aa (bz "a weight is a whole number from 1 on") ag)) xNx)
  (xIf (qOf (pOp bGt (pFn bA (aa (af 0) ag)) ff)) (eZ "TooMany" (aa (bz "these are more weights than forty") ag)) xNx)))
def aM:PFn:=fnP [false] 1 eU
def kP:aM.ms=[false]:=rfl
def kI(T:TT K mg):Callee P w K mg base "check_weights" 3 ["thing"] (spD K mg 1 aM.F):=by
 unfold aM eU ff
 exact bF (T.d.get 25 rfl) (aH (N:=["thing"]) (by decide)) (λ_ _ _ _ _ _=>ar1 λ_=>rfl) λnd f cdv A outer s H E hr=>(aG 'd' (aG (pE (rj (rZ (gC (allK (K:=K) rfl rfl) xx rfl (T.n rfl) (by first |exact boF rfl |exact boT rfl) (bW (gR ["thing"] (ao (top 25)).names ["weight"] [none] 'd' (λnd _ _ _ _ _=>'d') (λnd _ _ _ _ _=>'d')) 'd')))) 'd' 'd') 'd'))
def gx:PSt:=
 (xIf (qNo (qOf (ai aD (aa (af 0) (aa (af 1) ag))))) (eZ "NoTree" (aa (bz "this is no tree for the things") ag)) xNx)
def cE:PFn:=fnP [false,false] 2 gx
def oP:cE.ms=[false,false]:=rfl
def nZ(T:TT K mg):Callee P w K mg base "check_tree" 4 ["thing", "many"] (spD K mg 2 cE.F):=by
 unfold cE gx
 exact bF (T.d.get 31 rfl) (aH (N:=["thing", "many"]) (by decide)) (λ_ _ _ _ _ _=>ar2 λ_ _=>rfl) λnd f cdv A outer s H E hr=>'d'
def ir:PSt:=
 (xIf (qNo (qOf (ai da (aa (af 0) ag)))) (eZ "NoWay" (aa (bz "this is no way") ag)) xNx)
def dk:PFn:=fnP [false] 1 ir
def rV:dk.ms=[false]:=rfl
def o6(T:TT K mg):Callee P w K mg base "check_way" 2 ["way"] (spD K mg 1 dk.F):=by
 unfold dk ir
 exact bF (T.d.get 23 rfl) (aH (N:=["way"]) (by decide)) (λ_ _ _ _ _ _=>ar1 λ_=>rfl) λnd f cdv A outer s H E hr=>'d'
def i8:PSt:=
 (ak (xIf (qOf (pOp bEq (af 1) (ah 0))) (eZ "NoFraction" (aa (bz "a fraction has no bottom of 0") ag)) xNx)
  (ak (aC false 2 (ai bf (aa (af 0) (aa (af 1) ag))))
  (ak (xIf (qOf (pOp bLt (af 1) (ah 0))) (aC false 2 (pUn wm (af 2))) xNx)
  (aA (aq (aa (pOp rW (af 0) (af 2)) (aa (pOp rW (af 1) (af 2)) ag)))))))
def cz:PFn:=fnP [false,false] 3 i8
def tG:cz.ms=[false,false]:=rfl
def sH(T:TT K mg):Callee P w K mg base "fraction" 2 ["top", "bottom"] (spD K mg 2 cz.F):=by
 unfold cz i8
 exact bF (T.d.get 14 rfl) (aH (N:=["top", "bottom", "divisor"]) (by decide)) (λ_ _ _ _ _ _=>ar2 λ_ _=>rfl) λnd f cdv A outer s H E hr=>'d'
def nN:PSt:=
 (aA (ai cz (aa (pOp aW (pOp fD (pOp bIx (af 0) (ah 0)) (pOp bIx (af 1) (ah 1))) (pOp fD (pOp bIx (af 1) (ah 0)) (pOp bIx (af 0) (ah 1)))) (aa (pOp fD (pOp bIx (af 0) (ah 1)) (pOp bIx (af 1) (ah 1))) ag))))
def gv:PFn:=fnP [false,false] 2 nN
def AO:gv.ms=[false,false]:=rfl
def yu(T:TT K mg):Callee P w K mg base "added" 3 ["one", "other"] (spD K mg 2 gv.F):=by
 unfold gv nN
 exact bF (T.d.get 15 rfl) (aH (N:=["one", "other"]) (by decide)) (λ_ _ _ _ _ _=>ar2 λ_ _=>rfl) λnd f cdv A outer s H E hr=>'d'
def mV:PSt:=
 (aA (ai cz (aa (pOp fD (pOp bIx (af 0) (ah 0)) (pOp bIx (af 1) (ah 0))) (aa (pOp fD (pOp bIx (af 0) (ah 1)) (pOp bIx (af 1) (ah 1))) ag))))
def fk:PFn:=fnP [false,false] 2 mV
def Ax:fk.ms=[false,false]:=rfl
def wV(T:TT K mg):Callee P w K mg base "times" 3 ["one", "other"] (spD K mg 2 fk.F):=by
 unfold fk mV
 exact bF (T.d.get 16 rfl) (aH (N:=["one", "other"]) (by decide)) (λ_ _ _ _ _ _=>ar2 λ_ _=>rfl) λnd f cdv A outer s H E hr=>'d'
def fX:PSt:=
 (ak (aC false 7 (ai gv (aa (af 0) (aa (ai fk (aa (af 1) (aa (ai cz (aa (af 4) (aa (af 3) ag))) ag))) ag))))
  (ak (cA (jx 5 fC (aa (aq (aa (af 7) (aa (ai fk (aa (af 1) (aa (ai cz (aa (af 6) (aa (af 3) ag))) ag))) ag))) ag)))
  (B9 4 BJ (af 6))))
def lK:PSt:=
 (ak (aC false 3 (pFn l6 (aa (af 2) ag)))
  (ak (aC false 4 (ah 0))
  (ak (aC true 5 (aB ag))
  (ak (jI (bU (af 2)) (gtN 6) (fX))
  (aA (af 5))))))
def eg:PFn:=fnP [false,false,false] 8 lK
def yQ:eg.ms=[false,false,false]:=rfl
def vv(T:TT K mg):Callee P w K mg base "shares" 4 ["start", "length", "weights"] (spD K mg 3 eg.F):=by
 unfold eg lK fX
 exact bF (T.d.get 26 rfl) (aH (N:=["start", "length", "weights", "whole", "ahead", "found", "weight", "begin"]) (by decide)) (λ_ _ _ _ _ _=>ar3 λ_ _ _=>rfl) λnd f cdv A outer s H E hr=>'d'
def lG:PSt:=
 (ak (cA (ai bq (aa (af 0) ag)))
  (ak (cA (ai dk (aa (af 1) ag)))
  (ak (cA (ai aM (aa (af 2) ag)))
  (ak (jy (af 0) (gtX (gtT 4 (bG (gtN 3) (bG (gtN 4) (bG (gtN 5) (bG (gtN 6) eX)))))))
  (ak (xIf (qOf (pOp bEq (af 1) (bz "across"))) (aA (pLC (bU (ai eg (aa (af 3) (aa (af 5) (aa (af 2) ag))))) [none,none,some 4,some 6] (by decide) (gtT 2 (bG (gtN 0) (bG (gtN 1) eX))) qY (aq (aa (af 0) (aa (af 2) (aa (af 1) (aa (af 3) ag))))))) xNx)
  (aA (pLC (bU (ai eg (aa (af 4) (aa (af 6) (aa (af 2) ag))))) [none,none,some 3,some 5] (by decide) (gtT 2 (bG (gtN 0) (bG (gtN 1) eX))) qY (aq (aa (af 2) (aa (af 0) (aa (af 3) (aa (af 1) ag))))))))))))
def eF:PFn:=fnP [false,false,false] 7 lG
def yL:eF.ms=[false,false,false]:=rfl
def mi(T:TT K mg):Callee P w K mg base "parted" 5 ["box", "way", "weights"] (spD K mg 3 eF.F):=by
 unfold eF lG
 exact bF (T.d.get 27 rfl) (aH (N:=["box", "way", "weights", "left", "top", "wide", "high"]) (by decide)) (λ_ _ _ _ _ _=>ar3 λ_ _ _=>rfl) λnd f cdv A outer s H E hr=>(aG 'd' (aG 'd' (aG 'd' (aG 'd' (aG (pE 'd' (dU (eV (gR ["box", "way", "weights", "left", "top", "wide", "high"] (ao (top 27)).names ["begin", "length", "top", "high"] [none,none,some 4,some 6] 'd' (λnd _ _ _ _ _=>'d') (λnd _ _ _ _ _=>'d')))) 'd') (dU (eV (gR ["box", "way", "weights", "left", "top", "wide", "high"] (ao (top 27)).names ["begin", "length", "left", "wide"] [none,none,some 3,some 5] 'd' (λnd _ _ _ _ _=>'d') (λnd _ _ _ _ _=>'d')))))))))
def bO:PSt:=
 (ak (aC false 3 (je 2 jv))
  (xIf (qOf (pFn (ay aE) (aa (af 3) (aa (pTy "tuple") ag)))) (cA (jx 2 gW (aa (pOp bIx (af 3) (ah 1)) ag))) (cA (jx 1 fC (aa (af 3) ag)))))
def iA:PSt:=
 (ak (aC true 1 (aB ag))
  (ak (aC true 2 (aB (aa (af 0) ag)))
  (ak (xWh (qTr (af 2)) (bO))
  (aA (af 1)))))
def cQ:PFn:=fnP [false] 4 iA
def qR:cQ.ms=[false]:=rfl
def o9(T:TT K mg):Callee P w K mg base "things_in" 1 ["tree"] (spD K mg 1 cQ.F):=by
 unfold cQ iA bO
 exact bF (T.d.get 32 rfl) (aH (N:=["tree", "found", "waiting", "part"]) (by decide)) (λ_ _ _ _ _ _=>ar1 λ_=>rfl) λnd f cdv A outer s H E hr=>'d'
def jf:PSt:=
 (ak (jy (af 2) (gtX (gtT 2 (bG (gtN 3) (bG (gtN 4) eX)))))
  (aA (ai eF (aa (af 0) (aa (af 3) (aa (pLC (bU (af 4)) [none,some 1] (by decide) (gtN 0) qY (pFn l6 (aa (pLC (bU (ai cQ (aa (af 0) ag))) [none,some 1] (by decide) (gtN 0) qY (pOp bIx (af 1) (af 0))) ag))) ag))))))
def dW:PFn:=fnP [false,false,false] 5 jf
def sY:dW.ms=[false,false,false]:=rfl
def qb(T:TT K mg):Callee P w K mg base "parts_of" 6 ["room", "weights", "tree"] (spD K mg 3 dW.F):=by
 unfold dW jf
 exact bF (T.d.get 35 rfl) (aH (N:=["room", "weights", "tree", "way", "trees"]) (by decide)) (λ_ _ _ _ _ _=>ar3 λ_ _ _=>rfl) λnd f cdv A outer s H E hr=>(aG 'd' (dU (eV (zcF (mi T) hr (bW 'd' (bW 'd' (bW (gR ["room", "weights", "tree", "way", "trees"] (ao (top 35)).names ["part", "weights"] [none,some 1] 'd' (λnd _ _ _ _ _=>'d') (λnd _ _ _ _ _=>(gC (oD (K:=K) rfl rfl) yg rfl (T.n rfl) (by first |exact boF rfl |exact boT rfl) (bW (gR ["part", "weights"] [(PySem.Str.ofString ".0",PySem.NameKind.local),(PySem.Str.ofString "part",PySem.NameKind.local),(PySem.Str.ofString "sum",PySem.NameKind.globalImplicit),(PySem.Str.ofString "things_in",PySem.NameKind.globalImplicit),(PySem.Str.ofString "weights",PySem.NameKind.cell)] ["thing", "weights"] [none,some 1] 'd' (λnd _ _ _ _ _=>'d') (λnd _ _ _ _ _=>'d')) 'd')))) 'd')))))))
def gO(s:PFx [false,false,false,true]):PSt:=
 (cA (ai s.fn (aa (af 5) (aa (af 1) (aa (af 4) (aa (af 3) ag))))))
def fq(s:PFx [false,false,false,true]):PSt:=
 (ak (xIf (qNo (qOf (pFn (ay aE) (aa (af 2) (aa (pTy "tuple") ag))))) (ak (sU 3 seI (af 2) (af 0))
  wD) xNx)
  (jI (wA (aa (pOp bIx (af 2) (ah 1)) (aa (ai dW (aa (af 0) (aa (af 1) (aa (af 2) ag)))) ag))) (gtX (gtT 2 (bG (gtN 4) (bG (gtN 5) eX)))) (gO s)))
def df:Nat->PFx [false,false,false,true]
 |0=>PFx.none [false,false,false,true]
 |n+1=>PFx.of [false,false,false,true] 6 (fq (df n))
theorem mq(T:TT K mg):∀n,Callee P w K mg base "place" (8+n) ["room", "weights", "tree", "placed"] (spD K mg 4 (df n).F)
 |0=>ok0 (T.d.get 34 rfl) (aH (N:=["room", "weights", "tree", "placed", "part", "box"]) (by decide)) (λ_ _ _ _ _ _=>ar4 λ_ _ _ _=>rfl)
 |
  n+1=>by
  have ih:=mq T n
  show Callee _ _ _ _ _ _ _ _ (spD _ _ _ (PFx.of [false,false,false,true] 6 (fq (df n))).F)
  unfold fq gO
  exact sj (k:=8+n) (T.d.get 34 rfl) (aH (N:=["room", "weights", "tree", "placed", "part", "box"]) (by decide)) (λ_ _ _ _ _ _=>ar4 λ_ _ _ _=>rfl) λnd f cdv A outer s H E hr=>'d'
def d6:PSt:=
 (ak (cA (ai bq (aa (af 0) ag)))
  (ak (cA (ai aM (aa (af 1) ag)))
  (ak (cA (ai cE (aa (af 2) (aa (pFn bA (aa (af 1) ag)) ag))))
  (ak (aC true 3 pD0)
  (ak (cA (ai (df 42).fn (aa (af 0) (aa (af 1) (aa (af 2) (aa (af 3) ag))))))
  (aA (pLC (j6 (aa (pFn bA (aa (af 1) ag)) ag)) [none,some 3] (by decide) (gtN 0) qY (pOp vW (af 1) (af 0)))))))))
def br:PFn:=fnP [false,false,false] 4 d6
def tq:br.ms=[false,false,false]:=rfl
def rn(T:TT K mg):Callee P w K mg base "boxes_by" 51 ["room", "weights", "tree"] (spD K mg 3 br.F):=by
 unfold br d6
 exact bF (T.d.get 33 rfl) (aH (N:=["room", "weights", "tree", "placed"]) (by decide)) (λ_ _ _ _ _ _=>ar3 λ_ _ _=>rfl) λnd f cdv A outer s H E hr=>(aG 'd' (aG 'd' (aG 'd' (aG 'd' (aG 'd' (dU (eV (gR ["room", "weights", "tree", "placed"] (ao (top 33)).names ["number", "placed"] [none,some 3] 'd' (λnd _ _ _ _ _=>'d') (λnd _ _ _ _ _=>'d')))))))))
def fK:PSt:=
 (ak (aC false 3 jR)
  (ak (B0 fZ 4 (cA (ai br (aa (af 0) (aa (af 1) (aa (af 2) ag))))) (aC false 3 (af 4)))
  (ak (aC true 5 (aB (aa (pFn (ay aE) (aa (af 3) (aa (jn "NoBox") ag))) (aa (pFn (ay aE) (aa (af 3) (aa (jn "NoWeights") ag))) (aa (pFn (ay aE) (aa (af 3) (aa (jn "NoTree") ag))) (aa (pOp bIs (af 3) jR) ag))))))
  (ak (cA (jx 5 fC (aa (pFn (ay aE) (aa (af 3) (aa (jn "TooMany") ag))) ag)))
  (ak (xIf (qO (qOf (pOp bNe (pA kd (af 5) (aa (pBl true) ag)) (ah 1))) (qOf (pFn (ay aE) (aa (af 3) (aa (aq (aa (jn "NoRule") (aa (jn "NoText") (aa (jn "NoWay") ag)))) ag))))) (aA (ah 9)) xNx)
  (aA (pA kz (af 5) (aa (pBl true) ag))))))))
def az:PFn:=fnP [false,false,false] 6 fK
def dM:az.ms=[false,false,false]:=rfl
def oZ(T:TT K mg):Callee P w K mg base "_law_class" 52 ["_law_room", "_law_weights", "_law_thing"] (spD K mg 3 az.F):=by
 unfold az fK
 exact bF (T.d.get 48 rfl) (aH (N:=["_law_room", "_law_weights", "_law_thing", "_law_caught", "e", "_law_some"]) (by decide)) (λ_ _ _ _ _ _=>ar3 λ_ _ _=>rfl) λnd f cdv A outer s H E hr=>(aG 'd' (aG (Jb (i:=4) vK nd rfl rfl rfl (T.m rfl) (T.h (.head _)).1 (T.h (.head _)).2 (λ_ _ _ hx=>'d') (λ_=>'d')) 'd'))
def iQ:PSt:=
 (ak (aC false 11 (ai b0 (aa (af 10) (aa (af 3) ag))))
  (ak (xIf (qO (qNo (qOf (pFn (ay aE) (aa (ai aD (aa (af 10) (aa (af 3) ag))) (aa (pTy "bool") ag))))) (qOf (pOp bNe (ai aD (aa (af 10) (aa (af 3) ag))) (af 11)))) (aA (pBl false)) xNx)
  (xIf (qOf (pOp bNe (ai az (aa (af 1) (aa (pOp d7 (aB (aa (ah 1) ag)) (af 3)) (aa (af 10) ag)))) (pOp bIx (aB (aa (ah 2) (aa (ah 3) ag))) (pFn mE (aa (af 11) ag))))) (aA (pBl false)) xNx)))
def jP:PSt:=
 (ak (aC true 2 (ai c5 (aa (af 0) (aa (af 6) ag))))
  (ak (aC false 3 (pOp bIx (aB (aa (pOp aW (ah 1) (ai ar (aa (af 2) (aa (ah 8) ag)))) (aa (ah 40) ag))) (pFn mE (aa (pOp bEq (ai ar (aa (af 2) (aa (ah 8) ag))) (ah 0)) ag))))
  (ak (aC false 7 (ai cS (aa (af 2) (aa (af 3) ag))))
  (ak (aC false 4 (pIf (qOf (pOp bEq (ai ar (aa (af 2) (aa (ah 3) ag))) (ah 0))) (ai de (aa (af 2) (aa (af 7) ag))) (ai (bu 42).fn (aa (af 2) (aa (af 7) ag)))))
  (ak (xIf (qO (qOf (pOp vV (ai aD (aa (af 4) (aa (af 3) ag))) (pBl true))) (qO (qOf (ai aD (aa (af 4) (aa (pOp aW (af 3) (ah 1)) ag)))) (qOf (pOp bNe (ai aD (aa (af 4) (aa (pFn iR (aa (ah 1) (aa (pOp iw (af 3) (ah 1)) ag))) ag))) (pOp bEq (af 3) (ah 1)))))) (aA (pBl false)) xNx)
  (ak (aC false 8 (ai (bP 42).fn (aa (af 4) ag)))
  (ak (aC false 9 (pOp bIx (aB (aa (pOp bIx (af 8) (ai ar (aa (af 2) (aa (af 3) ag)))) (aa (pOp bIx (af 8) (pUn wm (ah 1))) ag))) (ai ar (aa (af 2) (aa (ah 2) ag)))))
  (ak (xIf (qOf (ai aD (aa (af 4) (aa (pOp aW (pOp ja (ah 10) (ah 4)) (af 3)) ag)))) (aA (pBl false)) xNx)
  (ak (jI (bU (aB (aa (ai (cL 42).fn (aa (af 4) (aa (af 9) (aa (ai eP (aa (af 2) (aa (af 3) (aa (af 9) ag)))) ag)))) (aa (ai (cM 42).fn (aa (af 2) (aa (af 4) ag))) ag)))) (gtN 10) (iQ))
  (ak (xIf (qO (qOf (pOp bNe (ai az (aa (af 1) (aa (pOp d7 (aB (aa (ah 1) ag)) (ah 41)) (aa (af 10) ag)))) (ah 4))) (qOf (pOp bNe (ai az (aa (af 1) (aa (pOp aW (pOp d7 (aB (aa (ah 1) ag)) (ah 40)) (aB (aa (ah 0) ag))) (aa (af 10) ag)))) (ah 1)))) (aA (pBl false)) xNx)
  (xIf (qO (qOf (pOp bNe (ai az (aa (af 1) (aa (pOp d7 (aB (aa (ah 0) ag)) (af 3)) (aa (af 10) ag)))) (ah 1))) (qOf (pOp bNe (ai az (aa (pSl (af 1) oN (oS (ah 3))) (aa (aB ag) (aa (af 10) ag)))) (ah 0)))) (aA (pBl false)) xNx)))))))))))
def pM:PSt:=
 (ak (aC false 1 (aq (aa (aq (aa (ah 0) (aa (ah 1) ag))) (aa (aq (aa (ah 0) (aa (ah 1) ag))) (aa (aq (aa (ah 1) (aa (ah 1) ag))) (aa (aq (aa (ah 1) (aa (ah 1) ag))) ag))))))
  (ak (aC true 2 (ai c5 (aa (af 0) (aa (ah 61) ag))))
  (ak (aC false 3 (ah 41))
  (ak (aC false 4 (ai (bu 42).fn (aa (af 2) (aa (ai cS (aa (af 2) (aa (af 3) ag))) ag))))
  (ak (aC false 5 (ai (cL 42).fn (aa (af 4) (aa (pOp iw (af 3) (ah 1)) (aa (ai ar (aa (af 2) (aa (pOp iw (af 3) (ah 1)) ag))) ag)))))
  (ak (xIf (qO (qOf (pOp vV (ai aD (aa (af 4) (aa (af 3) ag))) (pBl true))) (qO (qOf (ai aD (aa (af 5) (aa (af 3) ag)))) (qOf (ai aD (aa (af 4) (aa (ah 40) ag)))))) (aA (pBl false)) xNx)
  (ak (jI (j6 (aa (pFn iR (aa (ah 1) (aa (pFn mR (aa (ah 10) (aa (pFn bA (aa (af 0) ag)) ag))) ag))) ag)) (gtN 6) (jP))
  (aA (pBl true)))))))))
def me:PFn:=fnP [false] 12 pM
def Fz(T:TT K mg):Callee P w K mg base "law" 53 ["_law_script"] (spD K mg 1 me.F):=by
 unfold me pM jP iQ
 exact bF (T.d.get 49 rfl) (aH (N:=["_law_script", "_law_square", "_law_feed_here", "_law_many", "_law_tree_here", "_law_twice", "_law_k", "_law_order_here", "_law_numbers", "_law_number", "_law_thing", "_law_due"]) (by decide)) (λ_ _ _ _ _ _=>ar1 λ_=>rfl) λnd f cdv A outer s H E hr=>'d'
end
noncomputable def fdV(a b k:Int):Val:=.lst [.int a,.int b,.int k]
def CV:ja.G (.int 10) (.int 18)=.val (.int (10^18)):=vE ⟨by decide,by decide,by decide⟩
noncomputable def gD{a m:Int}(h:0<m):0<=a.fmod m/\a.fmod m<m:=⟨Int.fmod_nonneg_of_pos a h,Int.fmod_lt_of_pos a h⟩
set_option hygiene false in
local macro_rules | `(tactic|simp![$args,*])=>do
 let l <- ("% gh v8 KL fL Lf K0 pw Nc An uT KD HY HC Ik Ja Jy H0 La FI Bc Kh xw Fd Hw Nw Lo v_bl NS LN v_ty Ml v_un v_op Nv Iq v_fn Mf CJ Mc v_if c_of c_tr c_an c_o c_no x_nx Jr Ll Ex Eh Et KG eY x_if MY M8 Nr Mj Ec AV AS g_n g_sn g_sc g_t g_x KJ Lz Of Mw Fo NZ NC Ni Lq Mg GH KW Lh MW HM Ba Js M3 N2 Gb HH GO JK N8 NW v_lc Ie I0 Jd o_n o_s v_sl v_d0 ND fx_G Mu Mn k_lt k_gt k_ge LJ Nz k_ix K8 Gd LB k_eq k_ne N1 MQ k_is Md NA MP NP L6 L5 Jm DZ Hl Bh jL List.getElem?_cons_zero List.getElem?_cons_succ List.set_cons_zero List.set_cons_succ List.length_cons List.length_nil Option.bind_some Option.map_some Option.isSome_some if_true if_false Bool.not_true Bool.not_false Bool.and_true Bool.true_and Bool.and_false Bool.false_and Bool.or_true Bool.true_or Bool.or_false Bool.false_or Nat.reduceLeDiff Nat.reduceLT Nat.reduceAdd Nat.reduceSub Nat.zero_add Nat.add_zero Nat.sub_self List.cons_append List.nil_append List.append_nil List.replicate reduceCtorEq decide_true Bool.false_eq_true List.all_cons List.all_nil List.isEmpty_nil List.map_cons List.map_nil Int.reduceBEq Int.reduceLT Int.reduceAdd Int.reduceSub Int.cast_ofNat_Int IF DM HB Jx EG zm IV yJ D6 Gu EW yy FP Im Cd Ku EH HU Ap IE HN EN Nd MX Oa NF xi xr yA yP zy zb ati0 ati1 ati2 ati3 ixn0 ixn1 MU cx G1 Int.reduceNeg D9 J8 JG tI tj rP xP sN tE gn p6 vw mX kJ ni xY rY sW kP oP rV tG AO Ax yQ yL qR sY tq md Du".splitOn " ").tail.mapM λs=>`(Lean.Parser.Tactic.simpLemma| $(Lean.mkIdent s.toName):term)
 `(tactic|simp only[$(l.toArray),*,$args,*])
def bD{a b k m:Int}(h0:0<m)(hm:Sm 8000 m):∃r a' b',ar.G [fdV a b k,.int m]=.ok (.val (.int r)) [fdV a' b' k]/\0<=r/\r<m:=by
 unfold ar
 rw[aZ]
 unfold js fdV
 have m0:m≠0:=by omega
 have d1:=λi=>hE (i:=i) m0
 have d2:=λi=>wq (i:=i) (CDivB.of m0 hm)
 have ca:∀x:Int,CMulA 7919 x:=λx=>CMulA.left (by decide) (by decide)
 have cb:∀x:Int,CMulA 104729 x:=λx=>CMulA.left (by decide) (by decide)
 have cc:∀x:Int,CMulA x 48271:=λx=>CMulA.right (by decide) (by decide)
 have e1:dN.G (.int a) (.int 1000003)=.val (.int (a.fmod 1000003)):=hE (by decide)
 have e2:fD.G (.int 7919) (.int k)=.val (.int (7919*k)):=gu (ca k)
 have e3:=λx=>gu (cb x)
 have e4:=λx=>gu (cc x)
 have e5:∀x:Int,dN.G (.int x) (.int 2147483647)=.val (.int (x.fmod 2147483647)):=λx=>hE (by decide)
 have e6:∀x:Int,dN.G (.int x) (.int 65521)=.val (.int (x.fmod 65521)):=λx=>hE (by decide)
 have e7:∀x y:Int,fD.G (.int (x.fmod 2147483647)) (.int y)=.val (.int (x.fmod 2147483647*y)):=λx y=>gu (CMulA.left (by have:=(gD (a:=x) (m:=2147483647) (by decide)).1;omega) (by have:=(gD (a:=x) (m:=2147483647) (by decide)).2;omega))
 have e8:∀x:Int,dN.G (.int x) (.int 2147483629)=.val (.int (x.fmod 2147483629)):=λx=>hE (by decide)
 by_cases hc:(10^18:Int)<=a
 ·have hc':decide ((10^18:Int)<=a)=true:=F_ hc
  refine⟨a.fmod m,a.fdiv m,b+1,?_,gD h0⟩
  simp![CV,hc',d1,d2]
  done
 ·have hc':decide ((10^18:Int)<=a)=false:=A_ hc
  refine⟨Int.fmod (Int.fmod (Int.fmod ((Int.fmod a 1000003+7919*k+104729*(b+1))*48271) 2147483647*(Int.fmod (Int.fmod ((Int.fmod a 1000003+7919*k+104729*(b+1))*48271) 2147483647) 65521+(b+1))) 2147483629) m,a,b+1,?_,gD h0⟩
  simp![CV,hc',d1,e1,e2,e3,e4,e5,e6,e7,e8]
def iN(xs:List Val):(ay aE).G [.tup xs,.ty "tuple"]=.val (.bl true):=rfl
def Fx(a:Int):(if a<0 then -a else a)=((a.natAbs:Nat):Int):=by split <;> omega
theorem qT:∀(n one db:Nat),db<=n->(xWh (qOf (pOp bNe (af 1) (ah 0))) cq).G [.sh (.int (one:Nat)),.sh (.int (db:Nat))]=.nx [.sh (.int (Nat.gcd one db:Nat)),.sh (.int 0)]
 |
  n,one,0,_=>by
  rw[jH]
  simp![gh]
  rw[Nat.gcd_zero_right]
  try rfl
 |0,one,db+1,hl=>absurd hl (by omega)
 |
  n+1,one,db+1,hl=>by
  rw[jH]
  have e:((((db+1:Nat):Int)==0))=false:=by rw[M_];omega
  have e1:dN.G (.int (one:Nat)) (.int ((db+1:Nat):Int))=.val (.int (((one:Nat):Int).fmod ((db+1:Nat):Int))):=hE (by omega)
  have e2:((one:Nat):Int).fmod ((db+1:Nat):Int)=((one % (db+1):Nat):Int):=by
   rw[Int.fmod_eq_emod_of_nonneg _ (by omega)];rfl
  have ih:=qT n (db+1) (one % (db+1)) (by have:=Nat.mod_lt one (show db+1>0 by omega);omega)
  rw[Fr.euc] at ih
  rw[e2] at e1
  have bb:cq.G [.sh (.int (one:Nat)),.sh (.int ((db+1:Nat):Int))]=.nx [.sh (.int ((db+1:Nat):Int)),.sh (.int ((one % (db+1):Nat):Int))]:=by
   unfold cq
   simp![e1]
  simp![e,bb,ih]
def cT(a b:Int):bf.G [.int a,.int b]=.ok (.val (.int (Int.gcd a b:Nat))) []:=by
 unfold bf
 rw[aZ]
 unfold eu
 have:=qT b.natAbs a.natAbs b.natAbs (p_ _)
 simp![Fx,this]
 rfl
def fO{a b:Int}(hb:b≠0)(hs:Sm 8000 b):cz.G [.int a,.int b]=.ok (.val (fV ((a:Rat)/(b:Rat)))) []:=by
 unfold cz
 rw[aZ]
 unfold i8
 have e:(b==0)=false:=by rw[M_];exact hb
 have c:∀x,CDivB x (Fr.dv a b):=λx=>CDivB.of (Fr.dv_ne hb) (hs.of_le (by
  rw[Fr.dv_abs]
  exact Nat.le_of_dvd (by omega) (Nat.gcd_dvd_right a.natAbs b.natAbs)))
 have k1:=wq (c a)
 have k2:=wq (c b)
 have hh:=pB (a:=a) hb
 have g_:Val.tup [.int (a.fdiv (Fr.dv a b)),.int (b.fdiv (Fr.dv a b))]=fV ((a:Rat)/(b:Rat)):=by
  unfold fV
  rw[<- hh.1,<- hh.2]
  rfl
 by_cases hn:b<0
 ·have hd:Fr.dv a b=-((Int.gcd a b:Nat):Int):=by unfold Fr.dv;rw[if_pos hn]
  rw[hd] at k1 k2 g_
  simp![e,cT,F_ hn,k1,k2,g_]
 ·have hd:Fr.dv a b=((Int.gcd a b:Nat):Int):=by unfold Fr.dv;rw[if_neg hn]
  rw[hd] at k1 k2 g_
  simp![e,cT,A_ hn,k1,k2,g_]
def A0{p q:Rat}{n m:Nat}(hp:Sz n p)(hq:Sz m q)(h:n+m<=8000):gv.G [fV p,fV q]=.ok (.val (fV (p+q))) []:=by
 have c1:=gu (CMulA.of hp.top hq.bot (by omega) (by omega))
 have c2:=gu (CMulA.of hq.top hp.bot (by omega) (by omega))
 have c3:=gu (CMulA.of hp.bot hq.bot (by omega) (by omega))
 have fe:=fO (a:=p.num*q.den+q.num*p.den) (b:=p.den*q.den) (Qw (ef p) (ef q)) ((hp.bot.mul hq.bot).mono h)
 rw[<- FJ] at fe
 unfold gv
 rw[aZ]
 unfold nN
 rw[show fV p=.tup [.int p.num,.int p.den] from rfl,show fV q=.tup [.int q.num,.int q.den] from rfl]
 simp![c1,c2,c3,fe]
def qf{p q:Rat}{n m:Nat}(hp:Sz n p)(hq:Sz m q)(h:n+m<=8000):fk.G [fV p,fV q]=.ok (.val (fV (p*q))) []:=by
 have c1:=gu (CMulA.of hp.top hq.top (by omega) (by omega))
 have c2:=gu (CMulA.of hp.bot hq.bot (by omega) (by omega))
 have fe:=fO (a:=p.num*q.num) (b:=p.den*q.den) (Qw (ef p) (ef q)) ((hp.bot.mul hq.bot).mono h)
 rw[<- uH] at fe
 unfold fk
 rw[aZ]
 unfold mV
 rw[show fV p=.tup [.int p.num,.int p.den] from rfl,show fV q=.tup [.int q.num,.int q.den] from rfl]
 simp![c1,c2,fe]
def eL{v:Val}(hk:knV v=true):(ay aE).G [v,.ty "tuple"]=.val (.bl (dB v)):=by
 cases v <;> first |rfl |cases hk
def d9{v:Val}(hk:knV v=true):cu.G [v]=.ok (.val (.bl (iG v))) []:=by
 unfold cu
 rw[aZ]
 unfold jm
 cases v <;> first |rfl |cases hk
def fB(v:Val):dB v=false\/∃xs,v=.tup xs:=by
 cases v <;> first |exact .inr ⟨_,rfl⟩ |exact .inl rfl
def gL(v:Val):iG v=false\/∃i,v=.int i:=by
 cases v <;> first |exact .inr ⟨_,rfl⟩ |exact .inl rfl
def Ld{v:Val}(h:dB v=false):aR v=false:=by
 cases v <;> first |rfl |cases h
def N0{v:Val}(h:dB v=false):fQ v=false:=by
 cases v <;> first |rfl |cases h
def KU{a b:Val}(h:iG a=false):aR (.tup [a,b])=false:=by
 cases a <;> first |rfl |cases h
def JB{i:Int}{b:Val}(h:iG b=false):aR (.tup [.int i,b])=false:=by
 cases b <;> first |rfl |cases h
def M7{xs:List Val}(hl:xs.length≠2):aR (.tup xs)=false:=by
 unfold aR
 split
 ·rename_i e;injection e with e;subst e;exact absurd rfl hl
 ·rfl
def Cy{xs:List Val}(hl:xs.length≠4):fQ (.tup xs)=false:=by
 unfold fQ
 split
 ·rename_i e;injection e with e;subst e;exact absurd rfl hl
 ·rfl
def Cr{k:Nat}{v:Val}(ha:gJ k v=true)(h:dB v=false):knV v=true:=by
 cases v with
 |tup xs=>cases h
 |_=>cases k <;> exact ha
def nG{v:Val}(ha:gJ 1 v=true):bX.G [v]=.ok (.val (.bl (aR v))) []:=by
 unfold bX
 rw[aZ]
 unfold gf
 rcases fB v with ht |⟨xs,rfl⟩
 ·have it:=eL (Cr ha ht)
  rw[ht] at it
  simp![it,Ld ht]
 have it:=eL (v:=.tup xs) rfl
 by_cases hl:xs.length=2
 ·match xs,hl,ha with
  |
   [a,b],_,ha=>
   have ha':(knV a&&(knV b&&true))=true:=by simpa [gJ] using ha
   simp only[n_] at ha'
   have w1:=d9 ha'.1
   have w2:=d9 ha'.2.1
   rcases gL a with h1 |⟨i,rfl⟩
   ·rw[h1] at w1
    simp![it,dB,w1,KU h1]
   rcases gL b with h2 |⟨j,rfl⟩
   ·rw[h2] at w2
    simp![it,dB,w1,iG,w2,JB h2]
   have f:aR (.tup [.int i,.int j])=(decide (1<=j)&&decide (Int.gcd i j=1)):=rfl
   have g:((((Int.gcd i j:Nat):Int)==1):Bool)=decide (Int.gcd i j=1):=by
    rw[Pl,Ow,O9];omega
   by_cases hj:1<=j
   ·simp![it,dB,w1,w2,iG,cT,F_ hj,f,g]
   ·simp![it,dB,w1,w2,iG,cT,A_ hj,f,g]
 ·have e:(((xs.length:Nat):Int)==2)=false:=by rw[M_];omega
  simp![it,dB,e,M7 hl]
def oo{v:Val}(ha:gJ 2 v=true):ft.G [v]=.ok (.val (.bl (fQ v))) []:=by
 unfold ft
 rw[aZ]
 unfold kW
 rcases fB v with ht |⟨xs,rfl⟩
 ·have it:=eL (Cr ha ht)
  rw[ht] at it
  simp![it,N0 ht]
 have it:=eL (v:=.tup xs) rfl
 by_cases hl:xs.length=4
 ·match
   xs,hl,ha with
  |
   [a,b,c,d],_,ha=>
   have e1:fQ (.tup [a,b,c,d])=(aR a&&(aR b&&(aR c&&(aR d&&(ju c&&ju d))))):=rfl
   have bl4:∀x y z w:Bool,j0 [.bl x,.bl y,.bl z,.bl w]=some [x,y,z,w]:=λ_ _ _ _=>rfl
   obtain⟨e',⟨s',rfl,_⟩,lc⟩:=nC (g:=(gtN 0).G) (F:=(ai bX (aa (af 0) ag)).G) (f:=λv=>.bl (aR v)) (λe=>∃s,e=[s]/\s.pl=true) [a,b,c,d] [] [.no] ⟨.no,rfl,rfl⟩ (by
    rintro v hv e ⟨s,rfl,hs⟩
    have hv':gJ 1 v=true:=N_.mp (by simpa [gJ] using ha) v hv
    refine⟨[.sh v],.val (.bl (aR v)),[.sh v],?_,?_,rfl,⟨_,rfl,rfl⟩⟩
    ·simp![hs]
    ·simp![nG hv']) (by simp)
   have cy:cY=qY.G:=rfl
   rw[cy,Ou] at lc
   simp only[s_,OF] at lc
   cases hA:(aR a&&(aR b&&(aR c&&aR d))) with
   |
    true=>
    simp only[n_] at hA
    obtain⟨p,rfl⟩:=xa hA.2.2.1
    obtain⟨q,rfl⟩:=xa hA.2.2.2
    rw[hA.1,hA.2.1,hA.2.2.1,hA.2.2.2] at e1 lc
    have e2:fQ (.tup [a,b,fV p,fV q])=(decide (0<p.num)&&decide (0<q.num)):=by rw[e1];rfl
    rw[e2]
    have i1:(fV p).items=some [.int p.num,.int p.den]:=rfl
    have i2:(fV q).items=some [.int q.num,.int q.den]:=rfl
    by_cases hp:0<p.num
    ·simp![it,dB,lc,cx,bl4,id,i1,i2,F_ hp]
    ·simp![it,dB,lc,cx,bl4,id,i1,A_ hp]
   |
    false=>
    have e2:fQ (.tup [a,b,c,d])=false:=by
     rw[e1]
     revert hA
     generalize aR a=a',aR b=b',aR c=c',aR d=d',(ju c&&ju d)=z
     revert a' b' c' d' z
     decide
    rw[e2]
    simp![it,dB,lc,cx,bl4,id,hA]
 ·have e:(((xs.length:Nat):Int)==4)=false:=by rw[M_];omega
  simp![it,dB,e,Cy hl]
def jE{v:Val}(ha:gJ 2 v=true):bq.G [v]=if fQ v=true then .ok (.val .non) [] else .exc "NoBox" []:=by
 unfold bq
 rw[aZ]
 unfold iz
 cases h:fQ v with
 |true=>simp![oo ha,h]
 |false=>simp![oo ha,h]
def fh{b:Bx}(hb:b.Ok):bq.G [bV b]=.ok (.val .non) []:=by rw[jE (Jv b),AG hb];rfl
def M6{v:Val}(h:iG v=false):ia v=false:=by
 cases v <;> first |rfl |cases h
def zF(v:Val):dP v=false\/∃xs,v=.lst xs:=by
 cases v <;> first |exact .inr ⟨_,rfl⟩ |exact .inl rfl
def qQ{v:Val}(hk:knV v=true):cP.G [v]=.ok (.val (.bl (ia v))) []:=by
 have w:=d9 hk
 unfold cP
 rw[aZ]
 unfold iE
 rcases gL v with h |⟨i,rfl⟩
 ·rw[h] at w
  simp![w,M6 h]
 ·simp![w,iG];rfl
def ug{v:Val}(hk:knV v=true):(ay aE).G [v,.ty "list"]=.val (.bl (dP v)):=by
 cases v <;> first |rfl |cases hk
def nQ(v:Val):R3F:=match v with
 |.lst xs=>if xs=[] then .exc "NoWeights" [] else if xs.all ia=true then (if xs.length<=40 then .ok (.val .non) [] else .exc "TooMany" []) else .exc "NoWeights" []
 |_=>.exc "NoWeights" []
def JV{v:Val}(h:dP v=false):nQ v=.exc "NoWeights" []:=by
 cases v <;> first |rfl |cases h
noncomputable def lQ:Val->Bool
 |.lst xs=>decide (xs.length<=1000)&&xs.all knV
 |v=>knV v
def Dp{v:Val}(h:lQ v=true)(hl:dP v=false):knV v=true:=by cases v <;> first |(cases hl;done) |exact h
theorem jt(f:Val->Bool):∀xs:List Val,j0 (xs.map λv=>.bl (f v))=some (xs.map f)
 | []=>rfl
 |x::xs=>by show (j0 (xs.map λv=>.bl (f v))).map (f x :: ·)=_;rw[jt f xs];rfl
def i6(f:Val->Bool)(xs:List Val):(xs.map f).all id=xs.all f:=by rw[List.all_map];rfl
def eD{v:Val}(ha:lQ v=true):aM.G [v]=nQ v:=by
 unfold aM
 rw[aZ]
 unfold eU
 rcases zF v with hv |⟨xs,rfl⟩
 ·have il:=ug (Dp ha hv)
  rw[hv] at il
  rw[JV hv]
  simp![il]
 ·have ha':xs.length<=1000/\xs.all knV=true:=by simpa [lQ] using ha
  have il:=ug (v:=.lst xs) rfl
  unfold nQ
  dsimp only
  by_cases h0:xs=[]
  ·subst h0
   simp![il]
  ·have e0:(((xs.length:Nat):Int)==0)=false:=by
    rw[M_]
    intro z
    exact h0 (OL.mp (by omega))
   rw[if_neg h0]
   obtain⟨e',p',lc⟩:=nC (g:=(gtN 0).G) (F:=(ai cP (aa (af 0) ag)).G) (f:=λv=>.bl (ia v)) (λe=>∃s,e=[s]/\s.pl=true) xs [] [.no] ⟨.no,rfl,rfl⟩ (by
    rintro v hv e ⟨s,rfl,hs⟩
    refine⟨[.sh v],.val (.bl (ia v)),[.sh v],?_,?_,rfl,⟨_,rfl,rfl⟩⟩
    ·simp![hs]
    ·simp![qQ (N_.mp ha'.2 v hv)]) (by simp;omega)
   obtain⟨s',rfl,_⟩:=p'
   have cy:cY=qY.G:=rfl
   rw[cy,Ou] at lc
   have bd:(xs.map λv=>Val.bl (ia v)).length<=16777216:=by rw[j_];omega
   by_cases hw:xs.all ia=true
   ·rw[if_pos hw]
    by_cases h40:xs.length<=40
    ·have hd:decide ((40:Int)<((xs.length:Nat):Int))=false:=A_ (by omega)
     rw[if_pos h40]
     simp![il,e0,cx,lc,bd,jt,i6,hw,hd]
    ·have hd:decide ((40:Int)<((xs.length:Nat):Int))=true:=F_ (by omega)
     rw[if_neg h40]
     simp![il,e0,cx,lc,bd,jt,i6,hw,hd]
   ·have hw':xs.all ia=false:=Bool.eq_false_iff.mpr hw
    rw[if_neg hw]
    simp![il,e0,cx,lc,bd,jt,i6,hw']
def rM{ws:List Int}(h0:ws≠[])(h1:∀w∈ws,1<=w)(h2:ws.length<=40):aM.G [.lst (ws.map .int)]=.ok (.val .non) []:=by
 have ha:lQ (.lst (ws.map .int))=true:=by
  simp only[lQ,n_,O9,j_]
  exact⟨by omega,by rw[N_];intro v hv;obtain⟨w,_,rfl⟩:=Oi.mp hv;rfl⟩
 rw[eD ha]
 unfold nQ
 dsimp only
 rw[if_neg (by intro z;exact h0 (QH.mp z)),if_pos (by
  rw[N_];intro v hv
  obtain⟨w,hw,rfl⟩:=Oi.mp hv
  exact F_ (h1 w hw)),if_pos (by rw[j_];exact h2)]
noncomputable def rh:Val->Bool
 |.str _=>true
 |_=>false
def tM{v:Val}(hk:knV v=true):(ay aE).G [v,.ty "str"]=.val (.bl (rh v)):=by
 cases v <;> first |rfl |exact absurd hk r_
def ym(w:Str):([Val.str "across",.str "down"].any λd=>eq1 d (.str w))=fo w:=by
 show ((("across" : Str)==w) || ((("down" : Str)==w) || false))=decide (w="across" \/ w="down")
 rw[Bool.or_false,Pl,Qt,Ow,Ow,Pj]
 exact⟨λh=>h.elim (λz=>.inl z.symm) (λz=>.inr z.symm),λh=>h.elim (λz=>.inl z.symm) (λz=>.inr z.symm)⟩
def Eb(w:Str):bIn.G (.str w) (.tup [.str "across",.str "down"])=.val (.bl (fo w)):=by
 rw[<- ym]
 rfl
def qK(w:Str):Bi.G (.str w) (.tup [.str "across",.str "down"])=.val (.bl (!fo w)):=by
 rw[<- ym]
 rfl
def wyV:Val->Bool
 |.str w=>fo w
 |_=>false
def v7{v:Val}(hk:knV v=true):da.G [v]=.ok (.val (.bl (wyV v))) []:=by
 have i1:=tM hk
 unfold da
 rw[aZ]
 unfold jr
 cases v with
 |
  str w=>
  have i2:=Eb w
  rw[show rh (.str w)=true from rfl] at i1
  unfold wyV
  simp![i1,i2]
 |_=>first |(exact absurd hk r_) |(simp only[rh] at i1;unfold wyV;simp![i1])
def oX{v:Val}(hk:knA v=true):dn.G [v]=.ok (.val (.bl (brV v).isSome)) []:=by
 have i1:=eL (dH hk)
 unfold dn
 rw[aZ]
 unfold ij
 rcases fB v with h |⟨xs,rfl⟩
 ·have hb:brV v=none:=by
   unfold brV
   split
   ·cases h
   ·rfl
  rw[h] at i1
  rw[hb]
  simp![i1,OG]
 ·have kx
   : ∀x∈xs,knA x=true:=bZ.mp (by simpa [knA] using hk)
  have it:dB (.tup xs)=true:=rfl
  rw[it] at i1
  by_cases h2:xs.length=2
  ·obtain⟨a,b,rfl⟩:∃a b,xs=[a,b]:=by
    match xs,h2 with
    | [a,b],_=>exact⟨a,b,rfl⟩
   have ka:=kx a (by simp)
   have kb:=kx b (by simp)
   have w1:=v7 (dH ka)
   have i2:=eL (dH kb)
   cases hw:wyV a with
   |
    false=>
    rw[hw] at w1
    have hb:brV (.tup [a,b])=none:=by
     unfold brV
     split
     ·rename_i w ts e
      cases e
      rw[if_neg]
      rintro⟨h1,_⟩
      rw[show wyV (.str w)=fo w from rfl,h1] at hw
      cases hw
     ·rfl
    rw[hb]
    simp![i1,w1,cF,OG]
   |
    true=>
    rw[hw] at w1
    obtain⟨w,rfl,hw'⟩:∃w,a=.str w/\fo w=true:=by
     cases a <;> first |(cases hw;done) |exact⟨_,rfl,hw⟩
    rcases fB b with h |⟨ys,rfl⟩
    ·rw[h] at i2
     have hb:brV (.tup [.str w,b])=none:=by
      unfold brV
      split
      ·rename_i e
       cases e
       cases h
      ·rfl
     rw[hb]
     simp![i1,w1,cF,i2,OG]
    ·rw[show dB (.tup ys)=true from rfl] at i2
     by_cases hy:2<=ys.length
     ·have hb:brV (.tup [.str w,.tup ys])=some ys:=by simp only[brV,if_pos (And.intro hw' hy)]
      rw[hb]
      simp![i1,w1,cF,i2,Option.isSome_some,F_ (show (2:Int)<=(ys.length:Nat) by omega)]
     ·have hb:brV (.tup [.str w,.tup ys])=none:=by simp only[brV,if_neg (λz:fo w=true/\2<=ys.length=>hy z.2)]
      rw[hb]
      simp![i1,w1,cF,i2,OG,A_ (show ¬ (2:Int)<=(ys.length:Nat) by omega)]
  ·have hb:brV (.tup xs)=none:=by
    unfold brV
    split
    ·rename_i e
     cases e
     exact absurd rfl h2
    ·rfl
   have e:(((xs.length:Nat):Int)==2)=false:=by rw[M_];omega
   rw[hb]
   simp![i1,e,OG]
def gdS(n:Nat)(st:List Val)(xs:List Int):Prop:=∃ns,aS st=some ns/\(∀i∈ns,0<=i/\i<n)/\(ns++xs).Nodup
def lR{a b c s4:Sl}{st:List Val}{t:Val}(h4:s4.pl=true):(aC false 4 (je 3 jv)).G [a,b,c,.ow (.lst (st++[t])),s4]=.nx [a,b,c,.ow (.lst st),.sh t]:=by
 simp![mL,h4]
theorem lH{n:Nat}(v:Val):∀(N:Nat) (st:List Val) (xs:List Int) (s4:Sl),aL st<=N->N<=3000->s4.pl=true->(∀x∈st,knA x=true)->xs.length+N<=3000->xs.Nodup->
 (∀ns,aS st=some ns->(∀i∈ns,0<=i/\i<n)->(ns++xs).Nodup->∃(ys:List Int) (s4':Sl),ys.length=xs.length+ns.length/\(xWh (qTr (af 3)) bc).G [.sh v,.sh (.int (n:Nat)),.ow (.set xs),.ow (.lst st),s4]=.nx [.sh v,.sh (.int (n:Nat)),.ow (.set ys),.ow (.lst []),s4'])/\
 (¬ gdS n st xs->∃e,(xWh (qTr (af 3)) bc).G [.sh v,.sh (.int (n:Nat)),.ow (.set xs),.ow (.lst st),s4]=.rt (.val (.bl false)) (.sh v :: .sh (.int (n:Nat))::e))
 |N,[],xs,s4,_,_,_,_,_,nd=>⟨λns e _ _=>⟨xs,s4,by rw[aS] at e;cases e;rfl,by
  rw[jH]
  simp![kS,List.isEmpty_nil]⟩,λh=>absurd ⟨[],rfl,(λ_ z=>nomatch z),nd⟩ h⟩
 |
  0,t::ts,xs,s4,h,_,_,_,_,_=>by
  have:=eG (t::ts)
  rw[x_] at this
  omega
 |
  N+1,t0::ts0,xs,s4,hN,hM,h4,hk,hx,nd=>by
  obtain⟨st,t,hst⟩:∃st t,t0::ts0=st++[t]:=⟨(t0::ts0).dropLast,(t0::ts0).getLast (by simp),(Pc (by simp)).symm⟩
  rw[hst] at hN hk ⊢
  rw[dO] at hN
  have hn0:(st++[t]).isEmpty=false:=by cases st <;> rfl
  have c1:(qTr (af 3)).G [.sh v,.sh (.int (n:Nat)),.ow (.set xs),.ow (.lst (st++[t])),s4]=.ok true [.sh v,.sh (.int (n:Nat)),.ow (.set xs),.ow (.lst (st++[t])),s4]:=by
   simp![kS,hn0,Bool.not_false]
  have kt:=hk t (by simp)
  have b1:=oX kt
  have hs1:aL [t]=vsz t:=by simp [aL]
  rw[hs1] at hN
  have tp:=iX t
  have ap:=gF st [t]
  rw[gP] at ap
  unfold gdS
  rw[jH,c1]
  simp only[v8,O4]
  cases hb:brV t with
  |
   some ts=>
   rw[hb] at b1
   obtain⟨l1,l2,w,hw,h2,rfl⟩:=pD hb
   have kts:∀x∈ts,knA x=true:=by
    have:knA (.tup ts)=true:=(bZ.mp (by simpa [knA] using kt)) _ (by simp)
    exact bZ.mp (by simpa [knA] using this)
   obtain⟨q1,q2⟩:=lH (n:=n) v N (st++ts) xs (.sh (.tup [.str w,.tup ts])) (by rw[dO];omega) (by omega) rfl (λx hx=>by
    rcases OC.mp hx with hx |hx
    ·exact hk x (by simp [hx])
    ·exact kts x hx) (by omega) nd
   have ap2:=gF st ts
   rw[l1,<- ap2] at ap
   have ll:st.length+ts.length<=16777216:=by
    have:=eG st
    have:=eG ts
    omega
   have bb:bc.G [.sh v,.sh (.int (n:Nat)),.ow (.set xs),.ow (.lst (st++[.tup [.str w,.tup ts]])),s4]=.nx [.sh v,.sh (.int (n:Nat)),.ow (.set xs),.ow (.lst (st++ts)),.sh (.tup [.str w,.tup ts])]:=by
    unfold bc
    rw[eY,lR h4,fL]
    simp![b1,Option.isSome_some,oB,ll]
   rw[bb,ap]
   exact⟨q1,q2⟩
  |
   none=>
   rw[hb] at b1
   have ln:=l8 hb
   have w1:=d9 (dH kt)
   rcases gL t with hi |⟨i,rfl⟩
   ·rw[hi] at w1
    have ln':lvV t=none:=by
     rw[ln]
     cases t <;> first |rfl |(cases hi;done)
    rw[ln'] at ap
    have ap':aS (st++[t])=none:=by rw[ap];cases aS st <;> rfl
    have bb:∃e,bc.G [.sh v,.sh (.int (n:Nat)),.ow (.set xs),.ow (.lst (st++[t])),s4]=.rt (.val (.bl false)) (.sh v :: .sh (.int (n:Nat))::e):=⟨[.ow (.set xs),.ow (.lst st),.sh t],by
     unfold bc
     rw[eY,lR h4,fL]
     simp![b1,OG,w1]⟩
    obtain⟨e,bb⟩:=bb
    rw[bb]
    refine⟨λns z=>?_,λ_=>⟨e,rfl⟩⟩
    rw[ap'] at z
    cases z
   ·dsimp
     only at ln
    rw[ln] at ap
    rw[show iG (.int i)=true from rfl] at w1
    by_cases hg:0<=i/\i<n/\i∉xs
    ·obtain⟨g1,g2,g3⟩:=hg
     have ei:fG xs i=i::xs:=by unfold fG;rw[if_neg g3]
     obtain⟨q1,q2⟩:=lH (n:=n) v N st (i::xs) (.sh (.int i)) (by omega) (by omega) rfl (λx hx=>hk x (by simp [hx])) (by rw[x_];omega) (O8.mpr ⟨g3,nd⟩)
     have xl:xs.length<4000:=by omega
     have bb:bc.G [.sh v,.sh (.int (n:Nat)),.ow (.set xs),.ow (.lst (st++[.int i])),s4]=.nx [.sh v,.sh (.int (n:Nat)),.ow (.set (fG xs i)),.ow (.lst st),.sh (.int i)]:=by
      unfold bc
      rw[eY,lR h4,fL]
      simp![b1,OG,w1,A_ (show ¬ i<0 by omega),A_ (show ¬ ((n:Nat):Int)<=i by omega),CK,A_ g3,IJ,pX,zO,xl]
     rw[bb,ei]
     refine⟨λns e h1 h2=>?_,λhng=>q2 λ⟨ns,e,h1,h2⟩=>hng ⟨ns++[i],?_,?_,?_⟩⟩
     ·rw[ap] at e
      cases hq:aS st with
      |none=>rw[hq] at e;cases e
      |
       some ms=>
       rw[hq] at e
       cases e
       obtain⟨ys,s4',y1,y2⟩:=q1 ms hq (λj hj=>h1 j (OX _ hj)) (by rw[OD] at h2;exact h2)
       exact⟨ys,s4',by rw[y1,x_,l_];simp;omega,y2⟩
     ·rw[ap,e]
     ·intro j hj
      rcases OC.mp hj with hj |hj
      ·exact h1 j hj
      ·rw[Pg.mp hj];exact⟨g1,g2⟩
     ·rw[OD];exact h2
    ·have bb
      : ∃e,bc.G [.sh v,.sh (.int (n:Nat)),.ow (.set xs),.ow (.lst (st++[.int i])),s4]=.rt (.val (.bl false)) (.sh v :: .sh (.int (n:Nat))::e):=⟨[.ow (.set xs),.ow (.lst st),.sh (.int i)],by
      unfold bc
      rw[eY,lR h4,fL]
      by_cases g1:i<0
      ·simp![b1,OG,w1,F_ g1]
      ·by_cases g2:((n:Nat):Int)<=i
       ·simp![b1,OG,w1,A_ g1,F_ g2]
       ·have g3:i∈xs:=by
         by_cases z:i∈xs
         ·exact z
         ·exact absurd ⟨by omega,by omega,z⟩ hg
        simp![b1,OG,w1,A_ g1,A_ g2,CK,F_ g3]⟩
     obtain⟨e,bb⟩:=bb
     rw[bb]
     refine⟨λns z h1 h2=>?_,λ_=>⟨e,rfl⟩⟩
     rw[ap] at z
     cases hq:aS st with
     |none=>rw[hq] at z;cases z
     |
      some ms=>
      rw[hq] at z
      cases z
      refine absurd ⟨(h1 i (by simp)).1,(h1 i (by simp)).2,λz=>?_⟩ hg
      have:=List.nodup_append.mp h2
      exact this.2.2 i (by simp) i z rfl
def fP{v:Val}{n:Nat}(hk:knA v=true)(hz:vsz v<=3000):aD.G [v,.int (n:Nat)]=.ok (.val (.bl (bS n v))) []:=by
 obtain⟨q1,q2⟩:=lH (n:=n) v 3000 [v] [] .no (by simp [aL];omega) (by omega) rfl (λx hx=>by rw[Pg.mp hx];exact hk) (by simp) List.nodup_nil
 unfold aD
 rw[aZ]
 unfold jK
 by_cases hg:gdS n [v] []
 ·obtain⟨ns,e,h1,h2⟩:=hg
  obtain⟨ys,s4',y1,y2⟩:=q1 ns e h1 h2
  rw[gP] at e
  have et:bS n v=decide (ns.Perm (rgI n)):=by unfold bS;rw[e]
  rw[OB] at h2
  have el:(((ys.length:Nat):Int)==(n:Nat))=decide (ns.Perm (rgI n)):=by
   rw[Pl,Ow,Pj,gz]
   rw[y1,Ol]
   constructor
   ·intro z;exact⟨h2,h1,by omega⟩
   ·rintro⟨_,_,z⟩;omega
  rw[et,<- el]
  simp![yb,y2,ID]
 ·obtain⟨e,y⟩:=q2 hg
  have hb:bS n v=false:=by
   unfold bS
   cases hq:lvV v with
   |none=>rfl
   |
    some l=>
    dsimp only
    rw[decide_eq_false_iff_not,gz]
    rintro⟨z1,z2,_⟩
    exact hg ⟨l,by rw[gP];exact hq,z2,by rw[OB];exact z1⟩
  rw[hb]
  simp![yb,y]
def iU{v:Val}{n:Nat}(hk:knA v=true)(hz:vsz v<=3000):cE.G [v,.int (n:Nat)]=if bS n v=true then .ok (.val .non) [] else .exc "NoTree" []:=by
 have e:=fP (n:=n) hk hz
 unfold cE
 rw[aZ]
 unfold gx
 cases hb:bS n v with
 |true=>rw[hb] at e;simp![e]
 |false=>rw[hb] at e;simp![e]
def kB{a b c s4:Sl}{st:List Val}{t:Val}(h4:s4.pl=true):(aC false 4 (je 2 jv)).G [a,b,.ow (.lst (st++[t])),c,s4]=.nx [a,b,.ow (.lst st),c,.sh t]:=by
 simp![mL,h4]
theorem gB{nv:Val}(v:Val):∀(N:Nat) (st:List Val) (acc:List Int) (s4:Sl),aL st<=N->N<=3000->s4.pl=true->(∀x∈st,knA x=true)->acc.length+N<=3000->
 (∀ns,aS st=some ns->∃(ms:List Int) (s4':Sl),ms.Perm (acc++ns)/\(xWh (qOf (pOp nF (af 2) (aB ag))) aK).G [.sh v,.sh nv,.ow (.lst st),.ow (.lst (acc.map .int)),s4]=.nx [.sh v,.sh nv,.ow (.lst []),.ow (.lst (ms.map .int)),s4'])/\
 (aS st=none->∃e,(xWh (qOf (pOp nF (af 2) (aB ag))) aK).G [.sh v,.sh nv,.ow (.lst st),.ow (.lst (acc.map .int)),s4]=.rt (.val (.bl false)) (.sh v :: .sh nv::e))
 |N,[],acc,s4,_,_,_,_,_=>⟨λns e=>⟨acc,s4,by rw[aS] at e;cases e;rw[OB],by
  rw[jH]
  simp![Ct,List.isEmpty_nil]⟩,λh=>by rw[aS] at h;cases h⟩
 |
  0,t::ts,acc,s4,h,_,_,_,_=>by
  have:=eG (t::ts)
  rw[x_] at this
  omega
 |
  N+1,t0::ts0,acc,s4,hN,hM,h4,hk,hx=>by
  obtain⟨st,t,hst⟩:∃st t,t0::ts0=st++[t]:=⟨(t0::ts0).dropLast,(t0::ts0).getLast (by simp),(Pc (by simp)).symm⟩
  rw[hst] at hN hk ⊢
  rw[dO] at hN
  have hn0:(st++[t]).isEmpty=false:=by cases st <;> rfl
  have c1:(qOf (pOp nF (af 2) (aB ag))).G [.sh v,.sh nv,.ow (.lst (st++[t])),.ow (.lst (acc.map .int)),s4]=.ok true [.sh v,.sh nv,.ow (.lst (st++[t])),.ow (.lst (acc.map .int)),s4]:=by
   simp![Ct,hn0]
  have kt:=hk t (by simp)
  have hs1:aL [t]=vsz t:=by simp [aL]
  rw[hs1] at hN
  have tp:=iX t
  have ap:=gF st [t]
  rw[gP] at ap
  rw[jH,c1]
  simp only[v8,O4]
  have i1:=eL (dH kt)
  have ll0:(acc.map Val.int).length<16777216:=by rw[j_];omega
  rcases fB t with h |⟨xs,rfl⟩
  ·
   have hb:brV t=none:=by
    unfold brV
    split
    ·cases h
    ·rfl
   have ln:=l8 hb
   rw[h] at i1
   have w1:=d9 (dH kt)
   have ib:(ay aE).G [t,.ty "bool"]=.val (.bl (match t with |.bl _=>true |_=>false)):=by
    have:=dH kt
    cases t <;> first |rfl |exact absurd this r_
   have ii:(ay aE).G [t,.ty "int"]=.val (.bl (match t with |.bl _=>true |.int _=>true |_=>false)):=by
    have:=dH kt
    cases t <;> first |rfl |exact absurd this r_
   rcases gL t with hi |⟨i,rfl⟩
   ·have ln':lvV t=none:=by
     rw[ln]
     cases t <;> first |rfl |(cases hi;done)
    have ap':aS (st++[t])=none:=by rw[ap,ln'];cases aS st <;> rfl
    have bb:aK.G [.sh v,.sh nv,.ow (.lst (st++[t])),.ow (.lst (acc.map .int)),s4]=.rt (.val (.bl false)) [.sh v,.sh nv,.ow (.lst st),.ow (.lst (acc.map .int)),.sh t]:=by
     unfold aK
     rw[eY,kB h4,fL]
     have bi:(ay aE).G [t,.ty "bool"]=.val (.bl true)\/(ay aE).G [t,.ty "bool"]=.val (.bl false)/\(ay aE).G [t,.ty "int"]=.val (.bl false):=by
      have:=dH kt
      cases t <;> first |(cases hi;done) |exact .inl rfl |exact .inr ⟨rfl,rfl⟩ |exact absurd this r_
     rcases bi with b1 |⟨b1,b2⟩
     ·simp![i1,b1]
     ·simp![i1,b1,b2]
    rw[bb]
    exact⟨(λns z=>by rw[ap'] at z;cases z),λ_=>⟨_,rfl⟩⟩
   ·dsimp only at ln ib ii
    obtain⟨q1,q2⟩:=gB (nv:=nv) v N st (acc++[i]) (.sh (.int i)) (by omega) (by omega) rfl (λx hx=>hk x (by simp [hx])) (by rw[l_];simp;omega)
    have bb:aK.G [.sh v,.sh nv,.ow (.lst (st++[.int i])),.ow (.lst (acc.map .int)),s4]=.nx [.sh v,.sh nv,.ow (.lst st),.ow (.lst ((acc++[i]).map .int)),.sh (.int i)]:=by
     unfold aK
     rw[eY,kB h4,fL]
     rw[Oo,s_,OF]
     generalize acc.map Val.int=AC at *
     simp![i1,ib,ii,ll0]
    rw[bb,ap,ln]
    cases hq:aS st with
    |none=>exact⟨(λns z=>by cases z),λ_=>q2 hq⟩
    |
     some ms=>
     refine⟨λns z=>?_,λz=>by cases z⟩
     cases z
     obtain⟨ks,s4',y1,y2⟩:=q1 ms hq
     refine⟨ks,s4',y1.trans ?_,y2⟩
     rw[OD]
     exact List.Perm.append_left _ List.perm_append_comm
  ·rw[show dB
    (.tup xs)=true from rfl] at i1
   have kx:∀x∈xs,knA x=true:=bZ.mp (by simpa [knA] using kt)
   cases hb:brV (.tup xs) with
   |
    some ts=>
    obtain⟨l1,l2,w,hw,h2,e⟩:=pD hb
    cases e
    have kts:∀x∈ts,knA x=true:=by
     have:knA (.tup ts)=true:=kx _ (by simp)
     exact bZ.mp (by simpa [knA] using this)
    obtain⟨q1,q2⟩:=gB (nv:=nv) v N (st++ts) acc (.sh (.tup [.str w,.tup ts])) (by rw[dO];omega) (by omega) rfl (λx hx=>by
     rcases OC.mp hx with hx |hx
     ·exact hk x (by simp [hx])
     ·exact kts x hx) (by omega)
    have ap2:=gF st ts
    rw[l1,<- ap2] at ap
    have sl:=eG st
    have tl:=eG ts
    have ll:st.length+ts.length<=16777216:=by omega
    have l3:ts.length<=16777216:=by omega
    have nw:=qK w
    rw[hw] at nw
    have is:(ay aE).G [.str w,.ty "str"]=.val (.bl true):=rfl
    have i2:(ay aE).G [.tup ts,.ty "tuple"]=.val (.bl true):=rfl
    have lt2:decide (((ts.length:Nat):Int)<2)=false:=A_ (by omega)
    have bb:aK.G [.sh v,.sh nv,.ow (.lst (st++[.tup [.str w,.tup ts]])),.ow (.lst (acc.map .int)),s4]=.nx [.sh v,.sh nv,.ow (.lst (st++ts)),.ow (.lst (acc.map .int)),.sh (.tup [.str w,.tup ts])]:=by
     unfold aK
     rw[eY,kB h4,fL]
     generalize acc.map Val.int=AC at *
     simp![i1,cF,is,nw,i2,lt2,l3,ll]
    rw[bb,ap]
    exact⟨q1,q2⟩
   |
    none=>
    have ln:=l8 hb
    dsimp only at ln
    have ap':aS (st++[.tup xs])=none:=by rw[ap,ln];cases aS st <;> rfl
    have bb
     : aK.G [.sh v,.sh nv,.ow (.lst (st++[.tup xs])),.ow (.lst (acc.map .int)),s4]=.rt (.val (.bl false)) [.sh v,.sh nv,.ow (.lst st),.ow (.lst (acc.map .int)),.sh (.tup xs)]:=by
     unfold aK
     rw[eY,kB h4,fL]
     generalize acc.map Val.int=AC at *
     by_cases h2:xs.length=2
     ·obtain⟨a,b,rfl⟩:∃a b,xs=[a,b]:=by
       match xs,h2 with
       | [a,b],_=>exact⟨a,b,rfl⟩
      have ka:=kx a (by simp)
      have kb:=kx b (by simp)
      have is:=tM (dH ka)
      have i2:=eL (dH kb)
      have ha:(∃w,a=.str w)\/rh a=false:=by
       cases a <;> first |exact .inl ⟨_,rfl⟩ |exact .inr rfl
      rcases ha with ⟨w,rfl⟩ |ha
      ·rw[show rh (.str w)=true from rfl] at is
       have nw:=qK w
       cases hw:fo w with
       |
        false=>
        rw[hw] at nw
        simp![i1,cF,is,nw]
       |
        true=>
        rw[hw] at nw
        rcases fB b with h |⟨ys,rfl⟩
        ·rw[h] at i2
         simp![i1,cF,is,nw,i2]
        ·rw[show dB (.tup ys)=true from rfl] at i2
         by_cases hy:2<=ys.length
         ·simp only[brV,if_pos (And.intro hw hy)] at hb
          cases hb
         ·have lt2:decide (((ys.length:Nat):Int)<2)=true:=F_ (by omega)
          simp![i1,cF,is,nw,i2,lt2]
      ·rw[ha] at is
       simp![i1,cF,is]
     ·have e:(((xs.length:Nat):Int)==2)=false:=by rw[M_];omega
      simp![i1,e]
    rw[bb]
    exact⟨(λns z=>by rw[ap'] at z;cases z),λ_=>⟨_,rfl⟩⟩
def JJ{n:Nat}(hn:n<=1000):∃s,lcV (gtN 0).G qY.G (af 0).G (rgV n) [] [.no]=.ok ((rgI n).map .int) [s]:=by
 obtain⟨e',⟨s,rfl,_⟩,lc⟩:=c6 (g:=(gtN 0).G) (F:=(af 0).G) (λk:Nat=>Val.int k) (λk:Nat=>Val.int k) (λe=>∃s:Sl,e=[s]/\s.pl=true) (List.range n) [] [.no] ⟨.no,rfl,rfl⟩ (by
  rintro k hk _ ⟨s,rfl,hs⟩
  refine⟨[.sh (.int (k:Nat))],.val (.int (k:Nat)),[.sh (.int (k:Nat))],?_,?_,rfl,_,rfl,rfl⟩
  ·simp![hs]
  ·simp![gh]) (by rw[Ol,PV];omega)
 refine⟨s,?_⟩
 unfold rgI
 rw[O1]
 exact lc
def D8(a b:List Int):c8 (.lst (a.map .int)) (.lst (b.map .int))=some (decide (a=b)):=by
 have wf:∀l:List Int,wfV 60 (.lst (l.map .int))=true:=λl=>by
  show f9 59 (l.map .int)=true
  exact tR λv hv=>by obtain⟨w,_,rfl⟩:=Oi.mp hv;rfl
 have nb:∀l:List Int,j5 (.lst (l.map .int))=true:=λl=>by
  show fS (l.map .int)=true
  exact tV λv hv=>by obtain⟨w,_,rfl⟩:=Oi.mp hv;rfl
 rw[Np (wf a) (wf b)]
 congr 1
 rw[Pl,wU _ _ (nb a) (nb b),Pj]
 constructor
 ·intro z
  injection z with z
  exact (List.map_inj_right (λx y h=>by injection h)).mp z
 ·rintro rfl;rfl
def l0{v:Val}{n:Nat}(hk:knA v=true)(hz:vsz v<=3000)(hm:∀ns,lvV v=some ns->ns.length<64)(hn:n<=1000):b0.G [v,.int (n:Nat)]=.ok (.val (.bl (bS n v))) []:=by
 obtain⟨q1,q2⟩:=gB (nv:=.int (n:Nat)) v 3000 [v] [] .no (by simp [aL];omega) (by omega) rfl (λx hx=>by rw[Pg.mp hx];exact hk) (by simp)
 have rg:gM [.int (n:Nat)]=some (rgV n):=ky (by omega)
 obtain⟨s,lc⟩:=JJ hn
 have lr:((rgI n).map Val.int).length<=16777216:=by unfold rgI;simp;omega
 rw[gP,OF] at q1 q2
 unfold b0
 rw[aZ]
 unfold gb
 cases hq:lvV v with
 |
  none=>
  obtain⟨e,y⟩:=q2 hq
  have hb:bS n v=false:=by unfold bS;rw[hq]
  rw[hb]
  simp![y]
 |
  some ns=>
  obtain⟨ms,s4',p,y⟩:=q1 ns hq
  rw[Ou] at p
  have len:=hm ns hq
  have ks:=zE ms (by rw[p.length_eq];exact len)
  have hb:bS n v=decide (srI ms=rgI n):=by
   unfold bS
   rw[hq]
   dsimp only
   rw[decide_eq_decide]
   constructor
   ·intro h
    have h2:((rgI n).Pairwise (·<=·)):=by
     unfold rgI
     rw[PX]
     exact PQ (λh=>by omega) List.pairwise_lt_range
    exact (xX ((h.symm.trans p.symm)) h2).symm
   ·intro h
    exact (p.symm.trans (lq ms).symm).trans (by rw[h])
  have ei:=D8 (srI ms) (rgI n)
  rw[hb]
  generalize (srI ms).map Val.int=S1 at *
  generalize (rgI n).map Val.int=R1 at *
  generalize ms.map Val.int=M1 at *
  simp![y,ks,rg,cx,inS,lc,lr,ei]
def gG(f:Nat->Val)(w:Bool)(ts:List AT):AT.val f (.nd w ts)=.tup [.str (wy w),.tup (ts.map (AT.val f))]:=by rw[AT.val,AT.vals_map]
noncomputable def bK(num:Nat)(new:Val)(k:Nat):Val:=if k=num then new else .int (k:Nat)
def wQ{num:Nat}{new:Val}(t:AT):∀m,t.dep<=m->t.ok=true->t.lvs.length<=1000->(cL m).G [atV t,.int (num:Nat),new]=.ok (.val (t.val (bK num new))) []:=by
 induction t using AT.ind with
 |
  h1 k=>
  intro m hm _ _
  have i1:(ay aE).G [.int (k:Nat),.ty "tuple"]=.val (.bl false):=rfl
  have av:atV (.lf k)=.int (k:Nat):=rfl
  cases m with
  |zero=>simp [AT.dep] at hm
  |
   succ m=>
   show (PFx.of [false,false,false] 3 (dS (cL m))).G [atV (.lf k),.int (num:Nat),new]=_
   rw[gm]
   unfold dS
   rw[AT.val,av]
   unfold bK
   by_cases hk:k=num
   ·rw[if_pos hk]
    have e:(((k:Nat):Int)==(num:Nat))=true:=by rw[Ow];omega
    simp![i1,e]
   ·rw[if_neg hk]
    have e:(((k:Nat):Int)==(num:Nat))=false:=by rw[M_];omega
    simp![i1,e]
 |
  h2 w ts ih=>
  intro m hm ho hl
  cases m with
  |zero=>simp [AT.dep] at hm
  |
   succ m=>
   rw[AT.dep] at hm
   have hd:=AT.depL_le.mp (show AT.depL ts<=m by omega)
   rw[AT.ok,n_] at ho
   have hk:=AT.okL_mem.mp ho.2
   rw[AT.lvs] at hl
   have lt:ts.length<=1000:=by
    have:=dJ (f:=AT.lvs) (l:=ts) λt ht=>eJ (hk t ht)
    rw[<- AT.lvsL_flat] at this
    omega
   obtain⟨e',⟨s,rfl,_⟩,lc⟩:=c6 (g:=(gtN 0).G) (F:=(ai (cL m).fn (aa (af 0) (aa (af 1) (aa (af 2) ag)))).G) atV (λt=>t.val (bK num new)) (λe=>∃s:Sl,e=[s,.sh (.int (num:Nat)),.sh new]/\s.pl=true) ts [] [.no,.sh (.int (num:Nat)),.sh new] ⟨.no,rfl,rfl⟩ (by
    rintro t ht _ ⟨s,rfl,hs⟩
    have:=ih t ht m (hd t ht) (hk t ht) (by have:=AT.lvs_le ht;omega)
    generalize atV t=tv at *
    generalize t.val (bK num new)=tw at *
    refine⟨[.sh tv,.sh (.int (num:Nat)),.sh new],.val tw,[.sh tv,.sh (.int (num:Nat)),.sh new],?_,?_,rfl,_,rfl,rfl⟩
    ·simp![hs]
    ·simp![this]) (by rw[Ol];omega)
   have l3:(ts.map λt=>t.val (bK num new)).length<=16777216:=by rw[j_];omega
   have av:atV (.nd w ts)=.tup [.str (wy w),.tup (ts.map atV)]:=gG _ w ts
   rw[Ou] at lc
   show (PFx.of [false,false,false] 3 (dS (cL m))).G [atV (.nd w ts),.int (num:Nat),new]=_
   rw[gm]
   unfold dS
   rw[av,gG]
   generalize ts.map (λt=>t.val (bK num new))=QV at *
   generalize ts.map atV=TV at *
   simp![iN,cF,cx,inS,lc,l3]
def EK{f:Nat->Val}(t:AT):icn (t.val f)=(t.lvs.map λk=>icn (f k)).sum:=by
 induction t using AT.ind with
 |h1 k=>rw[AT.val,AT.lvs];simp
 |
  h2 w ts ih=>
  rw[gG,AT.lvs]
  simp only[icn,bo]
  rw[Nat.add_zero,Nat.zero_add]
  induction ts with
  |nil=>simp [AT.lvsL,bo]
  |cons t ts ih2=>rw[s_,bo,AT.lvsL,Oo,List.sum_append,ih t (o_ ..),ih2 λu hu=>ih u (m_ _ hu)]
def uM{f:Nat->Val}{c:Nat}(hc:1<=c)(t:AT)(h:∀k∈t.lvs,vsz (f k)<=c)(hk:∀k∈t.lvs,knA (f k)=true):vsz (t.val f)<=3*c*t.cnt/\knA (t.val f)=true:=by
 induction t using AT.ind with
 |
  h1 k=>
  have h1:=h k (by rw[AT.lvs];exact o_ ..)
  have h2:=hk k (by rw[AT.lvs];exact o_ ..)
  rw[AT.val,AT.cnt]
  exact⟨by omega,h2⟩
 |
  h2 w ts ih=>
  rw[AT.lvs] at h hk
  have key:∀ts:List AT,(∀t∈ts,vsz (t.val f)<=3*c*t.cnt/\knA (t.val f)=true)->aL (ts.map (AT.val f))<=3*c*AT.cntL ts/\bJ (ts.map (AT.val f))=true:=by
   intro ts
   induction ts with
   |nil=>intro _;simp [aL,bJ]
   |
    cons t ts ih2=>
    intro hh
    obtain⟨a1,a2⟩:=hh t (o_ ..)
    obtain⟨b1,b2⟩:=ih2 λu hu=>hh u (m_ _ hu)
    rw[s_,aL,bJ,AT.cntL,a2,b2,Nat.mul_add]
    exact⟨by omega,rfl⟩
  obtain⟨k1,k2⟩:=key ts λt ht=>ih t ht (λk hk'=>h k (AT.lvsL_mem.mpr ⟨t,ht,hk'⟩)) λk hk'=>hk k (AT.lvsL_mem.mpr ⟨t,ht,hk'⟩)
  rw[gG]
  refine⟨?_,?_⟩
  ·simp only[vsz,aL,AT.cnt]
   have:3*c*(AT.cntL ts+1)=3*c*AT.cntL ts+3*c:=by rw[Nat.mul_add,Nat.mul_one]
   omega
  ·simp only[knA,bJ,k2];rfl
theorem um{num c:Nat}:∀{l:List Nat},l.Nodup->(l.map λk=>if k=num then c else 1).sum<=l.length+c
 | [],_=>by simp
 |
  k::l,nd=>by
  rw[O8] at nd
  rw[s_,Ov,x_]
  by_cases hk:k=num
  ·subst
    hk
   rw[if_pos rfl]
   have:(l.map λj=>if j=k then c else 1).sum=l.length:=by
    have:∀l:List Nat,k∉l->(l.map λj=>if j=k then c else 1).sum=l.length:=by
     intro l
     induction l with
     |nil=>intro _;rfl
     |
      cons j l ih=>
      intro h
      rw[H_,not_or] at h
      rw[s_,Ov,x_,if_neg (λz=>h.1 z.symm),ih h.2]
      omega
    exact this l nd.1
   omega
  ·rw[if_neg hk]
   have:=um (num:=num) (c:=c) nd.2
   omega
def rE{g:Nat->Int}(t:AT)(h:t.ok=true):lvV (t.val λk=>.int (g k))=some (t.lvs.map g):=by
 induction t using AT.ind with
 |h1 k=>rw[AT.val,AT.lvs,lvV];rfl
 |
  h2 w ts ih=>
  rw[AT.ok,n_] at h
  have h2:=Om h.1
  have hk:=AT.okL_mem.mp h.2
  have hw:fo (wy w)=true:=by cases w <;> decide +kernel
  rw[gG,lvV,if_pos ⟨hw,by rw[j_];exact h2⟩,AT.lvs]
  clear h h2
  induction ts with
  |nil=>rfl
  |cons t ts ih2=>rw[s_,aS,ih t (o_ ..) (hk t (o_ ..)),ih2 (λu hu=>ih u (m_ _ hu)) λu hu=>hk u (m_ _ hu),AT.lvsL,Oo]
def Ao{r w v x:Val}(h:br.G [r,w,v]=.ok (.new x) []):az.G [r,w,v]=.ok (.val (.int 3)) []:=by
 have i1:∀c:Str,c="NoBox" \/ c="NoWeights" \/ c="NoTree" \/ c="TooMany"->(ay aE).G [.non,.glb c]=.val (.bl false):=by
  rintro c (rfl |rfl |rfl |rfl) <;> rfl
 have i2:(ay aE).G [.non,.tup [.glb "NoRule",.glb "NoText",.glb "NoWay"]]=.val (.bl false):=rfl
 have ct:kd.G (.lst [.bl false,.bl false,.bl false,.bl true,.bl false]) [.bl true]=.val (.int 1):=rfl
 have ix:kz.G (.lst [.bl false,.bl false,.bl false,.bl true,.bl false]) [.bl true]=.val (.int 3):=rfl
 have j1:=i1 "NoBox" (.inl rfl)
 have j2:=i1 "NoWeights" (.inr (.inl rfl))
 have j3:=i1 "NoTree" (.inr (.inr (.inl rfl)))
 have j4:=i1 "TooMany" (.inr (.inr (.inr rfl)))
 unfold az
 rw[aZ]
 unfold fK
 simp![nh,h,j1,j2,j3,j4,i2,ct,ix]
noncomputable def clN(c:Str):Int:=if c="NoBox" then 0 else if c="NoWeights" then 1 else if c="NoTree" then 2 else 4
def jD{r w v:Val}{c:Str}(hc:c="NoBox" \/ c="NoWeights" \/ c="NoTree" \/ c="TooMany")(h:br.G [r,w,v]=.exc c []):az.G [r,w,v]=.ok (.val (.int (clN c))) []:=by
 have m:c∈fZ:=by rcases hc with rfl |rfl |rfl |rfl <;> decide +kernel
 have i2:(ay aE).G [.exc c,.tup [.glb "NoRule",.glb "NoText",.glb "NoWay"]]=.val (.bl false):=by rcases hc with rfl |rfl |rfl |rfl <;> rfl
 have j1:(ay aE).G [.exc c,.glb "NoBox"]=.val (.bl (decide (c="NoBox"))):=by rcases hc with rfl |rfl |rfl |rfl <;> rfl
 have j2:(ay aE).G [.exc c,.glb "NoWeights"]=.val (.bl (decide (c="NoWeights"))):=by rcases hc with rfl |rfl |rfl |rfl <;> rfl
 have j3:(ay aE).G [.exc c,.glb "NoTree"]=.val (.bl (decide (c="NoTree"))):=by rcases hc with rfl |rfl |rfl |rfl <;> rfl
 have j4:(ay aE).G [.exc c,.glb "TooMany"]=.val (.bl (decide (c="TooMany"))):=by rcases hc with rfl |rfl |rfl |rfl <;> rfl
 have ct:kd.G (.lst [.bl (decide (c="NoBox")),.bl (decide (c="NoWeights")),.bl (decide (c="NoTree")),.bl false,.bl (decide (c="TooMany"))]) [.bl true]=.val (.int 1):=by rcases hc with rfl |rfl |rfl |rfl <;> rfl
 have ix:kz.G (.lst [.bl (decide (c="NoBox")),.bl (decide (c="NoWeights")),.bl (decide (c="NoTree")),.bl false,.bl (decide (c="TooMany"))]) [.bl true]=.val (.int (clN c)):=by rcases hc with rfl |rfl |rfl |rfl <;> rfl
 unfold az
 rw[aZ]
 unfold fK
 generalize decide (c="NoBox")=d1 at *
 generalize decide (c="NoWeights")=d2 at *
 generalize decide (c="NoTree")=d3 at *
 generalize decide (c="TooMany")=d4 at *
 simp![nh,h,m,j1,j2,j3,j4,i2,ct,ix]
def rH{a b k:Int}{m:Nat}(hm:m<=1000):∃(o:List Nat) (a' b':Int),(∀i,i∈o ↔ i<m)/\o.length=m/\cS.G [fdV a b k,.int (m:Nat)]=.ok (.new (itV o)) [fdV a' b' k]:=by
 have rg:gM [.int (m:Nat)]=some (rgV m):=Fy (i:=(m:Nat)) (by omega) (by omega)
 obtain⟨e',⟨a',b',o,s3,h1,h2,_,rfl⟩,lo⟩:=B8 (g:=(gtN 3).G) (B:=fc.G) (λi e=>∃(a b:Int) (o:List Nat) (s3:Sl),o.length=i/\(∀j,j∈o ↔ j<i)/\s3.pl=true/\e=[.mu (fdV a b k),.sh (.int (m:Nat)),.ow (itV o),s3]) m (e:=[.mu (fdV a b k),.sh (.int (m:Nat)),.ow (itV []),.no]) ⟨a,b,[],.no,rfl,by simp,rfl,rfl⟩ (by
  rintro i hi _ ⟨a,b,o,s3,h1,h2,h3,rfl⟩
  obtain⟨r,a1,b1,e1,r0,r1⟩:=bD (a:=a) (b:=b) (k:=k) (m:=(o.length:Nat)+1) (by omega) (sm8 (by omega))
  refine⟨[.mu (fdV a b k),.sh (.int (m:Nat)),.ow (itV o),.sh (.int (i:Nat))],[.mu (fdV a1 b1 k),.sh (.int (m:Nat)),.ow (itV (o.take r.toNat++i::o.drop r.toNat)),.sh (.int (i:Nat))],?_,.inl ?_,a1,b1,_,_,?_,?_,rfl,rfl⟩
  ·simp![h3]
  ·have ln:(o.map λk:Nat=>Val.int k).length=o.length:=j_ ..
   have ins:(0<=r/\r<=(o.length:Nat)/\o.length<16777216):=⟨r0,by omega,by omega⟩
   unfold fc itV
   generalize hf:fdV a b k=f0 at *
   generalize hf1:fdV a1 b1 k=f1 at *
   simp![ln,e1,A7,ins,true_and,and_true,and_self]
   simp [List.map_take,List.map_drop]
  ·simp only[l_,x_,OM,Px]
   omega
  ·intro j
   rw[OC,H_]
   have:j∈o ↔ j∈o.take r.toNat\/j∈o.drop r.toNat:=by rw[<- OC,O3]
   rw[show (j<i+1 ↔ j<i\/j=i) from by omega,<- h2 j,this]
   constructor
   ·rintro (h |h |h)
    ·exact .inl (.inl h)
    ·exact .inr h
    ·exact .inl (.inr h)
   ·rintro ((h |h) |h)
    ·exact .inl h
    ·exact .inr (.inr h)
    ·exact .inr (.inl h))
 refine⟨o,a',b',h2,h1,?_⟩
 unfold cS
 rw[aZ]
 unfold iB
 unfold itV at lo ⊢
 generalize fdV a b k=f0 at *
 generalize fdV a' b' k=f1 at *
 rw[OF] at lo
 simp![rg,lo]
def nK{a b k:Int}:∃(w:Bool) (r a' b':Int),ar.G [fdV a b k,.int 2]=.ok (.val (.int r)) [fdV a' b' k]/\atI [Val.str "across",Val.str "down"] r=some (Val.str (wy w)):=by
 obtain⟨r,a1,b1,e1,r0,r1⟩:=bD (a:=a) (b:=b) (k:=k) (m:=2) (by decide) (sm8 (by decide))
 obtain rfl |rfl:r=0\/r=1:=by omega
 ·exact⟨true,0,a1,b1,e1,cU (by decide) rfl⟩
 ·exact⟨false,1,a1,b1,e1,cU (by decide) rfl⟩
theorem mK{k:Int}(nv:Val):∀(bp:List Nat) (t:AT) (l:List Nat) (a b:Int) (s3:Sl),s3.pl=true->TOk t l->∃(t':AT) (a' b':Int) (s3':Sl),TOk t' (bp.reverse++l)/\dC (gtN 3).G cX.G (bp.map λi:Nat=>.int i) [.mu (fdV a b k),.sh nv,.sh (t.val λk=>.int (k:Nat)),s3]=.nx [.mu (fdV a' b' k),.sh nv,.sh (t'.val λk=>.int (k:Nat)),s3']
 | [],t,l,a,b,s3,_,h=>⟨t,a,b,s3,h,rfl⟩
 |
  x::bp,t,l,a,b,s3,h3,h=>by
  obtain⟨w,r,a1,b1,e1,w1⟩:=nK (a:=a) (b:=b) (k:=k)
  obtain⟨r2,a2,b2,e2,r0,r1⟩:=bD (a:=a1) (b:=b1) (k:=k) (m:=2) (by decide) (sm8 (by decide))
  have key:∃t1,TOk t1 (x::l)/\cX.G [.mu (fdV a b k),.sh nv,.sh (t.val λk=>.int (k:Nat)),.sh (.int (x:Nat))]=.nx [.mu (fdV a2 b2 k),.sh nv,.sh (t1.val λk=>.int (k:Nat)),.sh (.int (x:Nat))]:=by
   have hd:=h.dep
   have hp:=AT.dep_pos t
   obtain rfl |rfl:r2=0\/r2=1:=by omega
   ·refine⟨.nd w [.lf x,t],⟨by simp [AT.ok,AT.okL,h.ok],λk=>by simp [AT.lvs,AT.lvsL,h.mem],by simp [AT.dep,AT.depL] <;> omega,by simp [AT.lvs,AT.lvsL,h.len] <;> omega⟩,?_⟩
    unfold cX
    rw[AT.val,AT.vals,AT.vals,AT.vals,AT.val]
    generalize AT.val (λk=>Val.int (k:Nat)) t=tv at *
    generalize fdV a b k=f0 at *
    generalize fdV a1 b1 k=f1 at *
    generalize fdV a2 b2 k=f2 at *
    simp![e1,w1,e2]
   ·refine⟨.nd w [t,.lf x],⟨by simp [AT.ok,AT.okL,h.ok],λk=>by simp [AT.lvs,AT.lvsL,h.mem,or_comm],by simp [AT.dep,AT.depL] <;> omega,by simp [AT.lvs,AT.lvsL,h.len]⟩,?_⟩
    unfold cX
    rw[AT.val,AT.vals,AT.vals,AT.vals,AT.val]
    generalize AT.val (λk=>Val.int (k:Nat)) t=tv at *
    generalize fdV a b k=f0 at *
    generalize fdV a1 b1 k=f1 at *
    generalize fdV a2 b2 k=f2 at *
    simp![e1,w1,e2]
  obtain⟨t1,h1,bb⟩:=key
  obtain⟨t',a',b',s3',h',q⟩:=mK (k:=k) nv bp t1 (x::l) a2 b2 (.sh (.int (x:Nat))) rfl h1
  refine⟨t',a',b',s3',by rw[List.reverse_cons,OD];exact h',?_⟩
  rw[s_,gQ]
  have g1:(gtN 3).G (.int (x:Nat)) [.mu (fdV a b k),.sh nv,.sh (t.val λk=>.int (k:Nat)),s3]=some [.mu (fdV a b k),.sh nv,.sh (t.val λk=>.int (k:Nat)),.sh (.int (x:Nat))]:=by
   generalize AT.val (λk=>Val.int (k:Nat)) t=tv at *
   simp![h3]
  rw[g1]
  dsimp only
  rw[bb]
  exact q
def Aq{a b k:Int}{l:List Nat}(hl:l≠[]):∃(t:AT) (a' b':Int),TOk t l/\de.G [fdV a b k,itV l]=.ok (.val (t.val λk=>.int (k:Nat))) [fdV a' b' k]:=by
 cases l with
 |nil=>exact absurd rfl hl
 |
  cons x bp=>
  obtain⟨t,a',b',s3,h,q⟩:=mK (k:=k) (itV (x::bp)) bp (.lf x) [x] a b .no rfl ⟨rfl,λk=>by simp [AT.lvs],p_ _,rfl⟩
  refine⟨t,a',b',⟨h.ok,λk=>by rw[h.mem];simp [or_comm],by have:=h.dep;simpa using this,by have:=h.len;simpa using this⟩,?_⟩
  unfold de
  rw[aZ]
  unfold ip
  rw[AT.val] at q
  unfold itV at q ⊢
  generalize AT.val (λk=>Val.int (k:Nat)) t=tv at *
  generalize fdV a b k=f0 at *
  generalize fdV a' b' k=f1 at *
  rw[s_] at q ⊢
  simp![rF,MM,cF,q]
theorem uN{k:Int}(nv:Val)(m:Nat)(hm:1<=m/\m<=1000):∀(vs:List Nat) (xss:List (List Nat)) (a b:Int) (s4:Sl),s4.pl=true->xss.length=m->(∀l∈xss,l≠[])->xss.flatten.length+vs.length<=1000->∃(yss:List (List Nat)) (a' b':Int) (s4':Sl),Lots yss xss vs/\fi 3 4 (ai ar (aa (af 0) (aa (af 2) ag))).G (vs.map λi:Nat=>.int i) (xss.map λl=>l.map λi:Nat=>.int i) [.mu (fdV a b k),.sh nv,.sh (.int (m:Nat)),.no,s4]=.nx [.mu (fdV a' b' k),.sh nv,.sh (.int (m:Nat)),.sh (.lst (BI yss)),s4']
 |
  [],xss,a,b,s4,_,_,ne,_=>⟨xss,a,b,s4,⟨rfl,ne,λk=>by simp,rfl⟩,by
  unfold fi
  show SR3.nx _=_
  rw[O1]
  rfl⟩
 |
  v::vs,xss,a,b,s4,h4,hl,ne,ht=>by
  rw[x_] at ht
  obtain⟨r,a1,b1,e1,r0,r1⟩:=bD (a:=a) (b:=b) (k:=k) (m:=(m:Nat)) (by omega) (sm8 (by omega))
  have hi:r.toNat<xss.length:=by omega
  have hx:=z_ hi
  generalize xss[r.toNat]=xs at hx
  have L1:=Ak (u:=v) hx ne
  have hxl:xs.length<=1000:=by
   have:=Qm (P1 (ON hx))
   omega
  obtain⟨yss,a',b',s4',L2,q⟩:=uN (k:=k) nv m hm vs (xss.set r.toNat (xs++[v])) a1 b1 (.sh (.int (v:Nat))) rfl (by rw[C_];exact hl) L1.ne (by have:=L1.tot;simp only[x_,Ol] at this;omega)
  refine⟨yss,a',b',s4',⟨L2.len.trans L1.len,L2.ne,λk=>by rw[L2.mem,L1.mem];simp [or_assoc],by have t1:=L2.tot;have t2:=L1.tot;simp only[x_,Ol] at t2 ⊢;omega⟩,?_⟩
  have g1:pN 4 (.int (v:Nat)) [.mu (fdV a b k),.sh nv,.sh (.int (m:Nat)),.no,s4]=some [.mu (fdV a b k),.sh nv,.sh (.int (m:Nat)),.no,.sh (.int (v:Nat))]:=by
   unfold pN
   show (if s4.pl=true then _ else _)=_
   rw[if_pos h4]
   rfl
  have q1:(ai ar (aa (af 0) (aa (af 2) ag))).G [.mu (fdV a b k),.sh nv,.sh (.int (m:Nat)),.no,.sh (.int (v:Nat))]=.ok (.val (.int r)) [.mu (fdV a1 b1 k),.sh nv,.sh (.int (m:Nat)),.no,.sh (.int (v:Nat))]:=by
   generalize fdV a b k=f0 at *
   generalize fdV a1 b1 k=f1 at *
   simp![e1]
  have hx':(xss.map λl=>l.map λi:Nat=>Val.int i)[r.toNat]?=some (xs.map λi:Nat=>Val.int i):=by rw[E_,hx];rfl
  have sx:(xss.map λl=>l.map λi:Nat=>Val.int i).set r.toNat ((xs.map λi:Nat=>Val.int i)++[.int (v:Nat)])=(xss.set r.toNat (xs++[v])).map λl=>l.map λi:Nat=>Val.int i:=by rw[List.map_set,Oo];rfl
  rw[s_]
  unfold fi
  rw[g1]
  dsimp only
  rw[q1]
  dsimp only [rs]
  show (match (xss.map λl=>l.map λi:Nat=>Val.int i)[r.toNat]? with |some xs=>(if 0<=r/\xs.length<16777216 then fi 3 4 _ _ _ _ else .stuck) |none=>.stuck)=_
  rw[hx']
  dsimp only
  rw[if_pos ⟨r0,by rw[j_];omega⟩,sx]
  exact q
theorem oz{k:Int}{m n:Nat}(ih:∀(l:List Nat) (a b:Int),l≠[]->l.length<=n->∃(t:AT) (a' b':Int),TOk t l/\(bu m).G [fdV a b k,itV l]=.ok (.val (atV t)) [fdV a' b' k]):
 ∀(ls:List (List Nat)) (acc:List Val) (a b:Int) (s:Sl),s.pl=true->(∀l∈ls,l≠[]/\l.length<=n)->acc.length+ls.length<=16777216->∃(ps:List (AT×List Nat)) (a' b':Int) (s':Sl),ps.map (·.2)=ls/\(∀p∈ps,TOk p.1 p.2)/\lcV (gtN 0).G qY.G (ai (bu m).fn (aa (af 1) (aa (af 0) ag))).G (ls.map itV) acc [s,.mu (fdV a b k)]=.ok (acc++ps.map λp=>atV p.1) [s',.mu (fdV a' b' k)]
 | [],acc,a,b,s,_,_,_=>⟨[],a,b,s,rfl,(λ_ h=>nomatch h),by simp [lcV]⟩
 |
  l::ls,acc,a,b,s,hs,hl,ha=>by
  rw[x_] at ha
  obtain⟨h1,h2⟩:=hl l (o_ ..)
  obtain⟨t,a1,b1,ht,e1⟩:=ih l a b h1 h2
  obtain⟨ps,a',b',s',q1,q2,q3⟩:=oz ih ls (acc++[atV t]) a1 b1 (.sh (itV l)) rfl (λl hl'=>hl l (m_ _ hl')) (by rw[l_];show acc.length+1+_<=_;omega)
  refine⟨(t,l)::ps,a',b',s',by rw[s_,q1],λp hp=>?_,?_⟩
  ·rcases H_.mp hp with rfl |hp
   ·exact ht
   ·exact q2 p hp
  ·show lcV _ _ _ (itV l::ls.map itV) acc _=.ok (acc++atV t::ps.map λp=>atV p.1) _
   generalize atV t=tv at *
   generalize itV l=lv at *
   have g1:(gtN 0).G lv [s,.mu (fdV a b k)]=some [.sh lv,.mu (fdV a b k)]:=by
    simp![hs]
   have F1:(ai (bu m).fn (aa (af 1) (aa (af 0) ag))).G [.sh lv,.mu (fdV a b k)]=.ok (.val tv) [.sh lv,.mu (fdV a1 b1 k)]:=by
    generalize fdV a b k=f0 at *
    generalize fdV a1 b1 k=f1 at *
    simp![e1]
   have d1:cH [.sh lv,.mu (fdV a1 b1 k)] (.val tv)=some ([.sh lv,.mu (fdV a1 b1 k)],tv):=rfl
   unfold lcV
   have cy:qY.G=cY:=rfl
   rw[cy] at q3 ⊢
   rw[if_pos (by omega),g1]
   simp only[cY,gh,O4,F1,d1,q3]
   simp
def t3_a{L:Nat}(h:2<=L):0<(if ((L:Nat):Int)-1<3 then ((L:Nat):Int)-1 else 3)/\Sm 8000 (if ((L:Nat):Int)-1<3 then ((L:Nat):Int)-1 else 3):=by
 split
 ·exact⟨by omega,sm8 (by omega)⟩
 ·exact⟨by decide,sm8 (by decide)⟩
def t3_b{L:Nat}{r:Int}(h:r<if ((L:Nat):Int)-1<3 then ((L:Nat):Int)-1 else 3):r<3/\r<(L:Int)-1:=by split at h <;> omega
def t3_c{L:Nat}(h:0<L)(h1:¬ L=1):2<=L:=by omega
def t3_d{L mn:Nat}{r:Int}(h:(mn:Int)=2+r)(r0:0<=r)(r1:r<3)(r2:r<(L:Int)-1):2<=mn/\mn<=5/\mn<=L:=by omega
theorem nu{k:Int}:∀(n m:Nat) (l:List Nat) (a b:Int),l≠[]->l.length<=n->n<=m->n<=100->∃(t:AT) (a' b':Int),TOk t l/\(bu m).G [fdV a b k,itV l]=.ok (.val (atV t)) [fdV a' b' k]
 |0,m,l,a,b,hl,hn,_,_=>absurd (OL.mp (Nat.le_zero.mp hn)) hl
 |n+1,0,l,a,b,_,_,hm,_=>absurd hm (Nat.not_succ_le_zero _)
 |
  n+1,m+1,l,a,b,hl,hn,hm,h100=>by
  have ih:=λ(l:List Nat) (a b:Int) (h1:l≠[]) (h2:l.length<=n)=>nu (k:=k) n m l a b h1 h2 (Nat.le_of_succ_le_succ hm) (Nat.le_of_succ_le h100)
  have hpos:=QG.mpr hl
  have ll:(l.map λk:Nat=>Val.int k).length=l.length:=j_ ..
  show ∃t a' b',_/\(PFx.of [true,false] 5 (c7 (bu m))).G [fdV a b k,itV l]=_
  by_cases h1:l.length=1
  ·obtain⟨x,rfl⟩:=List.length_eq_one_iff.mp h1
   refine⟨.lf x,a,b,⟨rfl,λk=>by simp [AT.lvs],p_ _,rfl⟩,?_⟩
   rw[gm]
   unfold c7 atV itV
   rw[AT.val]
   generalize fdV a b k=f0 at *
   simp![s_,OF,cF]
  ·have h2':=t3_c hpos h1
   obtain⟨r,a1,b1,e1,r0,r1⟩:=bD (a:=a) (b:=b) (k:=k) (m:=if ((l.length:Nat):Int)-1<3 then ((l.length:Nat):Int)-1 else 3) (t3_a h2').1 (t3_a h2').2
   have hr:=t3_b r1
   obtain⟨mn,hmn⟩:∃mn:Nat,(mn:Int)=2+r:=⟨(2+r).toNat,QF (Int.add_nonneg (by decide) r0)⟩
   obtain⟨m2,m5,ml⟩:=t3_d hmn r0 hr.1 hr.2
   have ne1:(((l.length:Nat):Int)==1)=false:=by rw[M_];omega
   obtain⟨yss,a2,b2,s4,L,dl⟩:=uN (k:=k) (itV l) mn (by omega) (l.drop mn) ((l.take mn).map λx=>[x]) a1 b1 .no rfl (by rw[j_,OM];omega) (λx hx=>by obtain⟨y,_,rfl⟩:=Oi.mp hx;simp) (by
    have:((l.take mn).map λx=>[x]).flatten=l.take mn:=by rw[<- List.flatMap_def];exact List.flatMap_singleton' _
    rw[this,<- l_,O3]
    omega)
   have hfl:((l.take mn).map λx=>[x]).flatten=l.take mn:=by rw[<- List.flatMap_def];exact List.flatMap_singleton' _
   have hy2:2<=yss.length:=by rw[L.len,j_,OM];omega
   have htot:yss.flatten.length=l.length:=by rw[L.tot,hfl,<- l_,O3]
   obtain⟨w,rw',a3,b3,e3,w3⟩:=nK (a:=a2) (b:=b2) (k:=k)
   have hlt:=pZ L.ne
   obtain⟨ps,a4,b4,s0,q1,q2,q3⟩:=oz (k:=k) (m:=m) (n:=n) ih yss [] a3 b3 .no rfl (λx hx=>⟨L.ne x hx,by have:=hlt x hx;omega⟩) (by have:=nD L.ne;rw[Ol];omega)
   have pl:ps.length=yss.length:=by rw[<- q1,j_]
   have T:=Ft (w:=w) q2 (λz=>by rw[z] at pl;simp at pl;omega) (λp hp=>L.ne p.2 (by rw[<- q1];exact OR hp)) (by omega)
   rw[q1] at T
   refine⟨.nd w (ps.map (·.1)),a4,b4,⟨T.ok,λk=>?_,by have:=T.dep;omega,by rw[T.len,htot]⟩,?_⟩
   ·rw[T.mem,List.mem_flatten,L.mem]
    constructor
    ·rintro (⟨x,hx,hk⟩ |hk)
     ·obtain⟨y,hy,rfl⟩:=Oi.mp hx
      rw[Pg] at hk
      subst hk
      exact Qz hy
     ·exact List.mem_of_mem_drop hk
    ·intro hk
     rw[<- O3 mn l] at hk
     rcases OC.mp hk with hk |hk
     ·exact .inl ⟨[k],OR (f:=λx=>[x]) hk,Pg.mpr rfl⟩
     ·exact .inr hk
   ·rw[yC rfl]
    show trQ (atV (.nd w (ps.map (·.1)))) (fdV a4 b4 k) ((c7 (bu m)).G [.mu (fdV a b k),.sh (itV l),.no,.no,.no])
    unfold c7
    refine aJ (λe=>e=[.mu (fdV a b k),.sh (itV l),.no,.no,.no]) ⟨_,by unfold itV;simp![ll,ne1],rfl⟩ ?_
    rintro _ rfl
    refine aJ (λe=>e=[.mu (fdV a1 b1 k),.sh (itV l),.sh (.int (mn:Nat)),.no,.no]) ⟨_,by
     unfold itV
     generalize fdV a b k=f0 at *
     generalize fdV a1 b1 k=f1 at *
     simp![ll,e1,hmn],rfl⟩ ?_
    rintro _ rfl
    refine aJ (λe=>e=[.mu (fdV a2 b2 k),.sh (itV l),.sh (.int (mn:Nat)),.sh (.lst (BI yss)),s4]) ⟨_,?_,rfl⟩ ?_
    ·rw[zq]
     have i1:(bU (pSl (af 1) oN (oS (af 2)))).G [.mu (fdV a1 b1 k),.sh (itV l),.sh (.int (mn:Nat)),.no,.no]=.ok ((l.take mn).map λi:Nat=>.int i,none) [.mu (fdV a1 b1 k),.sh (itV l),.sh (.int (mn:Nat)),.no,.no]:=by
      unfold itV
      simp![rF,xH,List.map_take]
     have i2:(bU (pSl (af 1) (oS (af 2)) oN)).G [.mu (fdV a1 b1 k),.sh (itV l),.sh (.int (mn:Nat)),.no,.no]=.ok ((l.drop mn).map λi:Nat=>.int i,none) [.mu (fdV a1 b1 k),.sh (itV l),.sh (.int (mn:Nat)),.no,.no]:=by
      unfold itV
      simp![rF,kN,List.map_drop]
     rw[i1]
     show (if Sl.pl .no=true/\((l.take mn).map λi:Nat=>Val.int i).length<16777216 then _ else _)=_
     rw[if_pos ⟨rfl,by rw[j_,OM];omega⟩]
     show ((bU (pSl (af 1) (oS (af 2)) oN)).G [.mu (fdV a1 b1 k),.sh (itV l),.sh (.int (mn:Nat)),.no,.no]).toS _=_
     rw[i2]
     show fi 3 4 _ ((l.drop mn).map λi:Nat=>.int i) (((l.take mn).map λi:Nat=>Val.int i).map λv=>[v]) [.mu (fdV a1 b1 k),.sh (itV l),.sh (.int (mn:Nat)),.no,.no]=_
     have sx:(((l.take mn).map λi:Nat=>Val.int i).map λv=>[v])=((l.take mn).map λx=>[x]).map λl=>l.map λi:Nat=>Val.int i:=by rw[O1,O1];rfl
     rw[sx]
     exact dl
    ·rintro _ rfl
     have lp:(ps.map λp=>atV p.1).length<=16777216:=by have:=nD L.ne;rw[j_];omega
     rw[Ou] at q3
     unfold trQ
     unfold atV at q3 lp ⊢
     rw[AT.val,AT.vals_map,O1]
     unfold BI
     have cm:(List.map (AT.val (λk=>Val.int (k:Nat)) ∘ λx=>x.fst) ps)=ps.map λp=>AT.val (λk=>Val.int (k:Nat)) p.1:=rfl
     rw[cm]
     generalize (ps.map λp=>AT.val (λk=>Val.int (k:Nat)) p.1)=PS at *
     generalize itV l=lv at *
     generalize fdV a2 b2 k=f2 at *
     generalize fdV a3 b3 k=f3 at *
     generalize fdV a4 b4 k=f4 at *
     generalize yss.map itV=YS at *
     simp![e3,w3,cx,inS,q3,lp,lX]
noncomputable def iu(x:Val):Bool:=knA x&&(decide (vsz x<=12)&&decide (icn x<=2))
def EB{L:List Val}(h:L.all iu=true){i:Int}(h0:0<=i)(h1:i<L.length):∃x,atI L i=some x/\iu x=true:=by
 have hi:i.toNat<L.length:=by omega
 refine⟨L[i.toNat],cU h0 (z_ hi),N_.mp h _ (Qq _)⟩
def odQ(k:Int)(r:SR3):Prop:=∃x a c,iu x=true/\lE [true,false,false] r=.ok (.val x) [fdV a c k]
def Gj{a c k:Int}{m num:Nat}(hm:1<=m):∃x a' c',iu x=true/\eP.G [fdV a c k,.int (m:Nat),.int (num:Nat)]=.ok (.val x) [fdV a' c' k]:=by
 unfold eP
 rw[CC rfl]
 show odQ k (gY.G [.mu (fdV a c k),.sh (.int (m:Nat)),.sh (.int (num:Nat)),.no,.no,.no])
 unfold gY
 obtain⟨r,a1,c1,e1,r0,r1⟩:=bD (a:=a) (b:=c) (k:=k) (m:=99) (by decide) (sm8 (by decide))
 have p29:ja.G (.int 10) (.int 29)=.val (.int 100000000000000000000000000000):=vE ⟨by decide,by decide,by decide⟩
 refine aJ (λe=>∃far:Int,e=[.mu (fdV a1 c1 k),.sh (.int (m:Nat)),.sh (.int (num:Nat)),.sh (.int far),.no,.no]) ⟨[.mu (fdV a1 c1 k),.sh (.int (m:Nat)),.sh (.int (num:Nat)),.sh (.int (100000000000000000000000000000+r)),.no,.no],by simp![p29,e1],_,rfl⟩ ?_
 rintro _ ⟨far,rfl⟩
 have km:=hE (i:=((num:Nat):Int)+1) (j:=((m:Nat):Int)) (by omega)
 refine aJ (λe=>∃L:List Val,L.all iu=true/\L.length=11/\e=[.mu (fdV a1 c1 k),.sh (.int (m:Nat)),.sh (.int (num:Nat)),.sh (.int far),.sh (.lst L),.no]) ⟨[.mu (fdV a1 c1 k),.sh (.int (m:Nat)),.sh (.int (num:Nat)),.sh (.int far),.sh (.lst [.int (m:Nat),.int (-1),.int ((m:Nat)+far),.int (0-far),.int ((((num:Nat):Int)+1).fmod (m:Nat)),.bl true,.str "0",.non,.lst [.int (num:Nat)],.tup [.int (num:Nat),.int 1],.tup []]),.no],by simp![km],_,rfl,rfl,rfl⟩ ?_
 rintro _ ⟨L,hL,lL,rfl⟩
 obtain⟨w,r2,a2,c2,e2,at2⟩:=nK (a:=a1) (b:=c1) (k:=k)
 refine aJ (λe=>e=[.mu (fdV a2 c2 k),.sh (.int (m:Nat)),.sh (.int (num:Nat)),.sh (.int far),.sh (.lst L),.sh (.str (wy w))]) ⟨_,by simp![e2,at2],rfl⟩ ?_
 rintro _ rfl
 generalize wy w=ww
 refine aJ (λe=>∃L:List Val,L.all iu=true/\L.length=15/\e=[.mu (fdV a2 c2 k),.sh (.int (m:Nat)),.sh (.int (num:Nat)),.sh (.int far),.sh (.lst L),.sh (.str ww)]) ⟨[.mu (fdV a2 c2 k),.sh (.int (m:Nat)),.sh (.int (num:Nat)),.sh (.int far),.sh (.lst (L++[.tup [.str ww,.lst [.int (num:Nat),.int (m:Nat)]],.tup [.str ww,.tup [.int (num:Nat)]],.tup [.str ww,.tup []],.tup [.str "",.tup [.int (num:Nat),.int (m:Nat)]]])),.sh (.str ww)],by
  simp![lL],_,by rw[List.all_append,hL];rfl,by rw[l_,lL];rfl,rfl⟩ ?_
 clear hL lL L
 rintro _ ⟨L,hL,lL,rfl⟩
 refine aJ (λe=>∃L:List Val,L.all iu=true/\L.length=19/\e=[.mu (fdV a2 c2 k),.sh (.int (m:Nat)),.sh (.int (num:Nat)),.sh (.int far),.sh (.lst L),.sh (.str ww)]) ⟨[.mu (fdV a2 c2 k),.sh (.int (m:Nat)),.sh (.int (num:Nat)),.sh (.int far),.sh (.lst (L++[.tup [.str ww,.tup [.int (num:Nat)],.int 1],.tup [.non,.tup [.int (num:Nat),.int (m:Nat)]],.tup [.str "Across",.tup [.int (num:Nat),.int (m:Nat)]],.tup [.str ww,.int (num:Nat)]])),.sh (.str ww)],by
  simp![lL],_,by rw[List.all_append,hL];rfl,by rw[l_,lL];rfl,rfl⟩ ?_
 clear hL lL L
 rintro _ ⟨L,hL,lL,rfl⟩
 refine aJ (λe=>∃L:List Val,L.all iu=true/\L.length=22/\e=[.mu (fdV a2 c2 k),.sh (.int (m:Nat)),.sh (.int (num:Nat)),.sh (.int far),.sh (.lst L),.sh (.str ww)]) ⟨[.mu (fdV a2 c2 k),.sh (.int (m:Nat)),.sh (.int (num:Nat)),.sh (.int far),.sh (.lst (L++[.int (num:Nat),.dct [],.tup [.str ww,.tup [.int (num:Nat),.int (num:Nat)]]])),.sh (.str ww)],by
  simp![lL],_,by rw[List.all_append,hL];rfl,by rw[l_,lL];rfl,rfl⟩ ?_
 clear hL lL L
 rintro _ ⟨L,hL,lL,rfl⟩
 obtain⟨r3,a3,c3,e3,r30,r31⟩:=bD (a:=a2) (b:=c2) (k:=k) (m:=22) (by decide) (sm8 (by decide))
 obtain⟨x,hx,ox⟩:=EB hL r30 (by omega)
 refine⟨x,a3,c3,ox,?_⟩
 have lI:((L.length:Nat):Int)=22:=by omega
 simp![lI,e3,hx,lX]
structure BtOk(t:AT)(x:Val):Prop where
 kn:knA x=true
 sz:vsz x<=vsz (atV t)+12
 ic:icn x<=icn (atV t)+2
def btQ(t:AT)(k:Int)(r:SR3):Prop:=∃x a c,BtOk t x/\lE [true,false] r=.ok (.val x) [fdV a c k]
def CF{xs:List Val}{r:Nat}(h:r<xs.length):aSl (.tup xs) none (some ((r:Nat):Int))=.val (.tup (xs.take r)):=by
 show (if _/\_ then Bv.stuck else Bv.val (.tup (eT xs none (some ((r:Nat):Int)))))=_
 rw[if_neg,xH]
 rintro⟨_,z⟩
 rw[HT.sIx_nat] at z
 omega
def EU{xs:List Val}{r:Nat}(h:0<r)(hx:0<xs.length):aSl (.tup xs) (some ((r:Nat):Int)) none=.val (.tup (xs.drop r)):=by
 show (if _/\_ then Bv.stuck else Bv.val (.tup (eT xs (some ((r:Nat):Int)) none)))=_
 rw[if_neg,kN]
 rintro⟨z,_⟩
 rw[HT.sIx_nat] at z
 omega
def yf(l:List Val)(i:Nat):aL (l.take i)<=aL l/\bo (l.take i)<=bo l:=by
 have h1:=dO (l.take i) (l.drop i)
 have h2:=jb (l.take i) (l.drop i)
 rw[O3] at h1 h2
 omega
noncomputable def rJ{l l':List Val}(h:bJ l=true)(hs:∀x∈l',x∈l):bJ l'=true:=bZ.mpr λv hv=>bZ.mp h v (hs v hv)
noncomputable def bsB(x:Val):Bool:=knA x&&(decide (vsz x<=12)&&decide (icn x<=2))
def zf{t:AT}{x:Val}(h:bsB x=true):BtOk t x:=by
 unfold bsB at h
 rw[n_,n_] at h
 exact⟨h.1,y_ (Om h.2.1) (Nat.le_add_left ..),y_ (Om h.2.2) (Nat.le_add_left ..)⟩
def Lg{t:AT}{x:Val}{TV:List Val}(kts:bJ TV=true)(sv:vsz (atV t)=aL TV+3)(ic:icn (atV t)=bo TV)(h:bsB x=true):BtOk t (.tup [x,.tup TV]):=by
 unfold bsB at h
 rw[n_,n_] at h
 have h1:=h.1
 have h2:=Om h.2.1
 have h3:=Om h.2.2
 exact⟨by simp [knA,bJ,kts,h1],by rw[sv];simp only[vsz,aL];omega,by rw[ic];simp only[icn,bo];omega⟩
def Fi{k:Int}(t:AT):∀(m:Nat) (a c:Int),t.dep<=m->t.ok=true->t.lvs.length<=1000->∃x a' c',BtOk t x/\(cM m).G [fdV a c k,atV t]=.ok (.val x) [fdV a' c' k]:=by
 induction t using AT.ind with
 |
  h1 j=>
  intro m a c hm _ _
  cases m with
  |zero=>simp [AT.dep] at hm
  |
   succ m=>
   have i1:(ay aE).G [.int (j:Nat),.ty "tuple"]=.val (.bl false):=rfl
   have av:atV (.lf j)=.int (j:Nat):=rfl
   refine⟨atV (.lf j),a,c,⟨rfl,by omega,by omega⟩,?_⟩
   show (PFx.of [true,false] 6 (cN (cM m))).G [fdV a c k,atV (.lf j)]=_
   rw[gm,av]
   unfold cN
   simp![i1]
 |
  h2 w ts ih=>
  intro m a c hm ho hl
  cases m with
  |zero=>simp [AT.dep] at hm
  |
   succ m=>
   rw[AT.dep] at hm
   have hd:=AT.depL_le.mp (show AT.depL ts<=m by omega)
   have ho':=ho
   rw[AT.ok,n_] at ho
   have h2:=Om ho.1
   have hk:=AT.okL_mem.mp ho.2
   rw[AT.lvs] at hl
   have lt:ts.length<=1000:=by
    have:=dJ (f:=AT.lvs) (l:=ts) λt ht=>eJ (hk t ht)
    rw[<- AT.lvsL_flat] at this
    omega
   have av:atV (.nd w ts)=.tup [.str (wy w),.tup (ts.map atV)]:=gG _ w ts
   have kn:=(jM (.nd w ts)).2.2
   have kts:bJ (ts.map atV)=true:=by
    rw[av] at kn
    have:knA (.tup (ts.map atV))=true:=bZ.mp (by simpa [knA] using kn) _ (by simp)
    simpa [knA] using this
   have sv:vsz (atV (.nd w ts))=aL (ts.map atV)+3:=by rw[av];simp only[vsz,aL];omega
   have ic:icn (atV (.nd w ts))=bo (ts.map atV):=by rw[av];simp only[icn,bo];omega
   have ll:((ts.map atV).length:Nat)=ts.length:=j_ ..
   show ∃x a' c',BtOk (.nd w ts) x/\(PFx.of [true,false] 6 (cN (cM m))).G [fdV a c k,atV (.nd w ts)]=.ok (.val x) [fdV a' c' k]
   rw[yC rfl]
   show btQ (.nd w ts) k ((cN (cM m)).G [.mu (fdV a c k),.sh (atV (.nd w ts)),.no,.no,.no,.no])
   unfold cN
   refine aJ (λe=>e=[.mu (fdV a c k),.sh (atV (.nd w ts)),.no,.no,.no,.no]) ⟨[.mu (fdV a c k),.sh (atV (.nd w ts)),.no,.no,.no,.no],by rw[av];simp![iN],rfl⟩ ?_
   rintro _ rfl
   obtain⟨r,a1,c1,e1,r0,r1⟩:=bD (a:=a) (b:=c) (k:=k) (m:=(ts.length:Nat)) (by omega) (sm8 (by omega))
   obtain⟨r,rfl⟩:∃n:Nat,r=n:=⟨r.toNat,by omega⟩
   have hr:r<ts.length:=by omega
   refine aJ (λe=>e=[.mu (fdV a1 c1 k),.sh (.tup [.str (wy w),.tup (ts.map atV)]),.sh (.int (r:Nat)),.no,.no,.no]) ⟨_,by
    rw[av]
    generalize ts.map atV=TV at *
    simp![ll,e1],rfl⟩ ?_
   rintro _ rfl
   have hx:=z_ hr
   have hmem:=ON hx
   generalize ts[r]=u at *
   have atr:atI (ts.map atV) (r:Nat)=some (atV u):=cU (by omega) (by rw[Oy,E_,hx];rfl)
   have tail:∀a2 c2,btQ (.nd w ts) k ((ak (jy (af 1) (gtX (gtT 2 (bG (gtN 3) (bG (gtN 4) eX)))))
    (ak (aC false 5 (aB (aa (aq (aa (bz "") (aa (af 4) ag))) (aa (aq (aa (bz "Across") (aa (af 4) ag))) (aa (aq (aa (bz "across ") (aa (af 4) ag))) (aa (aq (aa jR (aa (af 4) ag))) (aa (aq (aa (ah 0) (aa (af 4) ag))) (aa (aq (aa (pBl true) (aa (af 4) ag))) (aa (aq (aa (aq ag) (aa (af 4) ag))) ag)))))))))
    (ak (aC false 5 (pOp aW (af 5) (aB (aa (aq (aa (aB (aa (bz "across") ag)) (aa (af 4) ag))) (aa (aq (aa (af 3) (aa (pFn jC (aa (af 4) ag)) ag))) (aa (aB (aa (af 3) (aa (af 4) ag))) (aa (aq (aa (af 3) (aa (af 4) (aa (ah 1) ag)))) (aa (aq (aa (af 4) (aa (af 3) ag))) (aa (aq (aa (af 3) ag)) (aa (af 4) ag))))))))))
    (aA (pOp bIx (pOp aW (af 5) (aB (aa (aq (aa pD0 (aa (af 4) ag))) (aa (aq (aa (af 3) (aa (af 4) ag))) (aa (aq (aa (af 3) (aa (pSl (af 4) oN (oS (ah 1))) ag))) ag))))) (ai ar (aa (af 0) (aa (pOp aW (pFn bA (aa (af 5) ag)) (ah 3)) ag)))))))).G [.mu (fdV a2 c2 k),.sh (.tup [.str (wy w),.tup (ts.map atV)]),.sh (.int (r:Nat)),.no,.no,.no]):=by
    intro a2 c2
    have l3:(ts.map atV).length<=16777216:=by rw[ll];omega
    obtain⟨q,a3,c3,e3,q0,q1⟩:=bD (a:=a2) (b:=c2) (k:=k) (m:=17) (by decide) (sm8 (by decide))
    have tk:=yf (ts.map atV) 1
    have k1:bJ ((ts.map atV).take 1)=true:=rJ kts λx hx=>Qz hx
    have zN:aSl (.tup (ts.map atV)) none (some 1)=.val (.tup ((ts.map atV).take 1)):=CF (r:=1) (by rw[ll];omega)
    have good:∀x∈([.tup [.str "",.tup (ts.map atV)],.tup [.str "Across",.tup (ts.map atV)],.tup [.str "across ",.tup (ts.map atV)],.tup [.non,.tup (ts.map atV)],.tup [.int 0,.tup (ts.map atV)],.tup [.bl true,.tup (ts.map atV)],.tup [.tup [],.tup (ts.map atV)],.tup [.lst [.str "across"],.tup (ts.map atV)],.tup [.str (wy w),.lst (ts.map atV)],.lst [.str (wy w),.tup (ts.map atV)],.tup [.str (wy w),.tup (ts.map atV),.int 1],.tup [.tup (ts.map atV),.str (wy w)],.tup [.str (wy w)],.tup (ts.map atV),.tup [.dct [],.tup (ts.map atV)],.tup [.str (wy w),.tup (ts.map atV)],.tup [.str (wy w),.tup ((ts.map atV).take 1)]]:List Val),BtOk (.nd w ts) x:=by
     generalize ts.map atV=TV at *
     repeat first
      |exact List.forall_mem_nil _
      |refine List.forall_mem_cons.mpr ⟨by first |exact zf rfl |exact Lg kts sv ic rfl |exact⟨by simp [knA,bJ,kts,k1,knV,tyC],by rw[sv];simp only[vsz,aL];omega,by rw[ic];simp only[icn,bo];omega⟩,?_⟩
    obtain⟨x,hx,ox⟩:∃x,atI ([.tup [.str "",.tup (ts.map atV)],.tup [.str "Across",.tup (ts.map atV)],.tup [.str "across ",.tup (ts.map atV)],.tup [.non,.tup (ts.map atV)],.tup [.int 0,.tup (ts.map atV)],.tup [.bl true,.tup (ts.map atV)],.tup [.tup [],.tup (ts.map atV)],.tup [.lst [.str "across"],.tup (ts.map atV)],.tup [.str (wy w),.lst (ts.map atV)],.lst [.str (wy w),.tup (ts.map atV)],.tup [.str (wy w),.tup (ts.map atV),.int 1],.tup [.tup (ts.map atV),.str (wy w)],.tup [.str (wy w)],.tup (ts.map atV),.tup [.dct [],.tup (ts.map atV)],.tup [.str (wy w),.tup (ts.map atV)],.tup [.str (wy w),.tup ((ts.map atV).take 1)]]:List Val) q=some x/\BtOk (.nd w ts) x:=by
     refine⟨_,cU q0 (z_ (show q.toNat<17 by omega)),good _ (Qq _)⟩
    refine⟨x,a3,c3,ox,?_⟩
    generalize (ts.map atV).take 1=T1 at *
    generalize ts.map atV=TV at *
    generalize wy w=ww at *
    clear good
    simp![l3,zN,e3,hx,lX]
   cases u with
   |
    lf j=>
    have i1:(ay aE).G [.int (j:Nat),.ty "tuple"]=.val (.bl false):=rfl
    have aj:atV (.lf j)=.int (j:Nat):=rfl
    rw[aj] at atr
    refine aJ (λe=>e=[.mu (fdV a1 c1 k),.sh (.tup [.str (wy w),.tup (ts.map atV)]),.sh (.int (r:Nat)),.no,.no,.no]) ⟨_,by
     generalize ts.map atV=TV at *
     simp![atr,i1],rfl⟩ ?_
    rintro _ rfl
    exact tail a1 c1
   |
    nd w' us=>
    obtain⟨q,a2,c2,e2,q0,q1⟩:=bD (a:=a1) (b:=c1) (k:=k) (m:=3) (by decide) (sm8 (by decide))
    have au:atV (.nd w' us)=.tup [.str (wy w'),.tup (us.map atV)]:=gG _ w' us
    by_cases hq:0<q
    ·obtain⟨x,a3,c3,B,e3⟩:=ih (.nd w' us) hmem m a2 c2 (hd _ hmem) (hk _ hmem) (by have:=AT.lvs_le hmem;omega)
     have dq:=F_ hq
     have cutA:aSl (.tup (ts.map atV)) none (some ((r:Nat):Int))=.val (.tup ((ts.map atV).take r)):=CF (by rw[ll];exact hr)
     have cutB:aSl (.tup (ts.map atV)) (some (((r:Nat):Int)+1)) none=.val (.tup ((ts.map atV).drop (r+1))):=EU (r:=r+1) (by omega) (by rw[ll];omega)
     have split:(ts.map atV).take r++atV (.nd w' us)::(ts.map atV).drop (r+1)=ts.map atV:=by
      have hr':r<(ts.map atV).length:=by rw[ll];exact hr
      have g:(ts.map atV)[r]=atV (.nd w' us):=by
       have:=z_ hr'
       rw[E_,hx] at this
       exact (G_ this).symm
      rw[<- g,List.getElem_cons_drop,O3]
     have s1:aL (ts.map atV)=aL ((ts.map atV).take r)+(vsz (atV (.nd w' us))+aL ((ts.map atV).drop (r+1))):=by
      conv=>lhs;rw[<- split]
      rw[dO,aL]
     have s2:bo (ts.map atV)=bo ((ts.map atV).take r)+(icn (atV (.nd w' us))+bo ((ts.map atV).drop (r+1))):=by
      conv=>lhs;rw[<- split]
      rw[jb,bo]
     have ka:bJ ((ts.map atV).take r)=true:=rJ kts λx hx=>Qz hx
     have kb:bJ ((ts.map atV).drop (r+1))=true:=rJ kts λx hx=>List.mem_of_mem_drop hx
     have kapp:∀a b:List Val,bJ a=true->bJ b=true->bJ (a++b)=true:=λa b h1 h2=>bZ.mpr λv hv=>(OC.mp hv).elim (bZ.mp h1 v) (bZ.mp h2 v)
     have la:((ts.map atV).take r).length+1<=16777216:=by rw[OM];omega
     have lb:((ts.map atV).take r++[x]).length+((ts.map atV).drop (r+1)).length<=16777216:=by rw[l_,OM,Px,ll];simp;omega
     have B1:=B.kn
     have B2:=B.sz
     have B3:=B.ic
     have BT:BtOk (.nd w ts) (.tup [.str (wy w),.tup (((ts.map atV).take r++[x])++(ts.map atV).drop (r+1))]):=by
      refine⟨?_,?_,?_⟩
      ·have:=kapp _ _ (kapp _ [x] ka (by simp [bJ,B1])) kb
       simp only[knA,bJ,this,knV,tyC]
       rfl
      ·rw[sv]
       simp only[vsz,aL,dO]
       omega
      ·rw[ic]
       simp only[icn,bo,jb]
       omega
     rw[au] at atr e3
     refine⟨_,a3,c3,BT,?_⟩
     generalize (ts.map atV).take r=TA at *
     generalize (ts.map atV).drop (r+1)=TB at *
     generalize ts.map atV=TV at *
     generalize us.map atV=UV at *
     generalize wy w=ww at *
     generalize wy w'=ww' at *
     generalize fdV a1 c1 k=f1 at *
     generalize fdV a2 c2 k=f2 at *
     generalize fdV a3 c3 k=f3 at *
     simp![atr,iN,e2,dq,cF,cutA,cutB,e3,la,lb,lX]
    ·have dq:=A_ hq
     rw[au] at atr
     refine aJ (λe=>e=[.mu (fdV a2 c2 k),.sh (.tup [.str (wy w),.tup (ts.map atV)]),.sh (.int (r:Nat)),.no,.no,.no]) ⟨_,by
      generalize ts.map atV=TV at *
      generalize us.map atV=UV at *
      simp![atr,iN,e2,dq],rfl⟩ ?_
     rintro _ rfl
     exact tail a2 c2
def yr(t:AT):∀m,t.dep<=m->t.ok=true->t.lvs.length<=1000->(bP m).G [t.val λk=>.int (k:Nat)]=.ok (.new (.lst (t.lvs.map λk=>.int (k:Nat)))) []:=by
 induction t using AT.ind with
 |
  h1 k=>
  intro m hm _ _
  cases m with
  |zero=>simp [AT.dep] at hm
  |
   succ m=>
   have i1:(ay aE).G [.int (k:Nat),.ty "tuple"]=.val (.bl false):=rfl
   show (PFx.of [false] 1 (cC (bP m))).G [AT.val _ (.lf k)]=_
   rw[gm]
   unfold cC
   rw[AT.val,AT.lvs]
   simp![i1,s_,OF]
 |
  h2 w ts ih=>
  intro m hm ho hl
  cases m with
  |zero=>simp [AT.dep] at hm
  |
   succ m=>
   rw[AT.dep] at hm
   have hd:=AT.depL_le.mp (show AT.depL ts<=m by omega)
   rw[AT.ok,n_] at ho
   have hne:ts≠[]:=λz=>by rw[z] at ho;exact absurd ho.1 (by decide)
   have hk:=AT.okL_mem.mp ho.2
   rw[AT.lvs,AT.lvsL_flat] at hl
   have hll:∀t∈ts,t.lvs.length<=1000:=λt ht=>by
    have:=Qm (P1 (OR (f:=AT.lvs) ht))
    omega
   show (PFx.of [false] 1 (cC (bP m))).G [AT.val _ (.nd w ts)]=_
   rw[gm]
   unfold cC
   rw[AT.val,AT.lvs,AT.vals_map,AT.lvsL_flat]
   obtain⟨e',⟨s,rfl,_⟩,lc⟩:=c6 (g:=(gtN 0).G) (F:=(ai (bP m).fn (aa (af 0) ag)).G) (AT.val λk=>.int (k:Nat)) (λt=>Val.lst (t.lvs.map λk=>.int (k:Nat))) (λe=>∃s:Sl,e=[s]/\s.pl=true) ts [] [.no] ⟨.no,rfl,rfl⟩ (by
    rintro t ht _ ⟨s,rfl,hs⟩
    have:=ih t ht m (hd t ht) (hk t ht) (hll t ht)
    generalize AT.val (λk=>Val.int (k:Nat)) t=tv at *
    refine⟨[.sh tv],.new (.lst (t.lvs.map λk=>.int (k:Nat))),[.sh tv],?_,?_,rfl,_,rfl,rfl⟩
    ·simp![hs]
    ·simp![this]) (by
    rw[Ol,Nat.zero_add]
    have:ts.length<=((ts.map AT.lvs).flatten).length:=dJ λt ht=>eJ (hk t ht)
    omega)
   have e2:ts.map (λt=>Val.lst (t.lvs.map λk=>.int (k:Nat)))=(ts.map λt=>t.lvs.map λk=>Val.int (k:Nat)).map .lst:=by rw[O1];rfl
   have hfl:(ts.map λt=>t.lvs.map λk=>Val.int (k:Nat)).flatten=(ts.map AT.lvs).flatten.map λk=>Val.int (k:Nat):=by
    rw[List.map_flatten,O1];rfl
   have sm:=Jk (ts.map λt=>t.lvs.map λk=>Val.int (k:Nat)) []
   rw[<- e2,hfl,if_pos ⟨by simpa using hne,by rw[Ol,j_];omega⟩,Ou] at sm
   have ll:(ts.map (λt=>Val.lst (t.lvs.map λk=>.int (k:Nat)))).length<=16777216:=by
    rw[j_]
    have:ts.length<=((ts.map AT.lvs).flatten).length:=dJ λt ht=>eJ (hk t ht)
    omega
   rw[Ou] at lc
   simp![iN,cx,lc,ll,sm]
def K3:c8 (.str "down") (.str "across")=some false:=by rw[L3.eq_str (by decide) (by decide)];exact OI some (by decide)
def JO:c8 (.str "across") (.str "across")=some true:=by rw[L3.eq_str (by decide) (by decide)];exact OI some (by decide)
def prV(p:Rat×Rat):Val:=.tup [fV p.1,fV p.2]
theorem uL{s l:Rat}{n m:Nat}{W:Int}{wv:Val}(hs:Sz n s)(hl:Sz n l)(hW:0<W)(mW:Sm m W)(h:n+n+m<=8000):∀(ws:List Int) (a:Int) (acc:List (Rat×Rat)) (s6 s7:Sl),s6.pl=true->s7.pl=true->0<=a->(∀w∈ws,0<=w)->a+ws.sum<=W->acc.length+ws.length<=16777216->∃s6' s7',dC (gtN 6).G fX.G (ws.map .int) [.sh (fV s),.sh (fV l),.sh wv,.sh (.int W),.sh (.int a),.ow (.lst (acc.map prV)),s6,s7]=.nx [.sh (fV s),.sh (fV l),.sh wv,.sh (.int W),.sh (.int (a+ws.sum)),.ow (.lst ((acc++shL s l W a ws).map prV)),s6',s7']
 | [],a,acc,s6,s7,h6,h7,ha,hw,hsum,bd=>⟨s6,s7,by rw[OF,Ey,List.sum_nil,Int.add_zero];unfold shL;rw[OB]⟩
 |
  w::ws,a,acc,s6,s7,h6,h7,ha,hw,hsum,bd=>by
  have hw0:=hw w (o_ ..)
  have hws:0<=ws.sum:=by
   have:∀l:List Int,(∀w∈l,0<=w)->0<=l.sum:=by
    intro l
    induction l with
    |nil=>intro _;simp
    |cons x l ih=>intro hx;rw[Ov];have:=hx x (o_ ..);have:=ih λw hw=>hx w (m_ _ hw);omega
   exact this ws λx hx=>hw x (m_ _ hx)
  rw[Ov] at hsum
  rw[x_] at bd
  have sa:Sm m a:=mW.of_le (by omega)
  have sw:Sm m w:=mW.of_le (by omega)
  have f1:=fO (a:=a) (b:=W) (by omega) (mW.mono (by omega))
  have f2:=fO (a:=w) (b:=W) (by omega) (mW.mono (by omega))
  have z1:Sz m ((a:Rat)/(W:Rat)):=Sz.div (by omega) sa mW m (p_ _) (p_ _)
  have z2:Sz m ((w:Rat)/(W:Rat)):=Sz.div (by omega) sw mW m (p_ _) (p_ _)
  have t1:=qf hl z1 (by omega)
  have t2:=qf hl z2 (by omega)
  have ad:=A0 hs (hl.mul z1) (by omega)
  have ll:(acc.map prV).length<16777216:=by rw[j_];omega
  obtain⟨t6,t7,ih⟩:=uL (wv:=wv) hs hl hW mW h ws (a+w) (acc++[(s+l*((a:Rat)/(W:Rat)),l*((w:Rat)/(W:Rat)))]) (.sh (.int w)) (.sh (fV (s+l*((a:Rat)/(W:Rat))))) rfl rfl (by omega) (λx hx=>hw x (m_ _ hx)) (by omega) (by simp;omega)
  refine⟨t6,t7,?_⟩
  have g1:(gtN 6).G (.int w) [.sh (fV s),.sh (fV l),.sh wv,.sh (.int W),.sh (.int a),.ow (.lst (acc.map prV)),s6,s7]=some [.sh (fV s),.sh (fV l),.sh wv,.sh (.int W),.sh (.int a),.ow (.lst (acc.map prV)),.sh (.int w),s7]:=by
   simp![h6]
  have b1:fX.G [.sh (fV s),.sh (fV l),.sh wv,.sh (.int W),.sh (.int a),.ow (.lst (acc.map prV)),.sh (.int w),s7]=.nx [.sh (fV s),.sh (fV l),.sh wv,.sh (.int W),.sh (.int (a+w)),.ow (.lst ((acc++[(s+l*((a:Rat)/(W:Rat)),l*((w:Rat)/(W:Rat)))]).map prV)),.sh (.int w),.sh (fV (s+l*((a:Rat)/(W:Rat))))]:=by
   unfold fX
   rw[Oo]
   simp![h7,f1,f2,t1,t2,ad,ll,prV]
  rw[s_,gQ,g1]
  simp only[b1,pw]
  rw[ih,Ov]
  rw[show shL s l W a (w::ws)=(s+l*((a:Rat)/(W:Rat)),l*((w:Rat)/(W:Rat)))::shL s l W (a+w) ws from rfl,OD,show a+w+ws.sum=a+(w+ws.sum) by omega]
  rfl
def oM{s l:Rat}{n m:Nat}{ws:List Int}(hs:Sz n s)(hl:Sz n l)(hw:∀w∈ws,0<=w)(h0:0<ws.sum)(mW:Sm m ws.sum)(h:n+n+m<=8000)(bd:ws.length<=1000):eg.G [fV s,fV l,.lst (ws.map .int)]=.ok (.new (.lst ((shL s l ws.sum 0 ws).map prV))) []:=by
 obtain⟨s6,s7,lo⟩:=uL (wv:=.lst (ws.map .int)) hs hl h0 mW h ws 0 [] .no .no rfl rfl (by omega) hw (by omega) (by simp;omega)
 rw[Ou,OF] at lo
 unfold eg
 rw[aZ]
 unfold lK
 simp![lo]
def JF{way:Str}(hw:way="across" \/ way="down"):dk.G [.str way]=.ok (.val .non) []:=by
 have i1:∀x:Str,(ay aE).G [.str x,.ty "str"]=.val (.bl true):=λ_=>rfl
 have i2:bIn.G (.str way) (.tup [.str "across",.str "down"])=.val (.bl true):=by
  rcases hw with rfl |rfl <;> rfl
 have e1:da.G [.str way]=.ok (.val (.bl true)) []:=by
  unfold da
  rw[aZ]
  unfold jr
  simp![i1,i2]
 unfold dk
 rw[aZ]
 unfold ir
 simp![e1]
def xD{b:Bx}{n m:Nat}{way:Str}{ws:List Int}(hb:b.Ok)(hs:b.Sz n)(hway:way="across" \/ way="down")(h0:ws≠[])(hw:∀w∈ws,1<=w)(mW:Sm m ws.sum)(h:n+n+m<=8000)(bd:ws.length<=40):eF.G [bV b,.str way,.lst (ws.map .int)]=.ok (.new (.lst ((a0 b way ws).map bV))) []:=by
 have cw:=rM h0 hw bd
 have cy:=JF hway
 have sp:0<ws.sum:=by
  cases ws with
  |nil=>exact absurd rfl h0
  |
   cons x l=>
   rw[Ov]
   have:=hw x (o_ ..)
   have:∀l:List Int,(∀w∈l,1<=w)->0<=l.sum:=by
    intro l
    induction l with
    |nil=>intro _;simp
    |cons x l ih=>intro hx;rw[Ov];have:=hx x (o_ ..);have:=ih λw hw=>hx w (m_ _ hw);omega
   have:=this l λx hx=>hw x (m_ _ hx)
   omega
 have cb:bq.G [.tup [fV b.l,fV b.t,fV b.w,fV b.h]]=.ok (.val .non) []:=fh hb
 have sh1:=oM hs.l hs.w (λw z=>by have:=hw w z;omega) sp mW h (by omega)
 have sh2:=oM hs.t hs.h (λw z=>by have:=hw w z;omega) sp mW h (by omega)
 show eF.G [.tup [fV b.l,fV b.t,fV b.w,fV b.h],.str way,.lst (ws.map .int)]=_
 unfold eF a0
 rw[aZ]
 unfold lG
 rcases hway with rfl |rfl
 ·rw[if_pos (rfl:("across" : Str)="across")]
  have ln:=iP b.l b.w ws.sum ws 0
  obtain⟨e',⟨s,t,rfl,_,_⟩,lc⟩:=c6 (g:=(gtT 2 (bG (gtN 0) (bG (gtN 1) eX))).G) (F:=(aq (aa (af 0) (aa (af 2) (aa (af 1) (aa (af 3) ag))))).G) prV (λp=>bV ⟨p.1,b.t,p.2,b.h⟩) (λe=>∃s t,e=[s,t,.sh (fV b.t),.sh (fV b.h)]/\s.pl=true/\t.pl=true) (shL b.l b.w ws.sum 0 ws) [] [.no,.no,.sh (fV b.t),.sh (fV b.h)] ⟨.no,.no,rfl,rfl,rfl⟩ (by
   rintro p hp e ⟨s,t,rfl,hs,ht⟩
   refine⟨[.sh (fV p.1),.sh (fV p.2),.sh (fV b.t),.sh (fV b.h)],.val (bV ⟨p.1,b.t,p.2,b.h⟩),[.sh (fV p.1),.sh (fV p.2),.sh (fV b.t),.sh (fV b.h)],?_,?_,rfl,⟨_,_,rfl,rfl,rfl⟩⟩
   ·simp![prV,hs,ht]
   ·simp![bV]) (by rw[ln,Ol];omega)
  rw[Ou] at lc
  have ll:((shL b.l b.w ws.sum 0 ws).map λp=>bV ⟨p.1,b.t,p.2,b.h⟩).length<=16777216:=by rw[j_,ln];omega
  rw[O1,show (bV ∘ λp:Rat×Rat=>(⟨p.1,b.t,p.2,b.h⟩:Bx))=λp=>bV ⟨p.1,b.t,p.2,b.h⟩ from rfl]
  simp![cb,cy,cw,JO,sh1,lc,ll]
 ·have hne:¬ (("down" : Str)="across"):=by decide
  rw[if_neg hne]
  have ln:=iP b.t b.h ws.sum ws 0
  obtain⟨e',⟨s,t,rfl,_,_⟩,lc⟩:=c6 (g:=(gtT 2 (bG (gtN 0) (bG (gtN 1) eX))).G) (F:=(aq (aa (af 2) (aa (af 0) (aa (af 3) (aa (af 1) ag))))).G) prV (λp=>bV ⟨b.l,p.1,b.w,p.2⟩) (λe=>∃s t,e=[s,t,.sh (fV b.l),.sh (fV b.w)]/\s.pl=true/\t.pl=true) (shL b.t b.h ws.sum 0 ws) [] [.no,.no,.sh (fV b.l),.sh (fV b.w)] ⟨.no,.no,rfl,rfl,rfl⟩ (by
   rintro p hp e ⟨s,t,rfl,hs,ht⟩
   refine⟨[.sh (fV p.1),.sh (fV p.2),.sh (fV b.l),.sh (fV b.w)],.val (bV ⟨b.l,p.1,b.w,p.2⟩),[.sh (fV p.1),.sh (fV p.2),.sh (fV b.l),.sh (fV b.w)],?_,?_,rfl,⟨_,_,rfl,rfl,rfl⟩⟩
   ·simp![prV,hs,ht]
   ·simp![bV]) (by rw[ln,Ol];omega)
  rw[Ou] at lc
  have ll:((shL b.t b.h ws.sum 0 ws).map λp=>bV ⟨b.l,p.1,b.w,p.2⟩).length<=16777216:=by rw[j_,ln];omega
  rw[O1,show (bV ∘ λp:Rat×Rat=>(⟨b.l,p.1,b.w,p.2⟩:Bx))=λp=>bV ⟨b.l,p.1,b.w,p.2⟩ from rfl]
  simp![cb,cy,cw,K3,sh2,lc,ll]
def oR{t:AT}{n:Nat}(ho:t.ok=true)(hn:∀k∈t.lvs,k<n)(nd:t.lvs.Nodup)(hl:t.lvs.length=n)(h3:n<=1000)(hc:t.cnt<=1000):cE.G [atV t,.int (n:Nat)]=.ok (.val .non) []:=by
 obtain⟨v1,v2,v3⟩:=jM t
 rw[iU (n:=n) v3 (by omega),if_pos]
 unfold bS
 rw[show lvV (atV t)=_ from rE (g:=λk=>(k:Int)) t ho]
 refine F_ (gz.mpr ⟨?_,λi h=>?_,by rw[j_];exact hl⟩)
 ·unfold List.Nodup
  rw[PX]
  exact PQ (λh z=>h (by omega)) nd
 ·obtain⟨k,hk,rfl⟩:=Oi.mp h
  have:=hn k hk
  omega
theorem iF{f:Nat->Val}(v:Val):∀(N:Nat) (st:List AT) (acc:List Nat) (s3:Sl),AT.cntL st<=N->s3.pl=true->(∀k∈AT.lvsL st,lfV (f k)=true)->acc.length+AT.cntL st<=100000->
 ∃(l:List Nat) (s3':Sl),l.Perm (AT.lvsL st)/\(xWh (qTr (af 2)) bO).G [.sh v,.ow (.lst (acc.map f)),.ow (.lst (st.map (AT.val f))),s3]=.nx [.sh v,.ow (.lst ((acc++l).map f)),.ow (.lst []),s3']
 |
  N,[],acc,s3,_,_,_,_=>⟨[],s3,.nil,by
  rw[jH,OB]
  simp![OF,kS,List.isEmpty_nil]⟩
 |
  0,t::ts,acc,s3,h,_,_,_=>by
  rw[AT.cntL] at h
  cases t <;> (rw[AT.cnt] at h;omega)
 |
  N+1,t0::ts0,acc,s3,hN,h3,hf,hl=>by
  obtain⟨st,t,hst⟩:∃st t,t0::ts0=st++[t]:=⟨(t0::ts0).dropLast,(t0::ts0).getLast (by simp),(Pc (by simp)).symm⟩
  rw[hst] at hN hf hl ⊢
  rw[AT.lvsL_app] at hf
  rw[AT.lvsL_app]
  rw[AT.cntL_app] at hN hl
  have hn0:((st++[t]).map (AT.val f)).isEmpty=false:=by cases st <;> rfl
  have c1:(qTr (af 2)).G [.sh v,.ow (.lst (acc.map f)),.ow (.lst ((st++[t]).map (AT.val f))),s3]=.ok true [.sh v,.ow (.lst (acc.map f)),.ow (.lst ((st++[t]).map (AT.val f))),s3]:=by
   simp![kS,hn0,Bool.not_false]
  rw[jH,c1]
  show ∃l s3',_/\((bO.G _).loop _)=_
  rw[Oo,s_,OF]
  cases t with
  |
   lf k=>
   simp only[AT.lvsL,AT.lvs,OB,AT.cntL,AT.cnt] at hf hN hl ⊢
   obtain⟨l,s3',q1,q2⟩:=iF (f:=f) v N st (acc++[k]) (.sh (f k)) (by omega) rfl (λj hj=>hf j (by simp [hj])) (by rw[l_];simp only[x_,Ol];omega)
   refine⟨k::l,s3',((q1.cons k).trans (List.perm_append_comm (l₁:=[k]) (l₂:=AT.lvsL st))),?_⟩
   have i1:(ay aE).G [f k,.ty "tuple"]=.val (.bl false):=by
    have:=hf k (by simp)
    generalize f k=a at *
    cases a <;> first |rfl |(cases this;done)
   have al:(acc.map f).length<16777216:=by rw[j_];omega
   have bb:bO.G [.sh v,.ow (.lst (acc.map f)),.ow (.lst (st.map (AT.val f)++[AT.val f (.lf k)])),s3]=.nx [.sh v,.ow (.lst ((acc++[k]).map f)),.ow (.lst (st.map (AT.val f))),.sh (f k)]:=by
    unfold bO
    rw[AT.val,Oo,s_,OF]
    generalize f k=a at *
    simp![mL,h3,i1,al]
   rw[bb,show acc++k::l=acc++[k]++l by simp]
   exact q2
  |
   nd w ts=>
   simp only[AT.lvsL,AT.lvs,OB,AT.cntL,AT.cnt] at hf hN hl ⊢
   obtain⟨l,s3',q1,q2⟩:=iF (f:=f) v N (st++ts) acc (.sh (AT.val f (.nd w ts))) (by rw[AT.cntL_app];omega) rfl (by rw[AT.lvsL_app];exact hf) (by rw[AT.cntL_app];omega)
   rw[AT.lvsL_app] at q1
   refine⟨l,s3',q1,?_⟩
   have i1:∀xs:List Val,(ay aE).G [.tup xs,.ty "tuple"]=.val (.bl true):=λ_=>rfl
   have le:∀l:List AT,l.length<=AT.cntL l:=by
    intro l
    induction l with
    |nil=>exact p_ _
    |cons t l ih=>rw[AT.cntL,x_];cases t <;> (rw[AT.cnt];omega)
   have ll:(st.map (AT.val f)).length+(ts.map (AT.val f)).length<=16777216:=by
    have:=le st
    have:=le ts
    rw[j_,j_]
    omega
   rw[AT.val,AT.vals_map] at q2 ⊢
   rw[Oo] at q2
   have bb:bO.G [.sh v,.ow (.lst (acc.map f)),.ow (.lst (st.map (AT.val f)++[.tup [.str (wy w),.tup (ts.map (AT.val f))]])),s3]=.nx [.sh v,.ow (.lst (acc.map f)),.ow (.lst (st.map (AT.val f)++ts.map (AT.val f))),.sh (.tup [.str (wy w),.tup (ts.map (AT.val f))])]:=by
    unfold bO
    simp![mL,h3,i1,cF,oB,ll]
   rw[bb]
   exact q2
def xy{f:Nat->Val}{t:AT}(hf:∀k∈t.lvs,lfV (f k)=true)(hc:t.cnt<=100000):∃l:List Nat,l.Perm t.lvs/\cQ.G [t.val f]=.ok (.new (.lst (l.map f))) []:=by
 have e1:AT.lvsL [t]=t.lvs:=by simp [AT.lvsL]
 have e2:AT.cntL [t]=t.cnt:=by simp [AT.cntL]
 obtain⟨l,s3',q1,q2⟩:=iF (f:=f) (t.val f) (AT.cntL [t]) [t] [] .no (p_ _) rfl (by rw[e1];exact hf) (by rw[e2,Ol];omega)
 rw[e1] at q1
 refine⟨l,q1,?_⟩
 rw[s_,OF,OF,Ou] at q2
 unfold cQ
 rw[aZ]
 unfold iA
 generalize t.val f=tv at *
 simp![q2]
def Gm{ws:List Int}{l:List Nat}(hl:l.length<=1000)(hi:∀k∈l,k<ws.length):∃s,lcV (gtN 0).G qY.G (pOp bIx (af 1) (af 0)).G (l.map λk:Nat=>.int k) [] [.no,.sh (liV ws)]=.ok ((l.map λk=>ws.getD k 0).map .int) [s,.sh (liV ws)]:=by
 obtain⟨e',⟨s,rfl,_⟩,lc⟩:=c6 (g:=(gtN 0).G) (F:=(pOp bIx (af 1) (af 0)).G) (λk:Nat=>Val.int k) (λk:Nat=>Val.int (ws.getD k 0)) (λe=>∃s:Sl,e=[s,.sh (liV ws)]/\s.pl=true) l [] [.no,.sh (liV ws)] ⟨.no,rfl,rfl⟩ (by
  rintro k hk _ ⟨s,rfl,hs⟩
  have h1:=hi k hk
  have a1:atI (ws.map Val.int) (k:Nat)=some (.int (ws.getD k 0)):=cU (by omega) (by
   rw[E_]
   show (ws[k]?).map _=_
   rw[O2,z_ h1]
   rfl)
  refine⟨[.sh (.int (k:Nat)),.sh (liV ws)],.val (.int (ws.getD k 0)),[.sh (.int (k:Nat)),.sh (liV ws)],?_,?_,rfl,_,rfl,rfl⟩
  ·simp![hs]
  ·unfold liV
   simp![a1]) (by rw[Ol];omega)
 exact⟨s,by rw[O1];exact lc⟩
def tJ{ws:List Int}{b:Bx}{w:Bool}{ts:List AT}{n m:Nat}(h:AT.lay ws n m (.nd w ts) b)(hnm:n+n+m<=8000)(hi:∀k∈AT.lvsL ts,k<ws.length)(hl:(AT.lvsL ts).length<=1000)(hc:AT.cntL ts<=100000):dW.G [bV b,liV ws,atV (.nd w ts)]=.ok (.new (.lst ((a0 b (wy w) (ts.map (wtT ws))).map bV))) []:=by
 rw[AT.lay] at h
 obtain⟨h1,h2,h3,h4,h5,h6,_⟩:=h
 have ew:wy w="across" \/ wy w="down":=by cases w;exact .inr rfl;exact .inl rfl
 have pe:=xD h1 h2 ew (ws:=ts.map (wtT ws)) (by simpa using h3) (λx hx=>by obtain⟨t,ht,rfl⟩:=Oi.mp hx;exact h5 t ht) h6 hnm (by rw[j_];exact h4)
 have cle:∀t∈ts,t.cnt<=AT.cntL ts:=λt ht=>AT.cnt_le ht
 have lle:∀t∈ts,t.lvs.length<=(AT.lvsL ts).length:=λt ht=>AT.lvs_le ht
 obtain⟨e',⟨s,rfl,_⟩,lc⟩:=c6 (g:=(gtN 0).G) (F:=(pFn l6 (aa (pLC (bU (ai cQ (aa (af 0) ag))) [none,some 1] (by decide) (gtN 0) qY (pOp bIx (af 1) (af 0))) ag)).G) atV (λt=>Val.int (wtT ws t)) (λe=>∃s:Sl,e=[s,.sh (liV ws)]/\s.pl=true) ts [] [.no,.sh (liV ws)] ⟨.no,rfl,rfl⟩ (by
  rintro t ht _ ⟨s,rfl,hs⟩
  obtain⟨l,lp,e1⟩:=xy (f:=λk=>.int (k:Nat)) (t:=t) (λ_ _=>rfl) (by have:=cle t ht;omega)
  rw[show AT.val (λk=>Val.int (k:Nat)) t=atV t from rfl] at e1
  obtain⟨s',lc⟩:=Gm (ws:=ws) (l:=l) (by rw[lp.length_eq];have:=lle t ht;omega) (λk hk=>hi k (AT.lvsL_mem.mpr ⟨t,ht,lp.mem_iff.mp hk⟩))
  have ll:((l.map λk=>ws.getD k 0).map Val.int).length<=16777216:=by rw[j_,j_,lp.length_eq];have:=lle t ht;omega
  have sm:(l.map λk=>ws.getD k 0).sum=wtT ws t:=A9 lp
  refine⟨[.sh (atV t),.sh (liV ws)],.val (.int (wtT ws t)),[.sh (atV t),.sh (liV ws)],?_,?_,rfl,_,rfl,rfl⟩
  ·generalize atV t=tv at *
   simp![hs]
  ·rw[<- sm]
   generalize atV t=tv at *
   generalize liV ws=wv at *
   generalize (l.map λk:Nat=>Val.int (k:Nat))=LV at *
   simp![e1,cx,inS,lc,ll]) (by rw[Ol];omega)
 have av:atV (.nd w ts)=.tup [.str (wy w),.tup (ts.map atV)]:=by
  unfold atV
  rw[AT.val,AT.vals_map]
 have lm:ts.map (λt=>Val.int (wtT ws t))=(ts.map (wtT ws)).map .int:=by rw[O1];rfl
 have l2:((ts.map (wtT ws)).map Val.int).length<=16777216:=by rw[j_,j_];omega
 rw[Ou,lm] at lc
 rw[av]
 generalize (a0 b (wy w) (ts.map (wtT ws))).map bV=PB at *
 generalize (ts.map (wtT ws)).map Val.int=SV at *
 generalize ts.map atV=TV at *
 generalize liV ws=wv at *
 generalize bV b=bv at *
 unfold dW
 rw[aZ]
 unfold jf
 simp![cx,inS,lc,l2,pe]
theorem lW{ws:List Int}{n m k:Nat}(rv tv:Val):∀(ts:List AT) (bs:List Bx) (kvs:List (Key×Val)) (s4 s5:Sl),s4.pl=true->s5.pl=true->ts.length=bs.length->(∀(t:AT) (b:Bx) (kvs:List (Key×Val)),t∈ts->AT.lay ws n m t b->kvs.length+t.lvs.length<=100000->(df k).G [bV b,liV ws,atV t,.dct kvs]=.ok (.val .non) [.dct (cR kvs (AT.bx ws t b))])->AT.layL ws n m ts bs->kvs.length+(AT.lvsL ts).length<=100000->
 ∃s4' s5',dC (gtX (gtT 2 (bG (gtN 4) (bG (gtN 5) eX)))).G (gO (df k)).G (List.zipWith (λx y=>Val.tup [x,y]) (ts.map atV) (bs.map bV)) [.sh rv,.sh (liV ws),.sh tv,.mu (.dct kvs),s4,s5]=.nx [.sh rv,.sh (liV ws),.sh tv,.mu (.dct (cR kvs (AT.bxL ws ts bs))),s4',s5']
 | [],bs,kvs,s4,s5,_,_,_,_,_,_=>⟨s4,s5,by cases bs <;> rfl⟩
 |t::ts,[],kvs,s4,s5,_,_,h,_,_,_=>nomatch h
 |
  t::ts,b::bs,kvs,s4,s5,h4,h5,hl,hp,hy,hk=>by
  rw[AT.layL] at hy
  rw[AT.lvsL,l_] at hk
  have e1:=hp t b kvs (o_ ..) hy.1 (by omega)
  have bd:=sE (AT.bx ws t b) kvs
  have hfst:=(AT.bx_fst ws t b).1
  obtain⟨s4',s5',q⟩:=lW rv tv ts bs (cR kvs (AT.bx ws t b)) (.sh (atV t)) (.sh (bV b)) rfl rfl (by simpa using hl) (λu c kv hu=>hp u c kv (m_ _ hu)) hy.2 (by omega)
  refine⟨s4',s5',?_⟩
  rw[AT.bxL,BM,s_,s_,List.zipWith_cons_cons,gQ]
  generalize cR kvs (AT.bx ws t b)=kvs1 at *
  generalize atV t=av at *
  generalize bV b=bv at *
  generalize liV ws=wv at *
  have g1:(gtX (gtT 2 (bG (gtN 4) (bG (gtN 5) eX)))).G (.tup [av,bv]) [.sh rv,.sh wv,.sh tv,.mu (.dct kvs),s4,s5]=some [.sh rv,.sh wv,.sh tv,.mu (.dct kvs),.sh av,.sh bv]:=by
   simp![h4,h5]
  have b1:(gO (df k)).G [.sh rv,.sh wv,.sh tv,.mu (.dct kvs),.sh av,.sh bv]=.nx [.sh rv,.sh wv,.sh tv,.mu (.dct kvs1),.sh av,.sh bv]:=by
   unfold gO
   simp![e1]
  rw[g1]
  dsimp only
  rw[b1]
  exact q
def wC(b:Bx)(way:Str)(ws:List Int):(a0 b way ws).length=ws.length:=by
 unfold a0
 split <;> rw[j_,iP]
def zK{ws:List Int}{n m:Nat}(hnm:n+n+m<=8000)(t:AT):∀(k:Nat) (b:Bx) (kvs:List (Key×Val)),t.dep<=k->AT.lay ws n m t b->(∀i∈t.lvs,i<ws.length)->t.lvs.length<=1000->t.cnt<=100000->kvs.length+t.lvs.length<=100000->(df k).G [bV b,liV ws,atV t,.dct kvs]=.ok (.val .non) [.dct (cR kvs (AT.bx ws t b))]:=by
 induction t using AT.ind with
 |
  h1 x=>
  intro k b kvs hd _ _ _ _ hk
  cases k with
  |zero=>simp [AT.dep] at hd
  |
   succ k=>
   have i1:(ay aE).G [.int (x:Nat),.ty "tuple"]=.val (.bl false):=rfl
   have kl:kvs.length<16777216:=by omega
   have av:atV (.lf x)=.int (x:Nat):=rfl
   have pe:cR kvs (AT.bx ws (.lf x) b)=cW kvs (.inl (x:Nat)) (bV b):=by rw[AT.bx];rfl
   show (PFx.of [false,false,false,true] 6 (fq (df k))).G [bV b,liV ws,atV (.lf x),.dct kvs]=_
   rw[gm,av,pe]
   unfold fq
   generalize bV b=bv at *
   generalize liV ws=wv at *
   simp![i1,Jq,kl]
 |
  h2 w ts ih=>
  intro k b kvs hd hy hi hl hc hk
  cases k with
  |zero=>simp [AT.dep] at hd
  |
   succ k=>
   rw[AT.dep] at hd
   rw[AT.lvs] at hi hl hk
   rw[AT.cnt] at hc
   have hd':=AT.depL_le.mp (show AT.depL ts<=k by omega)
   have pe:=tJ hy hnm hi hl (by omega)
   have hy':=hy
   rw[AT.lay] at hy'
   obtain⟨s4,s5,lo⟩:=lW (ws:=ws) (n:=n) (m:=m) (k:=k) (bV b) (atV (.nd w ts)) ts (a0 b (wy w) (ts.map (wtT ws))) kvs .no .no rfl rfl (by rw[wC,j_]) (λt c kv ht hy2 hk2=>ih t ht k c kv (hd' t ht) hy2 (λi hi2=>hi i (AT.lvsL_mem.mpr ⟨t,ht,hi2⟩)) (by have:=AT.lvs_le ht;omega) (by have:=AT.cnt_le ht;omega) hk2) hy'.2.2.2.2.2.2 hk
   have av:atV (.nd w ts)=.tup [.str (wy w),.tup (ts.map atV)]:=by
    unfold atV
    rw[AT.val,AT.vals_map]
   have bxe:AT.bx ws (.nd w ts) b=AT.bxL ws ts (a0 b (wy w) (ts.map (wtT ws))):=by rw[AT.bx]
   show (PFx.of [false,false,false,true] 6 (fq (df k))).G [bV b,liV ws,atV (.nd w ts),.dct kvs]=_
   rw[gm,bxe]
   unfold fq
   rw[av] at pe lo ⊢
   have i1:∀xs:List Val,(ay aE).G [.tup xs,.ty "tuple"]=.val (.bl true):=λ_=>rfl
   generalize cR kvs (AT.bxL ws ts (a0 b (wy w) (ts.map (wtT ws))))=kvs1 at *
   generalize (a0 b (wy w) (ts.map (wtT ws))).map bV=PB at *
   generalize ts.map atV=TV at *
   generalize bV b=bv at *
   generalize liV ws=wv at *
   simp![i1,cF,pe,lo]
def zX{ws:List Int}{n m:Nat}{b:Bx}{t:AT}(hnm:n+n+m<=8000)(hb:b.Ok)(h0:ws≠[])(hw:∀w∈ws,1<=w)(h40:ws.length<=40)(ho:t.ok=true)(hi:∀k,k∈t.lvs ↔ k<ws.length)(nd:t.lvs.Nodup)(hl:t.lvs.length=ws.length)(hd:t.dep<=42)(hy:AT.lay ws n m t b):br.G [bV b,liV ws,atV t]=.ok (.new (.lst ((List.range ws.length).map λk=>bV (bxO (AT.bx ws t b) k)))) []:=by
 have hc:=AT.cnt_lvs t ho
 have cb:=fh hb
 have cw:=rM h0 hw h40
 have ct:=oR (n:=ws.length) ho (λk hk=>(hi k).mp hk) nd hl (by omega) (by omega)
 have pl:=zK (ws:=ws) hnm t 42 b [] hd hy (λk hk=>(hi k).mp hk) (by omega) (by omega) (by rw[Ol];omega)
 have ll:((ws.map Val.int).length:Nat)=ws.length:=j_ ..
 have rg:gM [.int (ws.length:Nat)]=some (rgV ws.length):=ky (by omega)
 have keys:=AT.bx_keys ws t b
 obtain⟨e',⟨s,rfl,_⟩,lc⟩:=c6 (g:=(gtN 0).G) (F:=(pOp vW (af 1) (af 0)).G) (λk:Nat=>Val.int k) (λk:Nat=>bV (bxO (AT.bx ws t b) k)) (λe=>∃s:Sl,e=[s,.mu (.dct (cR [] (AT.bx ws t b)))]/\s.pl=true) (List.range ws.length) [] [.no,.mu (.dct (cR [] (AT.bx ws t b)))] ⟨.no,rfl,rfl⟩ (by
  rintro k hk _ ⟨s,rfl,hs⟩
  rw[Pe] at hk
  have lk:=Lc ((tU (k:=k) (AT.bx ws t b) [] (by rw[keys];exact nd)).1 (by rw[keys];exact (hi k).mpr hk))
  generalize cR [] (AT.bx ws t b)=kv at *
  generalize bV (bxO (AT.bx ws t b) k)=bv at *
  refine⟨[.sh (.int (k:Nat)),.mu (.dct kv)],.val bv,[.sh (.int (k:Nat)),.mu (.dct kv)],?_,?_,rfl,_,rfl,rfl⟩
  ·simp![hs]
  ·simp![lk]) (by rw[Ol,PV];omega)
 have l2:((List.range ws.length).map λk=>bV (bxO (AT.bx ws t b) k)).length<=16777216:=by simp;omega
 rw[Ou] at lc
 rw[show (List.range ws.length).map (λk:Nat=>Val.int k)=rgV ws.length from rfl] at lc
 generalize (List.range ws.length).map (λk=>bV (bxO (AT.bx ws t b) k))=RB at *
 generalize cR [] (AT.bx ws t b)=kv at *
 unfold liV at pl ⊢
 generalize atV t=tv at *
 generalize bV b=bv at *
 unfold br
 rw[aZ]
 unfold d6
 simp![cb,cw,ll,ct,pl,rg,cx,inS,lc,l2]
theorem rT:∀(n:Nat) (l:List Nat),l.length=n->(∀i,i<n->i∈l)->l.Perm (List.range n)
 |0,l,h,_=>by rw[OL.mp h];exact List.Perm.refl _
 |
  n+1,l,h,hm=>by
  have h1:=hm n (by omega)
  have p:=List.perm_cons_erase h1
  have q:=rT n (l.erase n) (by rw[Qf h1];omega) λi hi=>(List.mem_erase_of_ne (by omega)).mpr (hm i (by omega))
  rw[List.range_succ]
  exact p.trans ((q.cons n).trans (List.perm_append_singleton n _).symm)
def Iv{t:AT}{o:List Nat}{n:Nat}(T:TOk t o)(ho:∀i,i∈o ↔ i<n)(hl:o.length=n):t.lvs.Nodup:=
 (rT n t.lvs (by rw[T.len,hl]) λi hi=>(T.mem i).mpr ((ho i).mpr hi)).nodup_iff.mpr List.nodup_range
def mH{q:Rat}{k D:Nat}(hs:Sz 101 q)(hD:D=q.den*k)(hk:0<k):∃z:Int,q=(z:Rat)/((D:Int):Rat)/\z.natAbs<=2^101*D/\(0<q->0<z/\z<=((2^101:Nat):Int)*(D:Int)):=by
 have dp:=q.den_pos
 have hn:q.num.natAbs<2^101:=hs.1
 have hz:(q.num*(k:Int)).natAbs<=2^101*D:=by
  rw[OO,Int.natAbs_natCast,hD]
  exact OP (by omega) (Nat.le_mul_of_pos_left _ dp)
 refine⟨q.num*(k:Int),?_,hz,λh=>⟨Int.mul_pos (uK.mpr h) (by omega),?_⟩⟩
 ·have:=mF (y:=q.num) (W:=(k:Int)) dp (by omega)
  rw[Oy,<- hD] at this
  rw[<- this]
  exact i0 q
 ·rw[<- Pm]
  generalize q.num*(k:Int)=z at *
  generalize 2^101*D=y at *
  omega
def Lu{b:Bx}(g:Good b):∃D,D<2^404/\Rp D (2^101) (2^101) b:=by
 have dl:=b.l.den_pos
 have dt:=b.t.den_pos
 have dw:=b.w.den_pos
 have dh:=b.h.den_pos
 have sz:∀q:Rat,Sz 101 q->q.den<=2^101:=λq h=>by have:(q.den:Int).natAbs<2^101:=h.2;omega
 have k1:=O7 (O7 dt dw) dh
 have k2:=O7 (O7 dl dw) dh
 have k3:=O7 (O7 dl dt) dh
 have k4:=O7 (O7 dl dt) dw
 refine⟨b.l.den*(b.t.den*b.w.den*b.h.den),?_,O7 dl k1,?_,?_,?_,?_⟩
 ·have a1:b.l.den<2^101:=by have:(b.l.den:Int).natAbs<2^101:=g.sz.l.2;omega
  have a2:=OP (OP (sz _ g.sz.t) (sz _ g.sz.w)) (sz _ g.sz.h)
  calc b.l.den*(b.t.den*b.w.den*b.h.den)<=b.l.den*(2^101*2^101*2^101):=PC _ a2
   _<2^101*(2^101*2^101*2^101):=Nat.mul_lt_mul_of_pos_right a1 (by decide)
   _=2^404:=by rw[<- Qa,<- Qa,<- Qa]
 ·obtain⟨z,h1,h2,_⟩:=mH (D:=b.l.den*(b.t.den*b.w.den*b.h.den)) g.sz.l rfl k1
  exact⟨z,h1,h2⟩
 ·obtain⟨z,h1,h2,_⟩:=mH (D:=b.l.den*(b.t.den*b.w.den*b.h.den)) (k:=b.l.den*b.w.den*b.h.den) g.sz.t (by ac_rfl) k2
  exact⟨z,h1,h2⟩
 ·obtain⟨z,h1,_,h2⟩:=mH (D:=b.l.den*(b.t.den*b.w.den*b.h.den)) (k:=b.l.den*b.t.den*b.h.den) g.sz.w (by ac_rfl) k3
  exact⟨z,h1,h2 g.ok.w⟩
 ·obtain⟨z,h1,_,h2⟩:=mH (D:=b.l.den*(b.t.den*b.w.den*b.h.den)) (k:=b.l.den*b.t.den*b.w.den) g.sz.h (by ac_rfl) k4
  exact⟨z,h1,h2 g.ok.h⟩
structure WOk(ws:List Int):Prop where
 pos:1<=ws.length
 len:ws.length<=40
 wt:∀w∈ws,1<=w/\w<=1000000000000000000000000000000
 few:10<ws.length->∀w∈ws,w<=8388608
theorem qt{ws:List Int}{M:Int}:∀{l:List Nat},(∀k∈l,ws.getD k 0<=M)->wtA ws l<=(l.length:Int)*M
 | [],_=>by simp [wtA]
 |
  k::l,h=>by
  have h1:=h k (o_ ..)
  have h2:=qt (l:=l) λj hj=>h j (m_ _ hj)
  unfold wtA at h2 ⊢
  rw[s_,Ov,x_,Int.natCast_add,Int.add_mul]
  omega
def Ma{ws:List Int}{t:AT}{o:List Nat}{b:Bx}(g:Good b)(W:WOk ws)(T:TOk t o)(ho:∀i,i∈o ↔ i<ws.length)(hl:o.length=ws.length):(∀k∈t.lvs,1<=ws.getD k 0)/\∃D m,m<=104/\Rp D (2^101) (2^101) b/\(2^101+t.dep*2^101)*(D*2^(m*t.dep))<2^2000/\wtT ws t<2^m:=by
 obtain⟨D,hD,R⟩:=Lu g
 have hlt:∀k∈t.lvs,k<ws.length:=λk hk=>(ho k).mp ((T.mem k).mp hk)
 have hin:∀k∈t.lvs,ws.getD k 0∈ws:=λk hk=>by
  rw[O2,z_ (hlt k hk)]
  exact Qq _
 have hd:=T.dep
 have len:=T.len
 have wl:=W.len
 refine⟨λk hk=>(W.wt _ (hin k hk)).1,D,?_⟩
 have key:∀m,m*t.dep<=1218->m<=104->wtT ws t<2^m->∃m,m<=104/\Rp D (2^101) (2^101) b/\(2^101+t.dep*2^101)*(D*2^(m*t.dep))<2^2000/\wtT ws t<2^m:=λm h1 h2 h3=>by
  refine⟨m,h2,R,?_,h3⟩
  have a1:2^101+t.dep*2^101<=2^107:=by
   have h1:=QC (2^101) (show t.dep<=40 by omega)
   have h2:2^107=64*2^101:=by decide
   rw[h2]
   generalize 2^101=X at *
   omega
  have a2:2^(m*t.dep)<=2^1218:=P4 (by decide) h1
  have a3:=OP a1 (OP (Qg hD) a2)
  refine PJ a3 ?_
  rw[<- Qa,<- Qa]
  exact Nat.pow_lt_pow_right (by decide) (by decide)
 by_cases h9:10<ws.length
 ·refine key 29 (by omega) (by decide) ?_
  have:=qt (M:=8388608) λk hk=>W.few h9 _ (hin k hk)
  unfold wtT
  have:(2:Int)^29=536870912:=by decide
  omega
 ·refine key 104 (by omega) (by decide) ?_
  have:=qt (M:=1000000000000000000000000000000) λk hk=>(W.wt _ (hin k hk)).2
  unfold wtT
  have:(2:Int)^104=20282409603651670423947251286016:=by decide
  omega
def LX{ws:List Int}{t:AT}{o:List Nat}{b:Bx}(g:Good b)(W:WOk ws)(T:TOk t o)(ho:∀i,i∈o ↔ i<ws.length)(hl:o.length=ws.length):∃m,m<=104/\AT.lay ws 2000 m t b:=by
 obtain⟨hw,D,m,h1,R,h2,h3⟩:=Ma g W T ho hl
 have len:=T.len
 have wl:=W.len
 exact⟨m,h1,GK t b D (2^101) R (p_ _) (by decide) h2 T.ok hw h3 (by omega)⟩
def HI{t:AT}{n:Nat}(hi:∀k,k∈t.lvs ↔ k<n)(nd:t.lvs.Nodup)(hl:t.lvs.length=n)(j:Nat):(t.lvs.map λk:Nat=>(k:Int)).Perm (rgI j) ↔ j=n:=by
 rw[gz]
 constructor
 ·rintro⟨_,_,z⟩
  rw[j_] at z
  omega
 ·rintro rfl
  refine⟨?_,λi h=>?_,by rw[j_];exact hl⟩
  ·unfold List.Nodup
   rw[PX]
   exact PQ (λh z=>h (by omega)) nd
  ·obtain⟨k,hk,rfl⟩:=Oi.mp h
   have:=(hi k).mp hk
   omega
def Ly{t:AT}{n:Nat}(ho:t.ok=true)(hi:∀k,k∈t.lvs ↔ k<n)(nd:t.lvs.Nodup)(hl:t.lvs.length=n)(j:Nat):bS j (atV t)=decide (j=n):=by
 unfold bS
 rw[show lvV (atV t)=_ from rE (g:=λk=>(k:Int)) t ho]
 dsimp only
 rw[decide_eq_decide]
 exact HI hi nd hl j
noncomputable def sqB:Bx:=⟨((0:Int):Rat),((0:Int):Rat),((1:Int):Rat),((1:Int):Rat)⟩
def ke:Good sqB:=⟨⟨kA (by decide),kA (by decide)⟩,⟨mz (by decide),mz (by decide),mz (by decide),mz (by decide)⟩⟩
noncomputable def jQ(m:Nat):List Int:=List.replicate m 1
def Fq{m:Nat}(h1:1<=m)(h2:m<=40):WOk (jQ m):=by
 unfold jQ
 exact⟨by rw[Oh];exact h1,by rw[Oh];exact h2,λw hw=>by rw[(List.mem_replicate.mp hw).2];decide,λ_ w hw=>by rw[(List.mem_replicate.mp hw).2];decide⟩
def xm{v:Val}{m:Nat}(h1:1<=m)(h2:m<=40)(hk:knA v=true)(hz:vsz v<=3000):az.G [bV sqB,liV (jQ m),v]=.ok (.val (.int (if bS m v=true then 3 else 2))) []:=by
 have W:=Fq h1 h2
 have len:(jQ m).length=m:=Oh ..
 have wne:jQ m≠[]:=λz=>by rw[z] at len;simp at len;omega
 have ct:=iU (n:=m) hk hz
 cases hb:bS m v with
 |
  true=>
  have hb':=hb
  unfold bS at hb'
  cases hq:lvV v with
  |none=>rw[hq] at hb';cases hb'
  |
   some l=>
   rw[hq] at hb'
   dsimp only at hb'
   have hp:=Om hb'
   obtain⟨p1,p2,p3⟩:=gz.mp hp
   obtain⟨t,t1,rfl,rfl⟩:=E6 (vsz v) v l (p_ _) hq λi hi=>(p2 i hi).1
   rw[j_] at p3
   have hi:∀k,k∈t.lvs ↔ k<m:=λk=>by
    constructor
    ·intro h
     have:=p2 _ (Oi.mpr ⟨k,h,rfl⟩)
     omega
    ·intro h
     have:=hp.mem_iff.mpr (nI.mpr (show 0<=((k:Nat):Int)/\((k:Nat):Int)<m by omega))
     obtain⟨j,hj,e⟩:=Oi.mp this
     obtain rfl:j=k:=by omega
     exact hj
   have nd:t.lvs.Nodup:=by
    unfold List.Nodup at p1 ⊢
    rw[PX] at p1
    exact PQ (λh z=>h (by omega)) p1
   have hd:=t.ok_dep t1
   have T:TOk t (List.range m):=⟨t1,λk=>(hi k).trans Pe.symm,by rw[PV];omega,by rw[PV];exact p3⟩
   obtain⟨n1,hn1,hy⟩:=LX ke W T (λi=>by rw[len];exact Pe) (by rw[PV,len])
   have q:=zX (ws:=jQ m) (n:=2000) (m:=n1) (by omega) ke.ok wne (λw hw=>(W.wt w hw).1) (by omega) t1 (by rw[len];exact hi) nd (by rw[len];exact p3) (by omega) hy
   rw[if_pos rfl]
   exact Ao q
 |
  false=>
  rw[hb,if_neg r_] at ct
  rw[if_neg r_]
  have cb:=fh ke.ok
  have cw:=rM wne (λw hw=>(W.wt w hw).1) (by omega)
  have ll:(((jQ m).map Val.int).length:Nat)=m:=by rw[j_];exact len
  refine jD (.inr (.inr (.inl rfl))) ?_
  unfold br
  rw[aZ]
  unfold d6 liV
  generalize bV sqB=bv at *
  generalize (jQ m).map Val.int=wv at *
  simp![cb,cw,ll,ct]
def jZ{w v:Val}{c:Str}(hc:c="NoWeights" \/ c="TooMany")(h:aM.G [w]=.exc c []):az.G [bV sqB,w,v]=.ok (.val (.int (clN c))) []:=by
 have cb:=fh ke.ok
 refine jD (by rcases hc with rfl |rfl <;> simp) ?_
 unfold br
 rw[aZ]
 unfold d6
 generalize bV sqB=bv at *
 simp![cb,h]
def xn{r w v:Val}(h:bq.G [r]=.exc "NoBox" []):az.G [r,w,v]=.ok (.val (.int 0)) []:=by
 refine jD (.inl rfl) ?_
 unfold br
 rw[aZ]
 unfold d6
 simp![h]
def p63{m:Nat}(h:m<=1000):-(2^63)<=((m:Nat):Int)/\((m:Nat):Int)<2^63:=by
 have e:(2:Int)^63=9223372036854775808:=by decide
 rw[e]
 omega
def Ej(i:Int)(m:Nat):(List.replicate m [Val.int i]).flatten=(List.replicate m i).map .int:=by
 induction m with
 |zero=>rfl
 |succ m ih=>rw[Oz,Ot,ih,Oz];rfl
def G7{c:Prop}[Decidable c]{x y:Bv}(h:c):(if c then x else y)=x:=if_pos h
def mY(i:Int)(m:Nat)(h:m<=1000):d7.G (.lst [.int i]) (.int (m:Nat))=.new (.lst ((List.replicate m i).map .int)):=by
 have l:[Val.int i].length*(((m:Nat):Int).toNat)<=16777216:=by rw[Oy];simp;omega
 have e:d7.G=sy:=rfl
 rw[<- Ej,e]
 unfold sy
 dsimp only
 rw[G7 ⟨(p63 h).1,(p63 h).2,l⟩,Oy]
def tW(i:Int)(e:E3):(aB (aa (ah i) ag)).G e=.ok (.new (.lst [.int i])) e:=by
 have h1:(aa (ah i) ag).G e=.ok [.val (.int i)] e:=rfl
 rw[CJ,h1]
 show (if [Val.int i].length<=16777216 then R3.ok (Tm.new (Val.lst [Val.int i])) e else R3.stuck)=_
 rw[if_pos (show [Val.int i].length<=16777216 from Nat.le_of_ble_eq_true rfl)]
def sM{e:E3}{i k:Int}{wv:Val}{pk:PEx}(h3:pk.G e=.ok (.val (.int k)) e)(e4:d7.G (.lst [.int i]) (.int k)=.new wv):(pOp d7 (aB (aa (ah i) ag)) pk).G e=.ok (.new wv) e:=by
 rw[v_op,tW]
 show (pk.G e).bind _=_
 rw[h3]
 show (d7.G _ _).at e=_
 rw[e4]
 rfl
structure Thg(x:Val):Prop where
 kn:knA x=true
 sz:vsz x<=3000
 ic:icn x<=60
def thQ(x0 bv x2 x4 x5 x6 x7 x8 x9:Sl)(m:Nat)(x:Val)(r:SR3):Prop:=∃s:Sl,s.pl=true/\r=.nx [x0,bv,x2,.sh (.int (m:Nat)),x4,x5,x6,x7,x8,x9,.sh x,s]
def pI{P:PFn}{e:E3}{a b c r:Val}{pe:PEx}(ms:P.ms=[false,false,false])(h1:e[1]?=some (.sh a))(h2:pe.G e=.ok (.new b) e)(h3:e[10]?=some (.sh c))(e3:P.G [a,b,c]=.ok (.val r) []):(ai P (aa (af 1) (aa pe (aa (af 10) ag)))).G e=.ok (.val r) e:=by
 simp![ms,h1,h2,h3,e3]
def L9{e:E3}{b:Bool}(h:e[11]?=some (.sh (.bl b))):(pOp bIx (aB (aa (ah 2) (aa (ah 3) ag))) (pFn mE (aa (af 11) ag))).G e=.ok (.val (.int (if b=true then 3 else 2))) e:=by
 have at1:∀x y:Val,atI [x,y] 1=some y:=λx y=>cU (by decide) rfl
 cases b with
 |true=>simp![h,at1]
 |false=>simp![h,cF]
def Ny{e:E3}{p q:PEx}{i:Int}(h1:p.G e=.ok (.val (.int i)) e)(h2:q.G e=.ok (.val (.int i)) e):(xIf (qOf (pOp bNe p q)) (aA (pBl false)) xNx).G e=.nx e:=by
 simp![h1,h2,P5]
def w9{x0 x2 x4 x5 x6 x7 x8 x9 s11:Sl}{m:Nat}{x bv:Val}{wv:List Val}{b:Bool}(e1:b0.G [x,.int (m:Nat)]=.ok (.val (.bl b)) [])(e2:aD.G [x,.int (m:Nat)]=.ok (.val (.bl b)) [])(e3:az.G [bv,.lst wv,x]=.ok (.val (.int (if b=true then 3 else 2))) [])(e4:d7.G (.lst [.int 1]) (.int (m:Nat))=.new (.lst wv))(h11:s11.pl=true):thQ x0 (.sh bv) x2 x4 x5 x6 x7 x8 x9 m x (iQ.G [x0,.sh bv,x2,.sh (.int (m:Nat)),x4,x5,x6,x7,x8,x9,.sh x,s11]):=by
 have ib:(ay aE).G [.bl b,.ty "bool"]=.val (.bl true):=rfl
 unfold iQ
 have c1:=sM (pk:=af 3) (e:=[x0,.sh bv,x2,.sh (.int (m:Nat)),x4,x5,x6,x7,x8,x9,.sh x,.sh (.bl b)]) rfl e4
 generalize pOp d7 (aB (aa (ah 1) ag)) (af 3)=pe at *
 refine aJ (λe=>e=[x0,.sh bv,x2,.sh (.int (m:Nat)),x4,x5,x6,x7,x8,x9,.sh x,.sh (.bl b)]) ⟨_,by simp![e1,h11],rfl⟩ ?_
 rintro _ rfl
 refine aJ (λe=>e=[x0,.sh bv,x2,.sh (.int (m:Nat)),x4,x5,x6,x7,x8,x9,.sh x,.sh (.bl b)]) ⟨_,by simp![e2,ib,P5],rfl⟩ ?_
 rintro _ rfl
 refine⟨.sh (.bl b),rfl,?_⟩
 exact Ny (pI dM rfl c1 rfl e3) (L9 rfl)
def qG{x0 x2 x4 x5 x6 x7 x8 x9 s11:Sl}{m:Nat}{x:Val}(h1:1<=m)(h2:m<=40)(X:Thg x)(h11:s11.pl=true):∃s,s.pl=true/\iQ.G [x0,.sh (bV sqB),x2,.sh (.int (m:Nat)),x4,x5,x6,x7,x8,x9,.sh x,s11]=.nx [x0,.sh (bV sqB),x2,.sh (.int (m:Nat)),x4,x5,x6,x7,x8,x9,.sh x,s]:=
 w9 (l0 (n:=m) X.kn X.sz (λns h=>by have:=IM _ x ns (p_ _) h;have:=X.ic;omega) (by omega)) (fP (n:=m) X.kn X.sz) (xm h1 h2 X.kn X.sz) (mY 1 m (by omega)) h11
def pR{ws:List Int}(h:ws.length<=1000):lQ (.lst (ws.map .int))=true:=by
 simp only[lQ,n_,O9,j_]
 exact⟨h,by rw[N_];intro v hv;obtain⟨w,_,rfl⟩:=Oi.mp hv;rfl⟩
def uj{ws:List Int}(h:ws.length<=1000){w:Int}(hw:w∈ws)(hb:w<1):aM.G [.lst (ws.map .int)]=.exc "NoWeights" []:=by
 rw[eD (pR h)]
 unfold nQ
 dsimp only
 rw[if_neg (by intro z;rw[QH.mp z] at hw;cases hw),if_neg (by
  rw[N_];intro z
  have:=z _ (Oi.mpr ⟨w,hw,rfl⟩)
  have:=Om (show decide (1<=w)=true from this)
  omega)]
def BB{ws:List Int}(h:ws.length<=1000)(h1:∀w∈ws,1<=w)(h2:40<ws.length):aM.G [.lst (ws.map .int)]=.exc "TooMany" []:=by
 rw[eD (pR h)]
 unfold nQ
 dsimp only
 rw[if_neg (by intro z;rw[QH.mp z] at h2;cases h2),if_pos (by
  rw[N_];intro v hv
  obtain⟨w,hw,rfl⟩:=Oi.mp hv
  exact F_ (h1 w hw)),if_neg (by rw[j_];omega)]
def K5{x:Val}:az.G [bV sqB,.lst ((List.replicate 41 (1:Int)).map .int),x]=.ok (.val (.int 4)) []:=
 jZ (.inr rfl) (BB (by rw[Oh];decide) (λw hw=>by rw[List.eq_of_mem_replicate hw];decide) (by rw[Oh];decide))
def E2{x:Val}:az.G [bV sqB,.lst ((List.replicate 40 (1:Int)++[0]).map .int),x]=.ok (.val (.int 1)) []:=
 jZ (.inl rfl) (uj (w:=0) (by rw[l_,Oh];decide) (K_ _ o_) (by decide))
def NR{m:Nat}{x:Val}(h1:1<=m)(h2:m<=40):az.G [bV sqB,.lst ((List.replicate m (0:Int)).map .int),x]=.ok (.val (.int 1)) []:=
 jZ (.inl rfl) (uj (w:=0) (by rw[Oh];omega) (List.mem_replicate.mpr ⟨by omega,rfl⟩) (by decide))
def LQ{a b c w x:Val}(ha:gJ 2 (.tup [a,b,c])=true):az.G [.tup [a,b,c],w,x]=.ok (.val (.int 0)) []:=
 xn (by rw[jE ha,Cy (xs:=[a,b,c]) (show (3:Nat)≠4 by decide)];rfl)
def yj{e:E3}{p q:PEx}{i j:Int}(h1:p.G e=.ok (.val (.int i)) e)(h2:q.G e=.ok (.val (.int j)) e):(xIf (qO (qOf (pOp bNe p (ah i))) (qOf (pOp bNe q (ah j)))) (aA (pBl false)) xNx).G e=.nx e:=by
 simp![h1,h2,P5]
def CA(i:Int){m:Nat}{k:Int}(hk:k=(m:Nat))(h:m<=1000)(e:E3):(pOp d7 (aB (aa (ah i) ag)) (ah k)).G e=.ok (.new (.lst ((List.replicate m i).map .int))) e:=by
 subst hk
 exact sM (pk:=ah _) rfl (mY i m h)
def Jt{e:E3}{p q:PEx}{xs ys:List Val}(h1:p.G e=.ok (.new (.lst xs)) e)(h2:q.G e=.ok (.new (.lst ys)) e)(hl:xs.length+ys.length<=1000):(pOp aW p q).G e=.ok (.new (.lst (xs++ys))) e:=by
 have hl':xs.length+ys.length<=16777216:=by omega
 simp![h1,h2,hl']
def sl3(b:Bx):aSl (bV b) none (some 3)=.val (.tup [fV b.l,fV b.t,fV b.w]):=rfl
def LK{P:PFn}{e:E3}{b:Bx}{c r:Val}(ms:P.ms=[false,false,false])(h1:e[1]?=some (.sh (bV b)))(h3:e[10]?=some (.sh c))(e3:P.G [.tup [fV b.l,fV b.t,fV b.w],.lst [],c]=.ok (.val r) []):(ai P (aa (pSl (af 1) oN (oS (ah 3))) (aa (aB ag) (aa (af 10) ag)))).G e=.ok (.val r) e:=by
 have z:([]:List Val).length<=16777216:=by decide
 simp![ms,h1,sl3,h3,z,e3]
def Ez{x0 x2 x4 x5 x6 x7 x8 x9 s11:Sl}{m:Nat}{x:Val}(h1:1<=m)(h2:m<=40):(ak (xIf (qO (qOf (pOp bNe (ai az (aa (af 1) (aa (pOp d7 (aB (aa (ah 1) ag)) (ah 41)) (aa (af 10) ag)))) (ah 4))) (qOf (pOp bNe (ai az (aa (af 1) (aa (pOp aW (pOp d7 (aB (aa (ah 1) ag)) (ah 40)) (aB (aa (ah 0) ag))) (aa (af 10) ag)))) (ah 1)))) (aA (pBl false)) xNx)
 (xIf (qO (qOf (pOp bNe (ai az (aa (af 1) (aa (pOp d7 (aB (aa (ah 0) ag)) (af 3)) (aa (af 10) ag)))) (ah 1))) (qOf (pOp bNe (ai az (aa (pSl (af 1) oN (oS (ah 3))) (aa (aB ag) (aa (af 10) ag)))) (ah 0)))) (aA (pBl false)) xNx)).G [x0,.sh (bV sqB),x2,.sh (.int (m:Nat)),x4,x5,x6,x7,x8,x9,.sh x,s11]=.nx [x0,.sh (bV sqB),x2,.sh (.int (m:Nat)),x4,x5,x6,x7,x8,x9,.sh x,s11]:=by
 have c1:=pI dM (e:=[x0,.sh (bV sqB),x2,.sh (.int (m:Nat)),x4,x5,x6,x7,x8,x9,.sh x,s11]) rfl (CA 1 (m:=41) (k:=41) rfl (by decide) _) rfl K5
 have c2:=pI dM (e:=[x0,.sh (bV sqB),x2,.sh (.int (m:Nat)),x4,x5,x6,x7,x8,x9,.sh x,s11]) rfl (Jt (CA 1 (m:=40) (k:=40) rfl (by decide) _) (tW 0 _) (by rw[j_,Oh];decide)) rfl (by have:=E2 (x:=x);rw[Oo] at this;exact this)
 have c3:=pI dM (e:=[x0,.sh (bV sqB),x2,.sh (.int (m:Nat)),x4,x5,x6,x7,x8,x9,.sh x,s11]) rfl (sM (pk:=af 3) rfl (mY 0 m (by omega))) rfl (NR h1 h2)
 have c4:=LK dM (e:=[x0,.sh (bV sqB),x2,.sh (.int (m:Nat)),x4,x5,x6,x7,x8,x9,.sh x,s11]) rfl rfl (LQ rfl)
 rw[eY,yj c1 c2,fL]
 exact yj c3 c4
structure Drn(t:AT)(m:Nat):Prop where
 ok:t.ok=true
 hi:∀k,k∈t.lvs ↔ k<m
 nd:t.lvs.Nodup
 len:t.lvs.length=m
 sz:vsz (atV t)<=3000
def mC{t:AT}{m:Nat}(D:Drn t m)(j:Nat):aD.G [atV t,.int (j:Nat)]=.ok (.val (.bl (decide (j=m)))) []:=by
 rw[fP (jM t).2.2 D.sz,Ly D.ok D.hi D.nd D.len]
def zk{o:PO2}{P:PFn}{e:E3}{v:Val}{m:Int}{b:Bool}(ms:P.ms=[false,false])(h3:e[3]?=some (.sh (.int m)))(h4:e[4]?=some (.sh v))(f1:P.G [v,.int m]=.ok (.val (.bl true)) [])(f2:P.G [v,.int (m+1)]=.ok (.val (.bl false)) [])(f3:P.G [v,.int (if m-1>1 then m-1 else 1)]=.ok (.val (.bl b)) [])(hb:(m==1)=b)(ho:o.G (.bl true) (.bl true)=.val (.bl false)):(xIf (qO (qOf (pOp o (ai P (aa (af 4) (aa (af 3) ag))) (pBl true))) (qO (qOf (ai P (aa (af 4) (aa (pOp aW (af 3) (ah 1)) ag)))) (qOf (pOp bNe (ai P (aa (af 4) (aa (pFn iR (aa (ah 1) (aa (pOp iw (af 3) (ah 1)) ag))) ag))) (pOp bEq (af 3) (ah 1)))))) (aA (pBl false)) xNx).G e=.nx e:=by
 simp![ms,h3,h4,f1,f2,f3,ho,hb,P5]
def p104:ja.G (.int 10) (.int 4)=.val (.int 10000):=vE ⟨by decide,by decide,by decide⟩
def IL{P:PFn}{e:E3}{v:Val}{m:Int}(ms:P.ms=[false,false])(h3:e[3]?=some (.sh (.int m)))(h4:e[4]?=some (.sh v))(f1:P.G [v,.int (10000+m)]=.ok (.val (.bl false)) []):(xIf (qOf (ai P (aa (af 4) (aa (pOp aW (pOp ja (ah 10) (ah 4)) (af 3)) ag)))) (aA (pBl false)) xNx).G e=.nx e:=by
 simp![ms,h3,h4,p104,f1]
def F5{t:AT}{m:Nat}(D:Drn t m)(h1:1<=m):aD.G [atV t,.int (if ((m:Nat):Int)-1>1 then ((m:Nat):Int)-1 else 1)]=.ok (.val (.bl (((m:Nat):Int)==1))) []:=by
 have e:(if ((m:Nat):Int)-1>1 then ((m:Nat):Int)-1 else 1)=(((if m>2 then m-1 else 1):Nat):Int):=by
  by_cases h:m>2
  ·rw[if_pos h,if_pos (by omega)];omega
  ·rw[if_neg h,if_neg (by omega)];rfl
 have d:decide ((if m>2 then m-1 else 1)=m)=(((m:Nat):Int)==1):=by
  rw[Pl,O9,Ow]
  by_cases h:m>2
  ·rw[if_pos h];omega
  ·rw[if_neg h];omega
 rw[e,mC D,d]
def DH{t:AT}{m:Nat}(D:Drn t m):aD.G [atV t,.int (((m:Nat):Int)+1)]=.ok (.val (.bl false)) []:=by
 have:=mC D (m+1)
 rw[A_ (by omega)] at this
 exact this
def J2{t:AT}{m:Nat}(D:Drn t m):aD.G [atV t,.int (10000+((m:Nat):Int))]=.ok (.val (.bl false)) []:=by
 have:=mC D (10000+m)
 rw[A_ (by omega),Int.natCast_add] at this
 exact this
def ua{t:AT}{m:Nat}(D:Drn t m):aD.G [atV t,.int ((m:Nat):Int)]=.ok (.val (.bl true)) []:=by
 rw[mC D,F_ rfl]
def zM{x0 x1 x2 x5 x6 x7 x8 x9 s10 s11:Sl}{t:AT}{m:Nat}(D:Drn t m)(h1:1<=m):(xIf (qO (qOf (pOp vV (ai aD (aa (af 4) (aa (af 3) ag))) (pBl true))) (qO (qOf (ai aD (aa (af 4) (aa (pOp aW (af 3) (ah 1)) ag)))) (qOf (pOp bNe (ai aD (aa (af 4) (aa (pFn iR (aa (ah 1) (aa (pOp iw (af 3) (ah 1)) ag))) ag))) (pOp bEq (af 3) (ah 1)))))) (aA (pBl false)) xNx).G [x0,x1,x2,.sh (.int (m:Nat)),.sh (atV t),x5,x6,x7,x8,x9,s10,s11]=.nx [x0,x1,x2,.sh (.int (m:Nat)),.sh (atV t),x5,x6,x7,x8,x9,s10,s11]:=
 zk gn rfl rfl (ua D) (DH D) (F5 D h1) rfl rfl
def tK{ns:List Int}{k:Int}(hk:0<=k):∃a,c5.G [.kl (ns.map .int),.int k]=.ok (.new (fdV a 0 k)) []:=by
 unfold c5
 rw[aZ]
 unfold jz fdV
 by_cases h0:ns.length=0
 ·have e:((((ns.map Val.int).length:Nat):Int)==0)=true:=by rw[Ow,j_];omega
  exact⟨0,by simp![e]⟩
 ·have e:((((ns.map Val.int).length:Nat):Int)==0)=false:=by rw[M_,j_];omega
  have e1:dN.G (.int k) (.int ((ns.map Val.int).length:Nat))=.val (.int (k.fmod ((ns.map Val.int).length:Nat))):=hE (by rw[j_];omega)
  have r:=gD (a:=k) (m:=((ns.map Val.int).length:Nat)) (by rw[j_];omega)
  rw[j_] at r e1
  have hi:(k.fmod (ns.length:Nat)).toNat<ns.length:=by omega
  have at1:atI (ns.map Val.int) (k.fmod (ns.length:Nat))=some (.int ns[(k.fmod (ns.length:Nat)).toNat]):=cU r.1 (by rw[E_,z_ hi];rfl)
  rw[j_] at e
  exact⟨ns[(k.fmod (ns.length:Nat)).toNat],by simp![j_,e,e1,at1]⟩
def uh{t:AT}{m num:Nat}{x:Val}(D:Drn t m)(h2:m<=40)(hx:iu x=true):Thg (t.val (bK num x)):=by
 unfold iu at hx
 rw[n_,n_] at hx
 have x1:=hx.1
 have x2:=Om hx.2.1
 have x3:=Om hx.2.2
 have hc:=AT.cnt_lvs t D.ok
 have hl:=D.len
 obtain⟨v1,v2⟩:=uM (f:=bK num x) (c:=12) (by decide) t (λk _=>by unfold bK;split;exact x2;show (1:Nat)<=12;decide) (λk _=>by unfold bK;split;exact x1;rfl)
 refine⟨v2,by omega,?_⟩
 rw[EK]
 have e:(t.lvs.map λk=>icn (bK num x k))=t.lvs.map λk=>if k=num then icn x else 1:=by
  refine List.map_congr_left λk _=>?_
  unfold bK
  split <;> simp [icn]
 rw[e]
 have:=um (num:=num) (c:=icn x) D.nd
 omega
def Bk{t:AT}{m:Nat}{x:Val}(D:Drn t m)(h2:m<=40)(B:BtOk t x):Thg x:=by
 obtain⟨v1,v2,_⟩:=jM t
 have hc:=AT.cnt_lvs t D.ok
 have hl:=D.len
 have b1:=B.sz
 have b2:=B.ic
 exact⟨B.kn,by omega,by omega⟩
def nq{t:AT}{o:List Nat}{m:Nat}(h2:m<=100)(T:TOk t o)(om:∀i,i∈o ↔ i<m)(ol:o.length=m):Drn t m:=by
 have hc:=AT.cnt_lvs t T.ok
 have hl:=T.len
 have:=(jM t).1
 exact⟨T.ok,λk=>(T.mem k).trans (om k),Iv T om ol,hl.trans ol,by omega⟩
def Ij{x0 x2 x4 x5 x6 x7 x8 x9 s10 s11:Sl}{m:Nat}{x y:Val}(h1:1<=m)(h2:m<=40)(X:Thg x)(Y:Thg y)(h10:s10.pl=true)(h11:s11.pl=true):∃s,s.pl=true/\dC (gtN 10).G iQ.G [x,y] [x0,.sh (bV sqB),x2,.sh (.int (m:Nat)),x4,x5,x6,x7,x8,x9,s10,s11]=.nx [x0,.sh (bV sqB),x2,.sh (.int (m:Nat)),x4,x5,x6,x7,x8,x9,.sh y,s]:=by
 obtain⟨s,hs,e1⟩:=qG (x0:=x0) (x2:=x2) (x4:=x4) (x5:=x5) (x6:=x6) (x7:=x7) (x8:=x8) (x9:=x9) h1 h2 X h11
 obtain⟨s',hs',e2⟩:=qG (x0:=x0) (x2:=x2) (x4:=x4) (x5:=x5) (x6:=x6) (x7:=x7) (x8:=x8) (x9:=x9) h1 h2 Y hs
 refine⟨s',hs',?_⟩
 generalize bV sqB=bv at *
 have g1:(gtN 10).G x [x0,.sh bv,x2,.sh (.int (m:Nat)),x4,x5,x6,x7,x8,x9,s10,s11]=some [x0,.sh bv,x2,.sh (.int (m:Nat)),x4,x5,x6,x7,x8,x9,.sh x,s11]:=by simp![h10]
 have g2:(gtN 10).G y [x0,.sh bv,x2,.sh (.int (m:Nat)),x4,x5,x6,x7,x8,x9,.sh x,s]=some [x0,.sh bv,x2,.sh (.int (m:Nat)),x4,x5,x6,x7,x8,x9,.sh y,s]:=by simp![gh]
 unfold dC
 rw[g1]
 dsimp only
 rw[e1]
 dsimp only [SR3.loop]
 unfold dC
 rw[g2]
 dsimp only
 rw[e2]
 dsimp only [SR3.loop]
 rw[dC]
def HE{l:List Nat}{r r':Int}(h0:0<=r)(h1:r<(l.length:Nat))(h0':0<=r')(h1':r'<2):∃i j n:Nat,atI (l.map λk:Nat=>Val.int (k:Nat)) r=some (.int (i:Nat))/\atI (l.map λk:Nat=>Val.int (k:Nat)) (-1)=some (.int (j:Nat))/\atI [Val.int (i:Nat),.int (j:Nat)] r'=some (.int (n:Nat)):=by
 have hi:r.toNat<l.length:=by omega
 refine⟨l[r.toNat],?_⟩
 have a1:atI (l.map λk:Nat=>Val.int (k:Nat)) r=some (.int ((l[r.toNat]:Nat):Int)):=cU h0 (by rw[E_,z_ hi];rfl)
 have hne:l≠[]:=λz=>by rw[z] at hi;exact absurd hi (by simp)
 have a2:atI (l.map λk:Nat=>Val.int (k:Nat)) (-1)=some (.int ((l.getLast hne:Nat):Int)):=by
  have e:=Pc hne
  have q:=Ay (l.dropLast.map λk:Nat=>Val.int (k:Nat)) (.int ((l.getLast hne:Nat):Int))
  rw[<- List.map_singleton (f:=λk:Nat=>Val.int (k:Nat)),<- Oo,e] at q
  exact q
 rcases (show r'=0\/r'=1 by omega) with rfl |rfl
 ·exact⟨_,_,a1,a2,cF _ _⟩
 ·exact⟨_,_,a1,a2,cU (by decide) rfl⟩
def bdQ(sc:Val)(s5 s6:Sl)(r:SR3):Prop:=∃s2 s3 s4 s7 s8 s9 s10 s11:Sl,(s2.pl=true/\s3.pl=true/\s4.pl=true/\s7.pl=true/\s8.pl=true/\s9.pl=true/\s10.pl=true/\s11.pl=true)/\r=.nx [.sh sc,.sh (bV sqB),s2,s3,s4,s5,s6,s7,s8,s9,s10,s11]
def DU{ns:List Int}{k:Nat}{s2 s3 s4 s5 s7 s8 s9 s10 s11:Sl}(h2:s2.pl=true)(h3:s3.pl=true)(h4:s4.pl=true)(h7:s7.pl=true)(h8:s8.pl=true)(h9:s9.pl=true)(h10:s10.pl=true)(h11:s11.pl=true):
 bdQ (.kl (ns.map .int)) s5 (.sh (.int (k:Nat))) (jP.G [.sh (.kl (ns.map .int)),.sh (bV sqB),s2,s3,s4,s5,.sh (.int (k:Nat)),s7,s8,s9,s10,s11]):=by
 unfold jP
 obtain⟨a,e0⟩:=tK (ns:=ns) (k:=(k:Nat)) (by omega)
 generalize Val.kl (ns.map .int)=sc at *
 generalize hbv:bV sqB=bv
 refine aJ (λe=>e=[.sh sc,.sh bv,.ow (fdV a 0 (k:Nat)),s3,s4,s5,.sh (.int (k:Nat)),s7,s8,s9,s10,s11]) ⟨_,by
  generalize fdV a 0 (k:Nat)=f0 at *
  simp![e0,h2],rfl⟩ ?_
 rintro _ rfl
 obtain⟨r,a1,b1,e1,r0,r1⟩:=bD (a:=a) (b:=0) (k:=(k:Nat)) (m:=8) (by decide) (sm8 (by decide))
 obtain⟨r',a2,b2,e2,r20,r21⟩:=bD (a:=a1) (b:=b1) (k:=(k:Nat)) (m:=8) (by decide) (sm8 (by decide))
 refine aJ (λe=>∃m:Int,1<=m/\m<=40/\e=[.sh sc,.sh bv,.ow (fdV a2 b2 (k:Nat)),.sh (.int m),s4,s5,.sh (.int (k:Nat)),s7,s8,s9,s10,s11]) ?_ ?_
 ·by_cases hr:r'=0
  ·subst hr
   have at1:∀x y:Val,atI [x,y] 1=some y:=λx y=>cU (by decide) rfl
   exact⟨_,by
    generalize fdV a 0 (k:Nat)=f0 at *
    generalize fdV a1 b1 (k:Nat)=f1 at *
    generalize fdV a2 b2 (k:Nat)=f2 at *
    simp![e1,e2,h3,at1],40,by decide,by decide,rfl⟩
  ·have hr':(r'==0)=false:=by rw[M_];exact hr
   exact⟨_,by
    generalize fdV a 0 (k:Nat)=f0 at *
    generalize fdV a1 b1 (k:Nat)=f1 at *
    generalize fdV a2 b2 (k:Nat)=f2 at *
    simp![e1,e2,h3,hr',cF],1+r,by omega,by omega,rfl⟩
 rintro _ ⟨m,m1,m40,rfl⟩
 obtain⟨m,rfl⟩:∃n:Nat,m=n:=⟨m.toNat,by omega⟩
 have mn1:1<=m:=by omega
 have n40:m<=40:=by omega
 have n42:m<=42:=y_ n40 (by decide)
 have n100:m<=100:=y_ n40 (by decide)
 have n1000:m<=1000:=y_ n40 (by decide)
 obtain⟨o,a3,b3,om,ol,e3⟩:=rH (a:=a2) (b:=b2) (k:=(k:Nat)) (m:=m) n1000
 refine aJ (λe=>e=[.sh sc,.sh bv,.ow (fdV a3 b3 (k:Nat)),.sh (.int (m:Nat)),s4,s5,.sh (.int (k:Nat)),.sh (itV o),s8,s9,s10,s11]) ⟨_,by
  generalize fdV a2 b2 (k:Nat)=f0 at *
  generalize fdV a3 b3 (k:Nat)=f1 at *
  generalize itV o=ov at *
  simp![e3,h7],rfl⟩ ?_
 rintro _ rfl
 have one:o≠[]:=λz=>by rw[z] at ol;rw[<- ol] at mn1;cases mn1
 obtain⟨c,a4,b4,e4,c0,c1⟩:=bD (a:=a3) (b:=b3) (k:=(k:Nat)) (m:=3) (by decide) (sm8 (by decide))
 refine aJ (λe=>∃t a b,Drn t m/\e=[.sh sc,.sh bv,.ow (fdV a b (k:Nat)),.sh (.int (m:Nat)),.sh (atV t),s5,.sh (.int (k:Nat)),.sh (itV o),s8,s9,s10,s11]) ?_ ?_
 ·by_cases hc:c=0
  ·subst hc
   obtain⟨t,a5,b5,T,e5⟩:=Aq (a:=a4) (b:=b4) (k:=(k:Nat)) one
   rw[show AT.val (λk=>Val.int (k:Nat)) t=atV t from rfl] at e5
   exact⟨_,by
    generalize fdV a3 b3 (k:Nat)=f0 at *
    generalize fdV a4 b4 (k:Nat)=f1 at *
    generalize fdV a5 b5 (k:Nat)=f2 at *
    generalize itV o=ov at *
    generalize atV t=tv at *
    simp![e4,e5,h4],t,a5,b5,nq n100 T om ol,rfl⟩
  ·have hc':(c==0)=false:=by rw[M_];exact hc
   obtain⟨t,a5,b5,T,e5⟩:=nu (k:=(k:Nat)) o.length 42 o a4 b4 one (p_ _) (ol ▸ n42) (ol ▸ n100)
   exact⟨_,by
    generalize fdV a3 b3 (k:Nat)=f0 at *
    generalize fdV a4 b4 (k:Nat)=f1 at *
    generalize fdV a5 b5 (k:Nat)=f2 at *
    generalize itV o=ov at *
    generalize atV t=tv at *
    simp![e4,e5,hc',h4],t,a5,b5,nq n100 T om ol,rfl⟩
 rintro _ ⟨t,a5,b5,D,rfl⟩
 refine aJ (λe=>e=[.sh sc,.sh bv,.ow (fdV a5 b5 (k:Nat)),.sh (.int (m:Nat)),.sh (atV t),s5,.sh (.int (k:Nat)),.sh (itV o),s8,s9,s10,s11]) ⟨_,zM D mn1,rfl⟩ ?_
 rintro _ rfl
 have hd:=AT.ok_dep t D.ok
 have dl:=D.len
 have dm:t.dep<=42:=y_ hd (dl ▸ n42)
 have l1:t.lvs.length<=1000:=dl ▸ n1000
 have e6:=yr t 42 dm D.ok l1
 rw[show AT.val (λk=>Val.int (k:Nat)) t=atV t from rfl] at e6
 refine aJ (λe=>e=[.sh sc,.sh bv,.ow (fdV a5 b5 (k:Nat)),.sh (.int (m:Nat)),.sh (atV t),s5,.sh (.int (k:Nat)),.sh (itV o),.sh (.lst (t.lvs.map λk:Nat=>.int (k:Nat))),s9,s10,s11]) ⟨_,by
  generalize fdV a5 b5 (k:Nat)=f0 at *
  generalize itV o=ov at *
  generalize atV t=tv at *
  generalize (t.lvs.map λk:Nat=>Val.int (k:Nat))=LV at *
  simp![e6,h8],rfl⟩ ?_
 rintro _ rfl
 obtain⟨q,a6,b6,e7,q0,q1⟩:=bD (a:=a5) (b:=b5) (k:=(k:Nat)) (m:=(m:Nat)) (by omega) (sm8 (by omega))
 obtain⟨q',a7,b7,e8,q20,q21⟩:=bD (a:=a6) (b:=b6) (k:=(k:Nat)) (m:=2) (by decide) (sm8 (by decide))
 obtain⟨i,j,num,n1,n2,n3⟩:=HE (l:=t.lvs) q0 (by rw[dl];exact q1) q20 q21
 refine aJ (λe=>e=[.sh sc,.sh bv,.ow (fdV a7 b7 (k:Nat)),.sh (.int (m:Nat)),.sh (atV t),s5,.sh (.int (k:Nat)),.sh (itV o),.sh (.lst (t.lvs.map λk:Nat=>.int (k:Nat))),.sh (.int (num:Nat)),s10,s11]) ⟨_,by
  generalize fdV a5 b5 (k:Nat)=f0 at *
  generalize fdV a6 b6 (k:Nat)=f1 at *
  generalize fdV a7 b7 (k:Nat)=f2 at *
  generalize itV o=ov at *
  generalize atV t=tv at *
  generalize (t.lvs.map λk:Nat=>Val.int (k:Nat))=LV at *
  simp![e7,e8,n1,n2,n3,h9],rfl⟩ ?_
 rintro _ rfl
 generalize hlv:(t.lvs.map λk:Nat=>Val.int (k:Nat))=LV
 refine aJ (λe=>e=[.sh sc,.sh bv,.ow (fdV a7 b7 (k:Nat)),.sh (.int (m:Nat)),.sh (atV t),s5,.sh (.int (k:Nat)),.sh (itV o),.sh (.lst LV),.sh (.int (num:Nat)),s10,s11]) ⟨_,IL gn rfl rfl (J2 D),rfl⟩ ?_
 rintro _ rfl
 obtain⟨x,a8,b8,ox,e9⟩:=Gj (a:=a7) (c:=b7) (k:=(k:Nat)) (m:=m) (num:=num) mn1
 have e10:=wQ (num:=num) (new:=x) t 42 dm D.ok l1
 obtain⟨y,a9,b9,oy,e11⟩:=Fi (k:=(k:Nat)) t 42 a8 b8 dm D.ok l1
 obtain⟨s,hs,lo⟩:=Ij (m:=m) (x0:=.sh sc) (x2:=.ow (fdV a9 b9 (k:Nat))) (x4:=.sh (atV t)) (x5:=s5) (x6:=.sh (.int (k:Nat))) (x7:=.sh (itV o)) (x8:=.sh (.lst LV)) (x9:=.sh (.int (num:Nat))) mn1 n40 (uh (num:=num) D n40 ox) (Bk D n40 oy) h10 h11
 rw[hbv] at lo
 refine aJ (λe=>e=[.sh sc,.sh bv,.ow (fdV a9 b9 (k:Nat)),.sh (.int (m:Nat)),.sh (atV t),s5,.sh (.int (k:Nat)),.sh (itV o),.sh (.lst LV),.sh (.int (num:Nat)),.sh y,s]) ⟨_,by
  generalize fdV a7 b7 (k:Nat)=f0 at *
  generalize fdV a8 b8 (k:Nat)=f1 at *
  generalize fdV a9 b9 (k:Nat)=f2 at *
  generalize itV o=ov at *
  generalize atV t=tv at *
  generalize t.val (bK num x)=tw at *
  simp![e9,e10,e11,lo],rfl⟩ ?_
 rintro _ rfl
 subst hbv
 exact⟨_,_,_,_,_,_,_,_,⟨rfl,rfl,rfl,rfl,rfl,rfl,rfl,hs⟩,Ez (m:=m) mn1 n40⟩
def Bz{t:AT}{m num j:Nat}(D:Drn t m)(hn:num<m)(hj:j<m)(h:j≠num):bS m (t.val (bK num (.int (j:Nat))))=false:=by
 have e:(λk=>bK num (.int (j:Nat)) k)=λk=>Val.int (((if k=num then j else k:Nat)):Int):=by
  funext k;unfold bK;split <;> rfl
 unfold bS
 rw[show bK num (.int (j:Nat))=λk=>Val.int (((if k=num then j else k:Nat)):Int) from e,rE (g:=λk=>(((if k=num then j else k:Nat)):Int)) t D.ok]
 dsimp only
 rw[A_]
 intro p
 have:=p.mem_iff.mpr (nI.mpr (show 0<=((num:Nat):Int)/\((num:Nat):Int)<m by omega))
 obtain⟨k,_,hk⟩:=Oi.mp this
 split at hk <;> omega
def Bt{e:E3}{P:PFn}{v w:Val}(ms:P.ms=[false,false])(h3:e[3]?=some (.sh (.int 41)))(h4:e[4]?=some (.sh v))(h5:e[5]?=some (.sh w))(f1:P.G [v,.int 41]=.ok (.val (.bl true)) [])(f2:P.G [w,.int 41]=.ok (.val (.bl false)) [])(f3:P.G [v,.int 40]=.ok (.val (.bl false)) []){o:PO2}(ho:o.G (.bl true) (.bl true)=.val (.bl false)):(xIf (qO (qOf (pOp o (ai P (aa (af 4) (aa (af 3) ag))) (pBl true))) (qO (qOf (ai P (aa (af 5) (aa (af 3) ag)))) (qOf (ai P (aa (af 4) (aa (ah 40) ag)))))) (aA (pBl false)) xNx).G e=.nx e:=by
 simp![ms,h3,h4,h5,f1,f2,f3,ho]
def lawQ(r:SR3):Prop:=lE [false] r=.ok (.val (.bl true)) []
def GP(ns:List Int)(hl:ns.length<=63):me.G [.kl (ns.map .int)]=.ok (.val (.bl true)) []:=by
 have ln:((ns.map Val.int).length:Nat)=ns.length:=j_ ..
 obtain⟨n,hn⟩:∃n:Nat,(if (if ((ns.length:Nat):Int)<10 then ((ns.length:Nat):Int) else 10)>1 then (if ((ns.length:Nat):Int)<10 then ((ns.length:Nat):Int) else 10) else 1)=(n:Int)/\n<=10:=by
  by_cases h1:((ns.length:Nat):Int)<10
  ·rw[if_pos h1]
   by_cases h2:((ns.length:Nat):Int)>1
   ·rw[if_pos h2];exact⟨ns.length,rfl,by omega⟩
   ·rw[if_neg h2];exact⟨1,rfl,by omega⟩
  ·rw[if_neg h1,if_pos (by decide)];exact⟨10,rfl,by omega⟩
 have rg:gM [.int (n:Nat)]=some (rgV n):=ky (by omega)
 have lk:bA.G [.kl (ns.map .int)]=.val (.int (ns.length:Nat)):=by
  show Bv.val (.int ((ns.map Val.int).length:Nat))=_
  rw[ln]
 unfold me
 rw[CC rfl]
 show lawQ (pM.G [.sh (.kl (ns.map .int)),.no,.no,.no,.no,.no,.no,.no,.no,.no,.no,.no])
 unfold pM
 have hbv:Val.tup [.tup [.int 0,.int 1],.tup [.int 0,.int 1],.tup [.int 1,.int 1],.tup [.int 1,.int 1]]=bV sqB:=rfl
 obtain⟨a,e0⟩:=tK (ns:=ns) (k:=61) (by omega)
 generalize hsc:Val.kl (ns.map .int)=sc at *
 refine aJ (λe=>e=[.sh sc,.sh (bV sqB),.no,.no,.no,.no,.no,.no,.no,.no,.no,.no]) ⟨_,by simp![hbv],rfl⟩ ?_
 rintro _ rfl
 generalize hbw:bV sqB=bv at *
 refine aJ (λe=>e=[.sh sc,.sh bv,.ow (fdV a 0 61),.no,.no,.no,.no,.no,.no,.no,.no,.no]) ⟨_,by
  generalize fdV a 0 61=f0 at *
  simp![e0],rfl⟩ ?_
 rintro _ rfl
 refine aJ (λe=>e=[.sh sc,.sh bv,.ow (fdV a 0 61),.sh (.int (41:Nat)),.no,.no,.no,.no,.no,.no,.no,.no]) ⟨_,by
  generalize fdV a 0 61=f0 at *
  simp![gh],rfl⟩ ?_
 rintro _ rfl
 obtain⟨o,a3,b3,om,ol,e3⟩:=rH (a:=a) (b:=0) (k:=61) (m:=41) (by omega)
 have one:o≠[]:=λz=>by rw[z] at ol;simp at ol
 obtain⟨t,a5,b5,T,e5⟩:=nu (k:=61) o.length 42 o a3 b3 one (p_ _) (by omega) (by omega)
 have D:=nq (by omega) T om ol
 refine aJ (λe=>e=[.sh sc,.sh bv,.ow (fdV a5 b5 61),.sh (.int (41:Nat)),.sh (atV t),.no,.no,.no,.no,.no,.no,.no]) ⟨_,by
  generalize fdV a 0 61=f0 at *
  generalize fdV a3 b3 61=f1 at *
  generalize fdV a5 b5 61=f2 at *
  generalize itV o=ov at *
  generalize atV t=tv at *
  generalize (((41:Nat)):Int)=m at *
  simp![e3,e5],rfl⟩ ?_
 rintro _ rfl
 have dl:=D.len
 have hd:=AT.ok_dep t D.ok
 obtain⟨q,a6,b6,e7,q0,q1⟩:=bD (a:=a5) (b:=b5) (k:=61) (m:=40) (by omega) (sm8 (by omega))
 obtain⟨j,rfl⟩:∃n:Nat,q=n:=⟨q.toNat,by omega⟩
 have e10:=wQ (num:=40) (new:=.int (j:Nat)) t 42 (by omega) D.ok (by omega)
 have s40:((41:Nat):Int)-1=40:=by decide
 have s41:((40:Nat):Int)=40:=by decide
 rw[s41] at e10
 refine aJ (λe=>e=[.sh sc,.sh bv,.ow (fdV a6 b6 61),.sh (.int (41:Nat)),.sh (atV t),.sh (t.val (bK 40 (.int (j:Nat)))),.no,.no,.no,.no,.no,.no]) ⟨_,by
  generalize fdV a5 b5 61=f1 at *
  generalize fdV a6 b6 61=f2 at *
  generalize atV t=tv at *
  generalize t.val (bK 40 (.int (j:Nat)))=tw at *
  generalize (((41:Nat)):Int)=m at *
  simp![s40,e7,e10],rfl⟩ ?_
 rintro _ rfl
 have v2:=uh (num:=40) (x:=.int (j:Nat)) (m:=41) D
 obtain⟨w1,w2⟩:=uM (f:=bK 40 (.int (j:Nat))) (c:=1) (by decide) t (λk _=>by unfold bK;split <;> exact p_ 1) (λk _=>by unfold bK;split <;> rfl)
 have hc:=AT.cnt_lvs t D.ok
 have f2:=fP (n:=41) (v:=t.val (bK 40 (.int (j:Nat)))) w2 (by omega)
 rw[Bz D (by omega) (by omega) (by omega)] at f2
 have f3:=mC D 40
 rw[A_ (by decide)] at f3
 refine aJ (λe=>e=[.sh sc,.sh bv,.ow (fdV a6 b6 61),.sh (.int (41:Nat)),.sh (atV t),.sh (t.val (bK 40 (.int (j:Nat)))),.no,.no,.no,.no,.no,.no]) ⟨_,Bt gn rfl rfl rfl (ua D) f2 f3 rfl,rfl⟩ ?_
 rintro _ rfl
 generalize t.val (bK 40 (.int (j:Nat)))=tw at *
 obtain⟨e',p',lo⟩:=rA (g:=(gtN 6).G) (B:=jP.G) (λe=>∃s2 s3 s4 s6 s7 s8 s9 s10 s11:Sl,(s2.pl=true/\s3.pl=true/\s4.pl=true/\s6.pl=true/\s7.pl=true/\s8.pl=true/\s9.pl=true/\s10.pl=true/\s11.pl=true)/\e=[.sh sc,.sh bv,s2,s3,s4,.sh tw,s6,s7,s8,s9,s10,s11]) (rgV n) [.sh sc,.sh bv,.ow (fdV a6 b6 61),.sh (.int (41:Nat)),.sh (atV t),.sh tw,.no,.no,.no,.no,.no,.no] ⟨_,_,_,_,_,_,_,_,_,⟨rfl,rfl,rfl,rfl,rfl,rfl,rfl,rfl,rfl⟩,rfl⟩ (by
  rintro v hv _ ⟨s2,s3,s4,s6,s7,s8,s9,s10,s11,⟨h2,h3,h4,h6,h7,h8,h9,h10,h11⟩,rfl⟩
  unfold rgV at hv
  obtain⟨i,_,rfl⟩:=Oi.mp hv
  obtain⟨t2,t3,t4,t7,t8,t9,t10,t11,⟨p2,p3,p4,p7,p8,p9,p10,p11⟩,he⟩:=DU (ns:=ns) (k:=i) (s5:=.sh tw) h2 h3 h4 h7 h8 h9 h10 h11
  rw[hsc,hbw] at he
  exact⟨[.sh sc,.sh bv,s2,s3,s4,.sh tw,.sh (.int (i:Nat)),s7,s8,s9,s10,s11],_,by simp![h6],.inl he,t2,t3,t4,.sh (.int (i:Nat)),t7,t8,t9,t10,t11,⟨p2,p3,p4,rfl,p7,p8,p9,p10,p11⟩,rfl⟩)
 refine aJ (λe=>∃e1,e=.sh sc::e1) ⟨e',by
  clear p'
  generalize fdV a6 b6 61=f2 at *
  generalize atV t=tv at *
  generalize (((41:Nat)):Int)=m at *
  simp![lk,hn.1,rg,lo],by obtain⟨_,_,_,_,_,_,_,_,_,_,rfl⟩:=p';exact⟨_,rfl⟩⟩ ?_
 rintro _ ⟨e1,rfl⟩
 unfold lawQ
 simp![lX]
end KK
namespace PySem.W.Fast
noncomputable def tw10023148767334768235:=trivial
noncomputable def tw10060313693035243521:=trivial
noncomputable def tw10103113975464734020:=trivial
noncomputable def tw10115436989732043000:=trivial
noncomputable def tw10126363418462782400:=trivial
noncomputable def tw10155096741913146076:=trivial
noncomputable def tw10288009570965827720:=trivial
noncomputable def tw10343101512567408603:=trivial
noncomputable def tw10422674937422653434:=trivial
noncomputable def tw10422968735270650974:=trivial
noncomputable def tw10449568108024888640:=trivial
noncomputable def tw10600995455560734438:=trivial
noncomputable def tw10612276431243594010:=trivial
noncomputable def tw10694544087733619671:=trivial
noncomputable def tw10756816545942475697:=trivial
noncomputable def tw10824005360022888267:=trivial
noncomputable def tw10831534343556293203:=trivial
noncomputable def tw10959634576007763146:=trivial
noncomputable def tw10968111981345615970:=trivial
noncomputable def tw1105227230910745576:=trivial
noncomputable def tw11089411238783224822:=trivial
noncomputable def tw11101226395254689792:=trivial
noncomputable def tw11135655409952641874:=trivial
noncomputable def tw11272246264748227643:=trivial
noncomputable def tw11401606943102052504:=trivial
noncomputable def tw11406321888998898224:=trivial
noncomputable def tw11419512206529168388:=trivial
noncomputable def tw11437227921011350103:=trivial
noncomputable def tw11447875997930869575:=trivial
noncomputable def tw11517145947822862585:=trivial
noncomputable def tw11548110415010152366:=trivial
noncomputable def tw11557731436667063384:=trivial
noncomputable def tw11564525431833995294:=trivial
noncomputable def tw11590523017847526245:=trivial
noncomputable def tw11623343783711075104:=trivial
noncomputable def tw11643036900719501945:=trivial
noncomputable def tw11850324029658920752:=trivial
noncomputable def tw11855366940050691897:=trivial
noncomputable def tw11895776936391260285:=trivial
noncomputable def tw11939429222067240894:=trivial
noncomputable def tw11961571699812175761:=trivial
noncomputable def tw11971797502677251416:=trivial
noncomputable def tw12015309795697439643:=trivial
noncomputable def tw12041164793160880389:=trivial
noncomputable def tw12109241994391190948:=trivial
noncomputable def tw12182799465559770940:=trivial
noncomputable def tw12198419377555446469:=trivial
noncomputable def tw1221045964553707347:=trivial
noncomputable def tw12311930755573225850:=trivial
noncomputable def tw12375247446951912281:=trivial
noncomputable def tw12540748411730785007:=trivial
noncomputable def tw12597518428221081102:=trivial
noncomputable def tw12629515436129127193:=trivial
noncomputable def tw12636283427667903810:=trivial
noncomputable def tw1263842135702696173:=trivial
noncomputable def tw12683600227259301109:=trivial
noncomputable def tw12786691019985057695:=trivial
noncomputable def tw12819859988747107098:=trivial
noncomputable def tw1288483165944188060:=trivial
noncomputable def tw12924418948290390730:=trivial
noncomputable def tw13000120211757278898:=trivial
noncomputable def tw13014402298989520885:=trivial
noncomputable def tw13031605014154622715:=trivial
noncomputable def tw13037864055674297685:=trivial
noncomputable def tw13047616619613001989:=trivial
noncomputable def tw13050640322822643814:=trivial
noncomputable def tw13065534998999579343:=trivial
noncomputable def tw13150360160980190334:=trivial
noncomputable def tw13328483374399920606:=trivial
noncomputable def tw13401458396112752735:=trivial
noncomputable def tw13521260087354364980:=trivial
noncomputable def tw13531137887874576794:=trivial
noncomputable def tw13607814803323153804:=trivial
noncomputable def tw13711707699118940220:=trivial
noncomputable def tw13734625874134711034:=trivial
noncomputable def tw13754241934194901998:=trivial
noncomputable def tw13769322704685951835:=trivial
noncomputable def tw13867197904886386630:=trivial
noncomputable def tw1388566563730889882:=trivial
noncomputable def tw13894486702026105264:=trivial
noncomputable def tw13918249337519359752:=trivial
noncomputable def tw13954251225458812537:=trivial
noncomputable def tw13973370065101667311:=trivial
noncomputable def tw13981543403652638705:=trivial
noncomputable def tw13987345846965221021:=trivial
noncomputable def tw14037998343396665816:=trivial
noncomputable def tw14232677898390322451:=trivial
noncomputable def tw14261467363009696232:=trivial
noncomputable def tw14322359308897221852:=trivial
noncomputable def tw14403349332242616455:=trivial
noncomputable def tw14453189394637019952:=trivial
noncomputable def tw14480503119089979321:=trivial
noncomputable def tw14705373034002921458:=trivial
noncomputable def tw14901778275123330079:=trivial
noncomputable def tw14930794254595269879:=trivial
noncomputable def tw14937955775817094117:=trivial
noncomputable def tw149501677266616409:=trivial
noncomputable def tw1495629212570636537:=trivial
noncomputable def tw1501687240510965137:=trivial
noncomputable def tw15017421372743538700:=trivial
noncomputable def tw1503936191888587185:=trivial
noncomputable def tw15056203224466507845:=trivial
noncomputable def tw15072771062219999711:=trivial
noncomputable def tw15077507507134696498:=trivial
noncomputable def tw1510997729430807819:=trivial
noncomputable def tw15188073407128996962:=trivial
noncomputable def tw15208861339438384140:=trivial
noncomputable def tw15285495616173467137:=trivial
noncomputable def tw15303689188119482182:=trivial
noncomputable def tw1531126950691009899:=trivial
noncomputable def tw15348521024835541855:=trivial
noncomputable def tw15397642682071451181:=trivial
noncomputable def tw15525377704083085810:=trivial
noncomputable def tw15538210560031998162:=trivial
noncomputable def tw15572725423705157253:=trivial
noncomputable def tw15592691601551635778:=trivial
noncomputable def tw15600234098393888294:=trivial
noncomputable def tw15656743047986952371:=trivial
noncomputable def tw15681858907366741238:=trivial
noncomputable def tw15697120812948673248:=trivial
noncomputable def tw15718328734223697247:=trivial
noncomputable def tw15721640355550170518:=trivial
noncomputable def tw15963465368783723796:=trivial
noncomputable def tw16129594397454278425:=trivial
noncomputable def tw16146442900241767290:=trivial
noncomputable def tw16233863917123525529:=trivial
noncomputable def tw1625025298495418357:=trivial
noncomputable def tw16263688116597061192:=trivial
noncomputable def tw16315122591470030594:=trivial
noncomputable def tw16383260697524120791:=trivial
noncomputable def tw16451415528689741419:=trivial
noncomputable def tw16528728060536432632:=trivial
noncomputable def tw16550636382788808172:=trivial
noncomputable def tw16607828178245308305:=trivial
noncomputable def tw16620705772525842055:=trivial
noncomputable def tw16671660789405657694:=trivial
noncomputable def tw16680617684877844436:=trivial
noncomputable def tw16700426626494125421:=trivial
noncomputable def tw16768835373799572409:=trivial
noncomputable def tw16774753690468233860:=trivial
noncomputable def tw16796835825626580041:=trivial
noncomputable def tw16822561385215801658:=trivial
noncomputable def tw16826810487035939830:=trivial
noncomputable def tw1684016109365934285:=trivial
noncomputable def tw16860000168878713011:=trivial
noncomputable def tw16981895601566505023:=trivial
noncomputable def tw16987160989761677620:=trivial
noncomputable def tw17043761759609478173:=trivial
noncomputable def tw17111921394186439111:=trivial
noncomputable def tw17151492716448482434:=trivial
noncomputable def tw17257121324146835332:=trivial
noncomputable def tw1736110599231859145:=trivial
noncomputable def tw17416730401078630883:=trivial
noncomputable def tw17478933714279894888:=trivial
noncomputable def tw17550429228314625692:=trivial
noncomputable def tw17626409009174186461:=trivial
noncomputable def tw17631904687858937663:=trivial
noncomputable def tw17636263674484150531:=trivial
noncomputable def tw17707044722905810693:=trivial
noncomputable def tw17812531194313667814:=trivial
noncomputable def tw17868078653529111227:=trivial
noncomputable def tw17871540959996313081:=trivial
noncomputable def tw17975845406537580260:=trivial
noncomputable def tw17983170411973666977:=trivial
noncomputable def tw18055413830372137876:=trivial
noncomputable def tw18185441178639201193:=trivial
noncomputable def tw18201685560637274922:=trivial
noncomputable def tw1821141367828658143:=trivial
noncomputable def tw18227494179311485769:=trivial
noncomputable def tw18285778842768735550:=trivial
noncomputable def tw18296474436949669898:=trivial
noncomputable def tw1998538358935164433:=trivial
noncomputable def tw2010534540942234004:=trivial
noncomputable def tw2035558701589643711:=trivial
noncomputable def tw211637912675838292:=trivial
noncomputable def tw2117862948336054714:=trivial
noncomputable def tw216556430020306199:=trivial
noncomputable def tw2227304423070896208:=trivial
noncomputable def tw2324736643710587525:=trivial
noncomputable def tw2372456109671354400:=trivial
noncomputable def tw2451605520703289323:=trivial
noncomputable def tw2494551937422585144:=trivial
noncomputable def tw2542439744642379416:=trivial
noncomputable def tw2594623022826528848:=trivial
noncomputable def tw2595313719946286023:=trivial
noncomputable def tw2625818069907179418:=trivial
noncomputable def tw2718591405552584579:=trivial
noncomputable def tw2810789088635705488:=trivial
noncomputable def tw2840372753934934881:=trivial
noncomputable def tw2933348545943747744:=trivial
noncomputable def tw2944905310969235290:=trivial
noncomputable def tw2969714760515961657:=trivial
noncomputable def tw3067224371461013210:=trivial
noncomputable def tw3071105517655973808:=trivial
noncomputable def tw3131693501198279326:=trivial
noncomputable def tw3146313929850441210:=trivial
noncomputable def tw3177298863695704743:=trivial
noncomputable def tw3227243317922116831:=trivial
noncomputable def tw3228365244888953808:=trivial
noncomputable def tw3401302488101722956:=trivial
noncomputable def tw3491711753400861858:=trivial
noncomputable def tw3512683839638998269:=trivial
noncomputable def tw3624316025398476893:=trivial
noncomputable def tw3637748132770021800:=trivial
noncomputable def tw3640406180443460964:=trivial
noncomputable def tw3644571587345930446:=trivial
noncomputable def tw367768940953641393:=trivial
noncomputable def tw3697463563985573723:=trivial
noncomputable def tw3699917457020307502:=trivial
noncomputable def tw3703998898501191761:=trivial
noncomputable def tw3711697652644980228:=trivial
noncomputable def tw3716047278585070213:=trivial
noncomputable def tw3825193440775126151:=trivial
noncomputable def tw3879220387520943204:=trivial
noncomputable def tw3923665262933428623:=trivial
noncomputable def tw3963857589635565265:=trivial
noncomputable def tw3964332090677081817:=trivial
noncomputable def tw4003252629875480179:=trivial
noncomputable def tw4044650003237081450:=trivial
noncomputable def tw4047307906098425832:=trivial
noncomputable def tw4049213505206705262:=trivial
noncomputable def tw4078887506002656697:=trivial
noncomputable def tw4102700785547500687:=trivial
noncomputable def tw4120263965843013023:=trivial
noncomputable def tw4148336140913899486:=trivial
noncomputable def tw4194551829225585311:=trivial
noncomputable def tw4254409015939809168:=trivial
noncomputable def tw4316281177653976949:=trivial
noncomputable def tw4338503060044583297:=trivial
noncomputable def tw4398765877240647589:=trivial
noncomputable def tw4478968917032797607:=trivial
noncomputable def tw4608112929929732548:=trivial
noncomputable def tw462997227976194676:=trivial
noncomputable def tw4649177736876654560:=trivial
noncomputable def tw4672603864164346123:=trivial
noncomputable def tw4738323222727276063:=trivial
noncomputable def tw4755028185801797671:=trivial
noncomputable def tw47758356085959839:=trivial
noncomputable def tw4845588115615460895:=trivial
noncomputable def tw4980671637140365000:=trivial
noncomputable def tw50842939831453882:=trivial
noncomputable def tw5087263062636062915:=trivial
noncomputable def tw5092797673390042265:=trivial
noncomputable def tw5113100902186478060:=trivial
noncomputable def tw51244073121152665:=trivial
noncomputable def tw515200125718635716:=trivial
noncomputable def tw5262312601919006289:=trivial
noncomputable def tw5387388427033000241:=trivial
noncomputable def tw5395940571197297116:=trivial
noncomputable def tw5413219332336241331:=trivial
noncomputable def tw5452595156350138823:=trivial
noncomputable def tw5464712975415267037:=trivial
noncomputable def tw5477838382727462975:=trivial
noncomputable def tw5482839737479698982:=trivial
noncomputable def tw5488596115137144953:=trivial
noncomputable def tw5502994862645977492:=trivial
noncomputable def tw5503985171085606089:=trivial
noncomputable def tw5543472998458016518:=trivial
noncomputable def tw5581133161435356329:=trivial
noncomputable def tw5619551900016114127:=trivial
noncomputable def tw5642166770930619420:=trivial
noncomputable def tw5794544702531198388:=trivial
noncomputable def tw5798420824333240505:=trivial
noncomputable def tw5805001077865195364:=trivial
noncomputable def tw582457596167626351:=trivial
noncomputable def tw5849599598297502377:=trivial
noncomputable def tw588949639719369275:=trivial
noncomputable def tw5906441119979544194:=trivial
noncomputable def tw6024411847526199489:=trivial
noncomputable def tw6117371233638972067:=trivial
noncomputable def tw6117887435756925920:=trivial
noncomputable def tw6155596780761347265:=trivial
noncomputable def tw6335455465854064975:=trivial
noncomputable def tw6480658406721800226:=trivial
noncomputable def tw652255638743754348:=trivial
noncomputable def tw655673258977079351:=trivial
noncomputable def tw6706767588743458401:=trivial
noncomputable def tw6712274603599295535:=trivial
noncomputable def tw6721135424005520264:=trivial
noncomputable def tw6723225666186622831:=trivial
noncomputable def tw6730157532059425208:=trivial
noncomputable def tw6873868818980585106:=trivial
noncomputable def tw6946849961819894992:=trivial
noncomputable def tw7105137766977637607:=trivial
noncomputable def tw7116246127622841605:=trivial
noncomputable def tw7264930200067699523:=trivial
noncomputable def tw7392653416509466021:=trivial
noncomputable def tw7450881337243765654:=trivial
noncomputable def tw7454206840228026857:=trivial
noncomputable def tw7527869115637158525:=trivial
noncomputable def tw7531240755005420874:=trivial
noncomputable def tw7625567244450413136:=trivial
noncomputable def tw7702807725475553620:=trivial
noncomputable def tw7795103772812712272:=trivial
noncomputable def tw7795264746972659067:=trivial
noncomputable def tw7817402022547070603:=trivial
noncomputable def tw7835564517358838796:=trivial
noncomputable def tw7904728383756021392:=trivial
noncomputable def tw796440296074165930:=trivial
noncomputable def tw7983348047772200543:=trivial
noncomputable def tw8019669980093304196:=trivial
noncomputable def tw8060261234858074294:=trivial
noncomputable def tw807293177850051408:=trivial
noncomputable def tw8113966781479248635:=trivial
noncomputable def tw818122549227478499:=trivial
noncomputable def tw8182189734276610667:=trivial
noncomputable def tw8231405571136749263:=trivial
noncomputable def tw8349738347995997351:=trivial
noncomputable def tw8435806306274465600:=trivial
noncomputable def tw8496508779464385055:=trivial
noncomputable def tw8546095183050434420:=trivial
noncomputable def tw8575844615469423080:=trivial
noncomputable def tw8619096611900450536:=trivial
noncomputable def tw8627070039927010176:=trivial
noncomputable def tw8640329180212918902:=trivial
noncomputable def tw8667214326009999287:=trivial
noncomputable def tw8671425524196458881:=trivial
noncomputable def tw8845006355932599301:=trivial
noncomputable def tw8921207501264168561:=trivial
noncomputable def tw8952826293784056603:=trivial
noncomputable def tw9015555803599015978:=trivial
noncomputable def tw9034526501355218775:=trivial
noncomputable def tw9044594111792808681:=trivial
noncomputable def tw9089573391337066430:=trivial
noncomputable def tw9183991600014100787:=trivial
noncomputable def tw9214074994719716722:=trivial
noncomputable def tw921513796395917029:=trivial
noncomputable def tw9221297130502263111:=trivial
noncomputable def tw9243111053844140031:=trivial
noncomputable def tw9247405864490479654:=trivial
noncomputable def tw9296014393338942532:=trivial
noncomputable def tw9335490728674868140:=trivial
noncomputable def tw9432286500561026289:=trivial
noncomputable def tw9499615751003799721:=trivial
noncomputable def tw9503811166454569893:=trivial
noncomputable def tw958915347714235616:=trivial
noncomputable def tw9605596847600358936:=trivial
noncomputable def tw9687162996948899298:=trivial
noncomputable def tw9707329115591651364:=trivial
noncomputable def tw9741210560090106222:=trivial
noncomputable def tw9865084452643709413:=trivial
noncomputable def tw9871623657115627246:=trivial
end PySem.W.Fast
open PySem PySem.W PyProof.Rows L2 L3 KK
set_option maxRecDepth 100000 in
set_option maxHeartbeats 0 in
theorem PySem.Challenge.cw_weightrooms_k11_what_is_a_tree_holds : PySem.Challenge.rw_weightrooms_k11_what_is_a_tree.Holds := by
 w_on;o_law;k_head;(case hw=>w_witness2)
 k_fill
 refine L2.walk_lawD (l:=PySem.Challenge.rw_weightrooms_k11_what_is_a_tree) (x:="_law_script") (k:=53) rfl rfl ⟨rfl,by decide,by decide⟩ (λw h Y=>W.kIn_of Y) ?F ?D
 case F=>
  intro w mg h KX G base kb nb
  refine AX (Fz ⟨NN KX G (by kernel_rfl),?_⟩) (law3 me rfl GP)
  repeat first
   |exact trivial
   |refine⟨by refine' yn KX G ?a ?l ?c ?k;(case a=>k_is);(case l=>k_is);(case c=>k_is);(case k=>k_is),?_⟩
 case D=>
  intro w mg h KX G
  refine⟨top 49,?_,(λ_ _ _ _ _ _=>ar1 λ_=>rfl)⟩
  refine' yn KX G ?a ?l ?c ?k;case a|l|c|k=>k_is
